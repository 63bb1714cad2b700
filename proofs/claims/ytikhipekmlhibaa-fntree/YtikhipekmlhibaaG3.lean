/- New slots and lists that hold the same: what spec.l01Slot, slices.Clone (of pointers) and impl.cloneSlot leave. -/
import Derived.Test.YtikhipekmlhibaaG2
import Derived.Laws.OwnMore
import Derived.Lib.SliceRun
namespace Go.Proofs.Ytikhipekmlhibaa
open Go.RowKit
set_option linter.unusedVariables false

/-- The answer is a slot that holds what s tells, its Kids in new memory. -/
def NewSlot (s : SlotD) (w : World) (e : Ending) (w' : World) : Prop :=
  ∃ kv kb, e = .returned (.agg #[.int .i64 s.birth, kv, .string s.data]) ∧ PtrsOwn w' kb kv s.kn s.ks s.kb ∧ (0 < s.kn → w.heap.size ≤ kb ∧ kb < w'.heap.size) ∧ Below w.heap.size w w'

/-- The cells of n pointers. -/
def kc (f g : Nat → Int) : Nat → List Value
  | 0 => []
  | k + 1 => kc f g k ++ [.int .i64 (f k), .int .i64 (g k)]

theorem kc_len (f g : Nat → Int) (k : Nat) : (kc f g k).length = k * 2 := by
  induction k with
  | zero => rfl
  | succ k ih => simp [kc, ih]; omega

theorem kc_at (f g : Nat → Int) (k i r : Nat) (hi : i < k) (hr : r < 2) : (kc f g k)[i * 2 + r]? = [Value.int .i64 (f i), .int .i64 (g i)][r]? := by
  induction k with
  | zero => omega
  | succ k ih =>
    unfold kc
    by_cases e : i < k
    · rw [List.getElem?_append_left (by rw [kc_len]; omega)]; exact ih e
    · obtain rfl : i = k := by omega
      rw [List.getElem?_append_right (by rw [kc_len]; omega), kc_len]
      congr 1; omega

theorem kc_one (f g : Nat → Int) (k : Nat) : ∀ u ∈ kc f g k, u.oneCell' = true := by
  induction k with
  | zero => intro u hu; simp [kc] at hu
  | succ k ih =>
    intro u hu
    simp only [kc, List.mem_append, List.mem_cons, List.not_mem_nil, or_false] at hu
    rcases hu with hu | rfl | rfl
    · exact ih u hu
    · rfl
    · rfl

theorem kc_cells {w : World} {b off : Nat} {f g : Nat → Int} {n : Nat} (h : ∀ i, i < n → w.cell? ⟨b, off + i * 2, none⟩ = some (.int .i64 (f i)) ∧ w.cell? ⟨b, off + i * 2 + 1, none⟩ = some (.int .i64 (g i))) :
    ∀ j u, (kc f g n)[j]? = some u → w.cell? ((⟨b, off, none⟩ : Addr).add j) = some u := by
  intro j u hj
  have hlt : j < n * 2 := by
    have := (List.getElem?_eq_some_iff.1 hj).1
    rwa [kc_len] at this
  have hadd : (⟨b, off, none⟩ : Addr).add j = ⟨b, off + j, none⟩ := by unfold Addr.add; split <;> simp_all
  rw [hadd]
  obtain ⟨c0, c1⟩ := h (j / 2) (by omega)
  have e := kc_at f g n (j / 2) (j % 2) (by omega) (by omega)
  rw [show j / 2 * 2 + j % 2 = j by omega, hj] at e
  rcases (by omega : j % 2 = 0 ∨ j % 2 = 1) with hm | hm
  · rw [hm] at e
    simp at e
    subst e
    rw [show off + j = off + j / 2 * 2 by omega]
    exact c0
  · rw [hm] at e
    simp at e
    subst e
    rw [show off + j = off + j / 2 * 2 + 1 by omega]
    exact c1

theorem ptrs_of_owns {w : World} {base e n : Nat} {v : Value} {f g : Nat → Int} (hm : n ≤ maxLen) (h : w.ownsRow base e 2 v n (kc f g n)) : ∃ kb, PtrsOwn w kb v n f g ∧ (0 < n → base ≤ kb ∧ kb < w.heap.size) := by
  by_cases h0 : 0 < n
  · obtain ⟨gb, cap, rfl, hcp, hb, hlt, hcell⟩ := owns_cell h h0
    refine ⟨gb, ⟨hm, _, cap, rfl, hcp, fun _ => ⟨0, rfl, fun i hi => ⟨?_, ?_⟩⟩⟩, fun _ => ⟨hb, hlt⟩⟩
    · have := hcell (i * 2 + 0) _ (kc_at f g n i 0 hi (by omega))
      simpa using this
    · have := hcell (i * 2 + 1) _ (kc_at f g n i 1 hi (by omega))
      simpa using this
  · obtain ⟨a, cap, rfl, hcp⟩ := owns_form h
    exact ⟨0, ⟨hm, a, cap, rfl, hcp, fun h => absurd h h0⟩, fun h => absurd h h0⟩

theorem run_append_nil {P : Program} {w : World} (base : Nat) (t ty e : TypeId) (i : TypeInfo) (size c : Nat) (ht : P.underlying t = some (.slice e)) (hi : P.info? e = some i)
    (v : Value) (n : Nat) (xs : List Value) (hown : w.ownsRow base e size v n xs) :
    (Builtin.append_ #[t, t] ty #[v, .slice none 0 c]).run P w = .ok v w := by
  rcases hown.2 with ⟨rfl, rfl⟩ | ⟨g, cap, cur, rfl, _, _, hnc, _⟩
  · simp [Builtin.append_, run_underlying ht, sizeOf, typeInfo, hi, Builtin.lenOf, Builtin.firstCells]
  · simp [Builtin.append_, run_underlying ht, sizeOf, typeInfo, hi, Builtin.lenOf, Builtin.firstCells, hnc, storeCells]

theorem wpList_append_nil {P : Program} {w : World} {ops : Array Oper} {rest : List Oper} {o : Oper} {a : Act} {Q : Exit → Act → World → Prop} (hgd : o.guard = none) (s x : Operand) (t : TypeId)
    (ho : o.op = .call { callee := .builtin .append, args := #[s, x], argTypes := #[t, t] })
    (base : Nat) (e : TypeId) (i : TypeInfo) (size c m : Nat) (ht : P.underlying t = some (.slice e)) (hi : P.info? e = some i)
    (v : Value) (n : Nat) (xs : List Value) (hs : a.eval s = v) (hown : w.ownsRow base e size v n xs) (hm : m = 0) (hx : a.eval x = .slice none m c)
    (h : wpList P ops Q rest (a.put o.dst v) w) : wpList P ops Q (o :: rest) a w := by
  subst hm
  refine wpList_plain hgd fun K hK => ?_
  have hrun := run_append_nil (P := P) (w := w) base t o.type e i size c ht hi v n xs hown
  unfold Oper.wp
  simp [execOp, ho, resolve, invoke, builtin, hs, hx, hrun, Result.andThen]
  exact hK _ _ h

/-- Nothing is appended. -/
theorem run_append_zero {P : Program} {w : World} (base : Nat) (t ty e : TypeId) (i : TypeInfo) (size c : Nat) (ao : Option Addr) (ht : P.underlying t = some (.slice e)) (hi : P.info? e = some i)
    (v : Value) (n : Nat) (xs : List Value) (hown : w.ownsRow base e size v n xs) :
    (Builtin.append_ #[t, t] ty #[v, .slice ao 0 c]).run P w = .ok v w := by
  rcases hown.2 with ⟨rfl, rfl⟩ | ⟨g, cap, cur, rfl, _, _, hnc, _⟩
  · cases ao <;> simp [Builtin.append_, run_underlying ht, sizeOf, typeInfo, hi, Builtin.lenOf, Builtin.firstCells, loadCells, loadCellsFrom]
  · cases ao <;> simp [Builtin.append_, run_underlying ht, sizeOf, typeInfo, hi, Builtin.lenOf, Builtin.firstCells, hnc, storeCells, loadCells, loadCellsFrom]

theorem wpList_append_zero {P : Program} {w : World} {ops : Array Oper} {rest : List Oper} {o : Oper} {a : Act} {Q : Exit → Act → World → Prop} (hgd : o.guard = none) (s x : Operand) (t : TypeId)
    (ho : o.op = .call { callee := .builtin .append, args := #[s, x], argTypes := #[t, t] })
    (base : Nat) (e : TypeId) (i : TypeInfo) (size c m : Nat) (ao : Option Addr) (ht : P.underlying t = some (.slice e)) (hi : P.info? e = some i)
    (v : Value) (n : Nat) (xs : List Value) (hs : a.eval s = v) (hown : w.ownsRow base e size v n xs) (hm : m = 0) (hx : a.eval x = .slice ao m c)
    (h : wpList P ops Q rest (a.put o.dst v) w) : wpList P ops Q (o :: rest) a w := by
  subst hm
  refine wpList_plain hgd fun K hK => ?_
  have hrun := run_append_zero (P := P) (w := w) base t o.type e i size c ao ht hi v n xs hown
  unfold Oper.wp
  simp [execOp, ho, resolve, invoke, builtin, hs, hx, hrun, Result.andThen]
  exact hK _ _ h

theorem infoPtrT : (Try.prog.info? 33).map (fun i => (i.zero, i.size, i.bytes)) = some (some (.agg #[.int .i64 0, .int .i64 0]), 2, 16) := by kernel_rfl

set_option maxRecDepth 20000 in
set_option maxHeartbeats 400000 in
theorem clonePtrs_any (v : Value) (n lo hi : Nat) (f g : Nat → Int) (w : World) (h1 : PtrsAt w lo hi v n f g) (hn : n ≤ 1048576) :
    Calls Try.prog 102 #[v] w fun e w' => (∃ v' kb, e = .returned v' ∧ PtrsOwn w' kb v' n f g ∧ (0 < n → w.heap.size ≤ kb ∧ kb < w'.heap.size)) ∧ Below w.heap.size w w' := by
  obtain ⟨m1, a, c, rfl, mc, g1⟩ := h1
  have G1 : Hid (0 < n → ∃ b off, a = some ⟨b, off, none⟩ ∧ lo ≤ b ∧ b < hi ∧ ∀ i, i < n → w.cell? ⟨b, off + i * 2, none⟩ = some (.int .i64 (f i)) ∧ w.cell? ⟨b, off + i * 2 + 1, none⟩ = some (.int .i64 (g i))) := g1
  have Hm : Hid (n ≤ maxLen) := m1
  clear g1 m1
  have heq := fun w => Lib.run_eql_slice_nil (P := Try.prog) w 27 33 a n c 0 0 (by kernel_rfl)
  cases a with
  | none =>
    have hn0 : n = 0 := by
      by_cases h : 0 < n
      · obtain ⟨b, off, ha, _⟩ := G1.out h; simp at ha
      · omega
    subst hn0
    go_enter Try.func102, Try.ntmps102
    go_wp2
    go_ret
    exact ⟨⟨_, 0, rfl, ⟨Nat.zero_le _, none, 0, rfl, Nat.le_refl _, fun h => absurd h (Nat.lt_irrefl _)⟩, fun h => absurd h (Nat.lt_irrefl _)⟩, Below.refl _ _⟩
  | some ad =>
    obtain ⟨i0, hi, hzz⟩ := Option.map_eq_some_iff.1 infoPtrT
    simp only [Prod.mk.injEq] at hzz
    obtain ⟨hz, hs, hby⟩ := hzz
    have hsrc : ∀ (w' : World), Below w.heap.size w w' → ∀ j u, (kc f g n)[j]? = some u → w'.cell? (ad.add j) = some u := fun w' hb j u hj => by
      by_cases h0 : 0 < n
      · obtain ⟨b, off, ha, _, _, hc⟩ := G1.out h0
        simp only [Option.some.injEq] at ha
        subst ha
        have := kc_cells hc j u hj
        have hadd : (⟨b, off, none⟩ : Addr).add j = ⟨b, off + j, none⟩ := by unfold Addr.add; split <;> simp_all
        rw [hadd] at this ⊢
        exact (hb.cell (lt_of_cell this)).trans this
      · obtain rfl : n = 0 := by omega
        simp [kc] at hj
    have Hsrc : Hid (∀ (w' : World), Below w.heap.size w w' → ∀ j u, (kc f g n)[j]? = some u → w'.cell? (ad.add j) = some u) := hsrc
    have HI : Hid (Try.prog.info? 33 = some i0 ∧ i0.zero = some (.agg #[.int .i64 0, .int .i64 0]) ∧ i0.size = 2 ∧ i0.bytes = 16) := ⟨hi, hz, hs, hby⟩
    have hown0 : (w.alloc (.cells #[] 33)).ownsRow w.heap.size 33 2 (.slice (some ⟨w.heap.size, 0, none⟩) 0 0) 0 [] := World.ownsRow_made w #[] 0 (Nat.le_refl _) (Nat.zero_le _) (by simp)
    have Hown0 : Hid ((w.alloc (.cells #[] 33)).ownsRow w.heap.size 33 2 (.slice (some ⟨w.heap.size, 0, none⟩) 0 0) 0 []) := hown0
    clear hi hz hs hby hsrc hown0
    go_enter Try.func102, Try.ntmps102
    go_wp2_with (first
      | (at_builtin; refine wpList_append_own _ rfl _ _ 27 rfl w.heap.size 33 i0 (.agg #[.int .i64 0, .int .i64 0]) 2 16 (by kernel_rfl) HI.out.1 HI.out.2.1 HI.out.2.2.1 HI.out.2.2.2 rfl (by decide) _ _ _ rfl Hown0.out ad n c (kc f g n) rfl (kc_len f g n) ?c1 (kc_one f g n) ?c3 ?c4 ?c5 ?_))
    case c1 => exact Hsrc.out _ ((Below.refl _ _).alloc (Nat.le_refl _) _)
    case c3 => unfold maxLen; omega
    case c4 => omega
    case c5 => simp
    intro v' w1 hown' hgrow hnil
    have hb1 : Below w.heap.size w w1 := ((Below.refl _ _).alloc (Nat.le_refl _) _).grown hgrow (by simp) (fun q hq => by have := Hown0.out.lt q hq; omega)
    have hown2 : w1.ownsRow w.heap.size 33 2 v' n (kc f g n) := by simpa using hown'
    obtain ⟨kb, hp, hk⟩ := ptrs_of_owns Hm.out hown2
    have Hp : Hid (PtrsOwn w1 kb v' n f g ∧ (0 < n → w.heap.size ≤ kb ∧ kb < w1.heap.size)) := ⟨hp, hk⟩
    clear hp hk hown' hown2 hgrow hnil
    go_wp2
    go_ret
    exact ⟨⟨v', kb, rfl, Hp.out.1, Hp.out.2⟩, hb1⟩

set_option maxRecDepth 20000 in
set_option maxHeartbeats 400000 in
theorem cloneSlot_any (v0 v1 v2 : Value) (lo hi : Nat) (s : SlotD) (w : World) (h1 : SlotAt w lo hi v0 v1 v2 s) (hn : s.kn ≤ 1048576) :
    Calls Try.prog 54 #[.agg #[v0, v1, v2]] w (NewSlot s w) := by
  obtain ⟨rfl, p1, rfl, m1⟩ := h1
  have q1 := p1
  obtain ⟨_, a, c, rfl, _⟩ := p1
  go_enter Try.func54, Try.ntmps54
  go_wp2_with fail
  have ha1 := below_alloc w (.cells #[.int .i64 s.birth, .slice a s.kn c, .string s.data] 29)
  have ha2 := below_next ha1 (below_alloc _ (.cells #[.int .i64 0, .slice none 0 0, .string ⟨#[]⟩] 29))
  refine (clonePtrs_any _ s.kn lo hi _ _ _ (q1.below ha2) hn).mono ?_
  rintro e w1 ⟨⟨kv, kb, rfl, hp, hk⟩, hb1⟩
  have HB : Hid (Box3 w1 w.heap.size (.int .i64 s.birth) (.slice a s.kn c) (.string s.data)) := ((Box3.new w _ _ _ _).below (below_alloc _ _)).below hb1
  have HR : Hid (Box3 w1 (w.heap.size + 1) (.int .i64 0) (.slice none 0 0) (.string ⟨#[]⟩)) := by
    have := ((Box3.new (w.alloc (.cells #[.int .i64 s.birth, .slice a s.kn c, .string s.data] 29)) (.int .i64 0) (.slice none 0 0) (.string ⟨#[]⟩) 29).below hb1)
    rw [World.size_alloc] at this
    exact this
  have hb2 := below_next ha2 hb1
  rw [World.size_alloc, World.size_alloc] at hk
  have Hp : Hid (PtrsOwn w1 kb kv s.kn s.ks s.kb ∧ (0 < s.kn → w.heap.size + 1 + 1 ≤ kb ∧ kb < w1.heap.size)) := ⟨hp, hk⟩
  obtain ⟨_, ka, kc', rfl, _⟩ := hp
  clear ha1 ha2 hb1 hk
  obtain ⟨⟨x0, x1⟩, ⟨x2, x3⟩, ⟨x4, x5⟩⟩ := HB.out
  obtain ⟨⟨y0, y1⟩, ⟨y2, y3⟩, ⟨y4, y5⟩⟩ := HR.out
  go_wp2
  have HR2 := (HR.out.other (b' := w.heap.size) (o' := 1) (.slice ka s.kn kc') (by omega)).put (.int .i64 s.birth) (.slice ka s.kn kc') (.string s.data)
  refine bodyPost_ret (v := .agg #[.int .i64 s.birth, .slice ka s.kn kc', .string s.data]) (by simp [results, Try.results54, go_sem, HR2.1.1, HR2.2.1.1, HR2.2.2.1]) rfl ⟨_, kb, rfl, ?_, ?_, ?_⟩
  · have hk := Hp.out.2
    refine (((Hp.out.1.turned (Turned.put _ _ _ _) ?_).turned (Turned.put _ _ _ _) ?_).turned (Turned.put _ _ _ _) ?_).turned (Turned.put _ _ _ _) ?_
    all_goals exact fun h0 e => by have := hk h0; omega
  · intro h0
    have := Hp.out.2 h0
    simp only [World.size_setCell]
    omega
  · exact (((hb2.setCell (by show _ ≤ w.heap.size; omega) _).setCell (by show _ ≤ w.heap.size + 1; omega) _).setCell (by show _ ≤ w.heap.size + 1; omega) _).setCell (by show _ ≤ w.heap.size + 1; omega) _

set_option maxRecDepth 20000 in
set_option maxHeartbeats 400000 in
theorem l01Slot_any (v0 v1 v2 : Value) (lo hi : Nat) (s : SlotD) (w : World) (h1 : SlotAt w lo hi v0 v1 v2 s) (hn : s.kn ≤ 1048576) :
    Calls Try.prog 50 #[.agg #[v0, v1, v2]] w (NewSlot s w) := by
  obtain ⟨rfl, ⟨m1, a, c, rfl, mc, g1⟩, rfl, m2⟩ := h1
  have G1 : Hid (0 < s.kn → ∃ b off, a = some ⟨b, off, none⟩ ∧ lo ≤ b ∧ b < hi ∧ ∀ i, i < s.kn → w.cell? ⟨b, off + i * 2, none⟩ = some (.int .i64 (s.ks i)) ∧ w.cell? ⟨b, off + i * 2 + 1, none⟩ = some (.int .i64 (s.kb i))) := g1
  have Hm : Hid (s.kn ≤ maxLen) := m1
  clear g1 m1
  obtain ⟨i0, hi', hzz⟩ := Option.map_eq_some_iff.1 infoPtrT
  simp only [Prod.mk.injEq] at hzz
  obtain ⟨hz, hs, hby⟩ := hzz
  have HI : Hid (Try.prog.info? 33 = some i0 ∧ i0.zero = some (.agg #[.int .i64 0, .int .i64 0]) ∧ i0.size = 2 ∧ i0.bytes = 16) := ⟨hi', hz, hs, hby⟩
  clear hi' hz hs hby
  have ha1 := below_alloc w (.cells #[.int .i64 s.birth, .slice a s.kn c, .string s.data] 29)
  have ha2 := below_next ha1 (below_alloc _ (.cells #[.int .i64 0, .slice none 0 0, .string ⟨#[]⟩] 29))
  have ha3 := below_next ha2 (below_alloc _ (.cells #[] 33))
  have Hb3 : Hid (Below w.heap.size w (((w.alloc (.cells #[.int .i64 s.birth, .slice a s.kn c, .string s.data] 29)).alloc (.cells #[.int .i64 0, .slice none 0 0, .string ⟨#[]⟩] 29)).alloc (.cells #[] 33))) := ha3
  have hown0 := World.ownsRow_made (base := w.heap.size + 1 + 1) (e := 33) (size := 2) ((w.alloc (.cells #[.int .i64 s.birth, .slice a s.kn c, .string s.data] 29)).alloc (.cells #[.int .i64 0, .slice none 0 0, .string ⟨#[]⟩] 29)) #[] 0 (by simp) (Nat.zero_le _) (by simp)
  rw [World.size_alloc, World.size_alloc] at hown0
  have Hown0 : Hid ((((w.alloc (.cells #[.int .i64 s.birth, .slice a s.kn c, .string s.data] 29)).alloc (.cells #[.int .i64 0, .slice none 0 0, .string ⟨#[]⟩] 29)).alloc (.cells #[] 33)).ownsRow (w.heap.size + 1 + 1) 33 2 (.slice (some ⟨w.heap.size + 1 + 1, 0, none⟩) 0 0) 0 []) := hown0
  have HB3 : Hid (Box3 (((w.alloc (.cells #[.int .i64 s.birth, .slice a s.kn c, .string s.data] 29)).alloc (.cells #[.int .i64 0, .slice none 0 0, .string ⟨#[]⟩] 29)).alloc (.cells #[] 33)) w.heap.size (.int .i64 s.birth) (.slice a s.kn c) (.string s.data)) := ((Box3.new w _ _ _ _).below (below_alloc _ _)).below (below_alloc _ _)
  have HR3 : Hid (Box3 (((w.alloc (.cells #[.int .i64 s.birth, .slice a s.kn c, .string s.data] 29)).alloc (.cells #[.int .i64 0, .slice none 0 0, .string ⟨#[]⟩] 29)).alloc (.cells #[] 33)) (w.heap.size + 1) (.int .i64 0) (.slice none 0 0) (.string ⟨#[]⟩)) := by
    have := ((Box3.new (w.alloc (.cells #[.int .i64 s.birth, .slice a s.kn c, .string s.data] 29)) (.int .i64 0) (.slice none 0 0) (.string ⟨#[]⟩) 29).below (below_alloc _ (.cells #[] 33)))
    rw [World.size_alloc] at this
    exact this
  clear ha1 ha2 ha3 hown0
  go_enter Try.func50, Try.ntmps50
  cases a with
  | none =>
    have hn0 : s.kn = 0 := by
      by_cases h : 0 < s.kn
      · obtain ⟨b, off, ha, _⟩ := G1.out h; simp at ha
      · omega
    have Hn0 : Hid (s.kn = 0) := hn0
    clear hn0
    go_wp2_with (first
      | (at_builtin; refine wpList_append_nil rfl _ _ 27 rfl (w.heap.size + 1 + 1) 33 i0 2 c s.kn (by kernel_rfl) HI.out.1 (.slice (some ⟨w.heap.size + 1 + 1, 0, none⟩) 0 0) 0 [] rfl ?c0 Hn0.out rfl ?_))
    case c0 => exact Hown0.out
    refine bodyPost_ret (v := .agg #[.int .i64 s.birth, .slice (some ⟨w.heap.size + 1 + 1, 0, none⟩) 0 0, .string s.data]) (by simp [results, Try.results50, go_sem]) rfl ⟨_, 0, rfl, ?_, ?_, ?_⟩
    · exact ⟨Hm.out, _, 0, by rw [Hn0.out], by rw [Hn0.out]; exact Nat.le_refl _, fun h => absurd h (by rw [Hn0.out]; exact Nat.lt_irrefl _)⟩
    · exact fun h => absurd h (by rw [Hn0.out]; exact Nat.lt_irrefl _)
    · exact below_next (below_next (below_alloc _ _) (below_alloc _ _)) (below_alloc _ _)
  | some ad =>
    have Hsrc : Hid (∀ (w' : World), Below w.heap.size w w' → ∀ j u, (kc s.ks s.kb s.kn)[j]? = some u → w'.cell? (ad.add j) = some u) := fun w' hb j u hj => by
      by_cases h0 : 0 < s.kn
      · obtain ⟨b, off, ha, _, _, hc⟩ := G1.out h0
        simp only [Option.some.injEq] at ha
        subst ha
        have := kc_cells hc j u hj
        have hadd : (⟨b, off, none⟩ : Addr).add j = ⟨b, off + j, none⟩ := by unfold Addr.add; split <;> simp_all
        rw [hadd] at this ⊢
        exact (hb.cell (lt_of_cell this)).trans this
      · have h00 : s.kn = 0 := by omega
        rw [h00] at hj
        simp [kc] at hj
    go_wp2_with (first
      | (at_builtin; refine wpList_append_own _ rfl _ _ 27 rfl (w.heap.size + 1 + 1) 33 i0 (.agg #[.int .i64 0, .int .i64 0]) 2 16 (by kernel_rfl) HI.out.1 HI.out.2.1 HI.out.2.2.1 HI.out.2.2.2 rfl (by decide) _ 0 [] rfl ?c0 ad s.kn c (kc s.ks s.kb s.kn) rfl (kc_len _ _ _) ?c1 (kc_one _ _ _) ?c3 ?c4 ?c5 ?_))
    case c0 => exact Hown0.out
    case c1 => exact Hsrc.out _ Hb3.out
    case c3 => unfold maxLen; omega
    case c4 => omega
    case c5 => simp
    intro v' w1 hown' hgrow hnil
    have hown2 : w1.ownsRow (w.heap.size + 1 + 1) 33 2 v' s.kn (kc s.ks s.kb s.kn) := by simpa using hown'
    have hb1 : Below w.heap.size w w1 := Hb3.out.grown hgrow (by simp; omega) (fun q hq => by have := Hown0.out.lt q hq; omega)
    have hbl : ∀ b, b < w.heap.size + 1 + 1 → ∀ o x, Cell (((w.alloc (.cells #[.int .i64 s.birth, .slice (some ad) s.kn c, .string s.data] 29)).alloc (.cells #[.int .i64 0, .slice none 0 0, .string ⟨#[]⟩] 29)).alloc (.cells #[] 33)) b o x → Cell w1 b o x := fun b hb o x hx => by
      have e := grown_block hgrow Hown0.out hb hx.lt
      exact ⟨(World.cell?_of_block (a := ⟨b, o, none⟩) e).trans hx.1, (World.frozen?_of_block (a := ⟨b, o, none⟩) e).trans hx.2⟩
    have HB4 : Hid (Box3 w1 w.heap.size (.int .i64 s.birth) (.slice (some ad) s.kn c) (.string s.data)) := ⟨hbl _ (by omega) _ _ HB3.out.1, hbl _ (by omega) _ _ HB3.out.2.1, hbl _ (by omega) _ _ HB3.out.2.2⟩
    have HR4 : Hid (Box3 w1 (w.heap.size + 1) (.int .i64 0) (.slice none 0 0) (.string ⟨#[]⟩)) := ⟨hbl _ (by omega) _ _ HR3.out.1, hbl _ (by omega) _ _ HR3.out.2.1, hbl _ (by omega) _ _ HR3.out.2.2⟩
    obtain ⟨kb, hp, hk⟩ := ptrs_of_owns Hm.out hown2
    have Hp : Hid (PtrsOwn w1 kb v' s.kn s.ks s.kb ∧ (0 < s.kn → w.heap.size + 1 + 1 ≤ kb ∧ kb < w1.heap.size)) := ⟨hp, hk⟩
    obtain ⟨_, ka, kc', rfl, _⟩ := hp
    clear hk hown' hown2 hgrow hnil hbl HB3 HR3 Hown0 Hb3
    obtain ⟨⟨x0, x1⟩, ⟨x2, x3⟩, ⟨x4, x5⟩⟩ := HB4.out
    obtain ⟨⟨y0, y1⟩, ⟨y2, y3⟩, ⟨y4, y5⟩⟩ := HR4.out
    go_wp2
    have HR2 := (HR4.out.other (b' := w.heap.size) (o' := 1) (.slice ka s.kn kc') (by omega)).put (.int .i64 s.birth) (.slice ka s.kn kc') (.string s.data)
    refine bodyPost_ret (v := .agg #[.int .i64 s.birth, .slice ka s.kn kc', .string s.data]) (by simp [results, Try.results50, go_sem, HR2.1.1, HR2.2.1.1, HR2.2.2.1]) rfl ⟨_, kb, rfl, ?_, ?_, ?_⟩
    · have hk := Hp.out.2
      refine (((Hp.out.1.turned (Turned.put _ _ _ _) ?_).turned (Turned.put _ _ _ _) ?_).turned (Turned.put _ _ _ _) ?_).turned (Turned.put _ _ _ _) ?_
      all_goals exact fun h0 e => by have := hk h0; omega
    · intro h0
      have := Hp.out.2 h0
      simp only [World.size_setCell]
      omega
    · exact (((hb1.setCell (by show _ ≤ w.heap.size; omega) _).setCell (by show _ ≤ w.heap.size + 1; omega) _).setCell (by show _ ≤ w.heap.size + 1; omega) _).setCell (by show _ ≤ w.heap.size + 1; omega) _

end Go.Proofs.Ytikhipekmlhibaa
