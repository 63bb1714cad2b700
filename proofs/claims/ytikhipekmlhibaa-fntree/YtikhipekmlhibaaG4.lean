/- New pools that hold the same: what spec.l01Copy and impl.clonePool leave. -/
import Derived.Test.YtikhipekmlhibaaG3
import Derived.Test.YtikhipekmlhibaaG1
import Derived.Deep.AppendLies
import Derived.Deep.RegionHeld3
import Derived.Deep.RegionLaw
namespace Go.Proofs.Ytikhipekmlhibaa
open Go.RowKit
set_option linter.unusedVariables false

/-- The cells of the first k slots, the slices of their Kids as they lie. -/
def sc (f : Nat → SlotD) (kv : Nat → Value) : Nat → List Value
  | 0 => []
  | k + 1 => sc f kv k ++ [.int .i64 (f k).birth, kv k, .string (f k).data]

theorem sc_len (f : Nat → SlotD) (kv : Nat → Value) (k : Nat) : (sc f kv k).length = k * 3 := by
  induction k with
  | zero => rfl
  | succ k ih => simp [sc, ih]; omega

theorem sc_at (f : Nat → SlotD) (kv : Nat → Value) (k i r : Nat) (hi : i < k) (hr : r < 3) : (sc f kv k)[i * 3 + r]? = [Value.int .i64 (f i).birth, kv i, .string (f i).data][r]? := by
  induction k with
  | zero => omega
  | succ k ih =>
    unfold sc
    by_cases e : i < k
    · rw [List.getElem?_append_left (by rw [sc_len]; omega)]; exact ih e
    · obtain rfl : i = k := by omega
      rw [List.getElem?_append_right (by rw [sc_len]; omega), sc_len]
      congr 1; omega

theorem sc_congr (f : Nat → SlotD) {kv kv' : Nat → Value} {k : Nat} (h : ∀ i, i < k → kv i = kv' i) : sc f kv k = sc f kv' k := by
  induction k with
  | zero => rfl
  | succ k ih =>
    unfold sc
    rw [ih (fun i hi => h i (by omega)), h k (by omega)]

theorem sc_one (f : Nat → SlotD) (kv : Nat → Value) (k : Nat) (h : ∀ i, i < k → (kv i).oneCell' = true) : ∀ u ∈ sc f kv k, u.oneCell' = true := by
  induction k with
  | zero => intro u hu; simp [sc] at hu
  | succ k ih =>
    intro u hu
    simp only [sc, List.mem_append, List.mem_cons, List.not_mem_nil, or_false] at hu
    rcases hu with hu | rfl | rfl | rfl
    · exact ih (fun i hi => h i (by omega)) u hu
    · rfl
    · exact h k (by omega)
    · rfl

theorem turned_of_grown {w w1 : World} {row : Option Nat} (h : w.grownBy w1 row) : Turned (fun b => row = some b) w w1 := ⟨h.os, h.tape, h.output, h.size, fun k hk hs => h.block k hk (fun e => hs e.symm)⟩
theorem grown_of_below {w w1 : World} (h : Below w.heap.size w w1) (row : Option Nat) : w.grownBy w1 row := ⟨h.os, h.tape, h.output, h.size, fun k hk _ => h.block k hk⟩

/-- A row of k slots that the call owns, its Kids in other blocks. -/
structure Laid (w : World) (lo k : Nat) (f : Nat → SlotD) (kb : Nat → Nat) (kv : Nat → Value) (v : Value) : Prop where
  row : w.ownsRow lo 29 3 v k (sc f kv k)
  kids : ∀ j, j < k → PtrsOwn w (kb j) (kv j) (f j).kn (f j).ks (f j).kb
  place : ∀ j, j < k → 0 < (f j).kn → lo ≤ kb j ∧ kb j < w.heap.size ∧ v.ownBlock ≠ some (kb j)
  apart : KidsApart kb k f
  small : ∀ j, j < k → (f j).data.size ≤ maxLen

theorem Laid.nil (w : World) (lo : Nat) (f : Nat → SlotD) : Laid w lo 0 f (fun _ => 0) (fun _ => .slice none 0 0) (.slice none 0 0) :=
  ⟨World.ownsRow_nil _ _ _ _, fun j hj => absurd hj (Nat.not_lt_zero _), fun j hj => absurd hj (Nat.not_lt_zero _), fun i j hi => absurd hi (Nat.not_lt_zero _), fun j hj => absurd hj (Nat.not_lt_zero _)⟩

theorem Laid.below {w w' : World} {lo k : Nat} {f : Nat → SlotD} {kb : Nat → Nat} {kv : Nat → Value} {v : Value} (h : Laid w lo k f kb kv v) (t : Below w.heap.size w w') : Laid w' lo k f kb kv v :=
  ⟨h.row.kept (grown_of_below t none) (by cases hv : v.ownBlock <;> simp), fun j hj => (h.kids j hj).below t, fun j hj h0 => by have h1 := h.place j hj h0; have := t.size; exact ⟨h1.1, by omega, h1.2.2⟩, h.apart, h.small⟩

theorem Laid.next {w w1 : World} {lo k : Nat} {f : Nat → SlotD} {kb : Nat → Nat} {kv : Nat → Value} {v : Value} (h : Laid w lo k f kb kv v) {nb g cap : Nat} {nv : Value} (hp : PtrsOwn w nb nv (f k).kn (f k).ks (f k).kb)
    (hnb : 0 < (f k).kn → lo ≤ nb ∧ nb < w.heap.size ∧ v.ownBlock ≠ some nb ∧ ∀ j, j < k → 0 < (f j).kn → kb j ≠ nb) (hs : (f k).data.size ≤ maxLen)
    (hown : w1.ownsRow lo 29 3 (.slice (some ⟨g, 0, none⟩) (k + 1) cap) (k + 1) (sc f kv k ++ [.int .i64 (f k).birth, nv, .string (f k).data])) (hg : w.grownBy w1 v.ownBlock) (hat : v.ownBlock = some g ∨ g = w.heap.size) :
    Laid w1 lo (k + 1) f (fun j => if j = k then nb else kb j) (fun j => if j = k then nv else kv j) (.slice (some ⟨g, 0, none⟩) (k + 1) cap) := by
  have t := turned_of_grown hg
  have hsz := t.size
  have far : ∀ b, b < w.heap.size → v.ownBlock ≠ some b → (Value.slice (some ⟨g, 0, none⟩) (k + 1) cap).ownBlock ≠ some b := fun b hb hne e => by
    have hgb : g = b := by simpa [Value.ownBlock] using e
    rcases hat with hx | hx
    · exact hne (by rw [hx, hgb])
    · omega
  refine ⟨?_, fun j hj => ?_, fun j hj h0 => ?_, fun i j hi hj hij h1 h2 => ?_, fun j hj => ?_⟩
  · have e : sc f (fun j => if j = k then nv else kv j) (k + 1) = sc f kv k ++ [.int .i64 (f k).birth, nv, .string (f k).data] := by
      show sc f _ k ++ [.int .i64 (f k).birth, (if k = k then nv else kv k), .string (f k).data] = _
      rw [if_pos rfl, sc_congr f (fun i hi => if_neg (by omega))]
    rw [e]; exact hown
  · by_cases e : j = k
    · subst e
      simp only [if_true]
      exact hp.turned t (fun h0 => (hnb h0).2.2.1)
    · simp only [if_neg e]
      exact (h.kids j (by omega)).turned t (fun h0 => (h.place j (by omega) h0).2.2)
  · by_cases e : j = k
    · subst e
      simp only [if_true]
      obtain ⟨h1, h2, h3, _⟩ := hnb h0
      exact ⟨h1, by omega, far _ h2 h3⟩
    · simp only [if_neg e]
      obtain ⟨h1, h2, h3⟩ := h.place j (by omega) h0
      exact ⟨h1, by omega, far _ h2 h3⟩
  · show (if i = k then nb else kb i) ≠ (if j = k then nb else kb j)
    by_cases e1 : i = k
    · by_cases e2 : j = k
      · omega
      · rw [if_pos e1, if_neg e2]
        subst e1
        exact fun e => (hnb h1).2.2.2 j (by omega) h2 e.symm
    · by_cases e2 : j = k
      · rw [if_neg e1, if_pos e2]
        subst e2
        exact (hnb h2).2.2.2 i (by omega) h1
      · rw [if_neg e1, if_neg e2]
        exact h.apart i j (by omega) (by omega) hij h1 h2
  · by_cases e : j = k
    · subst e; exact hs
    · exact h.small j (by omega)

theorem Laid.put {w : World} {lo k : Nat} {f : Nat → SlotD} {kb : Nat → Nat} {kv : Nat → Value} {v : Value} (h : Laid w lo k f kb kv v) {b o : Nat} (hb : b < lo) (u : Value) : Laid (w.setCell ⟨b, o, none⟩ u) lo k f kb kv v :=
  ⟨ownsRow_setCell_below h.row hb u, fun j hj => (h.kids j hj).turned (Turned.put _ _ _ _) (fun h0 e => by have := h.place j hj h0; omega), fun j hj h0 => by rw [World.size_setCell]; exact h.place j hj h0, h.apart, h.small⟩

theorem Laid.own {w : World} {lo n : Nat} {f : Nat → SlotD} {kb : Nat → Nat} {kv : Nat → Value} {v : Value} (h : Laid w lo n f kb kv v) (hn : n ≤ maxLen) :
    ∃ bs, SlotsOwn w bs kb kv v n f ∧ ∀ k, SlotsB bs kb n f k → lo ≤ k ∧ k < w.heap.size := by
  by_cases h0 : 0 < n
  · obtain ⟨g, cap, rfl, hcp, hb, hlt, hcell⟩ := owns_cell h.row h0
    refine ⟨g, ⟨hn, _, cap, rfl, hcp, fun _ => ⟨0, rfl, fun i hi => ⟨?_, ?_, ?_, h.kids i hi, h.small i hi, fun hk e => (h.place i hi hk).2.2 (by rw [e]; rfl)⟩⟩⟩, fun k hk => ?_⟩
    · have := hcell (i * 3 + 0) _ (sc_at f kv n i 0 hi (by omega)); simpa using this
    · have := hcell (i * 3 + 1) _ (sc_at f kv n i 1 hi (by omega)); simpa using this
    · have := hcell (i * 3 + 2) _ (sc_at f kv n i 2 hi (by omega)); simpa using this
    · rcases hk with ⟨_, rfl⟩ | ⟨i, hi, hk0, rfl⟩
      · exact ⟨hb, hlt⟩
      · exact ⟨(h.place i hi hk0).1, (h.place i hi hk0).2.1⟩
  · obtain ⟨a, cap, rfl, hcp⟩ := owns_form h.row
    refine ⟨0, ⟨hn, a, cap, rfl, hcp, fun hx => absurd hx h0⟩, fun k hk => ?_⟩
    rcases hk with ⟨hx, _⟩ | ⟨i, hi, _⟩
    · exact absurd hx h0
    · omega

/-- The cells of n numbers. -/
def ic (f : Nat → Int) : Nat → List Value
  | 0 => []
  | k + 1 => ic f k ++ [.int .i64 (f k)]

theorem ic_len (f : Nat → Int) (k : Nat) : (ic f k).length = k * 1 := by
  induction k with
  | zero => rfl
  | succ k ih => simp [ic, ih]

theorem ic_at (f : Nat → Int) (k i : Nat) (hi : i < k) : (ic f k)[i]? = some (Value.int .i64 (f i)) := by
  induction k with
  | zero => omega
  | succ k ih =>
    unfold ic
    by_cases e : i < k
    · rw [List.getElem?_append_left (by rw [ic_len]; omega)]; exact ih e
    · obtain rfl : i = k := by omega
      rw [List.getElem?_append_right (by rw [ic_len]; omega), ic_len]
      simp

theorem ic_one (f : Nat → Int) (k : Nat) : ∀ u ∈ ic f k, u.oneCell' = true := by
  induction k with
  | zero => intro u hu; simp [ic] at hu
  | succ k ih =>
    intro u hu
    simp only [ic, List.mem_append, List.mem_cons, List.not_mem_nil, or_false] at hu
    rcases hu with hu | rfl
    · exact ih u hu
    · rfl

theorem add_lit (b off j : Nat) : (⟨b, off, none⟩ : Addr).add j = ⟨b, off + j, none⟩ := by unfold Addr.add; split <;> simp_all

theorem ic_cells {w : World} {b off : Nat} {f : Nat → Int} {n : Nat} (h : ∀ i, i < n → w.cell? ⟨b, off + i, none⟩ = some (.int .i64 (f i))) :
    ∀ j u, (ic f n)[j]? = some u → w.cell? ((⟨b, off, none⟩ : Addr).add j) = some u := by
  intro j u hj
  have hlt : j < n := by
    have := (List.getElem?_eq_some_iff.1 hj).1
    rw [ic_len] at this
    omega
  rw [ic_at f n j hlt] at hj
  rw [add_lit, h j hlt]
  exact hj

theorem row_room {w : World} {base e g n cap : Nat} {xs : List Value} (h : w.ownsRow base e 1 (.slice (some ⟨g, 0, none⟩) n cap) n xs) (h0 : 0 < n) : 0 < n ∧ (some ⟨g, 0, none⟩ : Option Addr) = some ⟨g, 0, none⟩ ∧ cap ≤ maxLen ∧ ∃ cur, w.heap[g]? = some (.cells cur e (0, 0)) ∧ cur.size = cap := by
  obtain ⟨_, ⟨h, rfl⟩ | ⟨g', cap', cur, hv, _, hg, _, h2, h3, _⟩⟩ := h
  · omega
  · simp only [Value.slice.injEq, Option.some.injEq, Addr.mk.injEq, and_true, true_and] at hv
    obtain ⟨rfl, rfl⟩ := hv
    exact ⟨h0, rfl, h2, cur, hg, by simpa using h3⟩

theorem ints_of_owns {w : World} {base n : Nat} {v : Value} {f : Nat → Int} (hm : n ≤ maxLen) (h : w.ownsRow base 2 1 v n (ic f n)) (hz : n = 0 → ∃ a, v = .slice a 0 0) : ∃ hb, IntsOwn w hb v n f ∧ (0 < n → base ≤ hb ∧ hb < w.heap.size) := by
  by_cases h0 : 0 < n
  · obtain ⟨gb, cap, rfl, hcp, hb, hlt, hcell⟩ := owns_cell h h0
    refine ⟨gb, ⟨hm, _, cap, rfl, hcp, fun _ => ⟨0, rfl, fun i hi => ?_⟩, fun _ => ?_⟩, fun _ => ⟨hb, hlt⟩⟩
    · have := hcell i _ (ic_at f n i hi)
      simpa using this
    · exact row_room h h0
  · obtain ⟨a, cap, rfl, hcp⟩ := owns_form h
    exact ⟨0, ⟨hm, a, cap, rfl, hcp, fun h => absurd h h0, fun hlt => by obtain ⟨a2, e2⟩ := hz (by omega); simp only [Value.slice.injEq] at e2; omega⟩, fun h => absurd h h0⟩

theorem hide {P : Prop} (h : P) : Hid P := h

theorem wpList_append_opt {P : Program} {w : World} {ops : Array Oper} {rest : List Oper} {o : Oper} {a : Act} {Q : Exit → Act → World → Prop} (hgd : o.guard = none) (s x : Operand) (t : TypeId)
    (ho : o.op = .call { callee := .builtin .append, args := #[s, x], argTypes := #[t, t] })
    (base : Nat) (e : TypeId) (i : TypeInfo) (z : Value) (size bytes : Nat) (ht : P.underlying t = some (.slice e)) (hi : P.info? e = some i) (hz : i.zero = some z)
    (hsize : i.size = size) (hby : i.bytes = bytes) (hzs : z.cells.size = size) (hsz : 0 < size)
    (v : Value) (n : Nat) (xs : List Value) (hs : a.eval s = v) (hown : w.ownsRow base e size v n xs)
    (ao : Option Addr) (m c : Nat) (news : List Value) (hx : a.eval x = .slice ao m c) (hl : news.length = m * size) (h1 : ∀ u ∈ news, u.oneCell' = true)
    (hnews : 0 < m → ∃ b off, ao = some ⟨b, off, none⟩ ∧ ∀ j u, news[j]? = some u → w.cell? ⟨b, off + j, none⟩ = some u)
    (h63 : n + m ≤ maxLen) (hbytes : (n + m) * bytes ≤ 140737488355328) (hbase : base ≤ w.heap.size)
    (h : ∀ v' w', w'.ownsRow base e size v' (n + m) (xs ++ news) → w.grownBy w' v.ownBlock → (m = 0 → v' = v) → wpList P ops Q rest (a.put o.dst v') w') : wpList P ops Q (o :: rest) a w := by
  by_cases hm0 : m = 0
  · have hn0 : news = [] := List.eq_nil_of_length_eq_zero (by rw [hl, hm0, Nat.zero_mul])
    exact wpList_append_zero hgd s x t ho base e i size c m ao ht hi v n xs hs hown hm0 hx (h v w (by subst hm0; subst hn0; simpa using hown) ⟨rfl, rfl, rfl, Nat.le_refl _, fun _ _ _ => rfl⟩ (fun _ => rfl))
  cases ao with
  | none =>
    obtain ⟨b, off, ha, _⟩ := hnews (by omega)
    simp at ha
  | some ad =>
    refine wpList_append_own w hgd s x t ho base e i z size bytes ht hi hz hsize hby hzs hsz v n xs hs hown ad m c news hx hl (fun j u hj => ?_) h1 h63 hbytes hbase (fun v' w' g1 g2 _ => h v' w' g1 g2 (fun e => absurd e hm0))
    have h0 : 0 < m := by
      have := (List.getElem?_eq_some_iff.1 hj).1
      rw [hl] at this
      rcases Nat.eq_zero_or_pos m with hm | hm
      · rw [hm, Nat.zero_mul] at this; omega
      · exact hm
    obtain ⟨b, off, ha, hc⟩ := hnews h0
    simp only [Option.some.injEq] at ha
    subst ha
    rw [add_lit]
    exact hc j u hj

set_option maxRecDepth 20000 in
set_option maxHeartbeats 400000 in
theorem cloneInts_row (a : Option Addr) (n c : Nat) (xs : List Value) (w : World) (hl : xs.length = n * 1) (hone : ∀ u ∈ xs, u.oneCell' = true) (hn : n ≤ 1048576)
    (hc : 0 < n → ∃ b off, a = some ⟨b, off, none⟩ ∧ ∀ j u, xs[j]? = some u → w.cell? ⟨b, off + j, none⟩ = some u) :
    Calls Try.prog 105 #[.slice a n c] w fun e w' => ∃ v', e = .returned v' ∧ w'.ownsRow w.heap.size 2 1 v' n xs ∧ Below w.heap.size w w' ∧ (n = 0 → ∃ a, v' = .slice a 0 0) := by
  have Hc : Hid (0 < n → ∃ b off, a = some ⟨b, off, none⟩ ∧ ∀ j u, xs[j]? = some u → w.cell? ⟨b, off + j, none⟩ = some u) := hc
  have Hl : Hid (xs.length = n * 1 ∧ ∀ u ∈ xs, u.oneCell' = true) := ⟨hl, hone⟩
  clear hc hl hone
  have heq := fun w => Lib.run_eql_slice_nil (P := Try.prog) w 24 2 a n c 0 0 (by kernel_rfl)
  cases a with
  | none =>
    have hn0 : n = 0 := by
      by_cases h : 0 < n
      · obtain ⟨b, off, ha, _⟩ := Hc.out h; simp at ha
      · omega
    subst hn0
    have hx0 : xs = [] := List.eq_nil_of_length_eq_zero (by simpa using Hl.out.1)
    subst hx0
    go_enter Try.func105, Try.ntmps105
    go_wp2
    go_ret
    exact ⟨_, rfl, World.ownsRow_nil _ _ _ _, Below.refl _ _, fun _ => ⟨_, rfl⟩⟩
  | some ad =>
    obtain ⟨i0, hi, hzz⟩ := Option.map_eq_some_iff.1 infoInt64
    simp only [Prod.mk.injEq] at hzz
    obtain ⟨hz, hs, hby⟩ := hzz
    have HI : Hid (Try.prog.info? 2 = some i0 ∧ i0.zero = some (.int .i64 0) ∧ i0.size = 1 ∧ i0.bytes = 8) := ⟨hi, hz, hs, hby⟩
    have Hown0 : Hid ((w.alloc (.cells #[] 2)).ownsRow w.heap.size 2 1 (.slice (some ⟨w.heap.size, 0, none⟩) 0 0) 0 []) := World.ownsRow_made w #[] 0 (Nat.le_refl _) (Nat.zero_le _) (by simp)
    clear hi hz hs hby
    go_enter Try.func105, Try.ntmps105
    go_wp2_with (first
      | (at_builtin; refine wpList_append_opt rfl _ _ 24 rfl w.heap.size 2 i0 (.int .i64 0) 1 8 (by kernel_rfl) HI.out.1 HI.out.2.1 HI.out.2.2.1 HI.out.2.2.2 rfl (by decide) _ _ _ rfl Hown0.out (some ad) n c xs rfl Hl.out.1 Hl.out.2 ?c1 ?c3 ?c4 ?c5 ?_))
    case c1 =>
      intro h0
      obtain ⟨b, off, ha, hcell⟩ := Hc.out h0
      exact ⟨b, off, ha, fun j u hj => (((Below.refl _ _).alloc (Nat.le_refl _) _).cell (lt_of_cell (hcell j u hj))).trans (hcell j u hj)⟩
    case c3 => unfold maxLen; omega
    case c4 => omega
    case c5 => simp
    intro v' w1 hown' hgrow hnil
    have hb1 : Below w.heap.size w w1 := ((Below.refl _ _).alloc (Nat.le_refl _) _).grown hgrow (by simp) (fun q hq => by have := Hown0.out.lt q hq; omega)
    have hown2 : w1.ownsRow w.heap.size 2 1 v' n xs := by simpa using hown'
    have Hown2 : Hid (w1.ownsRow w.heap.size 2 1 v' n xs) := hown2
    have Hnil : Hid (n = 0 → v' = .slice (some ⟨w.heap.size, 0, none⟩) 0 0) := hnil
    clear hown' hown2 hgrow hnil
    go_wp2
    go_ret
    exact ⟨v', rfl, Hown2.out, hb1, fun e => ⟨_, Hnil.out e⟩⟩

set_option maxRecDepth 20000 in
set_option maxHeartbeats 400000 in
theorem cloneSlots_row (a : Option Addr) (n c : Nat) (xs : List Value) (w : World) (hl : xs.length = n * 3) (hone : ∀ u ∈ xs, u.oneCell' = true) (hn : n ≤ 1048576)
    (hc : 0 < n → ∃ b off, a = some ⟨b, off, none⟩ ∧ ∀ j u, xs[j]? = some u → w.cell? ⟨b, off + j, none⟩ = some u) :
    Calls Try.prog 104 #[.slice a n c] w fun e w' => ∃ v', e = .returned v' ∧ w'.ownsRow w.heap.size 29 3 v' n xs ∧ Below w.heap.size w w' ∧ (n = 0 → ∃ a, v' = .slice a 0 0) := by
  have Hc : Hid (0 < n → ∃ b off, a = some ⟨b, off, none⟩ ∧ ∀ j u, xs[j]? = some u → w.cell? ⟨b, off + j, none⟩ = some u) := hc
  have Hl : Hid (xs.length = n * 3 ∧ ∀ u ∈ xs, u.oneCell' = true) := ⟨hl, hone⟩
  clear hc hl hone
  have heq := fun w => Lib.run_eql_slice_nil (P := Try.prog) w 23 29 a n c 0 0 (by kernel_rfl)
  cases a with
  | none =>
    have hn0 : n = 0 := by
      by_cases h : 0 < n
      · obtain ⟨b, off, ha, _⟩ := Hc.out h; simp at ha
      · omega
    subst hn0
    have hx0 : xs = [] := List.eq_nil_of_length_eq_zero (by simpa using Hl.out.1)
    subst hx0
    go_enter Try.func104, Try.ntmps104
    go_wp2
    go_ret
    exact ⟨_, rfl, World.ownsRow_nil _ _ _ _, Below.refl _ _, fun _ => ⟨_, rfl⟩⟩
  | some ad =>
    obtain ⟨i0, hi, hzz⟩ := Option.map_eq_some_iff.1 infoSlotT
    simp only [Prod.mk.injEq] at hzz
    obtain ⟨hz, hs, hby⟩ := hzz
    have HI : Hid (Try.prog.info? 29 = some i0 ∧ i0.zero = some (.agg #[.int .i64 0, .slice none 0 0, .string ⟨#[]⟩]) ∧ i0.size = 3 ∧ i0.bytes = 48) := ⟨hi, hz, hs, hby⟩
    have Hown0 : Hid ((w.alloc (.cells #[] 29)).ownsRow w.heap.size 29 3 (.slice (some ⟨w.heap.size, 0, none⟩) 0 0) 0 []) := World.ownsRow_made w #[] 0 (Nat.le_refl _) (Nat.zero_le _) (by simp)
    clear hi hz hs hby
    go_enter Try.func104, Try.ntmps104
    go_wp2_with (first
      | (at_builtin; refine wpList_append_opt rfl _ _ 23 rfl w.heap.size 29 i0 (.agg #[.int .i64 0, .slice none 0 0, .string ⟨#[]⟩]) 3 48 (by kernel_rfl) HI.out.1 HI.out.2.1 HI.out.2.2.1 HI.out.2.2.2 rfl (by decide) _ _ _ rfl Hown0.out (some ad) n c xs rfl Hl.out.1 Hl.out.2 ?c1 ?c3 ?c4 ?c5 ?_))
    case c1 =>
      intro h0
      obtain ⟨b, off, ha, hcell⟩ := Hc.out h0
      exact ⟨b, off, ha, fun j u hj => (((Below.refl _ _).alloc (Nat.le_refl _) _).cell (lt_of_cell (hcell j u hj))).trans (hcell j u hj)⟩
    case c3 => unfold maxLen; omega
    case c4 => omega
    case c5 => simp
    intro v' w1 hown' hgrow hnil
    have hb1 : Below w.heap.size w w1 := ((Below.refl _ _).alloc (Nat.le_refl _) _).grown hgrow (by simp) (fun q hq => by have := Hown0.out.lt q hq; omega)
    have hown2 : w1.ownsRow w.heap.size 29 3 v' n xs := by simpa using hown'
    have Hown2 : Hid (w1.ownsRow w.heap.size 29 3 v' n xs) := hown2
    have Hnil : Hid (n = 0 → v' = .slice (some ⟨w.heap.size, 0, none⟩) 0 0) := hnil
    clear hown' hown2 hgrow hnil
    go_wp2
    go_ret
    exact ⟨v', rfl, Hown2.out, hb1, fun e => ⟨_, Hnil.out e⟩⟩

theorem news_at {w : World} {lo hi : Nat} {f : Nat → Int} {n : Nat} {v : Value} (h : IntsAt w lo hi v n f) {a : Option Addr} {c : Nat} (hv : v = .slice a n c) {w' : World} (hb : Below w.heap.size w w') :
    0 < n → ∃ b off, a = some ⟨b, off, none⟩ ∧ ∀ j u, (ic f n)[j]? = some u → w'.cell? ⟨b, off + j, none⟩ = some u := by
  obtain ⟨_, a0, c0, h0, _, g⟩ := h
  subst hv
  simp only [Value.slice.injEq, true_and] at h0
  obtain ⟨rfl, rfl⟩ := h0
  intro hn
  obtain ⟨b, off, ha, _, _, hc⟩ := g hn
  refine ⟨b, off, ha, fun j u hj => ?_⟩
  have := ic_cells hc j u hj
  rw [add_lit] at this
  exact (hb.cell (lt_of_cell this)).trans this

theorem Box2.grown {w w1 : World} {v : Value} {b base e size n : Nat} {xs : List Value} {x y : Value} (h : Box2 w b x y) (hg : w.grownBy w1 v.ownBlock) (hown : w.ownsRow base e size v n xs) (hb : b < base) : Box2 w1 b x y :=
  h.turned (turned_of_grown hg) (fun e => by have := hown.lt b e; omega)

theorem news3 (w : World) (x y z : Value) (t : TypeId) : ∀ j u, [x, y, z][j]? = some u → (w.alloc (.cells #[x, y, z] t)).cell? ((⟨w.heap.size, 0, none⟩ : Addr).add j) = some u := by
  intro j u hj
  match j, hj with
  | 0, hj => simp at hj; subst hj; simp [Addr.add]
  | 1, hj => simp at hj; subst hj; simp [Addr.add]
  | 2, hj => simp at hj; subst hj; simp [Addr.add]
  | (j + 3), hj => simp at hj
theorem one3 (x : Int) (a : Option Addr) (n c : Nat) (s : ByteArray) : ∀ u ∈ [Value.int .i64 x, .slice a n c, .string s], u.oneCell' = true := by
  intro u hu
  simp only [List.mem_cons, List.not_mem_nil, or_false] at hu
  rcases hu with rfl | rfl | rfl <;> rfl

theorem laid_fresh {wr W : World} {lo k nb m : Nat} {f : Nat → SlotD} {kb : Nat → Nat} {kv : Nat → Value} {v : Value} (h : Laid wr lo k f kb kv v) (hlo : lo ≤ wr.heap.size) (h2 : 0 < m → wr.heap.size ≤ nb ∧ nb < W.heap.size) :
    0 < m → lo ≤ nb ∧ nb < W.heap.size ∧ v.ownBlock ≠ some nb ∧ ∀ j, j < k → 0 < (f j).kn → kb j ≠ nb := fun h0 => by
  obtain ⟨h3, h4⟩ := h2 h0
  exact ⟨by omega, h4, fun e => by have := h.row.lt nb e; omega, fun j hj hk e => by have := h.place j hj hk; omega⟩

theorem laid_pool {wr : World} {lo1 lo2 : Nat} {p : PoolD} {kb : Nat → Nat} {kv : Nat → Value} {v hv : Value} {hb : Nat} (h : Laid wr lo2 p.n p.s kb kv v) (hn : p.n ≤ maxLen) (hi : IntsOwn wr hb hv p.hn p.h) (h12 : lo1 ≤ lo2) (hb1 : 0 < p.hn → lo1 ≤ hb ∧ hb < lo2) (hlo : lo2 ≤ wr.heap.size) :
    PoolOwn wr lo1 wr.heap.size v hv p := by
  obtain ⟨bs, hso, hpl⟩ := h.own hn
  refine ⟨bs, hb, kb, kv, hso, h.apart, hi, fun h0 hx => ?_, fun k hk => ?_⟩
  · have := hpl _ hx; have := hb1 h0; omega
  · rcases hk with hk | ⟨h0, rfl⟩
    · have := hpl _ hk; omega
    · have := hb1 h0; omega

/-- The answer is a new pool, its Held a row that may be appended to. -/
def NewParts (p : PoolD) (w : World) (e : Ending) (w' : World) : Prop :=
  ∃ v0 v1 M bs kb kv, e = .returned (.agg #[v0, v1]) ∧ SlotsOwn w' bs kb kv v0 p.n p.s ∧ KidsApart kb p.n p.s ∧ (∀ k, SlotsB bs kb p.n p.s k → M ≤ k ∧ k < w'.heap.size) ∧
    w'.ownsRow w.heap.size 2 1 v1 p.hn (ic p.h p.hn) ∧ (∀ k, v1.ownBlock = some k → w.heap.size ≤ k ∧ k < M) ∧ w.heap.size ≤ M ∧ M ≤ w'.heap.size ∧ Below w.heap.size w w' ∧ (p.hn = 0 → ∃ a, v1 = .slice a 0 0)

theorem ints_of_owns2 {w : World} {base n : Nat} {v : Value} {f : Nat → Int} (hm : n ≤ maxLen) (h : w.ownsRow base 2 1 v n (ic f n)) (hz : n = 0 → ∃ a, v = .slice a 0 0) : ∃ hb, IntsOwn w hb v n f ∧ (0 < n → v.ownBlock = some hb) := by
  by_cases h0 : 0 < n
  · obtain ⟨gb, cap, rfl, hcp, hb, hlt, hcell⟩ := owns_cell h h0
    refine ⟨gb, ⟨hm, _, cap, rfl, hcp, fun _ => ⟨0, rfl, fun i hi => ?_⟩, fun _ => ?_⟩, fun _ => rfl⟩
    · have := hcell i _ (ic_at f n i hi)
      simpa using this
    · exact row_room h h0
  · obtain ⟨a, cap, rfl, hcp⟩ := owns_form h
    exact ⟨0, ⟨hm, a, cap, rfl, hcp, fun h => absurd h h0, fun hlt => by obtain ⟨a2, e2⟩ := hz (by omega); simp only [Value.slice.injEq] at e2; omega⟩, fun h => absurd h h0⟩

theorem parts_own {w' : World} {p : PoolD} {v0 v1 : Value} {B M bs base : Nat} {kb : Nat → Nat} {kv : Nat → Value} (h1 : SlotsOwn w' bs kb kv v0 p.n p.s) (h2 : KidsApart kb p.n p.s) (h3 : ∀ k, SlotsB bs kb p.n p.s k → M ≤ k ∧ k < w'.heap.size) (hm : p.hn ≤ maxLen)
    (h4 : w'.ownsRow base 2 1 v1 p.hn (ic p.h p.hn)) (h5 : ∀ k, v1.ownBlock = some k → B ≤ k ∧ (k < M ∨ w'.heap.size ≤ k ∨ (k < w'.heap.size ∧ ¬ SlotsB bs kb p.n p.s k))) (h6 : B ≤ M) (hz : p.hn = 0 → ∃ a, v1 = .slice a 0 0) : PoolOwn w' B w'.heap.size v0 v1 p := by
  obtain ⟨hb, hi, hbk⟩ := ints_of_owns2 hm h4 hz
  refine ⟨bs, hb, kb, kv, h1, h2, hi, fun h0 hx => ?_, fun k hk => ?_⟩
  · have a := h3 _ hx
    have b := h5 _ (hbk h0)
    rcases b.2 with b2 | b2 | b2
    · omega
    · omega
    · exact b2.2 hx
  · rcases hk with hk | ⟨h0, rfl⟩
    · have := h3 _ hk; omega
    · have b := h5 _ (hbk h0)
      have c := h4.lt _ (hbk h0)
      exact ⟨b.1, c.2⟩

theorem own_base {w : World} {B B' e size n : Nat} {v : Value} {xs : List Value} (h : w.ownsRow B' e size v n xs) (hB : B ≤ B') : w.ownsRow B e size v n xs :=
  ⟨h.1, h.2.imp id (fun ⟨g, cap, cur, a, b, c⟩ => ⟨g, cap, cur, a, Nat.le_trans hB b, c⟩)⟩

set_option maxRecDepth 20000 in
set_option maxHeartbeats 1000000 in
theorem l01Copy_parts (v0 v1 : Value) (lo hi : Nat) (p : PoolD) (w : World) (h1 : PoolAt w lo hi v0 v1 p) (hn : poolN p ≤ 1048576) : Calls Try.prog 48 #[.agg #[v0, v1]] w (NewParts p w) := by
  have Hp := hide h1
  obtain ⟨⟨m1, a, c, rfl, mc, g1⟩, ⟨m2, a', c', rfl, mc', g2⟩⟩ := h1
  have Hm := hide (And.intro m1 m2)
  clear g1 g2 m1 m2
  unfold poolN at hn
  have Hn : Hid (∀ j, j < p.n → (p.s j).kn ≤ 1048576) := fun j hj => by have h2 := slotN_le p.s hj; unfold slotN at h2; omega
  have hn1 : p.n ≤ 1048576 := by omega
  have hn2 : p.hn ≤ 1048576 := by omega
  clear hn
  obtain ⟨i0, hi0, hzz⟩ := Option.map_eq_some_iff.1 infoInt64
  simp only [Prod.mk.injEq] at hzz
  have HI := hide (And.intro hi0 hzz)
  obtain ⟨i1, hi1, hzz1⟩ := Option.map_eq_some_iff.1 infoSlotT
  simp only [Prod.mk.injEq] at hzz1
  have HI1 := hide (And.intro hi1 hzz1)
  clear hi0 hzz hi1 hzz1
  have ha1 := below_alloc w (.cells #[.slice a p.n c, .slice a' p.hn c'] 26)
  have ha2 := below_next ha1 (below_alloc _ (.cells #[.slice none 0 0, .slice none 0 0] 26))
  have Hb3 := hide (below_next ha2 (below_alloc _ (.cells #[] 2)))
  have hown0 := World.ownsRow_made (base := w.heap.size + 1 + 1) (e := 2) (size := 1) ((w.alloc (.cells #[.slice a p.n c, .slice a' p.hn c'] 26)).alloc (.cells #[.slice none 0 0, .slice none 0 0] 26)) #[] 0 (by simp) (Nat.zero_le _) (by simp)
  rw [World.size_alloc, World.size_alloc] at hown0
  have Hown0 := hide hown0
  have HB3 := hide (((Box2.new w (.slice a p.n c) (.slice a' p.hn c') 26).below (below_alloc _ (.cells #[.slice none 0 0, .slice none 0 0] 26))).below (below_alloc _ (.cells #[] 2)))
  have hr3 := (Box2.new (w.alloc (.cells #[.slice a p.n c, .slice a' p.hn c'] 26)) (.slice none 0 0) (.slice none 0 0) 26).below (below_alloc _ (.cells #[] 2))
  rw [World.size_alloc] at hr3
  have HR3 := hide hr3
  clear ha1 ha2 hown0 hr3
  go_enter Try.func48, Try.ntmps48
  go_wp2_with (first
    | (at_builtin; refine wpList_append_opt rfl _ _ 24 rfl (w.heap.size + 1 + 1) 2 i0 (.int .i64 0) 1 8 (by kernel_rfl) HI.out.1 HI.out.2.1 HI.out.2.2.1 HI.out.2.2.2 rfl (by decide) (.slice (some ⟨w.heap.size + 1 + 1, 0, none⟩) 0 0) 0 [] rfl ?c0 a' p.hn c' (ic p.h p.hn) rfl (ic_len _ _) (ic_one _ _) ?c1 ?c3 ?c4 ?c5 ?_))
  case c0 => exact Hown0.out
  case c1 => exact news_at Hp.out.2 rfl Hb3.out
  case c3 => unfold maxLen; omega
  case c4 => omega
  case c5 => simp
  intro v' w1 hown' hgrow hzero
  have hown2 : w1.ownsRow (w.heap.size + 1 + 1) 2 1 v' p.hn (ic p.h p.hn) := by simpa using hown'
  obtain ⟨ha, hc, rfl, _⟩ := owns_form hown2
  have Hz0 : Hid (p.hn = 0 → ∃ a, Value.slice ha p.hn hc = .slice a 0 0) := fun e => ⟨_, hzero e⟩
  clear hzero
  have Hrow := hide hown2
  have HB4 := hide (HB3.out.grown hgrow Hown0.out (by omega))
  have HR4 := hide (HR3.out.grown hgrow Hown0.out (by omega))
  have hb1 : Below w.heap.size w w1 := Hb3.out.grown hgrow (by simp; omega) (fun q hq => by have := Hown0.out.lt q hq; omega)
  have hz1 : w.heap.size + 3 ≤ w1.heap.size := by have := hgrow.size; simp at this; omega
  clear hown' hown2 hgrow HB3 HR3 Hown0 Hb3
  have Hst := hide (And.intro ((HB4.out.below (below_alloc w1 (.cells #[.slice none 0 0, .slice ha p.hn hc] 26)))) (And.intro (Box2.new w1 (.slice none 0 0) (.slice ha p.hn hc) 26) (below_alloc w1 (.cells #[.slice none 0 0, .slice ha p.hn hc] 26))))
  go_wp2
  go_loopw [4] (fun i wr => ∃ (k : Nat) (va : Option Addr) (vc : Nat) (kb : Nat → Nat) (kv : Nat → Value), k ≤ p.n ∧ i = .int .i64 k ∧ Box2 wr w.heap.size (.slice a p.n c) (.slice a' p.hn c') ∧ Box2 wr w1.heap.size (.slice va k vc) (.slice ha p.hn hc) ∧ Laid wr (w1.heap.size + 1) k p.s kb kv (.slice va k vc) ∧ Below w1.heap.size w1 wr ∧ w1.heap.size + 1 ≤ wr.heap.size) (fun i _ => p.n - (intOf i).toNat)
  case atStart => exact ⟨0, none, 0, _, _, Nat.zero_le _, rfl, Hst.out.1, Hst.out.2.1, Laid.nil _ _ _, Hst.out.2.2, by simp⟩
  case round =>
    obtain ⟨k, va, vc, kb, kv, hk, rfl, hx, ho, hl, hbr, hzr⟩ := hrel
    have Hx := hide hx
    have Ho := hide ho
    have Hl := hide hl
    have hbw := below_next hb1 hbr
    clear hx ho hl
    by_cases hlt : k < p.n
    · have hlt' : (k : Int) < (p.n : Int) := by omega
      obtain ⟨b, off, ka, kc, rfl, hs⟩ := (Hp.out.1.below hbw).cells hlt
      have Hs := hide hs
      obtain ⟨q0, q1, q2, _⟩ := hs
      obtain ⟨⟨x0, x1⟩, ⟨x2, x3⟩⟩ := Hx.out
      obtain ⟨⟨y0, y1⟩, ⟨y2, y3⟩⟩ := Ho.out
      have hb0 : b < w.heap.size := by
        obtain ⟨b', off', _, _, he, hs0⟩ := Hp.out.1.cells hlt
        simp only [Option.some.injEq, Addr.mk.injEq, and_true] at he
        rw [he.1]; exact lt_of_cell hs0.c0
      have n0 : w1.heap.size ≠ w.heap.size := by omega
      have n1 : w1.heap.size ≠ b := by omega
      go_wp2_with fail
      go_region_law
        (first
          | (refine step_append_lies _ rfl (.tmp 18) (.tmp 25) 23 rfl (w1.heap.size + 1) 29 i1 (.agg #[.int .i64 0, .slice none 0 0, .string ⟨#[]⟩]) 3 48 (by kernel_rfl) HI1.out.1 HI1.out.2.1 HI1.out.2.2.1 HI1.out.2.2.2 rfl (by decide) (.slice va k vc) k (sc p.s kv k) (by simp [Act.eval]) ?_ ⟨w2.heap.size, 0, none⟩ 1 1 [.int .i64 (p.s k).birth, .slice na (p.s k).kn nc, .string (p.s k).data] (by simp [Act.eval]) rfl ?_ ?_ (by decide) ?_ ?_ ?_ _ rfl ?_
             exact ((Hl.out.below hb2').below (below_alloc w2 _)).row
             exact news3 _ _ _ _ _
             exact one3 _ _ _ _ _
             (unfold maxLen; omega)
             omega
             (have := hb2'.size; rw [World.size_alloc]; omega)
             intro g cap w3 hown3 hgrow3 hat3 hlt3
             have hlW := (Hl.out.below hb2').below (below_alloc w2 (.cells #[.int .i64 (p.s k).birth, .slice na (p.s k).kn nc, .string (p.s k).data] 29))
             have t3 := turned_of_grown hgrow3
             have hne : ∀ b, b < w1.heap.size + 1 → ¬ (Value.slice va k vc).ownBlock = some b := fun b hb e => by have := hlW.row.lt b e; omega
             have hX3 := ((Hx.out.below hb2').below (below_alloc w2 (.cells #[.int .i64 (p.s k).birth, .slice na (p.s k).kn nc, .string (p.s k).data] 29))).turned t3 (hne _ (by omega))
             have hO3 := ((Ho.out.below hb2').below (below_alloc w2 (.cells #[.int .i64 (p.s k).birth, .slice na (p.s k).kn nc, .string (p.s k).data] 29))).turned t3 (hne _ (by omega))
             have hS3 := (Hs.out.below hb2').below (below_alloc w2 (.cells #[.int .i64 (p.s k).birth, .slice na (p.s k).kn nc, .string (p.s k).data] 29))
             have z5 := (t3.cell (lt_of_cell hS3.c0) (hne _ (by omega))).trans hS3.c0
             have z6 := (t3.cell (lt_of_cell hS3.c1) (hne _ (by omega))).trans hS3.c1
             have z7 := (t3.cell (lt_of_cell hS3.c2) (hne _ (by omega))).trans hS3.c2
             have HX3 := hide hX3
             have HO3 := hide hO3
             obtain ⟨⟨z8, z9⟩, ⟨z10, z11⟩⟩ := hX3
             obtain ⟨⟨z12, z13⟩, ⟨z14, z15⟩⟩ := hO3
             have HL3 := hide (hlW.next (hp2.below (below_alloc w2 _)) (laid_fresh Hl.out hzr (fun h0 => by have := hpl2 h0; rw [World.size_alloc]; exact ⟨this.1, by omega⟩)) Hs.out.slot.2.2.2 hown3 hgrow3 hat3)
             have hB3 : Below w1.heap.size w1 w3 := (below_next (below_next hbr hb2') (below_alloc w2 _)).grown hgrow3 (by have := hb2'.size; rw [World.size_alloc]; omega) (fun q hq => by have := hlW.row.lt q hq; omega)
             have hZ3 : w1.heap.size + 1 ≤ w3.heap.size := by have := hgrow3.size; have := hb2'.size; rw [World.size_alloc] at *; omega
             clear hlW t3 hne hS3 hown3 hgrow3 hat3 hlt3 hp2 hpl2)
          | (go_simp; go_at_call 50; refine (l01Slot_any _ _ _ lo hi (p.s k) _ ?_ (Hn.out k hlt)).mono ?_; (first | exact Hs.out.slot | exact Hs.out.slot.below (Below.refl _ _).drew); rintro e w2 ⟨nv, nb, rfl, hp2, hpl2, hb2⟩; obtain ⟨_, na, nc, rfl, _⟩ := id hp2; have hb2' : Below wr.heap.size wr w2 := (by first | exact hb2 | exact below_undrew hb2); have z16 := ((Ho.out.below hb2').below (below_alloc w2 (.cells #[.int .i64 (p.s k).birth, .slice na (p.s k).kn nc, .string (p.s k).data] 29))).1.1; have z0 := (Hx.out.below hb2').1.1; have z1 := (Ho.out.below hb2').1.1; have z2 := (Hs.out.below hb2').c0; have z3 := (Hs.out.below hb2').c1; have z4 := (Hs.out.below hb2').c2))
      all_goals
        go_wp2
        go_roundw
        case rel => exact ⟨k + 1, some ⟨g, 0, none⟩, cap, _, _, by omega, by go_num, HX3.out.other _ (by omega), ⟨HO3.out.1.set _, HO3.out.2.other _ (Or.inr (by omega))⟩, HL3.out.put (by omega) _, hB3.setCell (Nat.le_refl _) _, by rw [World.size_setCell]; exact hZ3⟩
        case measure => simp [intOf]; omega
    · obtain rfl : k = p.n := by omega
      obtain ⟨⟨x0, x1⟩, ⟨x2, x3⟩⟩ := Hx.out
      obtain ⟨⟨y0, y1⟩, ⟨y2, y3⟩⟩ := Ho.out
      have HR5 := hide (HR4.out.below hbr)
      obtain ⟨⟨u0, u1⟩, ⟨u2, u3⟩⟩ := HR5.out
      go_wp2
      have HR6 := HR5.out.put (.slice va p.n vc) (.slice ha p.hn hc)
      have t := (Turned.put wr (w.heap.size + 1) 0 (.slice va p.n vc)).trans (Turned.put _ (w.heap.size + 1) 1 (.slice ha p.hn hc))
      have hz := t.size
      obtain ⟨bs, hso, hspl⟩ := Hl.out.own Hm.out.1
      have hrow := Hrow.out.kept (grown_of_below hbr none) (by cases hv : (Value.slice ha p.hn hc).ownBlock <;> simp)
      refine bodyPost_ret (v := .agg #[.slice va p.n vc, .slice ha p.hn hc]) (by simp [results, Try.results48, go_sem, HR6.1.1, HR6.2.1]) rfl ⟨_, _, w1.heap.size + 1, bs, kb, kv, rfl, ?_, Hl.out.apart, ?_, ?_, ?_, by omega, by omega, ?_, Hz0.out⟩
      · exact hso.turned t (fun h0 e => by have := hspl bs (Or.inl ⟨h0, rfl⟩); omega) (fun i hi h0 e => by have := hspl _ (Or.inr ⟨i, hi, h0, rfl⟩); omega)
      · intro k hk
        have := hspl k hk
        omega
      · exact own_base (ownsRow_setCell_below (ownsRow_setCell_below hrow (by show w.heap.size + 1 < _; omega) _) (by show w.heap.size + 1 < _; omega) _) (by omega)
      · intro k hk
        have := Hrow.out.lt k hk
        omega
      · exact (hbw.setCell (by show _ ≤ w.heap.size + 1; omega) _).setCell (by show _ ≤ w.heap.size + 1; omega) _

theorem l01Copy_any (v0 v1 : Value) (lo hi : Nat) (p : PoolD) (w : World) (h1 : PoolAt w lo hi v0 v1 p) (hn : poolN p ≤ 1048576) : Calls Try.prog 48 #[.agg #[v0, v1]] w (NewPool p w) := by
  refine (l01Copy_parts v0 v1 lo hi p w h1 hn).mono ?_
  rintro e w' ⟨u0, u1, M, bs, kb, kv, rfl, g1, g2, g3, g4, g5, g6, g7, g8, g9⟩
  exact ⟨u0, u1, rfl, parts_own g1 g2 g3 h1.2.1 g4 (fun k hk => ⟨(g5 k hk).1, Or.inl (g5 k hk).2⟩) g6 g9, g8⟩

end Go.Proofs.Ytikhipekmlhibaa
