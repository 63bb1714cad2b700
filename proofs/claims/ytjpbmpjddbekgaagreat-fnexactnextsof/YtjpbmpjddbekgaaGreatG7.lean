/- Rows of slots and of numbers that are appended to (no law is proved here). -/
import Derived.Test.YtjpbmpjddbekgaaGreatG6
import Derived.Deep.AppendLies
import Derived.Deep.RegionHeld3
import Derived.Deep.RegionLaw
import Derived.Test.YtjpbmpjddbekgaaGreatG1
import Derived.Deep.WholeRow
namespace Go.Proofs.YtjpbmpjddbekgaaGreat
open Go.RowKit
set_option linter.unusedVariables false

/-- The cells of the first k slots, the slices of their Kids as they lie. -/
def sc (f : Nat → SlotD) (kv : Nat → Value) : Nat → List Value
  | 0 => []
  | k + 1 => sc f kv k ++ [.int .i64 (f k).birth, kv k, .string (f k).data]

theorem sc_len (f : Nat → SlotD) (kv : Nat → Value) (k : Nat) : (sc f kv k).length = k * 3 := by
  induction k with
  | zero => rfl
  | succ k ih => simp [sc, ih]; omega

theorem sc_at (f : Nat → SlotD) (kv : Nat → Value) (k i r : Nat) (hi : i < k) (hr : r < 3) : (sc f kv k)[i * 3 + r]? = [Value.int .i64 (f i).birth, kv i, .string (f i).data][r]? := by
  induction k with
  | zero => omega
  | succ k ih =>
    unfold sc
    by_cases e : i < k
    · rw [List.getElem?_append_left (by rw [sc_len]; omega)]; exact ih e
    · obtain rfl : i = k := by omega
      rw [List.getElem?_append_right (by rw [sc_len]; omega), sc_len]
      congr 1; omega

theorem sc_congr (f : Nat → SlotD) {kv kv' : Nat → Value} {k : Nat} (h : ∀ i, i < k → kv i = kv' i) : sc f kv k = sc f kv' k := by
  induction k with
  | zero => rfl
  | succ k ih =>
    unfold sc
    rw [ih (fun i hi => h i (by omega)), h k (by omega)]

theorem sc_one (f : Nat → SlotD) (kv : Nat → Value) (k : Nat) (h : ∀ i, i < k → (kv i).oneCell' = true) : ∀ u ∈ sc f kv k, u.oneCell' = true := by
  induction k with
  | zero => intro u hu; simp [sc] at hu
  | succ k ih =>
    intro u hu
    simp only [sc, List.mem_append, List.mem_cons, List.not_mem_nil, or_false] at hu
    rcases hu with hu | rfl | rfl | rfl
    · exact ih (fun i hi => h i (by omega)) u hu
    · rfl
    · exact h k (by omega)
    · rfl

theorem turned_of_grown {w w1 : World} {row : Option Nat} (h : w.grownBy w1 row) : Turned (fun b => row = some b) w w1 := ⟨h.os, h.tape, h.output, h.size, fun k hk hs => h.block k hk (fun e => hs e.symm)⟩
theorem grown_of_below {w w1 : World} (h : Below w.heap.size w w1) (row : Option Nat) : w.grownBy w1 row := ⟨h.os, h.tape, h.output, h.size, fun k hk _ => h.block k hk⟩

/-- A row of k slots that the call owns, its Kids in other blocks. -/
structure Laid (w : World) (lo k : Nat) (f : Nat → SlotD) (kb : Nat → Nat) (kv : Nat → Value) (v : Value) : Prop where
  row : w.ownsRow lo 84 3 v k (sc f kv k)
  kids : ∀ j, j < k → PtrsOwn w (kb j) (kv j) (f j).kn (f j).ks (f j).kb
  place : ∀ j, j < k → 0 < (f j).kn → lo ≤ kb j ∧ kb j < w.heap.size ∧ v.ownBlock ≠ some (kb j)
  apart : KidsApart kb k f
  small : ∀ j, j < k → (f j).data.size ≤ maxLen

theorem Laid.nil (w : World) (lo : Nat) (f : Nat → SlotD) : Laid w lo 0 f (fun _ => 0) (fun _ => .slice none 0 0) (.slice none 0 0) :=
  ⟨World.ownsRow_nil _ _ _ _, fun j hj => absurd hj (Nat.not_lt_zero _), fun j hj => absurd hj (Nat.not_lt_zero _), fun i j hi => absurd hi (Nat.not_lt_zero _), fun j hj => absurd hj (Nat.not_lt_zero _)⟩

theorem Laid.below {w w' : World} {lo k : Nat} {f : Nat → SlotD} {kb : Nat → Nat} {kv : Nat → Value} {v : Value} (h : Laid w lo k f kb kv v) (t : Below w.heap.size w w') : Laid w' lo k f kb kv v :=
  ⟨h.row.kept (grown_of_below t none) (by cases hv : v.ownBlock <;> simp), fun j hj => (h.kids j hj).below t, fun j hj h0 => by have h1 := h.place j hj h0; have := t.size; exact ⟨h1.1, by omega, h1.2.2⟩, h.apart, h.small⟩

theorem Laid.next {w w1 : World} {lo k : Nat} {f : Nat → SlotD} {kb : Nat → Nat} {kv : Nat → Value} {v : Value} (h : Laid w lo k f kb kv v) {nb g cap : Nat} {nv : Value} (hp : PtrsOwn w nb nv (f k).kn (f k).ks (f k).kb)
    (hnb : 0 < (f k).kn → lo ≤ nb ∧ nb < w.heap.size ∧ v.ownBlock ≠ some nb ∧ ∀ j, j < k → 0 < (f j).kn → kb j ≠ nb) (hs : (f k).data.size ≤ maxLen)
    (hown : w1.ownsRow lo 84 3 (.slice (some ⟨g, 0, none⟩) (k + 1) cap) (k + 1) (sc f kv k ++ [.int .i64 (f k).birth, nv, .string (f k).data])) (hg : w.grownBy w1 v.ownBlock) (hat : v.ownBlock = some g ∨ g = w.heap.size) :
    Laid w1 lo (k + 1) f (fun j => if j = k then nb else kb j) (fun j => if j = k then nv else kv j) (.slice (some ⟨g, 0, none⟩) (k + 1) cap) := by
  have t := turned_of_grown hg
  have hsz := t.size
  have far : ∀ b, b < w.heap.size → v.ownBlock ≠ some b → (Value.slice (some ⟨g, 0, none⟩) (k + 1) cap).ownBlock ≠ some b := fun b hb hne e => by
    have hgb : g = b := by simpa [Value.ownBlock] using e
    rcases hat with hx | hx
    · exact hne (by rw [hx, hgb])
    · omega
  refine ⟨?_, fun j hj => ?_, fun j hj h0 => ?_, fun i j hi hj hij h1 h2 => ?_, fun j hj => ?_⟩
  · have e : sc f (fun j => if j = k then nv else kv j) (k + 1) = sc f kv k ++ [.int .i64 (f k).birth, nv, .string (f k).data] := by
      show sc f _ k ++ [.int .i64 (f k).birth, (if k = k then nv else kv k), .string (f k).data] = _
      rw [if_pos rfl, sc_congr f (fun i hi => if_neg (by omega))]
    rw [e]; exact hown
  · by_cases e : j = k
    · subst e
      simp only [if_true]
      exact hp.turned t (fun h0 => (hnb h0).2.2.1)
    · simp only [if_neg e]
      exact (h.kids j (by omega)).turned t (fun h0 => (h.place j (by omega) h0).2.2)
  · by_cases e : j = k
    · subst e
      simp only [if_true]
      obtain ⟨h1, h2, h3, _⟩ := hnb h0
      exact ⟨h1, by omega, far _ h2 h3⟩
    · simp only [if_neg e]
      obtain ⟨h1, h2, h3⟩ := h.place j (by omega) h0
      exact ⟨h1, by omega, far _ h2 h3⟩
  · show (if i = k then nb else kb i) ≠ (if j = k then nb else kb j)
    by_cases e1 : i = k
    · by_cases e2 : j = k
      · omega
      · rw [if_pos e1, if_neg e2]
        subst e1
        exact fun e => (hnb h1).2.2.2 j (by omega) h2 e.symm
    · by_cases e2 : j = k
      · rw [if_neg e1, if_pos e2]
        subst e2
        exact (hnb h2).2.2.2 i (by omega) h1
      · rw [if_neg e1, if_neg e2]
        exact h.apart i j (by omega) (by omega) hij h1 h2
  · by_cases e : j = k
    · subst e; exact hs
    · exact h.small j (by omega)

theorem Laid.put {w : World} {lo k : Nat} {f : Nat → SlotD} {kb : Nat → Nat} {kv : Nat → Value} {v : Value} (h : Laid w lo k f kb kv v) {b o : Nat} (hb : b < lo) (u : Value) : Laid (w.setCell ⟨b, o, none⟩ u) lo k f kb kv v :=
  ⟨ownsRow_setCell_below h.row hb u, fun j hj => (h.kids j hj).turned (Turned.put _ _ _ _) (fun h0 e => by have := h.place j hj h0; omega), fun j hj h0 => by rw [World.size_setCell]; exact h.place j hj h0, h.apart, h.small⟩

theorem Laid.own {w : World} {lo n : Nat} {f : Nat → SlotD} {kb : Nat → Nat} {kv : Nat → Value} {v : Value} (h : Laid w lo n f kb kv v) (hn : n ≤ maxLen) :
    ∃ bs, SlotsOwn w bs kb kv v n f ∧ ∀ k, SlotsB bs kb n f k → lo ≤ k ∧ k < w.heap.size := by
  by_cases h0 : 0 < n
  · obtain ⟨g, cap, rfl, hcp, hb, hlt, hcell⟩ := owns_cell h.row h0
    refine ⟨g, ⟨hn, _, cap, rfl, hcp, fun _ => ⟨0, rfl, fun i hi => ⟨?_, ?_, ?_, h.kids i hi, h.small i hi, fun hk e => (h.place i hi hk).2.2 (by rw [e]; rfl)⟩⟩⟩, fun k hk => ?_⟩
    · have := hcell (i * 3 + 0) _ (sc_at f kv n i 0 hi (by omega)); simpa using this
    · have := hcell (i * 3 + 1) _ (sc_at f kv n i 1 hi (by omega)); simpa using this
    · have := hcell (i * 3 + 2) _ (sc_at f kv n i 2 hi (by omega)); simpa using this
    · rcases hk with ⟨_, rfl⟩ | ⟨i, hi, hk0, rfl⟩
      · exact ⟨hb, hlt⟩
      · exact ⟨(h.place i hi hk0).1, (h.place i hi hk0).2.1⟩
  · obtain ⟨a, cap, rfl, hcp⟩ := owns_form h.row
    refine ⟨0, ⟨hn, a, cap, rfl, hcp, fun hx => absurd hx h0⟩, fun k hk => ?_⟩
    rcases hk with ⟨hx, _⟩ | ⟨i, hi, _⟩
    · exact absurd hx h0
    · omega

/-- The cells of n numbers. -/
def ic (f : Nat → Int) : Nat → List Value
  | 0 => []
  | k + 1 => ic f k ++ [.int .i64 (f k)]

theorem ic_len (f : Nat → Int) (k : Nat) : (ic f k).length = k * 1 := by
  induction k with
  | zero => rfl
  | succ k ih => simp [ic, ih]

theorem ic_at (f : Nat → Int) (k i : Nat) (hi : i < k) : (ic f k)[i]? = some (Value.int .i64 (f i)) := by
  induction k with
  | zero => omega
  | succ k ih =>
    unfold ic
    by_cases e : i < k
    · rw [List.getElem?_append_left (by rw [ic_len]; omega)]; exact ih e
    · obtain rfl : i = k := by omega
      rw [List.getElem?_append_right (by rw [ic_len]; omega), ic_len]
      simp

theorem ic_one (f : Nat → Int) (k : Nat) : ∀ u ∈ ic f k, u.oneCell' = true := by
  induction k with
  | zero => intro u hu; simp [ic] at hu
  | succ k ih =>
    intro u hu
    simp only [ic, List.mem_append, List.mem_cons, List.not_mem_nil, or_false] at hu
    rcases hu with hu | rfl
    · exact ih u hu
    · rfl

theorem add_lit (b off j : Nat) : (⟨b, off, none⟩ : Addr).add j = ⟨b, off + j, none⟩ := by unfold Addr.add; split <;> simp_all

theorem ic_cells {w : World} {b off : Nat} {f : Nat → Int} {n : Nat} (h : ∀ i, i < n → w.cell? ⟨b, off + i, none⟩ = some (.int .i64 (f i))) :
    ∀ j u, (ic f n)[j]? = some u → w.cell? ((⟨b, off, none⟩ : Addr).add j) = some u := by
  intro j u hj
  have hlt : j < n := by
    have := (List.getElem?_eq_some_iff.1 hj).1
    rw [ic_len] at this
    omega
  rw [ic_at f n j hlt] at hj
  rw [add_lit, h j hlt]
  exact hj

theorem row_room {w : World} {base e g n cap : Nat} {xs : List Value} (h : w.ownsRow base e 1 (.slice (some ⟨g, 0, none⟩) n cap) n xs) (h0 : 0 < n) : 0 < n ∧ (some ⟨g, 0, none⟩ : Option Addr) = some ⟨g, 0, none⟩ ∧ cap ≤ maxLen ∧ ∃ cur, w.heap[g]? = some (.cells cur e (0, 0)) ∧ cur.size = cap := by
  obtain ⟨_, ⟨h, rfl⟩ | ⟨g', cap', cur, hv, _, hg, _, h2, h3, _⟩⟩ := h
  · omega
  · simp only [Value.slice.injEq, Option.some.injEq, Addr.mk.injEq, and_true, true_and] at hv
    obtain ⟨rfl, rfl⟩ := hv
    exact ⟨h0, rfl, h2, cur, hg, by simpa using h3⟩

theorem ints_of_owns {w : World} {base n : Nat} {v : Value} {f : Nat → Int} (hm : n ≤ maxLen) (h : w.ownsRow base 2 1 v n (ic f n)) (hz : n = 0 → ∃ a, v = .slice a 0 0) : ∃ hb, IntsOwn w hb v n f ∧ (0 < n → base ≤ hb ∧ hb < w.heap.size) := by
  by_cases h0 : 0 < n
  · obtain ⟨gb, cap, rfl, hcp, hb, hlt, hcell⟩ := owns_cell h h0
    refine ⟨gb, ⟨hm, _, cap, rfl, hcp, fun _ => ⟨0, rfl, fun i hi => ?_⟩, fun _ => ?_⟩, fun _ => ⟨hb, hlt⟩⟩
    · have := hcell i _ (ic_at f n i hi)
      simpa using this
    · exact row_room h h0
  · obtain ⟨a, cap, rfl, hcp⟩ := owns_form h
    exact ⟨0, ⟨hm, a, cap, rfl, hcp, fun h => absurd h h0, fun hlt => by obtain ⟨a2, e2⟩ := hz (by omega); simp only [Value.slice.injEq] at e2; omega⟩, fun h => absurd h h0⟩

theorem hide {P : Prop} (h : P) : Hid P := h

theorem wpList_append_opt {P : Program} {w : World} {ops : Array Oper} {rest : List Oper} {o : Oper} {a : Act} {Q : Exit → Act → World → Prop} (hgd : o.guard = none) (s x : Operand) (t : TypeId)
    (ho : o.op = .call { callee := .builtin .append, args := #[s, x], argTypes := #[t, t] })
    (base : Nat) (e : TypeId) (i : TypeInfo) (z : Value) (size bytes : Nat) (ht : P.underlying t = some (.slice e)) (hi : P.info? e = some i) (hz : i.zero = some z)
    (hsize : i.size = size) (hby : i.bytes = bytes) (hzs : z.cells.size = size) (hsz : 0 < size)
    (v : Value) (n : Nat) (xs : List Value) (hs : a.eval s = v) (hown : w.ownsRow base e size v n xs)
    (ao : Option Addr) (m c : Nat) (news : List Value) (hx : a.eval x = .slice ao m c) (hl : news.length = m * size) (h1 : ∀ u ∈ news, u.oneCell' = true)
    (hnews : 0 < m → ∃ b off, ao = some ⟨b, off, none⟩ ∧ ∀ j u, news[j]? = some u → w.cell? ⟨b, off + j, none⟩ = some u)
    (h63 : n + m ≤ maxLen) (hbytes : (n + m) * bytes ≤ 140737488355328) (hbase : base ≤ w.heap.size)
    (h : ∀ v' w', w'.ownsRow base e size v' (n + m) (xs ++ news) → w.grownBy w' v.ownBlock → (m = 0 → v' = v) → wpList P ops Q rest (a.put o.dst v') w') : wpList P ops Q (o :: rest) a w := by
  by_cases hm0 : m = 0
  · have hn0 : news = [] := List.eq_nil_of_length_eq_zero (by rw [hl, hm0, Nat.zero_mul])
    exact wpList_append_zero hgd s x t ho base e i size c m ao ht hi v n xs hs hown hm0 hx (h v w (by subst hm0; subst hn0; simpa using hown) ⟨rfl, rfl, rfl, Nat.le_refl _, fun _ _ _ => rfl⟩ (fun _ => rfl))
  cases ao with
  | none =>
    obtain ⟨b, off, ha, _⟩ := hnews (by omega)
    simp at ha
  | some ad =>
    refine wpList_append_own w hgd s x t ho base e i z size bytes ht hi hz hsize hby hzs hsz v n xs hs hown ad m c news hx hl (fun j u hj => ?_) h1 h63 hbytes hbase (fun v' w' g1 g2 _ => h v' w' g1 g2 (fun e => absurd e hm0))
    have h0 : 0 < m := by
      have := (List.getElem?_eq_some_iff.1 hj).1
      rw [hl] at this
      rcases Nat.eq_zero_or_pos m with hm | hm
      · rw [hm, Nat.zero_mul] at this; omega
      · exact hm
    obtain ⟨b, off, ha, hc⟩ := hnews h0
    simp only [Option.some.injEq] at ha
    subst ha
    rw [add_lit]
    exact hc j u hj



theorem news_at {w : World} {lo hi : Nat} {f : Nat → Int} {n : Nat} {v : Value} (h : IntsAt w lo hi v n f) {a : Option Addr} {c : Nat} (hv : v = .slice a n c) {w' : World} (hb : Below w.heap.size w w') :
    0 < n → ∃ b off, a = some ⟨b, off, none⟩ ∧ ∀ j u, (ic f n)[j]? = some u → w'.cell? ⟨b, off + j, none⟩ = some u := by
  obtain ⟨_, a0, c0, h0, _, g⟩ := h
  subst hv
  simp only [Value.slice.injEq, true_and] at h0
  obtain ⟨rfl, rfl⟩ := h0
  intro hn
  obtain ⟨b, off, ha, _, _, hc⟩ := g hn
  refine ⟨b, off, ha, fun j u hj => ?_⟩
  have := ic_cells hc j u hj
  rw [add_lit] at this
  exact (hb.cell (lt_of_cell this)).trans this

theorem Box2.grown {w w1 : World} {v : Value} {b base e size n : Nat} {xs : List Value} {x y : Value} (h : Box2 w b x y) (hg : w.grownBy w1 v.ownBlock) (hown : w.ownsRow base e size v n xs) (hb : b < base) : Box2 w1 b x y :=
  h.turned (turned_of_grown hg) (fun e => by have := hown.lt b e; omega)

theorem news3 (w : World) (x y z : Value) (t : TypeId) : ∀ j u, [x, y, z][j]? = some u → (w.alloc (.cells #[x, y, z] t)).cell? ((⟨w.heap.size, 0, none⟩ : Addr).add j) = some u := by
  intro j u hj
  match j, hj with
  | 0, hj => simp at hj; subst hj; simp [Addr.add]
  | 1, hj => simp at hj; subst hj; simp [Addr.add]
  | 2, hj => simp at hj; subst hj; simp [Addr.add]
  | (j + 3), hj => simp at hj
theorem one3 (x : Int) (a : Option Addr) (n c : Nat) (s : ByteArray) : ∀ u ∈ [Value.int .i64 x, .slice a n c, .string s], u.oneCell' = true := by
  intro u hu
  simp only [List.mem_cons, List.not_mem_nil, or_false] at hu
  rcases hu with rfl | rfl | rfl <;> rfl

theorem laid_fresh {wr W : World} {lo k nb m : Nat} {f : Nat → SlotD} {kb : Nat → Nat} {kv : Nat → Value} {v : Value} (h : Laid wr lo k f kb kv v) (hlo : lo ≤ wr.heap.size) (h2 : 0 < m → wr.heap.size ≤ nb ∧ nb < W.heap.size) :
    0 < m → lo ≤ nb ∧ nb < W.heap.size ∧ v.ownBlock ≠ some nb ∧ ∀ j, j < k → 0 < (f j).kn → kb j ≠ nb := fun h0 => by
  obtain ⟨h3, h4⟩ := h2 h0
  exact ⟨by omega, h4, fun e => by have := h.row.lt nb e; omega, fun j hj hk e => by have := h.place j hj hk; omega⟩

theorem laid_pool {wr : World} {lo1 lo2 : Nat} {p : PoolD} {kb : Nat → Nat} {kv : Nat → Value} {v hv : Value} {hb : Nat} (h : Laid wr lo2 p.n p.s kb kv v) (hn : p.n ≤ maxLen) (hi : IntsOwn wr hb hv p.hn p.h) (h12 : lo1 ≤ lo2) (hb1 : 0 < p.hn → lo1 ≤ hb ∧ hb < lo2) (hlo : lo2 ≤ wr.heap.size) :
    PoolOwn wr lo1 wr.heap.size v hv p := by
  obtain ⟨bs, hso, hpl⟩ := h.own hn
  refine ⟨bs, hb, kb, kv, hso, h.apart, hi, fun h0 hx => ?_, fun k hk => ?_⟩
  · have := hpl _ hx; have := hb1 h0; omega
  · rcases hk with hk | ⟨h0, rfl⟩
    · have := hpl _ hk; omega
    · have := hb1 h0; omega

/-- The answer is a new pool, its Held a row that may be appended to. -/
def NewParts (p : PoolD) (w : World) (e : Ending) (w' : World) : Prop :=
  ∃ v0 v1 M bs kb kv, e = .returned (.agg #[v0, v1]) ∧ SlotsOwn w' bs kb kv v0 p.n p.s ∧ KidsApart kb p.n p.s ∧ (∀ k, SlotsB bs kb p.n p.s k → M ≤ k ∧ k < w'.heap.size) ∧
    w'.ownsRow w.heap.size 2 1 v1 p.hn (ic p.h p.hn) ∧ (∀ k, v1.ownBlock = some k → w.heap.size ≤ k ∧ k < M) ∧ w.heap.size ≤ M ∧ M ≤ w'.heap.size ∧ Below w.heap.size w w' ∧ (p.hn = 0 → ∃ a, v1 = .slice a 0 0)

theorem ints_of_owns2 {w : World} {base n : Nat} {v : Value} {f : Nat → Int} (hm : n ≤ maxLen) (h : w.ownsRow base 2 1 v n (ic f n)) (hz : n = 0 → ∃ a, v = .slice a 0 0) : ∃ hb, IntsOwn w hb v n f ∧ (0 < n → v.ownBlock = some hb) := by
  by_cases h0 : 0 < n
  · obtain ⟨gb, cap, rfl, hcp, hb, hlt, hcell⟩ := owns_cell h h0
    refine ⟨gb, ⟨hm, _, cap, rfl, hcp, fun _ => ⟨0, rfl, fun i hi => ?_⟩, fun _ => ?_⟩, fun _ => rfl⟩
    · have := hcell i _ (ic_at f n i hi)
      simpa using this
    · exact row_room h h0
  · obtain ⟨a, cap, rfl, hcp⟩ := owns_form h
    exact ⟨0, ⟨hm, a, cap, rfl, hcp, fun h => absurd h h0, fun hlt => by obtain ⟨a2, e2⟩ := hz (by omega); simp only [Value.slice.injEq] at e2; omega⟩, fun h => absurd h h0⟩

theorem parts_own {w' : World} {p : PoolD} {v0 v1 : Value} {B M bs base : Nat} {kb : Nat → Nat} {kv : Nat → Value} (h1 : SlotsOwn w' bs kb kv v0 p.n p.s) (h2 : KidsApart kb p.n p.s) (h3 : ∀ k, SlotsB bs kb p.n p.s k → M ≤ k ∧ k < w'.heap.size) (hm : p.hn ≤ maxLen)
    (h4 : w'.ownsRow base 2 1 v1 p.hn (ic p.h p.hn)) (h5 : ∀ k, v1.ownBlock = some k → B ≤ k ∧ (k < M ∨ w'.heap.size ≤ k ∨ (k < w'.heap.size ∧ ¬ SlotsB bs kb p.n p.s k))) (h6 : B ≤ M) (hz : p.hn = 0 → ∃ a, v1 = .slice a 0 0) : PoolOwn w' B w'.heap.size v0 v1 p := by
  obtain ⟨hb, hi, hbk⟩ := ints_of_owns2 hm h4 hz
  refine ⟨bs, hb, kb, kv, h1, h2, hi, fun h0 hx => ?_, fun k hk => ?_⟩
  · have a := h3 _ hx
    have b := h5 _ (hbk h0)
    rcases b.2 with b2 | b2 | b2
    · omega
    · omega
    · exact b2.2 hx
  · rcases hk with hk | ⟨h0, rfl⟩
    · have := h3 _ hk; omega
    · have b := h5 _ (hbk h0)
      have c := h4.lt _ (hbk h0)
      exact ⟨b.1, c.2⟩

theorem own_base {w : World} {B B' e size n : Nat} {v : Value} {xs : List Value} (h : w.ownsRow B' e size v n xs) (hB : B ≤ B') : w.ownsRow B e size v n xs :=
  ⟨h.1, h.2.imp id (fun ⟨g, cap, cur, a, b, c⟩ => ⟨g, cap, cur, a, Nat.le_trans hB b, c⟩)⟩

end Go.Proofs.YtjpbmpjddbekgaaGreat

namespace Go.Proofs.YtjpbmpjddbekgaaGreat
open Go.RowKit
set_option linter.unusedVariables false

/-- The cells of a list of pointers. -/
def pcl : List (Int × Int) → List Value
  | [] => []
  | x :: l => .int .i64 x.1 :: .int .i64 x.2 :: pcl l
theorem pcl_len : ∀ l, (pcl l).length = l.length * 2
  | [] => rfl
  | x :: l => by simp [pcl, pcl_len l]; omega
theorem pcl_append : ∀ l m, pcl (l ++ m) = pcl l ++ pcl m
  | [], m => rfl
  | x :: l, m => by simp [pcl, pcl_append l m]
theorem pcl_one : ∀ l, ∀ u ∈ pcl l, u.oneCell' = true
  | [], u, hu => by simp [pcl] at hu
  | x :: l, u, hu => by
    simp only [pcl, List.mem_cons] at hu
    rcases hu with rfl | rfl | hu
    · rfl
    · rfl
    · exact pcl_one l u hu
theorem pcl_get : ∀ (l : List (Int × Int)) i, i < l.length → (pcl l)[i * 2]? = some (.int .i64 (l.getD i (0, 0)).1) ∧ (pcl l)[i * 2 + 1]? = some (.int .i64 (l.getD i (0, 0)).2) := by
  intro l
  induction l with
  | nil => intro i hi; simp at hi
  | cons x l ih =>
    intro i hi
    cases i with
    | zero => exact ⟨rfl, rfl⟩
    | succ i =>
      have := ih i (by simpa using hi)
      rw [show (i + 1) * 2 = i * 2 + 1 + 1 by omega]
      simpa [pcl] using this

def fstL (l : List (Int × Int)) (i : Nat) : Int := (l.getD i (0, 0)).1
def sndL (l : List (Int × Int)) (i : Nat) : Int := (l.getD i (0, 0)).2

theorem infoPtrL : (Tryz.prog.info? 43).map (fun i => (i.zero, i.size, i.bytes)) = some (some (.agg #[.int .i64 0, .int .i64 0]), 2, 16) := by kernel_rfl
theorem grownL {w w1 : World} (h : Below w.heap.size w w1) (row : Option Nat) : w.grownBy w1 row := ⟨h.os, h.tape, h.output, h.size, fun k hk _ => h.block k hk⟩

/-- A row of pointers in the block b. -/
def RowL (w : World) (base : Nat) (v : Value) (l : List (Int × Int)) : Prop := w.ownsRow base 43 2 v l.length (pcl l)

theorem RowL.below {w w1 : World} {base : Nat} {v : Value} {l : List (Int × Int)} (h : RowL w base v l) (hb : Below w.heap.size w w1) : RowL w1 base v l :=
  h.kept (grownL hb none) (by cases v.ownBlock <;> simp)
theorem RowL.turned {w w1 : World} {base : Nat} {v : Value} {l : List (Int × Int)} {row : Option Nat} (h : RowL w base v l) (hg : w.grownBy w1 row) (hne : ∀ q, v.ownBlock = some q → row ≠ some q) : RowL w1 base v l :=
  h.kept hg (by
    cases hv : v.ownBlock with
    | none => simp
    | some q => exact Or.inr (fun e => hne q hv e.symm))
theorem RowL.nil (w : World) (base : Nat) : RowL w base (.slice none 0 0) [] := World.ownsRow_nil _ _ _ _
theorem RowL.mono {w : World} {base base' : Nat} {v : Value} {l : List (Int × Int)} (h : RowL w base v l) (hb : base' ≤ base) : RowL w base' v l := by
  refine ⟨h.1, h.2.imp id ?_⟩
  rintro ⟨g, cap, cur, e, h1, h2⟩
  exact ⟨g, cap, cur, e, Nat.le_trans hb h1, h2⟩
theorem RowL.put {w : World} {base b o : Nat} {v : Value} {l : List (Int × Int)} (h : RowL w base v l) (hb : b < base) (u : Value) : RowL (w.setCell ⟨b, o, none⟩ u) base v l := by
  refine ⟨h.1, h.2.imp id ?_⟩
  rintro ⟨g, cap, cur, e, h1, h2, h3⟩
  exact ⟨g, cap, cur, e, h1, (Below.heap_setCell _ _ _ _ (fun e => by have : g = b := e; omega)).trans h2, h3⟩
theorem RowL.lt {w : World} {base : Nat} {v : Value} {l : List (Int × Int)} (h : RowL w base v l) {q : Nat} (hq : v.ownBlock = some q) : base ≤ q ∧ q < w.heap.size := by
  rcases h.2 with ⟨rfl, _⟩ | ⟨g, cap, cur, rfl, hb, hg, _⟩
  · simp [Value.ownBlock] at hq
  · simp only [Value.ownBlock, Option.some.injEq] at hq
    subst hq
    exact ⟨hb, (Array.getElem?_eq_some_iff.1 hg).1⟩

/-- To be written, too. -/
theorem RowL.own {w : World} {base : Nat} {v : Value} {l : List (Int × Int)} (h : RowL w base v l) (hm : l.length ≤ maxLen) : ∃ b, PtrsOwn w b v l.length (fstL l) (sndL l) ∧ (0 < l.length → v.ownBlock = some b ∧ base ≤ b ∧ b < w.heap.size) := by
  by_cases h0 : 0 < l.length
  · obtain ⟨g, cap, rfl, hcp, hb, hlt, hcell⟩ := owns_cell h h0
    refine ⟨g, ⟨hm, _, cap, rfl, hcp, fun _ => ⟨0, rfl, fun i hi => ?_⟩⟩, fun _ => ⟨rfl, hb, hlt⟩⟩
    rw [Nat.zero_add]
    exact ⟨hcell _ _ (pcl_get l i hi).1, hcell _ _ (pcl_get l i hi).2⟩
  · obtain ⟨a, cap, rfl, hcp⟩ := owns_form h
    exact ⟨0, ⟨hm, a, cap, rfl, hcp, fun h => absurd h h0⟩, fun h => absurd h h0⟩

/-- Two rows of pointers, in blocks of their own. -/
structure Two (w : World) (lo hi : Nat) (v v' : Value) (l l' : List (Int × Int)) (b b' : Nat) : Prop where
  one : PtrsOwn w b v l.length (fstL l) (sndL l)
  two : PtrsOwn w b' v' l'.length (fstL l') (sndL l')
  in1 : 0 < l.length → lo ≤ b ∧ b < hi
  in2 : 0 < l'.length → lo ≤ b' ∧ b' < hi
  apart : 0 < l.length → 0 < l'.length → b ≠ b'

theorem Two.of {w : World} {lo : Nat} {v v' : Value} {l l' : List (Int × Int)} (h : RowL w lo v l) (h' : RowL w lo v' l') (hm : l.length ≤ maxLen) (hm' : l'.length ≤ maxLen) (ha : ∀ q, v.ownBlock = some q → v'.ownBlock ≠ some q) : ∃ b b', Two w lo w.heap.size v v' l l' b b' := by
  obtain ⟨b, h1, h2⟩ := h.own hm
  obtain ⟨b', h3, h4⟩ := h'.own hm'
  refine ⟨b, b', h1, h3, fun h0 => (h2 h0).2, fun h0 => (h4 h0).2, fun h0 h0' e => ?_⟩
  subst e
  exact ha _ (h2 h0).1 (h4 h0').1
theorem Two.below {w w' : World} {lo hi : Nat} {v v' : Value} {l l' : List (Int × Int)} {b b' : Nat} (h : Two w lo hi v v' l l' b b') (t : Below w.heap.size w w') : Two w' lo hi v v' l l' b b' := ⟨h.one.below t, h.two.below t, h.in1, h.in2, h.apart⟩
theorem Two.turned {S : Nat → Prop} {w w' : World} {lo hi : Nat} {v v' : Value} {l l' : List (Int × Int)} {b b' : Nat} (h : Two w lo hi v v' l l' b b') (t : Turned S w w') (hs : ∀ k, S k → k < lo ∨ hi ≤ k) : Two w' lo hi v v' l l' b b' :=
  ⟨h.one.turned t (fun h0 hx => by have := h.in1 h0; have := hs _ hx; omega), h.two.turned t (fun h0 hx => by have := h.in2 h0; have := hs _ hx; omega), h.in1, h.in2, h.apart⟩

end Go.Proofs.YtjpbmpjddbekgaaGreat

namespace Go.Proofs.YtjpbmpjddbekgaaGreat
open Go.RowKit
set_option linter.unusedVariables false

/-- The answer is a new row that holds these pointers. -/
def NewRow (l : List (Int × Int)) (w : World) (e : Ending) (w' : World) : Prop := ∃ v, e = .returned v ∧ w'.ownsRow w.heap.size 43 2 v l.length (pcl l) ∧ Below w.heap.size w w'

/-- What is below the first k Kids. -/
def catUp (F : Int → Int → List (Int × Int)) (s : SlotD) : Nat → List (Int × Int)
  | 0 => []
  | k + 1 => catUp F s k ++ F (kidS s k) (kidB s k)
theorem catUp_one (s : SlotD) : ∀ k, catUp one s k = kidsUp (kidS s) (kidB s) k
  | 0 => rfl
  | k + 1 => by rw [catUp, kidsUp, catUp_one s k]
theorem catUp_mid (p : PoolD) (s : SlotD) : ∀ k, catUp (midL p) s k = subUp p s k
  | 0 => rfl
  | k + 1 => by rw [catUp, subUp, catUp_mid p s k]
theorem catUp_len {F : Int → Int → List (Int × Int)} (hF : ∀ a b, (F a b).length ≤ 9) (s : SlotD) : ∀ k, (catUp F s k).length ≤ 9 * k
  | 0 => Nat.le_refl _
  | k + 1 => by
    have := catUp_len hF s k
    have := hF (kidS s k) (kidB s k)
    rw [catUp, List.length_append]
    omega
def stepL (p : PoolD) (F : Int → Int → List (Int × Int)) (xs xb : Int) : List (Int × Int) := if Nil xs xb then [] else (xs, xb) :: catUp F (p.s xs.toNat) 8

def PtrsAtL (p : PoolD) (L : Int) (F : Int → Int → List (Int × Int)) : Prop := ∀ (v : Value) (lo hi : Nat) (xs xb : Int) (w : World), SlotsAt w lo hi v p.n p.s → (Nil xs xb ∨ Points p xs xb) →
  Calls Tryz.prog 163 #[v, .agg #[.int .i64 xs, .int .i64 xb], .int .i64 L] w (NewRow (F xs xb) w)

/-- A row of pointers is no array of Kids. -/
theorem row_not_arr {w : World} {base n K : Nat} {v : Value} {xs : List Value} {cs : Array Value} (h : w.ownsRow base 43 2 v n xs) (hK : w.heap[K]? = some (.cells cs 201 (0, 0))) : v.ownBlock ≠ some K := by
  intro e
  rcases h.2 with ⟨rfl, _⟩ | ⟨g, cap, cur, rfl, _, hg, _⟩
  · simp [Value.ownBlock] at e
  · simp only [Value.ownBlock, Option.some.injEq] at e
    subst e
    rw [hK] at hg
    simp only [Option.some.injEq, Obj.cells.injEq] at hg
    exact absurd hg.2.1 (by decide)

theorem not_nil_bool {xs xb : Int} (h : ¬ Nil xs xb) : (xs == 0) = false ∨ (xs == 0) = true ∧ (xb == 0) = false := by
  by_cases h0 : xs = 0
  · right
    refine ⟨by simp [h0], ?_⟩
    have : xb ≠ 0 := fun h' => h ⟨h0, h'⟩
    simp [this]
  · left; simp [h0]

set_option maxRecDepth 20000 in
set_option maxHeartbeats 1000000 in
theorem ptrs2_any (p : PoolD) : PtrsAtL p 2 one := by
  intro v lo hi xs xb w hs hP
  obtain ⟨_, a, c, rfl, _⟩ := id hs
  have ha := below_alloc w (.cells #[.int .i64 xs, .int .i64 xb] 43)
  obtain ⟨⟨x0, x1⟩, ⟨x2, x3⟩⟩ := Box2.new w (.int .i64 xs) (.int .i64 xb) 43
  have hlit := World.ownsRow_lit (e := 43) (size := 2) (base := w.heap.size) (w.alloc (.cells #[.int .i64 xs, .int .i64 xb] 43)) #[.int .i64 xs, .int .i64 xb] 1 (by simp) (by unfold maxLen; omega) rfl
  rw [World.size_alloc] at hlit
  have Hlit := hideT hlit
  have HB := hideT (below_next ha (below_alloc _ (.cells #[.int .i64 xs, .int .i64 xb] 43)))
  clear hlit
  by_cases hn : Nil xs xb
  · have HN := hideT hn
    obtain ⟨rfl, rfl⟩ := hn
    go_enter Tryz.func163, Tryz.ntmps163
    go_wp2
    go_ret
    exact ⟨_, rfl, by rw [show one 0 0 = [] from if_pos HN.out]; exact World.ownsRow_nil _ _ _ _, ha⟩
  · have HN := hideT hn
    have e0 := not_nil_bool hn
    clear hn
    rcases e0 with e0 | ⟨e0, e1⟩
    all_goals
      go_enter Tryz.func163, Tryz.ntmps163
      go_wp2
      go_ret
      exact ⟨_, rfl, by rw [show one xs xb = [(xs, xb)] from if_neg HN.out]; exact Hlit.out, HB.out⟩

set_option maxRecDepth 20000 in
set_option maxHeartbeats 2000000 in
theorem ptrs_step (p : PoolD) (L : Int) (F : Int → Int → List (Int × Int)) (hR : Right p) (hL : 0 ≤ L ∧ L < 2) (hF : ∀ a b, (F a b).length ≤ 9) (hlow : PtrsAtL p (L + 1) F) : PtrsAtL p L (stepL p F) := by
  intro v lo hi xs xb w hs hP
  have Hs := hideT hs
  obtain ⟨_, a, c, rfl, _⟩ := id hs
  have ha := below_alloc w (.cells #[.int .i64 xs, .int .i64 xb] 43)
  obtain ⟨⟨x0, x1⟩, ⟨x2, x3⟩⟩ := Box2.new w (.int .i64 xs) (.int .i64 xb) 43
  have hL2 : (L == 2) = false := by simp; omega
  clear hs
  by_cases hn : Nil xs xb
  · have HN := hideT hn
    obtain ⟨rfl, rfl⟩ := hn
    go_enter Tryz.func163, Tryz.ntmps163
    go_wp2
    go_ret
    exact ⟨_, rfl, by rw [show stepL p F 0 0 = [] from if_pos HN.out]; exact World.ownsRow_nil _ _ _ _, ha⟩
  · have HN := hideT hn
    have e0 := not_nil_bool hn
    have hPt : Points p xs xb := hP.resolve_left hn
    have Hf := hideT (points_fits hR hPt)
    have Hlow := hideT hlow
    have HF := hideT hF
    obtain ⟨k, rfl⟩ := Int.eq_ofNat_of_zero_le hPt.2.1
    rw [Int.toNat_natCast] at Hf
    have hk : k < p.n := by have := hPt.2.2.1; omega
    have hk' : (k : Int) < (p.n : Int) := by omega
    clear hn hP hPt hlow hR hF
    have hlit := World.ownsRow_lit (e := 43) (size := 2) (base := w.heap.size + 1) (w.alloc (.cells #[.int .i64 (k : Int), .int .i64 xb] 43)) #[.int .i64 (k : Int), .int .i64 xb] 1 (by simp) (by unfold maxLen; omega) rfl
    rw [World.size_alloc] at hlit
    have Hlit := hideT hlit
    have ha2 := below_alloc (w.alloc (.cells #[.int .i64 (k : Int), .int .i64 xb] 43)) (.cells #[.int .i64 (k : Int), .int .i64 xb] 43)
    have hB2 := below_next ha ha2
    have hxb := (Box2.new w (.int .i64 (k : Int)) (.int .i64 xb) 43).below ha2
    clear x0 x1 x2 x3 hlit ha ha2
    obtain ⟨⟨x0, x1⟩, ⟨x2, x3⟩⟩ := hxb
    obtain ⟨b, off, ka, kc, rfl, hsc⟩ := (Hs.out.below hB2).cells hk
    have HC := hideT hsc
    obtain ⟨q0, q1, q2, _⟩ := hsc
    obtain ⟨y0, y1⟩ := (Box2.new w (.int .i64 (k : Int)) (.int .i64 xb) 43).1
    obtain ⟨y2, y3⟩ := (Box2.new w (.int .i64 (k : Int)) (.int .i64 xb) 43).2
    rcases e0 with e0 | ⟨e0, e1⟩
    all_goals
      go_enter Tryz.func163, Tryz.ntmps163
      go_wp2_with fail
      refine (kidsOf_any _ _ _ lo hi (p.s k) _ HC.out.slot (fits_kn Hf.out)).mono ?_
      rintro e w1 ⟨rfl, hb1⟩
      have hB1 := below_next hB2 hb1
      have hrow1 := Hlit.out.kept (grown_of_below hb1 none) (Or.inr (by simp [Value.ownBlock]))
      have Hi16 : Hid ((Tryz.prog.info? 201).map (·.size) = some (kidsA (p.s k)).size) := by
        show _ = _
        rw [kidsA, arr16_size]; exact infoArr
      have hblk : (w1.alloc (.cells (kidsA (p.s k)) 201)).heap[w1.heap.size]? = some (.cells (kidsA (p.s k)) 201 (0, 0)) := heap_alloc_last _ _
      have HK := hideT hblk
      have Hrow := hideT (hrow1.alloc (.cells (kidsA (p.s k)) 201))
      have hB3 := below_next hB1 (below_alloc w1 (.cells (kidsA (p.s k)) 201))
      have hz1 : w.heap.size + 2 ≤ w1.heap.size := by have := hb1.size; rw [World.size_alloc, World.size_alloc] at this; omega
      obtain ⟨i0, hi0, hzz⟩ := Option.map_eq_some_iff.1 infoPtrT
      simp only [Prod.mk.injEq] at hzz
      have HT := hideT (And.intro hi0 hzz)
      clear hb1 hB1 hrow1 hblk hB2 x0 x1 x2 x3 y0 y1 y2 y3 q0 q1 q2 HC Hlit hi0 hzz
      go_wp2_with (first
        | (refine wpList_store_row rfl 201 (.tmp 8) (.tmp 23) rfl w1.heap.size (kidsA (p.s k)) rfl rfl 201 #[Value.int .i64 0, Value.int .i64 0, Value.int .i64 0, Value.int .i64 0, Value.int .i64 0, Value.int .i64 0, Value.int .i64 0, Value.int .i64 0, Value.int .i64 0, Value.int .i64 0, Value.int .i64 0, Value.int .i64 0, Value.int .i64 0, Value.int .i64 0, Value.int .i64 0, Value.int .i64 0] (heap_alloc_last _ _) Hi16.out (by rw [kidsA, arr16_size]; rfl) (arr16_one _) ?_; rw [World.setRow_alloc_new]))
      go_loopw [7, 24] (fun o i wr => ∃ (j : Nat) (oa : Option Addr) (oc : Nat), j ≤ 8 ∧ i = .int .i64 j ∧ o = .slice oa (((k : Int), xb) :: catUp F (p.s k) j).length oc ∧ wr.ownsRow (w.heap.size + 1) 43 2 o (((k : Int), xb) :: catUp F (p.s k) j).length (pcl (((k : Int), xb) :: catUp F (p.s k) j)) ∧ wr.heap[w1.heap.size]? = some (.cells (kidsA (p.s k)) 201 (0, 0)) ∧ Below w.heap.size w wr) (fun _ i _ => 8 - (intOf i).toNat)
      case atStart => exact ⟨0, _, _, Nat.zero_le _, rfl, rfl, Hrow.out, HK.out, hB3⟩
      case round =>
        obtain ⟨j, oa, oc, hj, rfl, rfl, hown, hK, hb⟩ := hrel
        have Hown := hideT hown
        have HKr := hideT hK
        have hszK : w1.heap.size < wr.heap.size := (Array.getElem?_eq_some_iff.1 hK).1
        have hlen := catUp_len HF.out (p.s k) j
        clear hown hK
        by_cases hlt : j < 8
        · have hlt' : (j : Int) < 8 := by omega
          obtain ⟨y0, y1⟩ := cell_of_block (i := j * 2) HKr.out (arr16_at (kidCell (p.s k)) (by omega))
          obtain ⟨y2, y3⟩ := cell_of_block (i := j * 2 + 1) HKr.out (arr16_at (kidCell (p.s k)) (by omega))
          have Hkp : Hid (Nil (kidCell (p.s k) (j * 2)) (kidCell (p.s k) (j * 2 + 1)) ∨ Points p (kidCell (p.s k) (j * 2)) (kidCell (p.s k) (j * 2 + 1))) := by
            by_cases hn : Nil (kidS (p.s k) j) (kidB (p.s k) j)
            · exact Or.inl hn
            · exact Or.inr (kid_points Hf.out hlt hn).1
          go_wp2_with fail
          refine (Hlow.out _ lo hi (kidCell (p.s k) (j * 2)) (kidCell (p.s k) (j * 2 + 1)) _ (Hs.out.below hb) Hkp.out).mono ?_
          rintro e w2 ⟨v2, rfl, hown2, hb2⟩
          obtain ⟨na, nc, rfl, _⟩ := owns_form hown2
          have hl9 := HF.out (kidCell (p.s k) (j * 2)) (kidCell (p.s k) (j * 2 + 1))
          have Hown2 := hideT hown2
          have HownO := hideT (Hown.out.kept (grown_of_below hb2 none) (by cases hv : (Value.slice oa (((k : Int), xb) :: catUp F (p.s k) j).length oc).ownBlock <;> simp))
          have HK2 := hideT ((hb2.block _ hszK).trans HKr.out)
          have hbn := below_next hb hb2
          have hz2 := hb2.size
          clear hown2 hb2 y0 y1 y2 y3 Hown HKr
          go_wp2_with (first
            | (at_builtin; refine wpList_append_opt rfl _ _ 44 rfl (w.heap.size + 1) 43 i0 (.agg #[.int .i64 0, .int .i64 0]) 2 16 (by kernel_rfl) HT.out.1 HT.out.2.1 HT.out.2.2.1 HT.out.2.2.2 rfl (by decide) (.slice oa (((k : Int), xb) :: catUp F (p.s k) j).length oc) (((k : Int), xb) :: catUp F (p.s k) j).length (pcl (((k : Int), xb) :: catUp F (p.s k) j)) rfl ?c0 na (F (kidCell (p.s k) (j * 2)) (kidCell (p.s k) (j * 2 + 1))).length nc (pcl (F (kidCell (p.s k) (j * 2)) (kidCell (p.s k) (j * 2 + 1)))) rfl (pcl_len _) (pcl_one _) ?c1 ?c3 ?c4 ?c5 ?_))
          case c0 => exact HownO.out
          case c1 =>
            intro h0
            obtain ⟨g, cap, e, _, _, _, hcell⟩ := owns_cell Hown2.out h0
            simp only [Value.slice.injEq, true_and] at e
            exact ⟨g, 0, e.1, fun j u hj => by rw [Nat.zero_add]; exact (hcell j u hj).1⟩
          case c3 => rw [List.length_cons]; unfold maxLen; omega
          case c4 => rw [List.length_cons]; omega
          case c5 => omega
          intro v3 w3 hown3 hgrow3 _
          have hcat : ((k : Int), xb) :: catUp F (p.s k) (j + 1) = (((k : Int), xb) :: catUp F (p.s k) j) ++ F (kidCell (p.s k) (j * 2)) (kidCell (p.s k) (j * 2 + 1)) := rfl
          have hcl : (catUp F (p.s k) j).length + 1 + (F (kidCell (p.s k) (j * 2)) (kidCell (p.s k) (j * 2 + 1))).length = (((k : Int), xb) :: catUp F (p.s k) (j + 1)).length := by rw [hcat, List.length_append, List.length_cons]
          rw [← pcl_append, ← hcat, hcl] at hown3
          have HK3 := hideT ((hgrow3.block _ (by omega) (fun e => row_not_arr HownO.out HK2.out e.symm)).trans HK2.out)
          have hB4 := hbn.grown hgrow3 hbn.size (fun q hq => by have := HownO.out.lt q hq; omega)
          obtain ⟨oa3, oc3, rfl, _⟩ := owns_form hown3
          have Hown3 := hideT hown3
          clear hown3 hgrow3 hcat hcl
          go_wp2
          go_roundw
          case rel => exact ⟨j + 1, oa3, oc3, by omega, by go_num, rfl, Hown3.out, HK3.out, hB4⟩
          case measure => simp [intOf]; omega
        · obtain rfl : j = 8 := by omega
          go_wp2
          go_ret
          refine ⟨_, rfl, ?_, hb⟩
          rw [show stepL p F (k : Int) xb = ((k : Int), xb) :: catUp F (p.s k) 8 by unfold stepL; rw [if_neg HN.out, Int.toNat_natCast]]
          exact own_base Hown.out (by omega)

theorem ptrs1_any (p : PoolD) (hR : Right p) : PtrsAtL p 1 (midL p) := by
  have h := ptrs_step p 1 one hR (by omega) (fun a b => by unfold one; split <;> simp) (ptrs2_any p)
  have e : stepL p one = midL p := by
    funext xs xb
    unfold stepL midL lowL
    rw [catUp_one]
  rw [e] at h
  exact h
theorem ptrs0_any (p : PoolD) (hR : Right p) : PtrsAtL p 0 (treeL p) := by
  have h := ptrs_step p 0 (midL p) hR (by omega) (midL_len p) (ptrs1_any p hR)
  have e : stepL p (midL p) = treeL p := by
    funext xs xb
    unfold stepL treeL
    rw [catUp_mid]
  rw [e] at h
  exact h

end Go.Proofs.YtjpbmpjddbekgaaGreat

namespace Go.Proofs.YtjpbmpjddbekgaaGreat
open Go.RowKit
set_option linter.unusedVariables false

def HasP (n : Nat) (f g : Nat → Int) (x y : Int) : Prop := ∃ j, j < n ∧ f j = x ∧ g j = y

theorem PtrsAt.cellsT {w : World} {lo hi : Nat} {a : Option Addr} {n c : Nat} {f g : Nat → Int} (h : PtrsAt w lo hi (.slice a n c) n f g) {k : Nat} (hk : k < n) : ∃ b off, a = some ⟨b, off, none⟩ ∧ w.cell? ⟨b, off + k * 2, none⟩ = some (.int .i64 (f k)) ∧ w.cell? ⟨b, off + k * 2 + 1, none⟩ = some (.int .i64 (g k)) := by
  obtain ⟨_, a2, c2, hv, _, hx⟩ := h
  simp only [Value.slice.injEq, true_and] at hv
  obtain ⟨rfl, rfl⟩ := hv
  obtain ⟨b, off, ha, _, _, h3⟩ := hx (by omega)
  exact ⟨b, off, ha, (h3 k hk).1, (h3 k hk).2⟩
theorem PtrsAt.take {w : World} {lo hi : Nat} {a : Option Addr} {n c m c' : Nat} {f g : Nat → Int} (h : PtrsAt w lo hi (.slice a n c) n f g) (hm : m ≤ n) (hc : m ≤ c') : PtrsAt w lo hi (.slice a m c') m f g := by
  obtain ⟨h0, a2, c2, hv, _, hx⟩ := h
  simp only [Value.slice.injEq, true_and] at hv
  obtain ⟨rfl, rfl⟩ := hv
  refine ⟨by omega, _, c', rfl, hc, fun h1 => ?_⟩
  obtain ⟨b, off, ha, hl, hh, h3⟩ := hx (by omega)
  exact ⟨b, off, ha, hl, hh, fun i hi => h3 i (by omega)⟩

set_option maxRecDepth 20000 in
set_option maxHeartbeats 1000000 in
theorem indexPtr_any (v : Value) (n lo hi : Nat) (f g : Nat → Int) (x y : Int) (w : World) (h1 : PtrsAt w lo hi v n f g) :
    Calls Tryz.prog 180 #[v, .agg #[.int .i64 x, .int .i64 y]] w fun e w' => (∃ r : Int, e = .returned (.int .i64 r) ∧ (0 ≤ r ↔ HasP n f g x y)) ∧ Below w.heap.size w w' := by
  have Hp := hideT h1
  obtain ⟨m1, a, c, rfl, mc, _⟩ := id h1
  unfold maxLen at m1
  clear h1
  have ha := below_alloc w (.cells #[.int .i64 x, .int .i64 y] 43)
  have HB := hideT (Box2.new w (.int .i64 x) (.int .i64 y) 43)
  go_enter Tryz.func180, Tryz.ntmps180
  go_wp2
  go_loopw [8] (fun i wr => ∃ k : Nat, k ≤ n ∧ i = .int .i64 k ∧ ¬ HasP k f g x y ∧ Box2 wr w.heap.size (.int .i64 x) (.int .i64 y) ∧ Below w.heap.size w wr) (fun i _ => n - (intOf i).toNat)
  case atStart => exact ⟨0, Nat.zero_le _, rfl, fun ⟨j, hj, _⟩ => absurd hj (Nat.not_lt_zero _), HB.out, ha⟩
  case round =>
    obtain ⟨k, hk, rfl, hno, hX, hb⟩ := hrel
    have Hno := hideT hno
    have HX := hideT hX
    clear hno hX
    obtain ⟨⟨x0, x1⟩, ⟨x2, x3⟩⟩ := HX.out
    by_cases hlt : k < n
    · have hlt' : (k : Int) < (n : Int) := by omega
      obtain ⟨b, off, rfl, q0, q1⟩ := (Hp.out.below hb).cellsT hlt
      by_cases he : x = f k ∧ y = g k
      · have H := hideT (show HasP n f g x y from ⟨k, hlt, he.1.symm, he.2.symm⟩)
        rw [← he.1] at q0
        rw [← he.2] at q1
        clear he
        go_wp2
        go_quiet (fail)
        go_wp2
        go_ret
        exact ⟨⟨_, rfl, ⟨fun _ => H.out, fun _ => Int.natCast_nonneg _⟩⟩, below_drewN hb _⟩
      · have H := hideT he
        have e0 : (x == f k) = false ∨ (x == f k) = true ∧ (y == g k) = false := by
          by_cases h : x = f k
          · right
            refine ⟨by simp [h], ?_⟩
            have : y ≠ g k := fun h' => he ⟨h, h'⟩
            simp [this]
          · left; simp [h]
        clear he
        rcases e0 with e0 | ⟨e0, e1⟩
        all_goals
          go_wp2
          go_quiet (fail)
          go_wp2
          go_roundw
          case rel =>
            refine ⟨k + 1, by omega, by go_num, ?_, HX.out.below (below_drewN (Below.refl _ _) _), below_drewN hb _⟩
            rintro ⟨j, hj, hjx⟩
            by_cases e : j = k
            · subst e; exact H.out ⟨hjx.1.symm, hjx.2.symm⟩
            · exact Hno.out ⟨j, by omega, hjx⟩
          case measure => simp [intOf]; omega
    · obtain rfl : k = n := by omega
      go_wp2
      go_ret
      exact ⟨⟨-1, rfl, ⟨fun h => absurd h (by omega), fun h => absurd h Hno.out⟩⟩, hb⟩

set_option maxRecDepth 20000 in
set_option maxHeartbeats 400000 in
theorem containsPtr_any (v : Value) (n lo hi : Nat) (f g : Nat → Int) (x y : Int) (w : World) (h1 : PtrsAt w lo hi v n f g) :
    Calls Tryz.prog 166 #[v, .agg #[.int .i64 x, .int .i64 y]] w fun e w' => BoolIs (HasP n f g x y) e ∧ Below w.heap.size w w' := by
  have Hi := hideT h1
  obtain ⟨m1, a, c, rfl, mc, _⟩ := id h1
  clear h1
  have ha := below_alloc w (.cells #[.int .i64 x, .int .i64 y] 43)
  go_enter Tryz.func166, Tryz.ntmps166
  go_wp2_with fail
  refine (indexPtr_any _ n lo hi f g x y _ (Hi.out.below ha)).mono ?_
  rintro e w' ⟨⟨r, rfl, hr⟩, hb⟩
  have Hr := hideT hr
  have hB := below_next ha hb
  clear hr hb
  go_wp2
  go_ret
  exact ⟨⟨_, rfl, by simpa using Hr.out⟩, hB⟩

end Go.Proofs.YtjpbmpjddbekgaaGreat
