/- What slices.IndexFunc (with impl.isFree) and spec.l01Take answer; what PoolTake tells. -/
import Derived.Test.YtjbcjlednedboaaHoldB
import Derived.Test.YtjbcjlednedboaaSyncA
namespace Go.Proofs.Ytjbcjlednedboaa
open Go.RowKit
set_option linter.unusedVariables false

/-- The first free slot. -/
def First (n : Nat) (f : Nat → SlotD) (i : Nat) : Prop := i < n ∧ Free (f i) ∧ ∀ j, j < i → ¬ Free (f j)
theorem First.uniq {n : Nat} {f : Nat → SlotD} {i j : Nat} (h : First n f i) (h' : First n f j) : i = j := by
  rcases Nat.lt_trichotomy i j with e | e | e
  · exact absurd h.2.1 (h'.2.2 i e)
  · exact e
  · exact absurd h'.2.1 (h.2.2 j e)

open Classical in
/-- What PoolTake tells. -/
noncomputable def takeP (p : PoolD) (s : SlotD) : OutD :=
  if Right p ∧ ¬ Free s ∧ Fits p s then (if h : ∃ i, First p.n p.s i then ⟨setS p (Classical.choose h) s, ((Classical.choose h : Nat) : Int), s.birth, 0⟩ else ⟨newP 0, 0, 0, 6⟩) else ⟨newP 0, 0, 0, 1⟩
theorem take_form {p : PoolD} {s : SlotD} (h : ¬ (Right p ∧ ¬ Free s ∧ Fits p s)) : takeP p s = ⟨newP 0, 0, 0, 1⟩ := if_neg h
theorem take_full {p : PoolD} {s : SlotD} (h : Right p ∧ ¬ Free s ∧ Fits p s) (h' : ∀ j, j < p.n → ¬ Free (p.s j)) : takeP p s = ⟨newP 0, 0, 0, 6⟩ := by
  unfold takeP
  rw [if_pos h, dif_neg (fun ⟨i, hi⟩ => h' i hi.1 hi.2.1)]
theorem take_ok {p : PoolD} {s : SlotD} {i : Nat} (h : Right p ∧ ¬ Free s ∧ Fits p s) (h' : First p.n p.s i) : takeP p s = ⟨setS p i s, (i : Int), s.birth, 0⟩ := by
  unfold takeP
  have hx : ∃ i, First p.n p.s i := ⟨i, h'⟩
  rw [if_pos h, dif_pos hx]
  have e : Classical.choose hx = i := (Classical.choose_spec hx).uniq h'
  rw [e]

theorem Turned.trans2 {S T : Nat → Prop} {a b c : World} (h : Turned S a b) (k : Turned T b c) (hst : ∀ i, T i → i < a.heap.size → S i) : Turned S a c :=
  ⟨k.os.trans h.os, k.tape.trans h.tape, k.output.trans h.output, Nat.le_trans h.size k.size, fun i hi hs => (k.block i (Nat.lt_of_lt_of_le hi h.size) (fun t => hs (hst i t hi))).trans (h.block i hi hs)⟩

theorem slotRight_iff {p : PoolD} {s : SlotD} (hR : Right p) (hf : ¬ Free s) : SlotRightI p.n p.s s ↔ Fits p s := by
  have hall : ∀ i, i < p.n → ¬ Free (p.s i) → 1 ≤ (p.s i).birth := fun i hi => fits_birth (hR.2.1 i hi)
  constructor
  · rintro (h | h | h)
    · exact absurd h hf
    · exact ⟨h.1, Or.inl h.2⟩
    · exact ⟨h.1.1, Or.inr ⟨h.1.2.1, h.1.2.2, fun j hj => (kid_iff hall).1 (h.2 j (by have := h.1.2.1; omega))⟩⟩
  · intro h
    rcases h.2 with g | g
    · exact Or.inr (Or.inl ⟨h.1, g⟩)
    · exact Or.inr (Or.inr ⟨⟨h.1, g.1, g.2.1⟩, fun j hj => (kid_iff hall).2 (g.2.2 j (by omega))⟩)

set_option maxRecDepth 20000 in
set_option maxHeartbeats 1000000 in
theorem indexFree_any (v : Value) (n lo hi : Nat) (f : Nat → SlotD) (w : World) (h1 : SlotsAt w lo hi v n f) :
    Calls Try.prog 36 #[v, .func (.func 34) #[] #[]] w fun e w' => ((∃ i : Nat, First n f i ∧ e = .returned (.int .i64 (i : Int))) ∨ ((∀ j, j < n → ¬ Free (f j)) ∧ e = .returned (.int .i64 (-1)))) ∧ Below w.heap.size w w' := by
  have Hp := hide h1
  obtain ⟨m1, a, c, rfl, mc, g1⟩ := h1
  unfold maxLen at m1
  clear g1
  go_enter Try.func36, Try.ntmps36
  go_wp2
  go_loopw [5, 8] (fun _ i wr => ∃ k : Nat, k ≤ n ∧ i = .int .i64 k ∧ (∀ j, j < k → ¬ Free (f j)) ∧ Below w.heap.size w wr) (fun _ i _ => n - (intOf i).toNat)
  case atStart => exact ⟨0, Nat.zero_le _, rfl, fun j hj => absurd hj (Nat.not_lt_zero _), Below.refl _ _⟩
  case round =>
    obtain ⟨k, hk, rfl, hall, hb⟩ := hrel
    have Hall := hide hall
    clear hall
    by_cases hlt : k < n
    · have hlt' : (k : Int) < (n : Int) := by omega
      obtain ⟨b, off, ka, kc, rfl, hs⟩ := (Hp.out.below hb).cells hlt
      have Hs := hide hs
      obtain ⟨q0, q1, q2, _⟩ := hs
      go_wp2_with fail
      refine (isFree_any _ _ _ lo hi (f k) _ Hs.out.slot).mono ?_
      rintro e w1 ⟨⟨t, rfl, ht⟩, hb1⟩
      have hbn := below_next hb hb1
      clear hb1 q0 q1 q2 Hs
      by_cases hf : Free (f k)
      · obtain rfl : t = true := ht.2 hf
        have HF := hide hf
        clear ht hf
        go_wp2
        go_ret
        exact ⟨Or.inl ⟨k, ⟨hlt, HF.out, Hall.out⟩, rfl⟩, hbn⟩
      · obtain rfl : t = false := bool_no ht hf
        have HF := hide hf
        clear ht hf
        go_wp2
        go_roundw
        case rel => exact ⟨k + 1, by omega, by go_num, relNext hlt Hall.out HF.out, hbn⟩
        case measure => simp [intOf]; omega
    · obtain rfl : k = n := by omega
      go_wp2
      go_ret
      exact ⟨Or.inr ⟨Hall.out, rfl⟩, hb⟩

set_option maxRecDepth 20000 in
set_option maxHeartbeats 1000000 in
theorem l01Take_any (OUT lo hi nb : Nat) (a : Option Addr) (c : Nat) (v1 kv : Value) (p : PoolD) (s : SlotD) (w : World) (hbox : Box2 w OUT (.slice a p.n c) v1) (hO : hi ≤ OUT) (hc : p.n ≤ c) (hown : PoolOwn w lo hi (.slice a p.n c) v1 p) (hp : PtrsOwn w nb kv s.kn s.ks s.kb)
    (hnb : 0 < s.kn → OUT < nb ∧ nb < w.heap.size) (hsz : s.data.size ≤ maxLen) (hlo : lo ≤ hi) :
    Calls Try.prog 41 #[.pointer (some ⟨OUT, 0, none⟩), .agg #[.int .i64 s.birth, kv, .string s.data]] w fun e w' =>
      (∃ i, First p.n p.s i ∧ e = .returned (.tuple #[.agg #[.int .i64 (i : Int), .int .i64 s.birth], .bool true]) ∧ Box2 w' OUT (.slice a p.n c) v1 ∧ PoolOwn w' lo w'.heap.size (.slice a p.n c) v1 (setS p i s) ∧ Turned (fun k => lo ≤ k ∧ k < hi) w w') ∨
      ((∀ j, j < p.n → ¬ Free (p.s j)) ∧ e = .returned (.tuple #[.agg #[.int .i64 0, .int .i64 0], .bool false]) ∧ Below w.heap.size w w') := by
  have hm : p.n ≤ 2 ^ 63 - 1 := hown.at.1.1
  have Hbox := hide hbox
  have Hown := hide hown
  have Hq := hide hp
  obtain ⟨_, ka, kc, rfl, _⟩ := hp
  have hOw : OUT < w.heap.size := hbox.1.lt
  clear hbox hown
  have ha := below_alloc w (.cells #[.int .i64 s.birth, .slice ka s.kn kc, .string s.data] 29)
  have ha2 := below_next ha (below_alloc _ (.cells #[.int .i64 0, .int .i64 0] 33))
  have HS := hide ((Box3.new w (.int .i64 s.birth) (.slice ka s.kn kc) (.string s.data) 29).below (below_alloc _ (.cells #[.int .i64 0, .int .i64 0] 33)))
  have hr := Box2.new (w.alloc (.cells #[.int .i64 s.birth, .slice ka s.kn kc, .string s.data] 29)) (.int .i64 0) (.int .i64 0) 33
  rw [World.size_alloc] at hr
  have HR := hide hr
  clear hr ha
  go_enter Try.func41, Try.ntmps41
  go_wp2
  go_loopw [6] (fun i wr => ∃ k : Nat, k ≤ p.n ∧ i = .int .i64 k ∧ (∀ j, j < k → ¬ Free (p.s j)) ∧ Box3 wr w.heap.size (.int .i64 s.birth) (.slice ka s.kn kc) (.string s.data) ∧ Box2 wr (w.heap.size + 1) (.int .i64 0) (.int .i64 0) ∧ Below w.heap.size w wr) (fun i _ => p.n - (intOf i).toNat)
  case atStart => exact ⟨0, Nat.zero_le _, rfl, fun j hj => absurd hj (Nat.not_lt_zero _), HS.out, HR.out, ha2⟩
  case round =>
    obtain ⟨k, hk, rfl, hall, hs, hr, hb⟩ := hrel
    have Hall := hide hall
    have Hs := hide hs
    have Hr := hide hr
    clear hall hs hr
    obtain ⟨⟨x0, x1⟩, ⟨x2, x3⟩⟩ := Hbox.out.below hb
    by_cases hlt : k < p.n
    · have hlt' : (k : Int) < (p.n : Int) := by omega
      obtain ⟨b, off, ka', kc', rfl, hc'⟩ := (Hown.out.at.1.below hb).cells hlt
      have Hc := hide hc'
      obtain ⟨q0, q1, q2, _⟩ := hc'
      go_wp2_with fail
      refine (l01Free_any _ _ _ lo hi (p.s k) _ Hc.out.slot).mono ?_
      rintro e w1 ⟨⟨t, rfl, ht⟩, hb1⟩
      have hbn := below_next hb hb1
      have Hs1 := hide (Hs.out.below hb1)
      have Hr1 := hide (Hr.out.below hb1)
      clear hb1 q0 q1 q2 Hc x0 x1 x2 x3 Hs Hr
      by_cases hf : Free (p.s k)
      · obtain rfl : t = true := ht.2 hf
        have HF := hide hf
        clear ht hf
        obtain ⟨⟨x0, x1⟩, ⟨x2, x3⟩⟩ := Hbox.out.below hbn
        obtain ⟨⟨y0, y1⟩, ⟨y2, y3⟩, ⟨y4, y5⟩⟩ := Hs1.out
        obtain ⟨⟨z0, z1⟩, ⟨z2, z3⟩⟩ := Hr1.out
        obtain ⟨bs, off', he, hbs, ⟨q0, q1, q2, ⟨r0, r1⟩, ⟨r2, r3⟩, ⟨r4, r5⟩⟩, hset⟩ := (Hown.out.below hbn).set (i := k) hlt
        simp only [Option.some.injEq, Addr.mk.injEq, and_true] at he
        obtain ⟨rfl, rfl⟩ := he
        have n0 : b ≠ OUT := by omega
        have n1 : b ≠ w.heap.size := by omega
        have n2 : b ≠ w.heap.size + 1 := by omega
        have n3 : w.heap.size + 1 ≠ w.heap.size := by omega
        go_wp2_with fail
        go_region_held3 (fun w' => w'.cell? ⟨OUT, 0, none⟩ = some (.slice (some ⟨b, off, none⟩) p.n c) ∧ w'.cell? ⟨w.heap.size, 0, none⟩ = some (.int .i64 s.birth) ∧ w'.cell? ⟨w.heap.size, 1, none⟩ = some (.slice ka s.kn kc) ∧ w'.cell? ⟨w.heap.size, 2, none⟩ = some (.string s.data)) (go_keep) (fail)
        have tX := ((Turned.put w1 b (off + k * 3) (.int .i64 s.birth)).trans (Turned.put _ b (off + k * 3 + 1) (.slice ka s.kn kc))).trans (Turned.put _ b (off + k * 3 + 2) (.string s.data))
        have HrX := hide (Hr1.out.turned tX (by omega))
        have HoX := hide (hset s nb (.slice ka s.kn kc) lo w.heap.size (Hq.out.below hbn) hsz (fun h0 => by have := hnb h0; omega) (Nat.le_refl _) (by omega))
        have HbX := hide ((Hbox.out.below hbn).turned tX (by omega))
        have HtX := hide ((Turned.of_below (S := fun k => lo ≤ k ∧ k < hi) hbn).trans2 tX (fun k hk _ => by omega))
        clear hset tX
        go_wp2
        have HR6 := HrX.out.put (.int .i64 (k : Int)) (.int .i64 s.birth)
        have t2 := (Turned.put (((w1.setCell ⟨b, off + k * 3, none⟩ (.int .i64 s.birth)).setCell ⟨b, off + k * 3 + 1, none⟩ (.slice ka s.kn kc)).setCell ⟨b, off + k * 3 + 2, none⟩ (.string s.data)) (w.heap.size + 1) 0 (.int .i64 (k : Int))).trans (Turned.put _ (w.heap.size + 1) 1 (.int .i64 s.birth))
        have hz2 := t2.size
        have hz3 := HtX.out.size
        refine bodyPost_ret (v := .tuple #[.agg #[.int .i64 (k : Int), .int .i64 s.birth], .bool true]) (by simp [results, Try.results41, go_sem, HR6.1.1, HR6.2.1]) rfl (Or.inl ⟨k, ⟨hlt, HF.out, Hall.out⟩, rfl, ?_, ?_, ?_⟩)
        · exact (HbX.out.turned t2 (by omega)).below (Below.refl _ _).drew
        · exact ((HoX.out.turned t2 (fun k hk => by omega)).wide (Nat.le_refl _) (Nat.le_trans hz3 hz2)).below (Below.refl _ _).drew
        · exact (HtX.out.trans2 t2 (fun k hk hlt => by omega)).trans (Turned.of_below (Below.refl _ _).drew)
      · obtain rfl : t = false := bool_no ht hf
        have HF := hide hf
        clear ht hf
        go_wp2
        go_roundw
        case rel => exact ⟨k + 1, by omega, by go_num, relNext hlt Hall.out HF.out, Hs1.out, Hr1.out, hbn⟩
        case measure => simp [intOf]; omega
    · obtain rfl : k = p.n := by omega
      obtain ⟨⟨z0, z1⟩, ⟨z2, z3⟩⟩ := Hr.out
      go_wp2
      have HR6 := Hr.out.put (.int .i64 0) (.int .i64 0)
      exact bodyPost_ret (v := .tuple #[.agg #[.int .i64 0, .int .i64 0], .bool false]) (by simp [results, Try.results41, go_sem, HR6.1.1, HR6.2.1]) rfl (Or.inr ⟨Hall.out, rfl, (hb.setCell (by show _ ≤ w.heap.size + 1; omega) _).setCell (by show _ ≤ w.heap.size + 1; omega) _⟩)

end Go.Proofs.Ytjbcjlednedboaa
