/- The cells of a list of pointers; a row of pointers that a call has built, to be read and to be written (no law is proved here). -/
import Derived.Test.YtikhipekmlhibaaG1
import Derived.Deep.AppendLies
import Derived.Deep.WholeRow
import Derived.Test.YtikhipekmlhibaaG2
import Derived.Test.YtikhipekmlhibaaG5
import Derived.Test.YtikhipekmlhibaaG11
import Derived.Test.YtikhipekmlhibaaG7
import Derived.Test.YtikhipekmlhibaaG8
namespace Go.Proofs.Ytikhipekmlhibaa
open Go.RowKit
set_option linter.unusedVariables false

/-- The cells of a list of pointers. -/
def pcl : List (Int × Int) → List Value
  | [] => []
  | x :: l => .int .i64 x.1 :: .int .i64 x.2 :: pcl l
theorem pcl_len : ∀ l, (pcl l).length = l.length * 2
  | [] => rfl
  | x :: l => by simp [pcl, pcl_len l]; omega
theorem pcl_append : ∀ l m, pcl (l ++ m) = pcl l ++ pcl m
  | [], m => rfl
  | x :: l, m => by simp [pcl, pcl_append l m]
theorem pcl_one : ∀ l, ∀ u ∈ pcl l, u.oneCell' = true
  | [], u, hu => by simp [pcl] at hu
  | x :: l, u, hu => by
    simp only [pcl, List.mem_cons] at hu
    rcases hu with rfl | rfl | hu
    · rfl
    · rfl
    · exact pcl_one l u hu
theorem pcl_get : ∀ (l : List (Int × Int)) i, i < l.length → (pcl l)[i * 2]? = some (.int .i64 (l.getD i (0, 0)).1) ∧ (pcl l)[i * 2 + 1]? = some (.int .i64 (l.getD i (0, 0)).2) := by
  intro l
  induction l with
  | nil => intro i hi; simp at hi
  | cons x l ih =>
    intro i hi
    cases i with
    | zero => exact ⟨rfl, rfl⟩
    | succ i =>
      have := ih i (by simpa using hi)
      rw [show (i + 1) * 2 = i * 2 + 1 + 1 by omega]
      simpa [pcl] using this

def fstL (l : List (Int × Int)) (i : Nat) : Int := (l.getD i (0, 0)).1
def sndL (l : List (Int × Int)) (i : Nat) : Int := (l.getD i (0, 0)).2

theorem infoPtrL : (Try.prog.info? 33).map (fun i => (i.zero, i.size, i.bytes)) = some (some (.agg #[.int .i64 0, .int .i64 0]), 2, 16) := by kernel_rfl
theorem grownL {w w1 : World} (h : Below w.heap.size w w1) (row : Option Nat) : w.grownBy w1 row := ⟨h.os, h.tape, h.output, h.size, fun k hk _ => h.block k hk⟩

/-- A row of pointers in the block b. -/
def RowL (w : World) (base : Nat) (v : Value) (l : List (Int × Int)) : Prop := w.ownsRow base 33 2 v l.length (pcl l)

theorem RowL.below {w w1 : World} {base : Nat} {v : Value} {l : List (Int × Int)} (h : RowL w base v l) (hb : Below w.heap.size w w1) : RowL w1 base v l :=
  h.kept (grownL hb none) (by cases v.ownBlock <;> simp)
theorem RowL.turned {w w1 : World} {base : Nat} {v : Value} {l : List (Int × Int)} {row : Option Nat} (h : RowL w base v l) (hg : w.grownBy w1 row) (hne : ∀ q, v.ownBlock = some q → row ≠ some q) : RowL w1 base v l :=
  h.kept hg (by
    cases hv : v.ownBlock with
    | none => simp
    | some q => exact Or.inr (fun e => hne q hv e.symm))
theorem RowL.nil (w : World) (base : Nat) : RowL w base (.slice none 0 0) [] := World.ownsRow_nil _ _ _ _
theorem RowL.mono {w : World} {base base' : Nat} {v : Value} {l : List (Int × Int)} (h : RowL w base v l) (hb : base' ≤ base) : RowL w base' v l := by
  refine ⟨h.1, h.2.imp id ?_⟩
  rintro ⟨g, cap, cur, e, h1, h2⟩
  exact ⟨g, cap, cur, e, Nat.le_trans hb h1, h2⟩
theorem RowL.put {w : World} {base b o : Nat} {v : Value} {l : List (Int × Int)} (h : RowL w base v l) (hb : b < base) (u : Value) : RowL (w.setCell ⟨b, o, none⟩ u) base v l := by
  refine ⟨h.1, h.2.imp id ?_⟩
  rintro ⟨g, cap, cur, e, h1, h2, h3⟩
  exact ⟨g, cap, cur, e, h1, (Below.heap_setCell _ _ _ _ (fun e => by have : g = b := e; omega)).trans h2, h3⟩
theorem RowL.lt {w : World} {base : Nat} {v : Value} {l : List (Int × Int)} (h : RowL w base v l) {q : Nat} (hq : v.ownBlock = some q) : base ≤ q ∧ q < w.heap.size := by
  rcases h.2 with ⟨rfl, _⟩ | ⟨g, cap, cur, rfl, hb, hg, _⟩
  · simp [Value.ownBlock] at hq
  · simp only [Value.ownBlock, Option.some.injEq] at hq
    subst hq
    exact ⟨hb, (Array.getElem?_eq_some_iff.1 hg).1⟩

/-- To be written, too. -/
theorem RowL.own {w : World} {base : Nat} {v : Value} {l : List (Int × Int)} (h : RowL w base v l) (hm : l.length ≤ maxLen) : ∃ b, PtrsOwn w b v l.length (fstL l) (sndL l) ∧ (0 < l.length → v.ownBlock = some b ∧ base ≤ b ∧ b < w.heap.size) := by
  by_cases h0 : 0 < l.length
  · obtain ⟨g, cap, rfl, hcp, hb, hlt, hcell⟩ := owns_cell h h0
    refine ⟨g, ⟨hm, _, cap, rfl, hcp, fun _ => ⟨0, rfl, fun i hi => ?_⟩⟩, fun _ => ⟨rfl, hb, hlt⟩⟩
    rw [Nat.zero_add]
    exact ⟨hcell _ _ (pcl_get l i hi).1, hcell _ _ (pcl_get l i hi).2⟩
  · obtain ⟨a, cap, rfl, hcp⟩ := owns_form h
    exact ⟨0, ⟨hm, a, cap, rfl, hcp, fun h => absurd h h0⟩, fun h => absurd h h0⟩

/-- Two rows of pointers, in blocks of their own. -/
structure Two (w : World) (lo hi : Nat) (v v' : Value) (l l' : List (Int × Int)) (b b' : Nat) : Prop where
  one : PtrsOwn w b v l.length (fstL l) (sndL l)
  two : PtrsOwn w b' v' l'.length (fstL l') (sndL l')
  in1 : 0 < l.length → lo ≤ b ∧ b < hi
  in2 : 0 < l'.length → lo ≤ b' ∧ b' < hi
  apart : 0 < l.length → 0 < l'.length → b ≠ b'

theorem Two.of {w : World} {lo : Nat} {v v' : Value} {l l' : List (Int × Int)} (h : RowL w lo v l) (h' : RowL w lo v' l') (hm : l.length ≤ maxLen) (hm' : l'.length ≤ maxLen) (ha : ∀ q, v.ownBlock = some q → v'.ownBlock ≠ some q) : ∃ b b', Two w lo w.heap.size v v' l l' b b' := by
  obtain ⟨b, h1, h2⟩ := h.own hm
  obtain ⟨b', h3, h4⟩ := h'.own hm'
  refine ⟨b, b', h1, h3, fun h0 => (h2 h0).2, fun h0 => (h4 h0).2, fun h0 h0' e => ?_⟩
  subst e
  exact ha _ (h2 h0).1 (h4 h0').1
theorem Two.below {w w' : World} {lo hi : Nat} {v v' : Value} {l l' : List (Int × Int)} {b b' : Nat} (h : Two w lo hi v v' l l' b b') (t : Below w.heap.size w w') : Two w' lo hi v v' l l' b b' := ⟨h.one.below t, h.two.below t, h.in1, h.in2, h.apart⟩
theorem Two.turned {S : Nat → Prop} {w w' : World} {lo hi : Nat} {v v' : Value} {l l' : List (Int × Int)} {b b' : Nat} (h : Two w lo hi v v' l l' b b') (t : Turned S w w') (hs : ∀ k, S k → k < lo ∨ hi ≤ k) : Two w' lo hi v v' l l' b b' :=
  ⟨h.one.turned t (fun h0 hx => by have := h.in1 h0; have := hs _ hx; omega), h.two.turned t (fun h0 hx => by have := h.in2 h0; have := hs _ hx; omega), h.in1, h.in2, h.apart⟩

end Go.Proofs.Ytikhipekmlhibaa

namespace Go.Proofs.Ytikhipekmlhibaa
open Go Go.RowKit
set_option linter.unusedVariables false

/-- A row of bytes that a call has built. -/
def RowU (w : World) (base : Nat) (v : Value) (l : List Int) : Prop := w.ownsRow base 5 1 v l.length (l.map (Value.int .u8))
theorem RowU.below {w w1 : World} {base : Nat} {v : Value} {l : List Int} (h : RowU w base v l) (hb : Below w.heap.size w w1) : RowU w1 base v l :=
  h.kept (grownL hb none) (by cases v.ownBlock <;> simp)
theorem RowU.turned {w w1 : World} {base B : Nat} {v : Value} {l : List Int} (h : RowU w base v l) (t : Turned (fun k => k = B) w w1) (hB : B < base) : RowU w1 base v l := by
  refine h.kept (row := some B) ⟨t.os, t.tape, t.output, t.size, fun k hk hne => t.block k hk (fun e => hne (by rw [e]))⟩ ?_
  cases hv : v.ownBlock with
  | none => simp
  | some q =>
    right
    intro e
    simp only [Option.some.injEq] at e
    have := (h.lt q hv).1
    omega
theorem turned_grown {S : Nat → Prop} {w W w4 : World} {row : Option Nat} (h : Turned S w W) (g : W.grownBy w4 row) (hr : ∀ q, row = some q → w.heap.size ≤ q) : Turned S w w4 :=
  ⟨g.os.trans h.os, g.tape.trans h.tape, g.output.trans h.output, Nat.le_trans h.size g.size, fun k hk hs => (g.block k (Nat.lt_of_lt_of_le hk h.size) (fun e => by have := hr k e.symm; omega)).trans (h.block k hk hs)⟩

set_option maxRecDepth 20000 in
set_option maxHeartbeats 2000000 in
theorem bytes_any (B : Nat) (m : Nat) (w : World) (h : Src w B) (hm : m ≤ 100) :
    Calls Try.prog 65 #[.pointer (some ⟨B, 0, none⟩), .int .i64 (m : Int)] w fun e w' => (∃ d : ByteArray, e = .returned (.string d)) ∧ Src w' B ∧ Turned (fun k => k = B) w w' := by
  have hB := h.lt
  have Hs := hideS h
  clear h
  obtain ⟨i0, hi0, hzz⟩ := Option.map_eq_some_iff.1 infoU8
  simp only [Prod.mk.injEq] at hzz
  have HI := hideS (And.intro hi0 hzz)
  clear hi0 hzz
  have ha := below_alloc w (.cells #[] 5)
  have L1 := hideS (show RowU (w.alloc (.cells #[] 5)) w.heap.size (.slice (some ⟨w.heap.size, 0, none⟩) 0 0) [] from World.ownsRow_lit (e := 5) (size := 1) w #[] 0 (Nat.le_refl _) (by unfold maxLen; omega) rfl)
  go_enter Try.func65, Try.ntmps65
  go_wp2
  go_loopw [5, 6] (fun v i wr => ∃ (k : Nat) (l : List Int) (g : Nat) (c : Nat), k ≤ m ∧ i = .int .i64 k ∧ l.length = k ∧ v = .slice (some ⟨g, 0, none⟩) k c ∧ RowU wr w.heap.size v l ∧ Src wr B ∧ Turned (fun k => k = B) w wr) (fun _ i _ => m - (intOf i).toNat)
  case atStart => exact ⟨0, [], _, _, Nat.zero_le _, rfl, rfl, rfl, L1.out, Hs.out.below ha, Turned.of_below ha⟩
  case round =>
    obtain ⟨k, l, g, c, hk, rfl, hl, rfl, hr, hs, ht⟩ := hrel
    have Hr := hideS hr
    have Hs1 := hideS hs
    have Ht1 := hideS ht
    clear hr hs ht L1 Hs ha
    by_cases hlt : k < m
    · have hlt' : (k : Int) < (m : Int) := by omega
      go_wp2_with fail
      refine (n_any B 256 _ Hs1.out (by omega)).mono ?_
      rintro e w1 ⟨⟨r, rfl, h0, h1⟩, hs1, ht1⟩
      have hal := below_alloc w1 (.cells #[.int .u8 r] 5)
      have Hr1 := hideS ((Hr.out.turned ht1 hB).below hal)
      have Hs2 := hideS (hs1.below hal)
      have Ht2 := hideS ((Ht1.out.trans ht1).trans (Turned.of_below (S := fun k => k = B) hal))
      have hza : (w1.alloc (.cells #[.int .u8 r] 5)).heap.size = w1.heap.size + 1 := World.size_alloc _ _
      have hz1 : w.heap.size ≤ w1.heap.size := by have := Ht1.out.size; have := ht1.size; omega
      have HNw := hideS (World.news_of_block (heap_alloc_last w1 (.cells #[.int .u8 r] 5)))
      clear hs1 ht1 hal Hr Hs1 Ht1
      subst hl
      go_wp2_with (first
        | (at_builtin; refine wpList_append_lies _ rfl _ _ 22 rfl w.heap.size 5 i0 (.int .u8 0) 1 1 (by kernel_rfl) HI.out.1 HI.out.2.1 HI.out.2.2.1 HI.out.2.2.2 rfl (by decide) (.slice (some ⟨g, 0, none⟩) l.length c) l.length (l.map (Value.int .u8)) rfl Hr1.out ⟨w1.heap.size, 0, none⟩ 1 1 [.int .u8 r] rfl rfl HNw.out (by simp [Value.oneCell']) (by decide) (by unfold maxLen; omega) (by omega) (by omega) _ rfl ?_; intro g4 cap4 w4 hown4 hgrow4 hat4 hlt4)
        | go_in)
      have hT4 := turned_grown Ht2.out hgrow4 (fun q hq => (Hr1.out.lt q hq).1)
      have Hs4 : Hid (Src w4 B) := Hs2.out.turned (S := fun k => w.heap.size ≤ k) ⟨hgrow4.os, hgrow4.tape, hgrow4.output, hgrow4.size, fun k hk hne => hgrow4.block k hk (fun e => hne (Hr1.out.lt k e.symm).1)⟩ (fun k hk => by omega)
      have Hr4 : Hid (RowU w4 w.heap.size (.slice (some ⟨g4, 0, none⟩) (l.length + 1) cap4) (l ++ [r])) := by
        show World.ownsRow _ _ _ _ _ _ _
        rw [List.map_append, List.length_append]
        exact hown4
      clear hown4 hgrow4 hat4 hlt4
      go_roundw
      case rel => exact ⟨l.length + 1, l ++ [r], g4, cap4, by omega, by go_num, by simp, rfl, Hr4.out, Hs4.out, hT4⟩
      case measure => simp [intOf]; omega
    · obtain rfl : k = m := by omega
      obtain ⟨bb, cap, e, hcp, _, _, hcell⟩ : ∃ bb cap, (Value.slice (some ⟨g, 0, none⟩) k c) = .slice (some ⟨bb, 0, none⟩) k cap ∧ k ≤ cap ∧ True ∧ True ∧ ∀ j u, (l.map (Value.int .u8))[j]? = some u → Cell wr bb j u := by
        by_cases hk0 : 0 < k
        · obtain ⟨bb, cap, e, h1, _, _, h2⟩ := owns_cell Hr.out (by omega)
          rw [hl] at e h1
          exact ⟨bb, cap, e, h1, trivial, trivial, h2⟩
        · have hl0 : l = [] := List.eq_nil_of_length_eq_zero (by omega)
          subst hl0
          exact ⟨g, c, rfl, by omega, trivial, trivial, fun j u hj => by simp at hj⟩
      simp only [Value.slice.injEq, Option.some.injEq, Addr.mk.injEq, and_true, true_and] at e
      obtain ⟨rfl, rfl⟩ := e
      have hconv := run_convert_bytes_arg (P := Try.prog) wr 22 5 (by kernel_rfl) (by kernel_rfl) g 0 k c l hl (fun i hi => by
        have := (hcell i (.int .u8 (l.getD i 0)) (by
          rw [List.getElem?_map, List.getElem?_eq_getElem (by omega), List.getD_eq_getElem?_getD, List.getElem?_eq_getElem (by omega)]
          rfl)).1
        rw [Nat.zero_add]
        exact this) 9 (by kernel_rfl)
      clear hcell
      go_wp2
      go_ret
      exact ⟨⟨_, rfl⟩, Hs1.out, Ht1.out⟩

end Go.Proofs.Ytikhipekmlhibaa

namespace Go.Proofs.Ytikhipekmlhibaa
open Go.RowKit
set_option linter.unusedVariables false

set_option maxRecDepth 20000 in
set_option maxHeartbeats 2000000 in
theorem implPoolTake_any (v0 v1 kv : Value) (lo hi lo' hi' : Nat) (p : PoolD) (s : SlotD) (w : World) (h1 : PoolAt w lo hi v0 v1 p) (h2 : SlotAt w lo' hi' (.int .i64 s.birth) kv (.string s.data) s) (hn : poolN p + slotN s ≤ 1048576) :
    Calls Try.prog 7 #[.agg #[v0, v1], .agg #[.int .i64 s.birth, kv, .string s.data]] w (NewOut (takeP p s) w) := by
  have Hp := hide h1
  have Hs := hide h2
  have Hn := hide hn
  obtain ⟨a, c, a', c', rfl, rfl⟩ := h1.form
  obtain ⟨ka, kc, rfl⟩ := h2.form
  have hkn : s.kn ≤ 1048576 := by unfold slotN at hn; omega
  have hm1 : p.n ≤ 1048576 := by unfold poolN at hn; omega
  have hst := start53 w (.slice a p.n c) (.slice a' p.hn c') (.int .i64 s.birth) (.slice ka s.kn kc) (.string s.data) 26 29 35
  clear h1 h2 hn
  go_enter Try.func7, Try.ntmps7
  go_wp2_with fail
  generalize ((w.alloc (.cells #[.slice a p.n c, .slice a' p.hn c'] 26)).alloc (.cells #[.int .i64 s.birth, .slice ka s.kn kc, .string s.data] 29)).alloc (.cells #[.slice none 0 0, .slice none 0 0, .int .i64 0, .int .i64 0, .int .i64 0] 35) = W at hst ⊢
  obtain ⟨hB, hX, hR, hba, hz⟩ := hst
  refine (implPoolRight_any _ _ lo hi p _ (Hp.out.below hba)).mono ?_
  rintro e w1 ⟨⟨t, rfl, ht⟩, hb1⟩
  have HB1 := hide (hB.below hb1)
  have HX1 := hide (hX.below hb1)
  have HR1 := hide (hR.below hb1)
  have hB1 := below_next hba hb1
  have hz1 : w.heap.size + 3 ≤ w1.heap.size := by have := hb1.size; omega
  clear hB hX hR hba hb1 hz
  by_cases hRt : Right p
  · have HRt := hide hRt
    obtain rfl : t = true := ht.2 hRt
    clear ht hRt
    obtain ⟨⟨y0, y1⟩, ⟨y2, y3⟩, ⟨y4, y5⟩⟩ := HX1.out
    go_wp2_with fail
    refine (isFree_any _ _ _ lo' hi' s _ (Hs.out.below hB1)).mono ?_
    rintro e w2 ⟨⟨t, rfl, ht⟩, hb2⟩
    have HB2 := hide (HB1.out.below hb2)
    have HX2 := hide (HX1.out.below hb2)
    have HR2 := hide (HR1.out.below hb2)
    have hB2 := below_next hB1 hb2
    have hz2 : w.heap.size + 3 ≤ w2.heap.size := by have := hb2.size; omega
    clear hb2 hB1 HB1 HX1 HR1 hz1 y0 y1 y2 y3 y4 y5
    by_cases hF : Free s
    · have HF := hide hF
      obtain rfl : t = true := ht.2 hF
      clear ht hF
      obtain ⟨⟨u0, u1⟩, ⟨u2, u3⟩, ⟨u4, u5⟩, ⟨u6, u7⟩, ⟨u8, u9⟩⟩ := HR2.out
      go_wp2
      have HR6 := HR2.out.put (.slice none 0 0) (.slice none 0 0) (.int .i64 0) (.int .i64 0) (.int .i64 1)
      have hpr := none_ret (R := w.heap.size + 1 + 1) (u2 := .int .i64 0) (u3 := .int .i64 0) (u4 := .int .i64 1) (by omega) hB2
      rw [take_form (fun h => h.2.1 HF.out)]
      exact bodyPost_ret (v := .agg #[.slice none 0 0, .slice none 0 0, .int .i64 0, .int .i64 0, .int .i64 1]) (by simp [results, Try.results7, go_sem, HR6.1.1, HR6.2.1.1, HR6.2.2.1.1, HR6.2.2.2.1.1, HR6.2.2.2.2.1]) rfl ⟨_, _, rfl, hpr.1, hpr.2⟩
    · have HF := hide hF
      obtain rfl : t = false := bool_no ht hF
      clear ht hF
      obtain ⟨⟨x0, x1⟩, ⟨x2, x3⟩⟩ := HB2.out
      obtain ⟨⟨y0, y1⟩, ⟨y2, y3⟩, ⟨y4, y5⟩⟩ := HX2.out
      go_wp2_with fail
      refine (slotRight_any _ _ _ _ p.n lo hi lo' hi' p.s s _ (Hp.out.1.below hB2) (Hs.out.below hB2)).mono ?_
      rintro e w3 ⟨⟨t, rfl, ht⟩, hb3⟩
      rw [slotRight_iff HRt.out HF.out] at ht
      have HB3 := hide (HB2.out.below hb3)
      have HX3 := hide (HX2.out.below hb3)
      have HR3 := hide (HR2.out.below hb3)
      have hB3 := below_next hB2 hb3
      have hz3 : w.heap.size + 3 ≤ w3.heap.size := by have := hb3.size; omega
      clear hb3 hB2 HB2 HX2 HR2 hz2 x0 x1 x2 x3 y0 y1 y2 y3 y4 y5
      by_cases hT : Fits p s
      · have HT := hide (And.intro HRt.out (And.intro HF.out hT))
        obtain rfl : t = true := ht.2 hT
        clear ht hT
        obtain ⟨⟨x0, x1⟩, ⟨x2, x3⟩⟩ := HB3.out
        go_wp2_with fail
        refine (indexFree_any _ p.n lo hi p.s _ (Hp.out.1.below hB3)).mono ?_
        rintro e w4 ⟨⟨i, hi4, rfl⟩ | ⟨hno, rfl⟩, hb4⟩
        · have HB4 := hide (HB3.out.below hb4)
          have HX4 := hide (HX3.out.below hb4)
          have HR4 := hide (HR3.out.below hb4)
          have hB4 := below_next hB3 hb4
          have hz4 : w.heap.size + 3 ≤ w4.heap.size := by have := hb4.size; omega
          have Hi := hide hi4
          have hi0 : ¬ (i : Int) < 0 := by omega
          clear hb4 HB3 HX3 HR3 hB3 x0 x1 x2 x3 hz3 hi4
          obtain ⟨⟨x0, x1⟩, ⟨x2, x3⟩⟩ := HB4.out
          obtain ⟨⟨y0, y1⟩, ⟨y2, y3⟩, ⟨y4, y5⟩⟩ := HX4.out
          obtain ⟨⟨u0, u1⟩, ⟨u2, u3⟩, ⟨u4, u5⟩, ⟨u6, u7⟩, ⟨u8, u9⟩⟩ := HR4.out
          have n0 : w.heap.size + 1 + 1 ≠ w.heap.size := by omega
          have n1 : w.heap.size + 1 + 1 ≠ w.heap.size + 1 := by omega
          go_wp2_with fail
          go_region_held3 (fun w' => w'.cell? ⟨w.heap.size, 0, none⟩ = some (.slice a p.n c) ∧ w'.cell? ⟨w.heap.size, 1, none⟩ = some (.slice a' p.hn c') ∧ w'.cell? ⟨w.heap.size + 1, 0, none⟩ = some (.int .i64 s.birth) ∧ w'.cell? ⟨w.heap.size + 1, 1, none⟩ = some (.slice ka s.kn kc) ∧ w'.cell? ⟨w.heap.size + 1, 2, none⟩ = some (.string s.data)) (go_keep)
            (first
              | (go_at_call 45; refine (withSlot_any _ _ _ lo hi lo' hi' i p s _ ?_ ?_ Hi.out.1 Hn.out).mono ?_; (exact Hp.out.below hB4.drew); (exact Hs.out.below hB4.drew); rintro e w5 ⟨s0, s1, rfl, ho5, hb5⟩; obtain ⟨a5, c5, a6, c6, rfl, rfl⟩ := ho5.form; have hb5' := below_undrew hb5; obtain ⟨⟨p0, p1⟩, ⟨p2, p3⟩⟩ := HB4.out.below hb5'; obtain ⟨⟨p4, p5⟩, ⟨p6, p7⟩, ⟨p8, p9⟩⟩ := HX4.out.below hb5'; obtain ⟨⟨r0, r1⟩, ⟨r2, r3⟩, ⟨r4, r5⟩, ⟨r6, r7⟩, ⟨r8, r9⟩⟩ := HR4.out.below hb5'))
          have Ho5 : Hid (PoolOwn w5 w4.heap.size w5.heap.size (.slice a5 (setS p i s).n c5) (.slice a6 (setS p i s).hn c6) (setS p i s)) := ho5
          have HR5 := hide (HR4.out.below hb5')
          have hB5 := below_next hB4 hb5'
          clear ho5 hb5 hb5'
          go_wp2
          have HR8 := HR5.out.put (.slice a5 (setS p i s).n c5) (.slice a6 (setS p i s).hn c6) (.int .i64 (i : Int)) (.int .i64 s.birth) (.int .i64 0)
          have hpr := out_ret (R := w.heap.size + 1 + 1) (u2 := .int .i64 (i : Int)) (u3 := .int .i64 s.birth) (u4 := .int .i64 0) Ho5.out (by omega) (by omega) (Nat.le_refl _) hB5
          rw [take_ok HT.out Hi.out]
          exact bodyPost_ret (v := .agg #[.slice a5 (setS p i s).n c5, .slice a6 (setS p i s).hn c6, .int .i64 (i : Int), .int .i64 s.birth, .int .i64 0]) (by simp [results, Try.results7, go_sem, HR8.1.1, HR8.2.1.1, HR8.2.2.1.1, HR8.2.2.2.1.1, HR8.2.2.2.2.1]) rfl ⟨_, _, rfl, hpr.1, hpr.2⟩
        · have HR4 := hide (HR3.out.below hb4)
          have hB4 := below_next hB3 hb4
          clear hb4 HB3 HX3 HR3 hB3 x0 x1 x2 x3
          obtain ⟨⟨u0, u1⟩, ⟨u2, u3⟩, ⟨u4, u5⟩, ⟨u6, u7⟩, ⟨u8, u9⟩⟩ := HR4.out
          go_wp2
          have HR6 := HR4.out.put (.slice none 0 0) (.slice none 0 0) (.int .i64 0) (.int .i64 0) (.int .i64 6)
          have hpr := none_ret (R := w.heap.size + 1 + 1) (u2 := .int .i64 0) (u3 := .int .i64 0) (u4 := .int .i64 6) (by omega) hB4
          rw [take_full HT.out hno]
          exact bodyPost_ret (v := .agg #[.slice none 0 0, .slice none 0 0, .int .i64 0, .int .i64 0, .int .i64 6]) (by simp [results, Try.results7, go_sem, HR6.1.1, HR6.2.1.1, HR6.2.2.1.1, HR6.2.2.2.1.1, HR6.2.2.2.2.1]) rfl ⟨_, _, rfl, hpr.1, hpr.2⟩
      · have HT := hide hT
        obtain rfl : t = false := bool_no ht hT
        clear ht hT
        obtain ⟨⟨u0, u1⟩, ⟨u2, u3⟩, ⟨u4, u5⟩, ⟨u6, u7⟩, ⟨u8, u9⟩⟩ := HR3.out
        go_wp2
        have HR6 := HR3.out.put (.slice none 0 0) (.slice none 0 0) (.int .i64 0) (.int .i64 0) (.int .i64 1)
        have hpr := none_ret (R := w.heap.size + 1 + 1) (u2 := .int .i64 0) (u3 := .int .i64 0) (u4 := .int .i64 1) (by omega) hB3
        rw [take_form (fun h => HT.out h.2.2)]
        exact bodyPost_ret (v := .agg #[.slice none 0 0, .slice none 0 0, .int .i64 0, .int .i64 0, .int .i64 1]) (by simp [results, Try.results7, go_sem, HR6.1.1, HR6.2.1.1, HR6.2.2.1.1, HR6.2.2.2.1.1, HR6.2.2.2.2.1]) rfl ⟨_, _, rfl, hpr.1, hpr.2⟩
  · have HRt := hide hRt
    obtain rfl : t = false := bool_no ht hRt
    clear ht hRt
    obtain ⟨⟨u0, u1⟩, ⟨u2, u3⟩, ⟨u4, u5⟩, ⟨u6, u7⟩, ⟨u8, u9⟩⟩ := HR1.out
    go_wp2
    have HR6 := HR1.out.put (.slice none 0 0) (.slice none 0 0) (.int .i64 0) (.int .i64 0) (.int .i64 1)
    have hpr := none_ret (R := w.heap.size + 1 + 1) (u2 := .int .i64 0) (u3 := .int .i64 0) (u4 := .int .i64 1) (by omega) hB1
    rw [take_form (fun h => HRt.out h.1)]
    exact bodyPost_ret (v := .agg #[.slice none 0 0, .slice none 0 0, .int .i64 0, .int .i64 0, .int .i64 1]) (by simp [results, Try.results7, go_sem, HR6.1.1, HR6.2.1.1, HR6.2.2.1.1, HR6.2.2.2.1.1, HR6.2.2.2.2.1]) rfl ⟨_, _, rfl, hpr.1, hpr.2⟩

end Go.Proofs.Ytikhipekmlhibaa

namespace Go.Proofs.Ytikhipekmlhibaa
open Go.RowKit
set_option linter.unusedVariables false

/-- A pointer that is none. -/
def Nil (xs xb : Int) : Prop := xs = 0 ∧ xb = 0
instance (xs xb : Int) : Decidable (Nil xs xb) := inferInstanceAs (Decidable (xs = 0 ∧ xb = 0))

/-- The pointer, in a list, if it is not none. -/
def one (xs xb : Int) : List (Int × Int) := if Nil xs xb then [] else [(xs, xb)]

/-- Of the first k pointers those that are not none. -/
def kidsUp (ks kb : Nat → Int) : Nat → List (Int × Int)
  | 0 => []
  | k + 1 => kidsUp ks kb k ++ one (ks k) (kb k)

def kidS (s : SlotD) (i : Nat) : Int := kidCell s (i * 2)
def kidB (s : SlotD) (i : Nat) : Int := kidCell s (i * 2 + 1)

/-- The Kids of a slot that are not none. -/
def lowL (s : SlotD) : List (Int × Int) := kidsUp (kidS s) (kidB s) 8

/-- What is below the pointer of a node. -/
def midL (p : PoolD) (xs xb : Int) : List (Int × Int) := if Nil xs xb then [] else (xs, xb) :: lowL (p.s xs.toNat)

/-- The first k Kids of a slot, and what is below them. -/
def subUp (p : PoolD) (s : SlotD) : Nat → List (Int × Int)
  | 0 => []
  | k + 1 => subUp p s k ++ midL p (kidS s k) (kidB s k)

/-- All pointers of a tree. -/
def treeL (p : PoolD) (rs rb : Int) : List (Int × Int) := if Nil rs rb then [] else (rs, rb) :: subUp p (p.s rs.toNat) 8

theorem kidS_at {s : SlotD} (h : s.kn = 8) {i : Nat} (hi : i < 8) : kidS s i = s.ks i := by
  unfold kidS kidCell
  rw [show i * 2 / 2 = i by omega, if_pos (by omega), if_pos (by omega)]
theorem kidB_at {s : SlotD} (h : s.kn = 8) {i : Nat} (hi : i < 8) : kidB s i = s.kb i := by
  unfold kidB kidCell
  rw [show (i * 2 + 1) / 2 = i by omega, if_pos (by omega), if_neg (by omega)]
theorem kidS_no {s : SlotD} (h : s.kn = 0) (i : Nat) : kidS s i = 0 := by
  unfold kidS kidCell
  rw [if_neg (by omega)]
theorem kidB_no {s : SlotD} (h : s.kn = 0) (i : Nat) : kidB s i = 0 := by
  unfold kidB kidCell
  rw [if_neg (by omega)]

theorem mem_one {xs xb : Int} {x : Int × Int} : x ∈ one xs xb ↔ x = (xs, xb) ∧ ¬ Nil xs xb := by
  unfold one
  by_cases h : Nil xs xb
  · rw [if_pos h]; simp [h]
  · rw [if_neg h]; simp [h]
theorem mem_kidsUp {ks kb : Nat → Int} {x : Int × Int} : ∀ {k : Nat}, x ∈ kidsUp ks kb k ↔ ∃ i, i < k ∧ x = (ks i, kb i) ∧ ¬ Nil (ks i) (kb i)
  | 0 => by simp [kidsUp]
  | k + 1 => by
    rw [kidsUp, List.mem_append, mem_kidsUp, mem_one]
    constructor
    · rintro (⟨i, hi, h⟩ | h)
      · exact ⟨i, by omega, h⟩
      · exact ⟨k, by omega, h⟩
    · rintro ⟨i, hi, h⟩
      by_cases e : i = k
      · subst e; exact Or.inr h
      · exact Or.inl ⟨i, by omega, h⟩
theorem mem_midL {p : PoolD} {xs xb : Int} {x : Int × Int} : x ∈ midL p xs xb ↔ ¬ Nil xs xb ∧ (x = (xs, xb) ∨ x ∈ lowL (p.s xs.toNat)) := by
  unfold midL
  by_cases h : Nil xs xb
  · rw [if_pos h]; simp [h]
  · rw [if_neg h]; simp [h]
theorem mem_subUp {p : PoolD} {s : SlotD} {x : Int × Int} : ∀ {k : Nat}, x ∈ subUp p s k ↔ ∃ i, i < k ∧ x ∈ midL p (kidS s i) (kidB s i)
  | 0 => by simp [subUp]
  | k + 1 => by
    rw [subUp, List.mem_append, mem_subUp]
    constructor
    · rintro (⟨i, hi, h⟩ | h)
      · exact ⟨i, by omega, h⟩
      · exact ⟨k, by omega, h⟩
    · rintro ⟨i, hi, h⟩
      by_cases e : i = k
      · subst e; exact Or.inr h
      · exact Or.inl ⟨i, by omega, h⟩

theorem kidsUp_len (ks kb : Nat → Int) : ∀ k, (kidsUp ks kb k).length ≤ k
  | 0 => Nat.le_refl _
  | k + 1 => by
    have := kidsUp_len ks kb k
    unfold kidsUp one
    split <;> simp <;> omega
theorem midL_len (p : PoolD) (xs xb : Int) : (midL p xs xb).length ≤ 9 := by
  unfold midL
  have := kidsUp_len (kidS (p.s xs.toNat)) (kidB (p.s xs.toNat)) 8
  split
  · simp
  · show (lowL _).length + 1 ≤ 9
    unfold lowL
    omega
theorem subUp_len (p : PoolD) (s : SlotD) : ∀ k, (subUp p s k).length ≤ 9 * k
  | 0 => Nat.le_refl _
  | k + 1 => by
    have := subUp_len p s k
    have := midL_len p (kidS s k) (kidB s k)
    unfold subUp
    rw [List.length_append]
    omega
theorem treeL_len (p : PoolD) (rs rb : Int) : (treeL p rs rb).length ≤ 73 := by
  unfold treeL
  have := subUp_len p (p.s rs.toNat) 8
  split
  · simp
  · show (subUp _ _ _).length + 1 ≤ 73
    omega

/-- A node, a page, neither of them held. -/
def NodeAt (p : PoolD) (xs xb : Int) : Prop := Points p xs xb ∧ 0 < (p.s xs.toNat).kn ∧ ¬ Has p.hn p.h xs
def PageAt (p : PoolD) (xs xb : Int) : Prop := Points p xs xb ∧ (p.s xs.toNat).kn = 0 ∧ ¬ Has p.hn p.h xs
/-- A node's Kids are pages, one at least. -/
def LowOk (p : PoolD) (s : SlotD) : Prop := (∀ i, i < 8 → Nil (kidS s i) (kidB s i) ∨ PageAt p (kidS s i) (kidB s i)) ∧ ∃ i, i < 8 ∧ ¬ Nil (kidS s i) (kidB s i)
/-- The i-th Kid of a root is none, or a node. -/
def MidOk (p : PoolD) (s : SlotD) (i : Nat) : Prop := Nil (kidS s i) (kidB s i) ∨ (NodeAt p (kidS s i) (kidB s i) ∧ LowOk p (p.s (kidS s i).toNat))
def slotsL (l : List (Int × Int)) : List Int := l.map Prod.fst
def TopOk (p : PoolD) (s : SlotD) : Prop := (∀ i, i < 8 → MidOk p s i) ∧ ∃ i, i < 8 ∧ ¬ Nil (kidS s i) (kidB s i)
def TreeOk (p : PoolD) (rs rb : Int) : Prop := Nil rs rb ∨ (NodeAt p rs rb ∧ TopOk p (p.s rs.toNat) ∧ (slotsL (treeL p rs rb)).Nodup)
/-- A right pool with a tree in it. -/
def TreeR (p : PoolD) (rs rb : Int) : Prop := Right p ∧ TreeOk p rs rb

/-- What impl.shapeRight tells of a page, a node and a root. -/
def Shape1 (p : PoolD) (s : SlotD) : Prop := (∃ i, i < 8 ∧ ¬ Nil (kidS s i) (kidB s i)) ∧ ∀ i, i < 8 → Nil (kidS s i) (kidB s i) ∨ Page (p.s (kidS s i).toNat)
def Shape0 (p : PoolD) (s : SlotD) : Prop := (∃ i, i < 8 ∧ ¬ Nil (kidS s i) (kidB s i)) ∧ ∀ i, i < 8 → Nil (kidS s i) (kidB s i) ∨ Shape1 p (p.s (kidS s i).toNat)
/-- What impl.apart tells. -/
def Apart (p : PoolD) (l : List (Int × Int)) : Prop := l.Nodup ∧ ∀ x, x ∈ l → ¬ Has p.hn p.h x.1
def TreeOkI (p : PoolD) (rs rb : Int) : Prop := Nil rs rb ∨ (Points p rs rb ∧ Shape0 p (p.s rs.toNat) ∧ Apart p (treeL p rs rb))

/-- A slot of a right pool to which a pointer points. -/
theorem points_fits {p : PoolD} {xs xb : Int} (hR : Right p) (h : Points p xs xb) : Fits p (p.s xs.toNat) := by
  obtain ⟨h1, h2, h3, h4⟩ := h
  rcases hR.2.1 xs.toNat (by omega) with hf | hf
  · have := hf.1; omega
  · exact hf
theorem fits_kn {p : PoolD} {s : SlotD} (h : Fits p s) : s.kn = 0 ∨ s.kn = 8 := by
  rcases h.2 with h | h
  · exact Or.inl h.1
  · exact Or.inr h.1
theorem right_kn {p : PoolD} (hR : Right p) {i : Nat} (hi : i < p.n) : (p.s i).kn = 0 ∨ (p.s i).kn = 8 := by
  rcases hR.2.1 i hi with h | h
  · exact Or.inl h.2.1
  · exact fits_kn h
theorem points_kn {p : PoolD} {xs xb : Int} (hR : Right p) (h : Points p xs xb) : (p.s xs.toNat).kn = 0 ∨ (p.s xs.toNat).kn = 8 := fits_kn (points_fits hR h)
/-- A Kid that is not none points at a slot. -/
theorem kid_points {p : PoolD} {s : SlotD} (h : Fits p s) {i : Nat} (hi : i < 8) (hn : ¬ Nil (kidS s i) (kidB s i)) : Points p (kidS s i) (kidB s i) ∧ kidB s i ≤ s.birth := by
  rcases h.2 with h2 | h2
  · exact absurd ⟨kidS_no h2.1 i, kidB_no h2.1 i⟩ hn
  · rw [kidS_at h2.1 hi, kidB_at h2.1 hi] at hn ⊢
    rcases h2.2.2 i (by omega) with h3 | h3
    · exact absurd h3 hn
    · exact h3
theorem page_iff {p : PoolD} {xs xb : Int} (hR : Right p) (h : Points p xs xb) : Page (p.s xs.toNat) ↔ (p.s xs.toNat).kn = 0 := by
  have hf := points_fits hR h
  constructor
  · exact fun h => h.2.1
  · intro h0
    rcases hf.2 with h2 | h2
    · exact ⟨hf.1, h2⟩
    · omega
theorem some_kid {s : SlotD} (h : s.kn = 0 ∨ s.kn = 8) (he : ∃ i, i < 8 ∧ ¬ Nil (kidS s i) (kidB s i)) : s.kn = 8 := by
  rcases h with h | h
  · obtain ⟨i, _, hi⟩ := he
    exact absurd ⟨kidS_no h i, kidB_no h i⟩ hi
  · exact h

/-- Every pointer of a tree whose root points at a slot points at one. -/
theorem tree_points {p : PoolD} {rs rb : Int} (hR : Right p) (h : Points p rs rb) : ∀ x, x ∈ treeL p rs rb → Points p x.1 x.2 ∧ x.2 ≤ rb := by
  intro x hx
  unfold treeL at hx
  split at hx
  · simp at hx
  · rw [List.mem_cons, mem_subUp] at hx
    rcases hx with rfl | ⟨i, hi, hx⟩
    · exact ⟨h, by simp⟩
    · have hf := points_fits hR h
      have hbr : (p.s rs.toNat).birth = rb := h.2.2.2
      obtain ⟨hn, hx⟩ := mem_midL.1 hx
      have hk := kid_points hf hi hn
      rcases hx with rfl | hx
      · exact ⟨hk.1, by rw [← hbr]; exact hk.2⟩
      · obtain ⟨j, hj, rfl, hn2⟩ := mem_kidsUp.1 hx
        have hf2 := points_fits hR hk.1
        have hk2 := kid_points hf2 hj hn2
        have e : (p.s (kidS (p.s rs.toNat) i).toNat).birth = kidB (p.s rs.toNat) i := hk.1.2.2.2
        have := hk.2
        have := hk2.2
        exact ⟨hk2.1, by show kidB _ j ≤ rb; omega⟩

theorem nodup_iff {p : PoolD} {l : List (Int × Int)} (h : ∀ x, x ∈ l → Points p x.1 x.2) : (slotsL l).Nodup ↔ l.Nodup := by
  unfold slotsL List.Nodup
  rw [List.pairwise_map]
  constructor
  · exact fun hp => hp.imp (fun hne e => hne (by rw [e]))
  · intro hp
    refine List.Pairwise.imp_of_mem ?_ hp
    intro a b ha hb hne e
    apply hne
    have h1 := (h a ha).2.2.2
    have h2 := (h b hb).2.2.2
    rw [e] at h1
    obtain ⟨a1, a2⟩ := a
    obtain ⟨b1, b2⟩ := b
    simp only [Prod.mk.injEq]
    exact ⟨e, by simp only at h1 h2 e; rw [← h1, ← h2]⟩

theorem tree_iff {p : PoolD} {rs rb : Int} (hR : Right p) : TreeOkI p rs rb ↔ TreeOk p rs rb := by
  by_cases hz : Nil rs rb
  · exact ⟨fun _ => Or.inl hz, fun _ => Or.inl hz⟩
  have hroot : (rs, rb) ∈ treeL p rs rb := by unfold treeL; rw [if_neg hz]; simp
  have hkid : ∀ i, i < 8 → ¬ Nil (kidS (p.s rs.toNat) i) (kidB (p.s rs.toNat) i) → (kidS (p.s rs.toNat) i, kidB (p.s rs.toNat) i) ∈ treeL p rs rb := fun i hi hn => by
    unfold treeL
    rw [if_neg hz, List.mem_cons, mem_subUp]
    exact Or.inr ⟨i, hi, mem_midL.2 ⟨hn, Or.inl rfl⟩⟩
  have hlow : ∀ i, i < 8 → ¬ Nil (kidS (p.s rs.toNat) i) (kidB (p.s rs.toNat) i) → ∀ x, x ∈ lowL (p.s (kidS (p.s rs.toNat) i).toNat) → x ∈ treeL p rs rb := fun i hi hn x hx => by
    unfold treeL
    rw [if_neg hz, List.mem_cons, mem_subUp]
    exact Or.inr ⟨i, hi, mem_midL.2 ⟨hn, Or.inr hx⟩⟩
  constructor
  · rintro (h | ⟨hP, ⟨he, hS⟩, hA⟩)
    · exact Or.inl h
    · right
      have hf := points_fits hR hP
      have hk8 := some_kid (fits_kn hf) he
      refine ⟨⟨hP, by omega, hA.2 _ hroot⟩, ⟨fun i hi => ?_, he⟩, (nodup_iff (fun x hx => (tree_points hR hP x hx).1)).2 hA.1⟩
      by_cases hn : Nil (kidS (p.s rs.toNat) i) (kidB (p.s rs.toNat) i)
      · exact Or.inl hn
      · right
        have hk := kid_points hf hi hn
        have hf2 := points_fits hR hk.1
        obtain ⟨he2, hS2⟩ : Shape1 p (p.s (kidS (p.s rs.toNat) i).toNat) := by
          rcases hS i hi with h | h
          · exact absurd h hn
          · exact h
        have hk82 := some_kid (fits_kn hf2) he2
        refine ⟨⟨hk.1, by omega, hA.2 _ (hkid i hi hn)⟩, fun j hj => ?_, he2⟩
        by_cases hn2 : Nil (kidS (p.s (kidS (p.s rs.toNat) i).toNat) j) (kidB (p.s (kidS (p.s rs.toNat) i).toNat) j)
        · exact Or.inl hn2
        · right
          have hk2 := kid_points hf2 hj hn2
          refine ⟨hk2.1, ?_, hA.2 _ (hlow i hi hn _ (mem_kidsUp.2 ⟨j, hj, rfl, hn2⟩))⟩
          rcases hS2 j hj with h | h
          · exact absurd h hn2
          · exact h.2.1
  · rintro (h | ⟨hN, ⟨hM, he⟩, hD⟩)
    · exact Or.inl h
    · right
      have hP := hN.1
      have hf := points_fits hR hP
      have held : ∀ x, x ∈ treeL p rs rb → ¬ Has p.hn p.h x.1 := fun x hx => by
        unfold treeL at hx
        rw [if_neg hz, List.mem_cons, mem_subUp] at hx
        rcases hx with rfl | ⟨i, hi, hx⟩
        · exact hN.2.2
        · obtain ⟨hn, hx⟩ := mem_midL.1 hx
          rcases hM i hi with h | ⟨h1, h2⟩
          · exact absurd h hn
          · rcases hx with rfl | hx
            · exact h1.2.2
            · obtain ⟨j, hj, rfl, hn2⟩ := mem_kidsUp.1 hx
              rcases h2.1 j hj with h | h
              · exact absurd h hn2
              · exact h.2.2
      refine ⟨hP, ⟨he, fun i hi => ?_⟩, (nodup_iff (fun x hx => (tree_points hR hP x hx).1)).1 hD, held⟩
      rcases hM i hi with h | ⟨h1, h2, h3⟩
      · exact Or.inl h
      · refine Or.inr ⟨h3, fun j hj => ?_⟩
        rcases h2 j hj with h | h
        · exact Or.inl h
        · exact Or.inr ((page_iff hR h.1).2 h.2.1)

end Go.Proofs.Ytikhipekmlhibaa

namespace Go.Proofs.Ytikhipekmlhibaa
open Go.RowKit
set_option linter.unusedVariables false

theorem hideT {P : Prop} (h : P) : Hid P := h

/-- The two variables with which the calls begin. -/
theorem start22 (w : World) (a0 a1 x0 x1 : Value) (t1 t2 : TypeId) :
    Box2 ((w.alloc (.cells #[a0, a1] t1)).alloc (.cells #[x0, x1] t2)) w.heap.size a0 a1 ∧ Box2 ((w.alloc (.cells #[a0, a1] t1)).alloc (.cells #[x0, x1] t2)) (w.heap.size + 1) x0 x1 ∧
    Below w.heap.size w ((w.alloc (.cells #[a0, a1] t1)).alloc (.cells #[x0, x1] t2)) ∧ ((w.alloc (.cells #[a0, a1] t1)).alloc (.cells #[x0, x1] t2)).heap.size = w.heap.size + 2 := by
  refine ⟨(Box2.new w a0 a1 t1).below (below_alloc _ _), ?_, below_next (below_alloc _ _) (below_alloc _ _), by simp⟩
  have := Box2.new (w.alloc (.cells #[a0, a1] t1)) x0 x1 t2
  rw [World.size_alloc] at this
  exact this

set_option maxRecDepth 20000 in
set_option maxHeartbeats 1000000 in
theorem l02Node_any (v0 v1 : Value) (lo hi : Nat) (p : PoolD) (xs xb : Int) (w : World) (h1 : PoolAt w lo hi v0 v1 p) :
    Calls Try.prog 115 #[.agg #[v0, v1], .agg #[.int .i64 xs, .int .i64 xb]] w fun e w' => BoolIs (NodeAt p xs xb) e ∧ Below w.heap.size w w' := by
  have Hp := hideT h1
  obtain ⟨a, c, a', c', rfl, rfl⟩ : ∃ a c a' c', v0 = .slice a p.n c ∧ v1 = .slice a' p.hn c' := by
    obtain ⟨⟨_, a, c, h1, _⟩, ⟨_, a', c', h3, _⟩⟩ := h1
    exact ⟨a, c, a', c', h1, h3⟩
  clear h1
  have hst := start22 w (.slice a p.n c) (.slice a' p.hn c') (.int .i64 xs) (.int .i64 xb) 26 33
  go_enter Try.func115, Try.ntmps115
  go_wp2_with fail
  generalize (w.alloc (.cells #[.slice a p.n c, .slice a' p.hn c'] 26)).alloc (.cells #[.int .i64 xs, .int .i64 xb] 33) = W at hst ⊢
  obtain ⟨hB, hX, hba, hz⟩ := hst
  refine (l01Points_any _ _ lo hi p xs xb _ (Hp.out.below hba)).mono ?_
  rintro e w1 ⟨⟨t, rfl, ht⟩, hb1⟩
  have HB1 := hideT (hB.below hb1)
  have HX1 := hideT (hX.below hb1)
  have hB1 := below_next hba hb1
  clear hB hX hba hb1
  by_cases hPt : Points p xs xb
  · obtain rfl : t = true := ht.2 hPt
    have HPt := hideT hPt
    obtain ⟨k, rfl⟩ := Int.eq_ofNat_of_zero_le hPt.2.1
    have hk : k < p.n := by have := hPt.2.2.1; omega
    have hk' : (k : Int) < (p.n : Int) := by omega
    clear ht hPt
    obtain ⟨b, off, ka, kc, rfl, hs⟩ := (Hp.out.1.below hB1).cells hk
    obtain ⟨q0, q1, q2, _⟩ := hs
    obtain ⟨⟨x0, x1⟩, ⟨x2, x3⟩⟩ := HB1.out
    obtain ⟨⟨y0, y1⟩, ⟨y2, y3⟩⟩ := HX1.out
    by_cases hkn : 0 < (p.s k).kn
    · have HK := hideT hkn
      have f1 : (0 : Int) < ((p.s k).kn : Int) := by first | omega | simp [hkn]
      clear hkn
      go_wp2_with fail
      refine (l01Has_any _ p.hn lo hi p.h _ _ (Hp.out.2.below hB1)).mono ?_
      rintro e w2 ⟨⟨t2, rfl, ht2⟩, rfl⟩
      have HT := hideT ht2
      clear ht2 x0 x1 x2 x3 y0 y1 y2 y3 q0 q1 q2
      go_wp2
      go_ret
      refine ⟨?_, hB1⟩
      by_cases hh : Has p.hn p.h (k : Int)
      · obtain rfl : t2 = true := HT.out.2 hh
        exact BoolIs.no fun h => h.2.2 hh
      · obtain rfl : t2 = false := bool_no HT.out hh
        refine BoolIs.yes ⟨HPt.out, ?_, hh⟩
        rw [Int.toNat_natCast]
        exact HK.out
    · have HK := hideT hkn
      have f1 : ¬ (0 : Int) < ((p.s k).kn : Int) := by first | omega | (simp; omega)
      clear hkn
      go_wp2
      go_ret
      refine ⟨BoolIs.no fun h => ?_, hB1⟩
      have := h.2.1
      rw [Int.toNat_natCast] at this
      exact HK.out this
  · obtain rfl : t = false := bool_no ht hPt
    have HPt := hideT hPt
    clear ht hPt
    go_wp2
    go_ret
    exact ⟨BoolIs.no fun h => HPt.out h.1, hB1⟩

set_option maxRecDepth 20000 in
set_option maxHeartbeats 1000000 in
theorem l02Page_any (v0 v1 : Value) (lo hi : Nat) (p : PoolD) (xs xb : Int) (w : World) (h1 : PoolAt w lo hi v0 v1 p) :
    Calls Try.prog 116 #[.agg #[v0, v1], .agg #[.int .i64 xs, .int .i64 xb]] w fun e w' => BoolIs (PageAt p xs xb) e ∧ Below w.heap.size w w' := by
  have Hp := hideT h1
  obtain ⟨a, c, a', c', rfl, rfl⟩ : ∃ a c a' c', v0 = .slice a p.n c ∧ v1 = .slice a' p.hn c' := by
    obtain ⟨⟨_, a, c, h1, _⟩, ⟨_, a', c', h3, _⟩⟩ := h1
    exact ⟨a, c, a', c', h1, h3⟩
  clear h1
  have hst := start22 w (.slice a p.n c) (.slice a' p.hn c') (.int .i64 xs) (.int .i64 xb) 26 33
  go_enter Try.func116, Try.ntmps116
  go_wp2_with fail
  generalize (w.alloc (.cells #[.slice a p.n c, .slice a' p.hn c'] 26)).alloc (.cells #[.int .i64 xs, .int .i64 xb] 33) = W at hst ⊢
  obtain ⟨hB, hX, hba, hz⟩ := hst
  refine (l01Points_any _ _ lo hi p xs xb _ (Hp.out.below hba)).mono ?_
  rintro e w1 ⟨⟨t, rfl, ht⟩, hb1⟩
  have HB1 := hideT (hB.below hb1)
  have HX1 := hideT (hX.below hb1)
  have hB1 := below_next hba hb1
  clear hB hX hba hb1
  by_cases hPt : Points p xs xb
  · obtain rfl : t = true := ht.2 hPt
    have HPt := hideT hPt
    obtain ⟨k, rfl⟩ := Int.eq_ofNat_of_zero_le hPt.2.1
    have hk : k < p.n := by have := hPt.2.2.1; omega
    have hk' : (k : Int) < (p.n : Int) := by omega
    clear ht hPt
    obtain ⟨b, off, ka, kc, rfl, hs⟩ := (Hp.out.1.below hB1).cells hk
    obtain ⟨q0, q1, q2, _⟩ := hs
    obtain ⟨⟨x0, x1⟩, ⟨x2, x3⟩⟩ := HB1.out
    obtain ⟨⟨y0, y1⟩, ⟨y2, y3⟩⟩ := HX1.out
    by_cases hkn : (p.s k).kn = 0
    · have HK := hideT hkn
      have f1 : (((p.s k).kn : Int) == 0) = true := by first | omega | simp [hkn]
      clear hkn
      go_wp2_with fail
      refine (l01Has_any _ p.hn lo hi p.h _ _ (Hp.out.2.below hB1)).mono ?_
      rintro e w2 ⟨⟨t2, rfl, ht2⟩, rfl⟩
      have HT := hideT ht2
      clear ht2 x0 x1 x2 x3 y0 y1 y2 y3 q0 q1 q2
      go_wp2
      go_ret
      refine ⟨?_, hB1⟩
      by_cases hh : Has p.hn p.h (k : Int)
      · obtain rfl : t2 = true := HT.out.2 hh
        exact BoolIs.no fun h => h.2.2 hh
      · obtain rfl : t2 = false := bool_no HT.out hh
        refine BoolIs.yes ⟨HPt.out, ?_, hh⟩
        rw [Int.toNat_natCast]
        exact HK.out
    · have HK := hideT hkn
      have f1 : (((p.s k).kn : Int) == 0) = false := by first | omega | (simp; omega)
      clear hkn
      go_wp2
      go_ret
      refine ⟨BoolIs.no fun h => ?_, hB1⟩
      have := h.2.1
      rw [Int.toNat_natCast] at this
      exact HK.out this
  · obtain rfl : t = false := bool_no ht hPt
    have HPt := hideT hPt
    clear ht hPt
    go_wp2
    go_ret
    exact ⟨BoolIs.no fun h => HPt.out h.1, hB1⟩

end Go.Proofs.Ytikhipekmlhibaa
