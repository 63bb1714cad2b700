/- What spec.l04Nexts and impl.part of members answer: how many have an id as their Prev. -/
import Derived.Test.YtjpbmpjddbekgaaGreatG22
import Derived.Test.YtjpbmpjddbekgaaGreatG23
import Derived.Test.YtjpbmpjddbekgaaGreatG16
namespace Go.Proofs.YtjpbmpjddbekgaaGreat
open Go.RowKit Go.Maps
set_option linter.unusedVariables false

/-- How many of the first k are x. -/
def cntI (f : Nat → Int) (x : Int) : Nat → Nat
  | 0 => 0
  | k + 1 => cntI f x k + (if f k = x then 1 else 0)
theorem cntI_yes {f : Nat → Int} {x : Int} {k : Nat} (h : f k = x) : cntI f x (k + 1) = cntI f x k + 1 := by simp [cntI, h]
theorem cntI_no {f : Nat → Int} {x : Int} {k : Nat} (h : ¬ f k = x) : cntI f x (k + 1) = cntI f x k := by simp [cntI, h]
theorem cntI_le (f : Nat → Int) (x : Int) : ∀ k, cntI f x k ≤ k
  | 0 => Nat.le_refl _
  | k + 1 => by
    have := cntI_le f x k
    by_cases h : f k = x
    · rw [cntI_yes h]; omega
    · rw [cntI_no h]; omega
theorem cntI_congr {f g : Nat → Int} {x : Int} : ∀ {k : Nat}, (∀ i, i < k → f i = g i) → cntI f x k = cntI g x k
  | 0, _ => rfl
  | k + 1, h => by
    show cntI f x k + _ = cntI g x k + _
    rw [cntI_congr (fun i hi => h i (by omega)), h k (by omega)]
theorem cntI_add (f : Nat → Int) (x : Int) (n : Nat) : ∀ m, cntI f x (n + m) = cntI f x n + cntI (fun i => f (n + i)) x m
  | 0 => rfl
  | m + 1 => by
    show cntI f x (n + m) + (if f (n + m) = x then 1 else 0) = cntI f x n + (cntI (fun i => f (n + i)) x m + (if f (n + m) = x then 1 else 0))
    rw [cntI_add f x n m]
    omega
/-- What both answer in a right world. -/
def nextN (W : WorldD) (x : Int) : Nat := cntI (fun i => (W.sets i).prev) x W.sn + cntI (fun i => (W.snaps i).prev) x W.pn
theorem nextN_mem (W : WorldD) (x : Int) : cntI (fun i => (memOf W i).prev) x (memN W) = nextN W x := by
  unfold memN nextN
  rw [cntI_add, cntI_congr (g := fun i => (W.snaps i).prev) (fun i hi => by show (memOf W i).prev = _; rw [memOf_snap hi]; rfl), cntI_congr (f := fun i => (memOf W (W.pn + i)).prev) (g := fun i => (W.sets i).prev) (fun i hi => by show (memOf W (W.pn + i)).prev = _; rw [memOf_set]; rfl)]
  omega
set_option maxRecDepth 20000 in
set_option maxHeartbeats 1000000 in
theorem l04Nexts_any (v0 v1 v2 v3 : Value) (lo hi : Nat) (W : WorldD) (x : Int) (w : World) (h : WorldAt w lo hi v0 v1 v2 v3 W) (hs : W.sn ≤ 8) (hp : W.pn ≤ 20) :
    Calls Tryz.prog 89 #[worldV v0 v1 v2 v3 W, .int .i64 x] w fun e w' => e = .returned (.int .i64 (nextN W x)) ∧ Below w.heap.size w w' := by
  have Hp := hideW h
  obtain ⟨m1, a, c, rfl, mc, -⟩ := id h.snaps
  obtain ⟨m2, a', c', rfl, mc', -⟩ := id h.sets
  clear h m1 m2
  have ha := below_alloc w (.cells #[v0, v1, .int .i64 W.time, .int .i64 W.next, .slice a' W.sn c', .slice a W.pn c] 38)
  have HB := hideW (Box6.new w v0 v1 (.int .i64 W.time) (.int .i64 W.next) (.slice a' W.sn c') (.slice a W.pn c) 38)
  go_enter Tryz.func89, Tryz.ntmps89
  go_wp2
  go_loopw [5, 6] (fun m i wr => ∃ k : Nat, k ≤ W.sn ∧ i = .int .i64 k ∧ m = .int .i64 (cntI (fun i => (W.sets i).prev) x k) ∧ Box6 wr w.heap.size v0 v1 (.int .i64 W.time) (.int .i64 W.next) (.slice a' W.sn c') (.slice a W.pn c) ∧ Below w.heap.size w wr) (fun _ i _ => W.sn - (intOf i).toNat)
  case atStart => exact ⟨0, Nat.zero_le _, rfl, rfl, HB.out, ha⟩
  case round =>
    obtain ⟨k, hk, rfl, rfl, hX, hb⟩ := hrel
    have HX := hideW hX
    have hle := cntI_le (fun i => (W.sets i).prev) x k
    have hle' : (cntI (fun i => (W.sets i).prev) x k : Int) ≤ 8 := by omega
    clear hX
    obtain ⟨⟨x0, x1⟩, ⟨x2, x3⟩, ⟨x4, x5⟩, ⟨x6, x7⟩, ⟨x8, x9⟩, ⟨x10, x11⟩⟩ := HX.out
    by_cases hlt : k < W.sn
    · have hlt' : (k : Int) < (W.sn : Int) := by omega
      obtain ⟨b, off, vd, rfl, hs⟩ := (Hp.out.sets.below hb).cells hlt
      have q0 := hs.c2
      clear hs
      by_cases he : (W.sets k).prev = x
      · have H := hideW he
        rw [he] at q0
        clear he
        go_wp2
        go_roundw
        case rel => exact ⟨k + 1, by omega, by go_num, by rw [cntI_yes H.out]; go_num, HX.out, hb⟩
        case measure => simp [intOf]; omega
      · have H := hideW he
        have e0 : ((W.sets k).prev == x) = false := by simp [he]
        clear he
        go_wp2
        go_roundw
        case rel => exact ⟨k + 1, by omega, by go_num, by rw [cntI_no H.out], HX.out, hb⟩
        case measure => simp [intOf]; omega
    · obtain rfl : k = W.sn := by omega
      go_wp2
      go_loopw [5, 7] (fun m i wr => ∃ k : Nat, k ≤ W.pn ∧ i = .int .i64 k ∧ m = .int .i64 ((cntI (fun i => (W.sets i).prev) x W.sn : Int) + (cntI (fun i => (W.snaps i).prev) x k : Int)) ∧ Box6 wr w.heap.size v0 v1 (.int .i64 W.time) (.int .i64 W.next) (.slice a' W.sn c') (.slice a W.pn c) ∧ Below w.heap.size w wr) (fun _ i _ => W.pn - (intOf i).toNat)
      case atStart => exact ⟨0, Nat.zero_le _, rfl, by simp [cntI], HX.out, hb⟩
      case round =>
        clear x0 x1 x2 x3 x4 x5 x6 x7 x8 x9 x10 x11 HX hb
        obtain ⟨k, hk, rfl, rfl, hX, hb⟩ := hrel
        have HX := hideW hX
        have hlp := cntI_le (fun i => (W.snaps i).prev) x k
        have hlp' : (cntI (fun i => (W.snaps i).prev) x k : Int) ≤ 20 := by omega
        clear hX
        obtain ⟨⟨x0, x1⟩, ⟨x2, x3⟩, ⟨x4, x5⟩, ⟨x6, x7⟩, ⟨x8, x9⟩, ⟨x10, x11⟩⟩ := HX.out
        by_cases hlt : k < W.pn
        · have hlt' : (k : Int) < (W.pn : Int) := by omega
          obtain ⟨b, off, vd, rfl, hs⟩ := (Hp.out.snaps.below hb).cells hlt
          have q0 := hs.c3
          clear hs
          by_cases he : (W.snaps k).prev = x
          · have H := hideW he
            rw [he] at q0
            clear he
            go_wp2
            go_roundw
            case rel => exact ⟨k + 1, by omega, by go_num, by rw [cntI_yes H.out]; go_num, HX.out, hb⟩
            case measure => simp [intOf]; omega
          · have H := hideW he
            have e0 : ((W.snaps k).prev == x) = false := by simp [he]
            clear he
            go_wp2
            go_roundw
            case rel => exact ⟨k + 1, by omega, by go_num, by rw [cntI_no H.out], HX.out, hb⟩
            case measure => simp [intOf]; omega
        · obtain rfl : k = W.pn := by omega
          go_wp2
          go_ret
          exact ⟨by unfold nextN; rw [Int.natCast_add]; rfl, hb⟩

/-- A row of so many members. -/
def RowQ (w : World) (base : Nat) (v : Value) (n : Nat) : Prop := ∃ xs, w.ownsRow base 114 5 v n xs
theorem RowQ.below {w w1 : World} {base : Nat} {v : Value} {n : Nat} (h : RowQ w base v n) (hb : Below w.heap.size w w1) : RowQ w1 base v n := by
  obtain ⟨xs, h⟩ := h
  exact ⟨xs, h.kept (grownL hb none) (by cases v.ownBlock <;> simp)⟩
theorem RowQ.lt {w : World} {base : Nat} {v : Value} {n : Nat} (h : RowQ w base v n) {q : Nat} (hq : v.ownBlock = some q) : base ≤ q ∧ q < w.heap.size := by
  obtain ⟨xs, h⟩ := h
  rcases h.2 with ⟨rfl, _⟩ | ⟨g, cap, cur, rfl, hb, hg, _⟩
  · simp [Value.ownBlock] at hq
  · simp only [Value.ownBlock, Option.some.injEq] at hq
    subst hq
    exact ⟨hb, (Array.getElem?_eq_some_iff.1 hg).1⟩
theorem RowQ.turned {w w1 : World} {base : Nat} {v : Value} {n : Nat} {row : Option Nat} (h : RowQ w base v n) (hg : w.grownBy w1 row) (hne : ∀ q, v.ownBlock = some q → row ≠ some q) : RowQ w1 base v n := by
  obtain ⟨xs, h⟩ := h
  refine ⟨xs, h.kept hg ?_⟩
  cases hv : v.ownBlock with
  | none => simp
  | some q => exact Or.inr (fun e => hne q hv e.symm)
/-- Two rows in blocks of their own. -/
def TwoQ (w w' : World) (v v' : Value) (n n' : Nat) : Prop := RowQ w' w.heap.size v n ∧ RowQ w' w.heap.size v' n' ∧ (∀ q, v.ownBlock = some q → v'.ownBlock ≠ some q) ∧ Below w.heap.size w w'
theorem twoQ_next {w1 w2 : World} {base g cap n n' : Nat} {v v' : Value} {xs : List Value} (h' : RowQ w1 base v' n') (ha : ∀ q, v.ownBlock = some q → v'.ownBlock ≠ some q)
    (hown : w2.ownsRow base 114 5 (.slice (some ⟨g, 0, none⟩) (n + 1) cap) (n + 1) xs) (hg : w1.grownBy w2 v.ownBlock) (hat : v.ownBlock = some g ∨ g = w1.heap.size) :
    RowQ w2 base (.slice (some ⟨g, 0, none⟩) (n + 1) cap) (n + 1) ∧ RowQ w2 base v' n' ∧ (∀ q, (Value.slice (some ⟨g, 0, none⟩) (n + 1) cap).ownBlock = some q → v'.ownBlock ≠ some q) := by
  refine ⟨⟨xs, hown⟩, h'.turned hg (fun q hq e => ha q e hq), fun q hq e => ?_⟩
  simp only [Value.ownBlock, Option.some.injEq] at hq
  subst hq
  rcases hat with h | h
  · exact ha _ h e
  · have := (h'.lt e).2
    omega

set_option maxRecDepth 20000 in
set_option maxHeartbeats 400000 in
theorem ofPrev_any (a : Option Addr) (c : Nat) (m : MemD) (x : Int) (T : Nat) (w : World) (hT : w.cell? ⟨T, 0, none⟩ = some (.int .i64 x)) :
    Calls Tryz.prog 92 #[.agg #[.int .i64 m.prev, .int .i64 m.time, .int .i64 m.rs, .int .i64 m.rb, .slice a m.dn c], .pointer (some ⟨T, 0, none⟩)] w fun e w' => BoolIs (m.prev = x) e ∧ Below w.heap.size w w' := by
  have hbw := below_alloc w (.cells #[.int .i64 m.prev, .int .i64 m.time, .int .i64 m.rs, .int .i64 m.rb, .slice a m.dn c] 114)
  have hT2 := (hbw.cell (p := ⟨T, 0, none⟩) (lt_of_cell hT)).trans hT
  obtain ⟨⟨y0, -⟩, -⟩ := Box5M.new w (.int .i64 m.prev) (.int .i64 m.time) (.int .i64 m.rs) (.int .i64 m.rb) (.slice a m.dn c) 114
  clear hT
  have Hiff := hideW (show (m.prev == x) = true ↔ m.prev = x by simp)
  go_enter Tryz.func92, Tryz.ntmps92
  go_wp2
  go_ret
  exact ⟨⟨_, rfl, Hiff.out⟩, hbw⟩

set_option maxRecDepth 20000 in
set_option maxHeartbeats 4000000 in
theorem partPrev_any (v : Value) (lo hi : Nat) (W : WorldD) (vd : Nat → Value) (x : Int) (T : Nat) (w : World) (h : MemsAt w lo hi v W vd) (hs : W.sn ≤ 8) (hp : W.pn ≤ 20) (hT : w.cell? ⟨T, 0, none⟩ = some (.int .i64 x)) :
    Calls Tryz.prog 90 #[v, .func (.func 92) #[] #[.pointer (some ⟨T, 0, none⟩)]] w fun e w' => ∃ a c vo, e = .returned (.tuple #[.slice a (cntI (fun i => (memOf W i).prev) x (memN W)) c, vo]) ∧ Below w.heap.size w w' := by
  have Hp := hideW h
  have HT := hideW hT
  have hM : memN W ≤ 28 := by unfold memN; omega
  obtain ⟨a, c, rfl, mc⟩ := h.form
  clear h hT
  obtain ⟨i0, hi0, hzz⟩ := Option.map_eq_some_iff.1 infoMem
  simp only [Prod.mk.injEq] at hzz
  have HI := hideW (And.intro hi0 hzz)
  clear hi0 hzz
  have hmf : ∀ (fn : Fn) (first cap : Array Value) (w : World), (Instr.makeFunc fn first cap).run Tryz.prog w = .ok (.func fn first cap) w := fun _ _ _ _ => rfl
  go_enter Tryz.func90, Tryz.ntmps90
  go_wp2
  go_loopw [6, 7, 12] (fun vy vo i wr => ∃ k : Nat, k ≤ memN W ∧ i = .int .i64 k ∧ TwoQ w wr vy vo (cntI (fun i => (memOf W i).prev) x k) (k - cntI (fun i => (memOf W i).prev) x k)) (fun _ _ i _ => memN W - (intOf i).toNat)
  case atStart => exact ⟨0, Nat.zero_le _, rfl, ⟨[], World.ownsRow_nil _ _ _ _⟩, ⟨[], World.ownsRow_nil _ _ _ _⟩, fun q hq => by simp [Value.ownBlock] at hq, Below.refl _ _⟩
  case round =>
    obtain ⟨k, hk, rfl, hy, ho, hap, hb⟩ := hrel
    have Hy := hideW hy
    have Ho := hideW ho
    have Hap := hideW hap
    have hlen := cntI_le (fun i => (memOf W i).prev) x k
    clear hy ho hap
    by_cases hlt : k < memN W
    · have hlt' : (k : Int) < (memN W : Int) := by omega
      obtain ⟨g, c', hv, q0, q1, q2, q3, q4⟩ := (Hp.out.below hb).cells k hlt
      simp only [Value.slice.injEq, true_and] at hv
      obtain ⟨rfl, rfl⟩ := hv
      obtain ⟨-, ad, cd, evd, -, -⟩ := Hp.out.dead k hlt
      rw [evd] at q4
      clear evd
      have hal := below_alloc wr (.cells #[.int .i64 (memOf W k).prev, .int .i64 (memOf W k).time, .int .i64 (memOf W k).rs, .int .i64 (memOf W k).rb, .slice ad (memOf W k).dn cd] 114)
      have HV := hideW (Box5M.new wr (.int .i64 (memOf W k).prev) (.int .i64 (memOf W k).time) (.int .i64 (memOf W k).rs) (.int .i64 (memOf W k).rb) (.slice ad (memOf W k).dn cd) 114)
      have hB1 := below_next hb hal
      have HT1 := hideW ((hB1.cell (p := ⟨T, 0, none⟩) (lt_of_cell HT.out)).trans HT.out)
      obtain ⟨⟨y0, -⟩, ⟨y1, -⟩, ⟨y2, -⟩, ⟨y3, -⟩, ⟨y4, -⟩⟩ := HV.out
      go_wp2_with fail
      clear q0 q1 q2 q3 q4 y0 y1 y2 y3 y4
      refine (ofPrev_any ad cd (memOf W k) x T _ HT1.out).mono ?_
      rintro e w1 ⟨⟨s, rfl, hs⟩, hb1⟩
      have Hy1 := hideW ((Hy.out.below hal).below hb1)
      have Ho1 := hideW ((Ho.out.below hal).below hb1)
      have HV1 := hideW (HV.out.below hb1)
      have hB2 := below_next hB1 hb1
      clear hb1 hB1 hal Hy Ho HV HT1
      have hz2 := hB2.size
      obtain ⟨⟨y0, -⟩, ⟨y1, -⟩, ⟨y2, -⟩, ⟨y3, -⟩, ⟨y4, -⟩⟩ := HV1.out
      have hba := below_alloc w1 (.cells #[.int .i64 (memOf W k).prev, .int .i64 (memOf W k).time, .int .i64 (memOf W k).rs, .int .i64 (memOf W k).rb, .slice ad (memOf W k).dn cd] 114)
      have Hy2 := hideW (Hy1.out.below hba)
      have Ho2 := hideW (Ho1.out.below hba)
      have hB3 := below_next hB2 hba
      have hz3 := hba.size
      have HN := hideW (World.news_of_block (heap_alloc_last w1 (.cells #[.int .i64 (memOf W k).prev, .int .i64 (memOf W k).time, .int .i64 (memOf W k).rs, .int .i64 (memOf W k).rb, .slice ad (memOf W k).dn cd] 114)))
      clear hba
      by_cases hq : (memOf W k).prev = x
      · obtain rfl : s = true := hs.2 hq
        have ey := hideW (cntI_yes (f := fun i => (memOf W i).prev) hq)
        clear hs hq
        obtain ⟨xs, hxs⟩ := Hy2.out
        have Hxs := hideW hxs
        clear hxs
        go_wp2_with (first
          | (at_builtin; refine wpList_append_lies _ rfl _ _ 110 rfl w.heap.size 114 i0 (.agg #[.int .i64 0, .int .i64 0, .int .i64 0, .int .i64 0, .slice none 0 0]) 5 56 (by kernel_rfl) HI.out.1 HI.out.2.1 HI.out.2.2.1 HI.out.2.2.2 rfl (by decide) _ _ _ rfl Hxs.out ⟨w1.heap.size, 0, none⟩ 1 1 [.int .i64 (memOf W k).prev, .int .i64 (memOf W k).time, .int .i64 (memOf W k).rs, .int .i64 (memOf W k).rb, .slice ad (memOf W k).dn cd] rfl rfl HN.out (by simp [Value.oneCell']) (by decide) (by unfold maxLen; omega) (by omega) (by omega) _ rfl ?_; intro g' cap' w4 hown4 hgrow4 hat4 hlt4)
          | go_in)
        go_roundw
        case rel =>
          obtain ⟨r1, r2, r3⟩ := twoQ_next Ho2.out Hap.out hown4 hgrow4 hat4
          refine ⟨k + 1, by omega, by go_num, by rw [ey.out]; exact r1, ?_, r3, hB3.grown hgrow4 hB3.size (fun q hq => (Hy2.out.lt hq).1)⟩
          rw [ey.out, show k + 1 - (cntI (fun i => (memOf W i).prev) x k + 1) = k - cntI (fun i => (memOf W i).prev) x k by omega]
          exact r2
        case measure => simp [intOf]; omega
      · obtain rfl : s = false := bool_no hs hq
        have ey := hideW (cntI_no (f := fun i => (memOf W i).prev) hq)
        clear hs hq
        obtain ⟨xs, hxs⟩ := Ho2.out
        have Hxs := hideW hxs
        clear hxs
        go_wp2_with (first
          | (at_builtin; refine wpList_append_lies _ rfl _ _ 110 rfl w.heap.size 114 i0 (.agg #[.int .i64 0, .int .i64 0, .int .i64 0, .int .i64 0, .slice none 0 0]) 5 56 (by kernel_rfl) HI.out.1 HI.out.2.1 HI.out.2.2.1 HI.out.2.2.2 rfl (by decide) _ _ _ rfl Hxs.out ⟨w1.heap.size, 0, none⟩ 1 1 [.int .i64 (memOf W k).prev, .int .i64 (memOf W k).time, .int .i64 (memOf W k).rs, .int .i64 (memOf W k).rb, .slice ad (memOf W k).dn cd] rfl rfl HN.out (by simp [Value.oneCell']) (by decide) (by unfold maxLen; omega) (by omega) (by omega) _ rfl ?_; intro g' cap' w4 hown4 hgrow4 hat4 hlt4)
          | go_in)
        go_roundw
        case rel =>
          obtain ⟨r1, r2, r3⟩ := twoQ_next Hy2.out (fun q h h' => Hap.out q h' h) hown4 hgrow4 hat4
          refine ⟨k + 1, by omega, by go_num, by rw [ey.out]; exact r2, ?_, fun q h h' => r3 q h' h, hB3.grown hgrow4 hB3.size (fun q hq => (Ho2.out.lt hq).1)⟩
          rw [ey.out, show k + 1 - cntI (fun i => (memOf W i).prev) x k = k - cntI (fun i => (memOf W i).prev) x k + 1 by omega]
          exact r1
        case measure => simp [intOf]; omega
    · obtain rfl : k = memN W := by omega
      obtain ⟨xs, hxs⟩ := Hy.out
      obtain ⟨ay, cy, rfl, -⟩ := owns_form hxs
      clear hxs
      go_wp2
      go_ret2
      exact ⟨ay, cy, _, rfl, hb⟩

end Go.Proofs.YtjpbmpjddbekgaaGreat

namespace Go.Proofs.YtjpbmpjddbekgaaGreat
open Go.RowKit Go.Maps
set_option linter.unusedVariables false

/-- The answer. -/
def NextIs (W : WorldD) (x : Int) (r : Int) : Prop := (1 ≤ x ∧ SpecW W → r = nextN W x) ∧ (¬ (1 ≤ x ∧ SpecW W) → r = 0)
theorem NextIs.one {W : WorldD} {x r r' : Int} (h : NextIs W x r) (h' : NextIs W x r') : r' = r := by
  by_cases hx : 1 ≤ x ∧ SpecW W
  · rw [h.1 hx, h'.1 hx]
  · rw [h.2 hx, h'.2 hx]

set_option maxRecDepth 20000 in
set_option maxHeartbeats 1000000 in
theorem implNextsOf_any (v0 v1 v2 v3 : Value) (lo hi : Nat) (W : WorldD) (x : Int) (w : World) (h : WorldAt w lo hi v0 v1 v2 v3 W) (hwf : PrevsWf W) :
    Calls Tryz.prog 30 #[worldV v0 v1 v2 v3 W, .int .i64 x] w fun e w' => (∃ r : Int, e = .returned (.int .i64 r) ∧ NextIs W x r) ∧ Below w.heap.size w w' := by
  have Hp := hideW h
  have Hwf := hideW hwf
  clear h hwf
  have hmf : ∀ (fn : Fn) (first cap : Array Value) (w : World), (Instr.makeFunc fn first cap).run Tryz.prog w = .ok (.func fn first cap) w := fun _ _ _ _ => rfl
  have ha1 := below_alloc w (.cells #[v0, v1, .int .i64 W.time, .int .i64 W.next, v2, v3] 38)
  have ha2 := below_alloc (w.alloc (.cells #[v0, v1, .int .i64 W.time, .int .i64 W.next, v2, v3] 38)) (.cells #[.int .i64 x] 2)
  have ha := below_next ha1 ha2
  have HB := hideW ((Box6.new w v0 v1 (.int .i64 W.time) (.int .i64 W.next) v2 v3 38).below ha2)
  have hT : ((w.alloc (.cells #[v0, v1, .int .i64 W.time, .int .i64 W.next, v2, v3] 38)).alloc (.cells #[.int .i64 x] 2)).cell? ⟨w.heap.size + 1, 0, none⟩ = some (.int .i64 x) := by
    have hb : ((w.alloc (.cells #[v0, v1, .int .i64 W.time, .int .i64 W.next, v2, v3] 38)).alloc (.cells #[.int .i64 x] 2)).heap[(w.alloc (.cells #[v0, v1, .int .i64 W.time, .int .i64 W.next, v2, v3] 38)).heap.size]? = some (.cells #[.int .i64 x] 2) := heap_alloc_new _ _
    rw [World.size_alloc] at hb
    exact (cell_of_block (i := 0) hb rfl).1
  have HT := hideW hT
  obtain ⟨⟨x0, -⟩, ⟨x1, -⟩, ⟨x2, -⟩, ⟨x3, -⟩, ⟨x4, -⟩, ⟨x5, -⟩⟩ := HB.out
  clear ha1 ha2
  by_cases hx : x < 1
  · have Hx := hideW hx
    go_enter Tryz.func30, Tryz.ntmps30
    go_wp2
    go_ret
    exact ⟨⟨0, rfl, fun h => absurd h.1 (by have := Hx.out; omega), fun _ => rfl⟩, ha⟩
  · have Hx := hideW hx
    go_enter Tryz.func30, Tryz.ntmps30
    go_wp2_with fail
    generalize (w.alloc (.cells #[v0, v1, .int .i64 W.time, .int .i64 W.next, v2, v3] 38)).alloc (.cells #[.int .i64 x] 2) = W0 at ha HB HT hT x0 x1 x2 x3 x4 x5 ⊢
    refine (implWorldRight_any v0 v1 v2 v3 lo hi W W0 (Hp.out.below ha) Hwf.out).mono ?_
    rintro e w1 ⟨⟨t, rfl, ht⟩, hb1⟩
    have Ht := hideW (ht.trans (world_iff W))
    have hB1 := below_next ha hb1
    have HB1 := hideW (HB.out.below hb1)
    have HT1 := hideW ((hb1.cell (p := ⟨w.heap.size + 1, 0, none⟩) (lt_of_cell HT.out)).trans HT.out)
    clear ht hb1 x0 x1 x2 x3 x4 x5 HB ha HT hT
    cases t
    · go_wp2
      go_ret
      exact ⟨⟨0, rfl, fun h => absurd (Ht.out.2 h.2) (by simp), fun _ => rfl⟩, hB1⟩
    · have HW := hideW (Ht.out.1 rfl)
      obtain ⟨⟨x0, -⟩, ⟨x1, -⟩, ⟨x2, -⟩, ⟨x3, -⟩, ⟨x4, -⟩, ⟨x5, -⟩⟩ := HB1.out
      go_wp2_with fail
      refine (membersOf_any v0 v1 v2 v3 lo hi W w1 (Hp.out.below hB1) HW.out.names.2.2.1 HW.out.names.2.2.2.1).mono ?_
      rintro e w2 ⟨v, vd, rfl, hM, hb2⟩
      have hB2 := below_next hB1 hb2
      have HT2 := hideW ((hb2.cell (p := ⟨w.heap.size + 1, 0, none⟩) (lt_of_cell HT1.out)).trans HT1.out)
      have HM := hideW hM
      obtain ⟨am, cm, rfl, -⟩ := hM.form
      clear hb2 hB1 x0 x1 x2 x3 x4 x5 hM HT1 HB1
      go_wp2_with fail
      refine (partPrev_any _ lo hi W vd x (w.heap.size + 1) w2 HM.out HW.out.names.2.2.1 HW.out.names.2.2.2.1 HT2.out).mono ?_
      rintro e w3 ⟨ay, cy, vo, rfl, hb3⟩
      have hB3 := below_next hB2 hb3
      have HC := hideW (nextN_mem W x)
      clear hb3 hB2
      go_wp2
      go_ret
      exact ⟨⟨_, rfl, fun _ => by rw [HC.out], fun h => absurd ⟨by have := Hx.out; omega, HW.out⟩ h⟩, hB3⟩

end Go.Proofs.YtjpbmpjddbekgaaGreat

namespace Go.Proofs.YtjpbmpjddbekgaaGreat
open Go.RowKit Go.Maps
set_option linter.unusedVariables false

set_option maxRecDepth 20000 in
set_option maxHeartbeats 1000000 in
theorem specNextsOf_any (v0 v1 v2 v3 : Value) (lo hi : Nat) (W : WorldD) (x : Int) (w : World) (h : WorldAt w lo hi v0 v1 v2 v3 W) :
    Calls Tryz.prog 29 #[worldV v0 v1 v2 v3 W, .int .i64 x] w fun e w' => (∃ r : Int, e = .returned (.int .i64 r) ∧ NextIs W x r) ∧ Below w.heap.size w w' := by
  have Hp := hideW h
  clear h
  have ha := below_alloc w (.cells #[v0, v1, .int .i64 W.time, .int .i64 W.next, v2, v3] 38)
  have HB := hideW (Box6.new w v0 v1 (.int .i64 W.time) (.int .i64 W.next) v2 v3 38)
  obtain ⟨⟨x0, -⟩, ⟨x1, -⟩, ⟨x2, -⟩, ⟨x3, -⟩, ⟨x4, -⟩, ⟨x5, -⟩⟩ := HB.out
  by_cases hx : x < 1
  · have Hx := hideW hx
    go_enter Tryz.func29, Tryz.ntmps29
    go_wp2
    go_ret
    exact ⟨⟨0, rfl, fun h => absurd h.1 (by have := Hx.out; omega), fun _ => rfl⟩, ha⟩
  · have Hx := hideW hx
    go_enter Tryz.func29, Tryz.ntmps29
    go_wp2_with fail
    generalize w.alloc (.cells #[v0, v1, .int .i64 W.time, .int .i64 W.next, v2, v3] 38) = W0 at ha HB x0 x1 x2 x3 x4 x5 ⊢
    refine (specWorldRight_any v0 v1 v2 v3 lo hi W W0 (Hp.out.below ha)).mono ?_
    rintro e w1 ⟨⟨t, rfl, ht⟩, hb1⟩
    have Ht := hideW ht
    have hB1 := below_next ha hb1
    have HB1 := hideW (HB.out.below hb1)
    clear ht hb1 x0 x1 x2 x3 x4 x5 HB ha
    cases t
    · go_wp2
      go_ret
      exact ⟨⟨0, rfl, fun h => absurd (Ht.out.2 h.2) (by simp), fun _ => rfl⟩, hB1⟩
    · have HW := hideW (Ht.out.1 rfl)
      obtain ⟨⟨x0, -⟩, ⟨x1, -⟩, ⟨x2, -⟩, ⟨x3, -⟩, ⟨x4, -⟩, ⟨x5, -⟩⟩ := HB1.out
      go_wp2_with fail
      refine (l04Nexts_any v0 v1 v2 v3 lo hi W x w1 (Hp.out.below hB1) HW.out.names.2.2.1 HW.out.names.2.2.2.1).mono ?_
      rintro e w2 ⟨rfl, hb2⟩
      have hB2 := below_next hB1 hb2
      clear hb2 hB1 x0 x1 x2 x3 x4 x5
      go_wp2
      go_ret
      exact ⟨⟨_, rfl, fun _ => rfl, fun h => absurd ⟨by have := Hx.out; omega, HW.out⟩ h⟩, hB2⟩

end Go.Proofs.YtjpbmpjddbekgaaGreat
