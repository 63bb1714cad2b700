/- What the laws' own functions on trees answer: lwPage, lwSame, lwIn, lwGone. -/
import Derived.Test.YtikhipekmlhibaaG31
import Derived.BigQuiet
import Derived.Test.YtikhipekmlhibaaG25
import Derived.Test.YtikhipekmlhibaaG22
import Derived.Test.YtikhipekmlhibaaG18
import Derived.Laws.BytesArg
import Derived.Test.YtikhipekmlhibaaG19
import Derived.Test.YtikhipekmlhibaaG15
namespace Go.Proofs.Ytikhipekmlhibaa
open Go Go.RowKit
set_option linter.unusedVariables false

/-- A page's text, that of none being empty. -/
def lwD (p : PoolD) (xs xb : Int) (k : Nat) : ByteArray := if Nil (pageS p xs xb k) (pageB p xs xb k) then ⟨#[]⟩ else (p.s (pageS p xs xb k).toNat).data
theorem lwD_root {p : PoolD} {xs xb : Int} {k : Nat} (h : Nil xs xb) : lwD p xs xb k = ⟨#[]⟩ := by
  have hn : Nil (nodeS p xs xb k) (nodeB p xs xb k) := ⟨if_pos h, if_pos h⟩
  exact if_pos ⟨if_pos hn, if_pos hn⟩
theorem lwD_node {p : PoolD} {xs xb : Int} {k : Nat} (hn : Nil (nodeS p xs xb k) (nodeB p xs xb k)) : lwD p xs xb k = ⟨#[]⟩ := if_pos ⟨if_pos hn, if_pos hn⟩
/-- The cells of a Kid of what a pointer points at. -/
theorem PoolAt.kidAt {w : World} {lo hi : Nat} {a : Option Addr} {c : Nat} {v1 : Value} {p : PoolD} (h : PoolAt w lo hi (.slice a p.n c) v1 p) {m : Nat} (hm : m < p.n) (h8 : (p.s m).kn = 8) {i : Nat} (hi' : i < 8) :
    ∃ b off ka kof kc, a = some ⟨b, off, none⟩ ∧ w.cell? ⟨b, off + m * 3 + 1, none⟩ = some (.slice (some ⟨ka, kof, none⟩) 8 kc) ∧ w.cell? ⟨ka, kof + i * 2, none⟩ = some (.int .i64 (kidS (p.s m) i)) ∧ w.cell? ⟨ka, kof + i * 2 + 1, none⟩ = some (.int .i64 (kidB (p.s m) i)) := by
  obtain ⟨b, off, ka, kc, rfl, hs⟩ := h.1.cells hm
  have hk := hs.slot.2.1
  rw [h8] at hk
  obtain ⟨kb, kof, rfl, q0, q1⟩ := hk.cellsT hi'
  obtain ⟨_, g1, _, _⟩ := hs
  rw [h8] at g1
  rw [kidS_at h8 hi', kidB_at h8 hi']
  exact ⟨b, off, kb, kof, kc, rfl, g1, q0, q1⟩

set_option maxRecDepth 20000 in
set_option maxHeartbeats 2000000 in
theorem lwPage_any (v0 v1 : Value) (lo hi : Nat) (p : PoolD) (xs xb : Int) (k : Nat) (w : World) (h1 : PoolAt w lo hi v0 v1 p) (hT : TreeR p xs xb) (hk : k < 64) :
    Calls Try.prog 80 #[.agg #[v0, v1], .agg #[.int .i64 xs, .int .i64 xb], .int .i64 (k : Int)] w fun e w' => e = .returned (.string (lwD p xs xb k)) ∧ Below w.heap.size w w' := by
  have Hp := hideT h1
  have HT := hideT hT
  obtain ⟨a, c, a', c', rfl, rfl⟩ := h1.form
  clear h1 hT
  have hst := start22 w (.slice a p.n c) (.slice a' p.hn c') (.int .i64 xs) (.int .i64 xb) 26 33
  have hq : (k : Int).tdiv 8 = ((k / 8 : Nat) : Int) := (Int.ofNat_tdiv k 8).symm
  have hr : (k : Int).tmod 8 = ((k % 8 : Nat) : Int) := (Int.ofNat_tmod k 8).symm
  have hq8 : ((k / 8 : Nat) : Int) < 8 := by omega
  have hr8 : ((k % 8 : Nat) : Int) < 8 := by omega
  have hk' : (k : Int) < 64 := by omega
  have hm0 : 0 ≤ (k : Int) % 8 := by omega
  have hm8 : (k : Int) % 8 < 8 := by omega
  have hmt : ((k : Int) % 8).toNat = k % 8 := by omega
  go_enter Try.func80, Try.ntmps80
  go_upto_region 1 with fail
  generalize (w.alloc (.cells #[.slice a p.n c, .slice a' p.hn c'] 26)).alloc (.cells #[.int .i64 xs, .int .i64 xb] 33) = W at hst ⊢
  obtain ⟨hB, hX, hba, hz⟩ := hst
  have HB := hideT hB
  have HX := hideT hX
  clear hB hX
  obtain ⟨⟨x0, x1⟩, ⟨x2, x3⟩⟩ := HB.out
  obtain ⟨⟨y0, y1⟩, ⟨y2, y3⟩⟩ := HX.out
  by_cases hn : Nil xs xb
  · have HD := hideT (lwD_root (p := p) (k := k) hn)
    have e0 : (xb == 0) = true := by simp [hn.2]
    clear hn
    go_wp2
    go_ret
    rw [HD.out]
    exact ⟨rfl, hba⟩
  · have hN := root_at HT.out hn
    have e0 : (xb == 0) = false := by have := hN.1.1; simp; omega
    have h8 : (p.s xs.toNat).kn = 8 := by rcases points_kn HT.out.1 hN.1 with h | h; (have := hN.2.1; omega); exact h
    obtain ⟨m, rfl⟩ := Int.eq_ofNat_of_zero_le hN.1.2.1
    have hm : m < p.n := by have := hN.1.2.2.1; omega
    have hm' : (m : Int) < (p.n : Int) := by omega
    rw [Int.toNat_natCast] at h8
    obtain ⟨b, off, ka, kof, kc, rfl, q0, q1, q2⟩ := (Hp.out.below hba).kidAt hm h8 (show k / 8 < 8 by omega)
    have en : kidS (p.s m) (k / 8) = nodeS p (m : Int) xb k ∧ kidB (p.s m) (k / 8) = nodeB p (m : Int) xb k := by
      unfold nodeS nodeB
      rw [(kid_idx hn _).1, (kid_idx hn _).2, Int.toNat_natCast]
      exact ⟨rfl, rfl⟩
    rw [en.1] at q1
    rw [en.2] at q2
    clear en h8 hN hn
    have HNk := hideT (node_ok HT.out (j := k / 8) (by omega))
    have HPk := hideT (page_ok HT.out hk)
    have hal := below_alloc W (.cells #[.int .i64 (nodeS p (m : Int) xb k), .int .i64 (nodeB p (m : Int) xb k)] 33)
    have HV := hideT (Box2.new W (.int .i64 (nodeS p (m : Int) xb k)) (.int .i64 (nodeB p (m : Int) xb k)) 33)
    have HB2 := hideT (HB.out.below hal)
    have hB2 := below_next hba hal
    have hz2 : (W.alloc (.cells #[.int .i64 (nodeS p (m : Int) xb k), .int .i64 (nodeB p (m : Int) xb k)] 33)).heap.size = w.heap.size + 3 := by rw [World.size_alloc, hz]
    rw [hz] at HV
    clear hal
    go_upto_region 4 with fail
    generalize W.alloc (.cells #[.int .i64 (nodeS p (m : Int) xb k), .int .i64 (nodeB p (m : Int) xb k)] 33) = W2 at HV HB2 hB2 hz2 ⊢
    clear x0 x1 x2 x3 y0 y1 y2 y3 q0 q1 q2 HB HX hba
    obtain ⟨⟨x0, x1⟩, ⟨x2, x3⟩⟩ := HB2.out
    obtain ⟨⟨y0, y1⟩, ⟨y2, y3⟩⟩ := HV.out
    by_cases hn2 : Nil (nodeS p (m : Int) xb k) (nodeB p (m : Int) xb k)
    · have HD := hideT (lwD_node (p := p) (k := k) hn2)
      have e1 : (nodeB p (m : Int) xb k == 0) = true := by simp [hn2.2]
      clear hn2
      go_wp2
      go_ret
      rw [HD.out]
      exact ⟨rfl, hB2⟩
    · have hN2 : Points p (nodeS p (m : Int) xb k) (nodeB p (m : Int) xb k) ∧ (p.s (nodeS p (m : Int) xb k).toNat).kn = 8 := HNk.out.resolve_left hn2
      have e1 : (nodeB p (m : Int) xb k == 0) = false := by have := hN2.1.1; simp; omega
      obtain ⟨m2, hm2⟩ := Int.eq_ofNat_of_zero_le hN2.1.2.1
      have hj : m2 < p.n := by have := hN2.1.2.2.1; omega
      have hj' : (m2 : Int) < (p.n : Int) := by omega
      have h8 := hN2.2
      rw [hm2, Int.toNat_natCast] at h8
      obtain ⟨b', off', ka2, kof2, kc2, hbb, q0, q1, q2⟩ := (Hp.out.below hB2).kidAt hj h8 (show k % 8 < 8 by omega)
      simp only [Option.some.injEq, Addr.mk.injEq, and_true] at hbb
      obtain ⟨rfl, rfl⟩ := hbb
      have en : kidS (p.s m2) (k % 8) = pageS p (m : Int) xb k ∧ kidB (p.s m2) (k % 8) = pageB p (m : Int) xb k := by
        unfold pageS pageB
        rw [(kid_idx hn2 _).1, (kid_idx hn2 _).2, hm2, Int.toNat_natCast]
        exact ⟨rfl, rfl⟩
      rw [en.1] at q1
      rw [en.2] at q2
      rw [hm2] at y0
      clear en h8 hN2 hn2 hm2
      have hal := below_alloc W2 (.cells #[.int .i64 (pageS p (m : Int) xb k), .int .i64 (pageB p (m : Int) xb k)] 33)
      have HG := hideT (Box2.new W2 (.int .i64 (pageS p (m : Int) xb k)) (.int .i64 (pageB p (m : Int) xb k)) 33)
      have HB3 := hideT (HB2.out.below hal)
      have hB3 := below_next hB2 hal
      rw [hz2] at HG
      clear hal
      go_upto_region 7 with fail
      generalize W2.alloc (.cells #[.int .i64 (pageS p (m : Int) xb k), .int .i64 (pageB p (m : Int) xb k)] 33) = W3 at HG HB3 hB3 ⊢
      clear x0 x1 x2 x3 y0 y1 y2 y3 q0 q1 q2 HB2 HV hB2
      obtain ⟨⟨x0, x1⟩, ⟨x2, x3⟩⟩ := HB3.out
      obtain ⟨⟨y0, y1⟩, ⟨y2, y3⟩⟩ := HG.out
      by_cases hn3 : Nil (pageS p (m : Int) xb k) (pageB p (m : Int) xb k)
      · have HD : Hid (lwD p (m : Int) xb k = ⟨#[]⟩) := if_pos hn3
        have e2 : (pageB p (m : Int) xb k == 0) = true := by simp [hn3.2]
        clear hn3
        go_wp2
        go_ret
        rw [HD.out]
        exact ⟨rfl, hB3⟩
      · have hN3 := HPk.out.resolve_left hn3
        have e2 : (pageB p (m : Int) xb k == 0) = false := by have := hN3.1.1; simp; omega
        obtain ⟨m3, hm3⟩ := Int.eq_ofNat_of_zero_le hN3.1.2.1
        have hj3 : m3 < p.n := by have := hN3.1.2.2.1; omega
        have hj3' : (m3 : Int) < (p.n : Int) := by omega
        obtain ⟨b', off', ka3, kc3, hbb, hsc⟩ := (Hp.out.1.below hB3).cells hj3
        simp only [Option.some.injEq, Addr.mk.injEq, and_true] at hbb
        obtain ⟨rfl, rfl⟩ := hbb
        obtain ⟨_, _, q2, _⟩ := hsc
        have HD : Hid (lwD p (m : Int) xb k = (p.s m3).data) := by
          show lwD p (m : Int) xb k = _
          unfold lwD
          rw [if_neg hn3, hm3, Int.toNat_natCast]
        rw [hm3] at y0
        clear hn3 hN3 hm3
        go_wp2
        go_ret
        rw [HD.out]
        exact ⟨rfl, hB3⟩

/-- A page of which the text is known. -/
def PageKnown (w : World) (v0 v1 : Value) (xs xb : Int) (k : Nat) (d : ByteArray) : Prop := ∃ lo hi p, PoolAt w lo hi v0 v1 p ∧ TreeR p xs xb ∧ lwD p xs xb k = d
theorem lwPage_known (v0 v1 : Value) (xs xb : Int) (k : Nat) (d : ByteArray) (w : World) (h : PageKnown w v0 v1 xs xb k d) (hk : k < 64) :
    Calls Try.prog 80 #[.agg #[v0, v1], .agg #[.int .i64 xs, .int .i64 xb], .int .i64 (k : Int)] w fun e w' => e = .returned (.string d) ∧ Below w.heap.size w w' := by
  obtain ⟨lo, hi, p, h1, h2, rfl⟩ := h
  exact lwPage_any v0 v1 lo hi p xs xb k w h1 h2 hk

set_option maxRecDepth 20000 in
set_option maxHeartbeats 2000000 in
theorem lwSame_any (v0 v1 u0 u1 : Value) (lo hi lo' hi' : Nat) (p q : PoolD) (xs xb ys yb but : Int) (w : World) (h1 : PoolAt w lo hi v0 v1 p) (h2 : PoolAt w lo' hi' u0 u1 q) (hT : TreeR p xs xb) (hU : TreeR q ys yb) (hD : ∀ k : Nat, k < 64 → (k : Int) ≠ but → lwD p xs xb k = lwD q ys yb k) :
    Calls Try.prog 24 #[.agg #[v0, v1], .agg #[.int .i64 xs, .int .i64 xb], .agg #[u0, u1], .agg #[.int .i64 ys, .int .i64 yb], .int .i64 but] w fun e w' => e = .returned (.bool true) ∧ Below w.heap.size w w' := by
  have H1 := hideT h1
  have H2 := hideT h2
  have HT := hideT hT
  have HU := hideT hU
  have HD := hideT hD
  obtain ⟨a, c, a', c', rfl, rfl⟩ := h1.form
  obtain ⟨d, g, d', g', rfl, rfl⟩ := h2.form
  clear h1 h2 hT hU hD
  obtain ⟨s1, s2, s3, s4⟩ := start22 w (.slice a p.n c) (.slice a' p.hn c') (.int .i64 xs) (.int .i64 xb) 26 33
  go_enter Try.func24, Try.ntmps24
  go_upto_region 1 with fail
  generalize (w.alloc (.cells #[.slice a p.n c, .slice a' p.hn c'] 26)).alloc (.cells #[.int .i64 xs, .int .i64 xb] 33) = W at s1 s2 s3 s4 ⊢
  obtain ⟨r1, r2, r3, r4⟩ := start22 W (.slice d q.n g) (.slice d' q.hn g') (.int .i64 ys) (.int .i64 yb) 26 33
  generalize (W.alloc (.cells #[.slice d q.n g, .slice d' q.hn g'] 26)).alloc (.cells #[.int .i64 ys, .int .i64 yb] 33) = V at r1 r2 r3 r4 ⊢
  rw [s4] at r1 r2
  have HA := hideT (s1.below r3)
  have HX := hideT (s2.below r3)
  have HB := hideT r1
  have HY := hideT r2
  have hbV := below_next s3 r3
  clear s1 s2 s3 s4 r1 r2 r3 r4
  go_wp2
  go_loopw [11] (fun i wr => ∃ k : Nat, k ≤ 64 ∧ i = .int .i64 k ∧ Box2 wr w.heap.size (.slice a p.n c) (.slice a' p.hn c') ∧ Box2 wr (w.heap.size + 1) (.int .i64 xs) (.int .i64 xb) ∧ Box2 wr (w.heap.size + 2) (.slice d q.n g) (.slice d' q.hn g') ∧ Box2 wr (w.heap.size + 2 + 1) (.int .i64 ys) (.int .i64 yb) ∧ Below w.heap.size w wr) (fun i _ => 64 - (intOf i).toNat)
  case atStart => exact ⟨0, Nat.zero_le _, rfl, HA.out, HX.out, HB.out, HY.out, hbV⟩
  case round =>
    obtain ⟨k, hk, rfl, hA, hX, hB, hY, hb⟩ := hrel
    have HA1 := hideT hA
    have HX1 := hideT hX
    have HB1 := hideT hB
    have HY1 := hideT hY
    clear hA hX hB hY HA HX HB HY hbV
    by_cases hlt : k < 64
    · have hlt' : (k : Int) < 64 := by omega
      by_cases hbut : (k : Int) = but
      · have e0 : ((k : Int) != but) = false := by simp [hbut]
        clear hbut
        go_wp2
        go_quiet (fail)
        go_wp2
        go_roundw
        case rel =>
          have hd : ∀ m, Below wr.heap.size wr (wr.drewN m) := fun m => below_drewN (Below.refl _ _) m
          exact ⟨k + 1, by omega, by go_num, HA1.out.below (hd _), HX1.out.below (hd _), HB1.out.below (hd _), HY1.out.below (hd _), below_next hb (hd _)⟩
        case measure => simp [intOf]; omega
      · have e0 : ((k : Int) != but) = true := by simp [hbut]
        have hDk := HD.out k hlt hbut
        obtain ⟨dd, hdP⟩ : ∃ dd, lwD p xs xb k = dd := ⟨_, rfl⟩
        have HdP := hideT hdP
        have HdQ := hideT (hDk.symm.trans hdP)
        clear hbut hDk hdP
        obtain ⟨⟨x0, x1⟩, ⟨x2, x3⟩⟩ := HA1.out
        obtain ⟨⟨y0, y1⟩, ⟨y2, y3⟩⟩ := HX1.out
        obtain ⟨⟨z0, z1⟩, ⟨z2, z3⟩⟩ := HB1.out
        obtain ⟨⟨u0, u1⟩, ⟨u2, u3⟩⟩ := HY1.out
        go_wp2_with fail
        go_region_held3 (fun w' => w'.cell? ⟨w.heap.size, 0, none⟩ = some (.slice a p.n c) ∧ w'.cell? ⟨w.heap.size, 1, none⟩ = some (.slice a' p.hn c') ∧ w'.cell? ⟨w.heap.size + 1, 0, none⟩ = some (.int .i64 xs) ∧ w'.cell? ⟨w.heap.size + 1, 1, none⟩ = some (.int .i64 xb) ∧ w'.cell? ⟨w.heap.size + 2, 0, none⟩ = some (.slice d q.n g) ∧ w'.cell? ⟨w.heap.size + 2, 1, none⟩ = some (.slice d' q.hn g') ∧ w'.cell? ⟨w.heap.size + 2 + 1, 0, none⟩ = some (.int .i64 ys) ∧ w'.cell? ⟨w.heap.size + 2 + 1, 1, none⟩ = some (.int .i64 yb)) (go_keep)
          (first
            | (go_at_call 80; refine (lwPage_known _ _ _ _ k dd _ ?_ hlt).mono ?_; (first | exact ⟨lo, hi, p, H1.out.below hb.drew, HT.out, HdP.out⟩ | exact ⟨lo', hi', q, H2.out.below hb.drew, HU.out, HdQ.out⟩ | exact ⟨lo, hi, p, H1.out.below (below_next hb hC1), HT.out, HdP.out⟩ | exact ⟨lo', hi', q, H2.out.below (below_next hb hC1), HU.out, HdQ.out⟩); rintro e wn ⟨rfl, hbn⟩; have hC1 : Below wr.heap.size wr wn := (by first | exact below_undrew hbn | exact below_next hC1 hbn); obtain ⟨⟨x0, _⟩, ⟨x2, _⟩⟩ := HA1.out.below hC1; obtain ⟨⟨y0, _⟩, ⟨y2, _⟩⟩ := HX1.out.below hC1; obtain ⟨⟨z0, _⟩, ⟨z2, _⟩⟩ := HB1.out.below hC1; obtain ⟨⟨u0, _⟩, ⟨u2, _⟩⟩ := HY1.out.below hC1))
        go_wp2
        go_roundw
        case rel => exact ⟨k + 1, by omega, by go_num, HA1.out.below hC1, HX1.out.below hC1, HB1.out.below hC1, HY1.out.below hC1, below_next hb hC1⟩
        case measure => simp [intOf]; omega
    · obtain rfl : k = 64 := by omega
      go_wp2
      go_ret
      exact ⟨rfl, hb⟩

/-- Two trees of which the pages are known to be the same, but for one. -/
def SameKnown (w : World) (v0 v1 u0 u1 : Value) (xs xb ys yb but : Int) : Prop := ∃ lo hi lo' hi' p q, PoolAt w lo hi v0 v1 p ∧ PoolAt w lo' hi' u0 u1 q ∧ TreeR p xs xb ∧ TreeR q ys yb ∧ ∀ k : Nat, k < 64 → (k : Int) ≠ but → lwD p xs xb k = lwD q ys yb k
theorem lwSame_known (v0 v1 u0 u1 : Value) (xs xb ys yb but : Int) (w : World) (h : SameKnown w v0 v1 u0 u1 xs xb ys yb but) :
    Calls Try.prog 24 #[.agg #[v0, v1], .agg #[.int .i64 xs, .int .i64 xb], .agg #[u0, u1], .agg #[.int .i64 ys, .int .i64 yb], .int .i64 but] w fun e w' => e = .returned (.bool true) ∧ Below w.heap.size w w' := by
  obtain ⟨lo, hi, lo', hi', p, q, h1, h2, h3, h4, h5⟩ := h
  exact lwSame_any v0 v1 u0 u1 lo hi lo' hi' p q xs xb ys yb but w h1 h2 h3 h4 h5

/-- A pointer is in a list. -/
def PtIn (n : Nat) (f g : Nat → Int) (x y : Int) : Prop := ∃ j, j < n ∧ f j = x ∧ g j = y
theorem ptIn_next {n k : Nat} {f g : Nat → Int} {x y : Int} (h : ¬ PtIn k f g x y) (h' : ¬ (f k = x ∧ g k = y)) : ¬ PtIn (k + 1) f g x y := by
  rintro ⟨j, hj, h1, h2⟩
  by_cases e : j = k
  · subst e; exact h' ⟨h1, h2⟩
  · exact h ⟨j, by omega, h1, h2⟩
theorem ptIn_list {l : List (Int × Int)} {x y : Int} : PtIn l.length (fstL l) (sndL l) x y ↔ (x, y) ∈ l := by
  constructor
  · rintro ⟨j, hj, h1, h2⟩
    have : l.getD j (0, 0) = (x, y) := Prod.ext h1 h2
    rw [List.getD_eq_getElem?_getD, List.getElem?_eq_getElem hj, Option.getD_some] at this
    rw [← this]
    exact List.getElem_mem hj
  · intro h
    obtain ⟨j, hj, e⟩ := List.getElem_of_mem h
    refine ⟨j, hj, ?_, ?_⟩
    · unfold fstL; rw [List.getD_eq_getElem?_getD, List.getElem?_eq_getElem hj, Option.getD_some, e]
    · unfold sndL; rw [List.getD_eq_getElem?_getD, List.getElem?_eq_getElem hj, Option.getD_some, e]

set_option maxRecDepth 20000 in
set_option maxHeartbeats 1000000 in
theorem lwIn_any (v : Value) (n lo hi : Nat) (f g : Nat → Int) (x y : Int) (w : World) (h1 : PtrsAt w lo hi v n f g) :
    Calls Try.prog 81 #[v, .agg #[.int .i64 x, .int .i64 y]] w fun e w' => BoolIs (PtIn n f g x y) e ∧ Below w.heap.size w w' := by
  have Hp := hideT h1
  obtain ⟨m1, a, c, rfl, mc, _⟩ := id h1
  unfold maxLen at m1
  clear h1
  have ha := below_alloc w (.cells #[.int .i64 x, .int .i64 y] 33)
  have HB := hideT (Box2.new w (.int .i64 x) (.int .i64 y) 33)
  go_enter Try.func81, Try.ntmps81
  go_wp2
  go_loopw [5] (fun i wr => ∃ k : Nat, k ≤ n ∧ i = .int .i64 k ∧ ¬ PtIn k f g x y ∧ Box2 wr w.heap.size (.int .i64 x) (.int .i64 y) ∧ Below w.heap.size w wr) (fun i _ => n - (intOf i).toNat)
  case atStart => exact ⟨0, Nat.zero_le _, rfl, fun ⟨j, hj, _⟩ => absurd hj (Nat.not_lt_zero _), HB.out, ha⟩
  case round =>
    obtain ⟨k, hk, rfl, hno, hX, hb⟩ := hrel
    have Hno := hideT hno
    have HX := hideT hX
    clear hno hX
    obtain ⟨⟨x0, x1⟩, ⟨x2, x3⟩⟩ := HX.out
    by_cases hlt : k < n
    · have hlt' : (k : Int) < (n : Int) := by omega
      obtain ⟨b, off, rfl, q0, q1⟩ := (Hp.out.below hb).cellsT hlt
      by_cases he : f k = x ∧ g k = y
      · have H := hideT (show PtIn n f g x y from ⟨k, hlt, he.1, he.2⟩)
        rw [he.1] at q0
        rw [he.2] at q1
        clear he
        go_wp2
        go_quiet (fail)
        go_wp2
        go_ret
        exact ⟨BoolIs.yes H.out, below_drewN hb _⟩
      · have H := hideT he
        have e0 : (f k == x) = false ∨ (f k == x) = true ∧ (g k == y) = false := by
          by_cases h : f k = x
          · right
            refine ⟨by simp [h], ?_⟩
            have : g k ≠ y := fun h' => he ⟨h, h'⟩
            simp [this]
          · left; simp [h]
        clear he
        rcases e0 with e0 | ⟨e0, e1⟩
        all_goals
          go_wp2
          go_quiet (fail)
          go_wp2
          go_roundw
          case rel =>
            have hd : ∀ m, Below wr.heap.size wr (wr.drewN m) := fun m => below_drewN (Below.refl _ _) m
            exact ⟨k + 1, by omega, by go_num, ptIn_next (n := n) Hno.out H.out, HX.out.below (hd _), below_next hb (hd _)⟩
          case measure => simp [intOf]; omega
    · obtain rfl : k = n := by omega
      go_wp2
      go_ret
      exact ⟨BoolIs.no Hno.out, hb⟩

/-- How many of the first k are not in another list. -/
def goneN (a b : List (Int × Int)) (k : Nat) : Nat := ((a.take k).filter (fun z => decide (z ∉ b))).length
theorem take_next {a : List (Int × Int)} {k : Nat} (hk : k < a.length) : a.take (k + 1) = a.take k ++ [(fstL a k, sndL a k)] := by
  rw [List.take_add_one, List.getElem?_eq_getElem hk]
  have : a[k] = (fstL a k, sndL a k) := by
    unfold fstL sndL
    rw [List.getD_eq_getElem?_getD, List.getElem?_eq_getElem hk, Option.getD_some]
  rw [this]
  rfl
theorem gone_yes {a b : List (Int × Int)} {k : Nat} (hk : k < a.length) (h : (fstL a k, sndL a k) ∉ b) : goneN a b (k + 1) = goneN a b k + 1 := by
  unfold goneN
  rw [take_next hk, List.filter_append, List.length_append]
  simp [h]
theorem gone_no {a b : List (Int × Int)} {k : Nat} (hk : k < a.length) (h : (fstL a k, sndL a k) ∈ b) : goneN a b (k + 1) = goneN a b k := by
  unfold goneN
  rw [take_next hk, List.filter_append, List.length_append]
  simp [h]
theorem gone_le (a b : List (Int × Int)) (k : Nat) : goneN a b k ≤ a.length := by
  unfold goneN
  exact Nat.le_trans (List.length_filter_le _ _) (by rw [List.length_take]; omega)
theorem at_mem {a : List (Int × Int)} {k : Nat} (hk : k < a.length) : (fstL a k, sndL a k) ∈ a := ptIn_list.1 ⟨k, hk, rfl, rfl⟩

set_option maxRecDepth 20000 in
set_option maxHeartbeats 1000000 in
theorem lwGone_any (v u t : Value) (a b l : List (Int × Int)) (lo hi lo' hi' lo2 hi2 : Nat) (w : World) (h1 : PtrsAt w lo hi v a.length (fstL a) (sndL a)) (h2 : PtrsAt w lo' hi' u b.length (fstL b) (sndL b)) (h3 : PtrsAt w lo2 hi2 t l.length (fstL l) (sndL l)) (ha : a.length ≤ 1000)
    (hg : ∀ z, z ∈ a → z ∉ b → z ∈ l) (hn : (a.filter (fun z => decide (z ∉ b))).length = l.length) :
    Calls Try.prog 25 #[v, u, t] w fun e w' => e = .returned (.bool true) ∧ Below w.heap.size w w' := by
  have H1 := hideT h1
  have H2 := hideT h2
  have H3 := hideT h3
  have Hg := hideT hg
  have Hn : Hid (goneN a b a.length = l.length) := by show goneN a b a.length = l.length; unfold goneN; rw [List.take_length]; exact hn
  obtain ⟨_, a1, c1, rfl, _⟩ := id h1
  obtain ⟨_, a2, c2, rfl, _⟩ := id h2
  obtain ⟨_, a3, c3, rfl, _⟩ := id h3
  clear h1 h2 h3 hg hn
  go_enter Try.func25, Try.ntmps25
  go_wp2
  go_loopw [7, 8] (fun m i wr => ∃ k : Nat, k ≤ a.length ∧ i = .int .i64 k ∧ m = .int .i64 (goneN a b k : Nat) ∧ Below w.heap.size w wr) (fun _ i _ => a.length - (intOf i).toNat)
  case atStart => exact ⟨0, Nat.zero_le _, rfl, rfl, Below.refl _ _⟩
  case round =>
    obtain ⟨k, hk, rfl, rfl, hb⟩ := hrel
    have hgl := gone_le a b k
    by_cases hlt : k < a.length
    · have hlt' : (k : Int) < (a.length : Int) := by omega
      obtain ⟨bb, off, rfl, q0, q1⟩ := (H1.out.below hb).cellsT hlt
      go_wp2_with fail
      refine (lwIn_any _ b.length lo' hi' (fstL b) (sndL b) (fstL a k) (sndL a k) wr (H2.out.below hb)).mono ?_
      rintro e w1 ⟨⟨t, rfl, ht⟩, hb1⟩
      have hB1 := below_next hb hb1
      have q0' := (hb1.cell (lt_of_cell q0)).trans q0
      have q1' := (hb1.cell (lt_of_cell q1)).trans q1
      clear hb1 q0 q1
      rw [ptIn_list] at ht
      by_cases hin : (fstL a k, sndL a k) ∈ b
      · obtain rfl : t = true := ht.2 hin
        have Hgn := hideT (gone_no hlt hin)
        clear ht hin
        go_wp2
        go_roundw
        case rel => exact ⟨k + 1, by omega, by go_num, by rw [Hgn.out], hB1⟩
        case measure => simp [intOf]; omega
      · obtain rfl : t = false := bool_no ht hin
        have Hgn := hideT (gone_yes hlt hin)
        have Hil := hideT (Hg.out _ (at_mem hlt) hin)
        clear ht hin
        go_wp2_with fail
        refine (lwIn_any _ l.length lo2 hi2 (fstL l) (sndL l) (fstL a k) (sndL a k) w1 (H3.out.below hB1)).mono ?_
        rintro e w2 ⟨⟨t, rfl, ht⟩, hb2⟩
        rw [ptIn_list] at ht
        obtain rfl : t = true := ht.2 Hil.out
        have hB2 := below_next hB1 hb2
        clear ht hb2 q0' q1'
        go_wp2
        go_roundw
        case rel => exact ⟨k + 1, by omega, by go_num, by rw [Hgn.out]; go_num, hB2⟩
        case measure => simp [intOf]; omega
    · obtain rfl : k = a.length := by omega
      rw [Hn.out]
      rw [Hn.out] at hgl
      have e0 : (((l.length : Nat) : Int) == ((l.length : Nat) : Int)) = true := by simp
      go_wp2
      go_ret
      exact ⟨rfl, hb⟩

end Go.Proofs.Ytikhipekmlhibaa

namespace Go.Proofs.Ytikhipekmlhibaa
open Go.RowKit
set_option linter.unusedVariables false

/-- What TreePtrs answers. -/
def TreeList (p : PoolD) (xs xb : Int) (l : List (Int × Int)) : Prop := (TreeR p xs xb → l = treeL p xs xb) ∧ (¬ TreeR p xs xb → l = [])
theorem treeList_one {p : PoolD} {xs xb : Int} {l m : List (Int × Int)} (h : TreeList p xs xb l) (h' : TreeList p xs xb m) : l = m := by
  by_cases hx : TreeR p xs xb
  · rw [h.1 hx, h'.1 hx]
  · rw [h.2 hx, h'.2 hx]
theorem treeList_len {p : PoolD} {xs xb : Int} {l : List (Int × Int)} (h : TreeList p xs xb l) : l.length ≤ 73 := by
  by_cases hx : TreeR p xs xb
  · rw [h.1 hx]; exact treeL_len p xs xb
  · rw [h.2 hx]; simp
def NewPtrs (p : PoolD) (xs xb : Int) (w : World) (e : Ending) (w' : World) : Prop := ∃ v l, e = .returned v ∧ TreeList p xs xb l ∧ RowL w' w.heap.size v l ∧ Below w.heap.size w w'

set_option maxRecDepth 20000 in
set_option maxHeartbeats 1000000 in
theorem specTreePtrs_any (v0 v1 : Value) (lo hi : Nat) (p : PoolD) (xs xb : Int) (w : World) (h1 : PoolAt w lo hi v0 v1 p) :
    Calls Try.prog 26 #[.agg #[v0, v1], .agg #[.int .i64 xs, .int .i64 xb]] w (NewPtrs p xs xb w) := by
  have Hp := hideT h1
  obtain ⟨a, c, a', c', rfl, rfl⟩ : ∃ a c a' c', v0 = .slice a p.n c ∧ v1 = .slice a' p.hn c' := by
    obtain ⟨⟨_, a, c, h1, _⟩, ⟨_, a', c', h3, _⟩⟩ := h1
    exact ⟨a, c, a', c', h1, h3⟩
  clear h1
  have hst := start22 w (.slice a p.n c) (.slice a' p.hn c') (.int .i64 xs) (.int .i64 xb) 26 33
  go_enter Try.func26, Try.ntmps26
  go_wp2_with fail
  generalize (w.alloc (.cells #[.slice a p.n c, .slice a' p.hn c'] 26)).alloc (.cells #[.int .i64 xs, .int .i64 xb] 33) = W at hst ⊢
  obtain ⟨hB, hX, hba, hz⟩ := hst
  refine (specTreeRight_any _ _ lo hi p xs xb W (Hp.out.below hba)).mono ?_
  rintro e w1 ⟨⟨t, rfl, ht⟩, hb1⟩
  have HB1 := hideT (hB.below hb1)
  have HX1 := hideT (hX.below hb1)
  have hB1 := below_next hba hb1
  clear hB hX hba hb1 hz
  by_cases hR : TreeR p xs xb
  · have HR := hideT hR
    obtain rfl : t = true := ht.2 hR
    clear ht hR
    obtain ⟨⟨x0, x1⟩, ⟨x2, x3⟩⟩ := HB1.out
    obtain ⟨⟨y0, y1⟩, ⟨y2, y3⟩⟩ := HX1.out
    go_wp2_with fail
    refine (l02Ptrs_any _ _ lo hi p xs xb _ (Hp.out.below hB1) HR.out.1 HR.out.2).mono ?_
    rintro e w2 ⟨v, rfl, hr, hb2⟩
    obtain ⟨va, vc, rfl, _⟩ := owns_form hr
    have Hr := hideT hr
    have hB2 := below_next hB1 hb2
    have hz1 := hB1.size
    clear hb2 hr
    go_wp2
    go_ret
    exact ⟨_, treeL p xs xb, rfl, ⟨fun _ => rfl, fun h => absurd HR.out h⟩, Hr.out.mono hz1, hB2⟩
  · have HR := hideT hR
    obtain rfl : t = false := bool_no ht hR
    clear ht hR
    have hal := below_alloc w1 (.cells #[] 33)
    have Hr := hideT (show RowL (w1.alloc (.cells #[] 33)) w.heap.size (.slice (some ⟨w1.heap.size, 0, none⟩) 0 0) [] from World.ownsRow_lit (e := 33) (size := 2) w1 #[] 0 hB1.size (by unfold maxLen; omega) rfl)
    have hB2 := below_next hB1 hal
    clear hal
    go_wp2
    go_ret
    exact ⟨_, [], rfl, ⟨fun h => absurd h HR.out, fun _ => rfl⟩, Hr.out, hB2⟩

set_option maxRecDepth 20000 in
set_option maxHeartbeats 1000000 in
theorem implTreePtrs_any (v0 v1 : Value) (lo hi : Nat) (p : PoolD) (xs xb : Int) (w : World) (h1 : PoolAt w lo hi v0 v1 p) :
    Calls Try.prog 27 #[.agg #[v0, v1], .agg #[.int .i64 xs, .int .i64 xb]] w (NewPtrs p xs xb w) := by
  have Hp := hideT h1
  obtain ⟨a, c, a', c', rfl, rfl⟩ : ∃ a c a' c', v0 = .slice a p.n c ∧ v1 = .slice a' p.hn c' := by
    obtain ⟨⟨_, a, c, h1, _⟩, ⟨_, a', c', h3, _⟩⟩ := h1
    exact ⟨a, c, a', c', h1, h3⟩
  clear h1
  have hst := start22 w (.slice a p.n c) (.slice a' p.hn c') (.int .i64 xs) (.int .i64 xb) 26 33
  go_enter Try.func27, Try.ntmps27
  go_wp2_with fail
  generalize (w.alloc (.cells #[.slice a p.n c, .slice a' p.hn c'] 26)).alloc (.cells #[.int .i64 xs, .int .i64 xb] 33) = W at hst ⊢
  obtain ⟨hB, hX, hba, hz⟩ := hst
  refine (implTreeRight_any _ _ lo hi p xs xb W (Hp.out.below hba)).mono ?_
  rintro e w1 ⟨⟨t, rfl, ht⟩, hb1⟩
  have HB1 := hideT (hB.below hb1)
  have HX1 := hideT (hX.below hb1)
  have hB1 := below_next hba hb1
  clear hB hX hba hb1 hz
  by_cases hR : TreeR p xs xb
  · have HR := hideT hR
    obtain rfl : t = true := ht.2 hR
    clear ht hR
    have HP := hideT (show Nil xs xb ∨ Points p xs xb from HR.out.2.imp id (fun h => h.1.1))
    obtain ⟨⟨x0, x1⟩, ⟨x2, x3⟩⟩ := HB1.out
    obtain ⟨⟨y0, y1⟩, ⟨y2, y3⟩⟩ := HX1.out
    go_wp2_with fail
    refine (ptrs0_any p HR.out.1 _ lo hi xs xb _ (Hp.out.1.below hB1) HP.out).mono ?_
    rintro e w2 ⟨v, rfl, hr, hb2⟩
    obtain ⟨va, vc, rfl, _⟩ := owns_form hr
    have Hr := hideT (show RowL w2 w1.heap.size (.slice va (treeL p xs xb).length vc) (treeL p xs xb) from hr)
    have hB2 := below_next hB1 hb2
    have hz1 := hB1.size
    clear hb2 hr
    go_wp2
    go_ret
    exact ⟨_, treeL p xs xb, rfl, ⟨fun _ => rfl, fun h => absurd HR.out h⟩, Hr.out.mono hz1, hB2⟩
  · have HR := hideT hR
    obtain rfl : t = false := bool_no ht hR
    clear ht hR
    go_wp2
    go_ret
    exact ⟨_, [], rfl, ⟨fun h => absurd h HR.out, fun _ => rfl⟩, RowL.nil _ _, hB1⟩

/-- A row of pointers in the block b, from lo to hi. -/
structure RowV (w : World) (lo hi : Nat) (v : Value) (n : Nat) (f g : Nat → Int) (b : Nat) : Prop where
  own : PtrsOwn w b v n f g
  place : 0 < n → lo ≤ b ∧ b < hi
theorem RowV.below {w w' : World} {lo hi : Nat} {v : Value} {n : Nat} {f g : Nat → Int} {b : Nat} (h : RowV w lo hi v n f g b) (t : Below w.heap.size w w') : RowV w' lo hi v n f g b := ⟨h.own.below t, h.place⟩
theorem RowV.turned {S : Nat → Prop} {w w' : World} {lo hi : Nat} {v : Value} {n : Nat} {f g : Nat → Int} {b : Nat} (h : RowV w lo hi v n f g b) (t : Turned S w w') (hs : ∀ k, S k → k < lo ∨ hi ≤ k) : RowV w' lo hi v n f g b :=
  ⟨h.own.turned t (fun h0 hx => by have := h.place h0; have := hs _ hx; omega), h.place⟩
theorem RowV.at' {w : World} {lo hi : Nat} {v : Value} {n : Nat} {f g : Nat → Int} {b : Nat} (h : RowV w lo hi v n f g b) : PtrsAt w lo hi v n f g := h.own.at h.place

/-- A new row that TreePtrs has answered since w1. -/
def NewList (p : PoolD) (xs xb : Int) (w1 : World) (t : Value) (wx : World) : Prop :=
  ∃ l b a c, t = .slice a l.length c ∧ TreeList p xs xb l ∧ RowV wx w1.heap.size wx.heap.size (.slice a l.length c) l.length (fstL l) (sndL l) b ∧ Below w1.heap.size w1 wx
theorem newList_of {p : PoolD} {xs xb : Int} {w1 wa w2 : World} {v : Value} {l : List (Int × Int)} (hl : TreeList p xs xb l) (hr : RowL w2 wa.heap.size v l) (hz : w1.heap.size ≤ wa.heap.size) (hb : Below w1.heap.size w1 w2) : NewList p xs xb w1 v w2 := by
  have hn := treeList_len hl
  obtain ⟨a, c, rfl, _⟩ := owns_form hr
  obtain ⟨b, h1, h2⟩ := hr.own (by unfold maxLen; omega)
  exact ⟨l, b, a, c, rfl, hl, ⟨h1, fun h0 => ⟨by have := (h2 h0).2.1; omega, (h2 h0).2.2⟩⟩, hb⟩

end Go.Proofs.Ytikhipekmlhibaa

namespace Go.Proofs.Ytikhipekmlhibaa
open Go.RowKit
set_option linter.unusedVariables false

theorem infoU8T : (Try.prog.info? 5).map (fun i => (i.zero, i.size, i.bytes)) = some (some (.int .u8 0), 1, 1) := by kernel_rfl
/-- Sixteen bytes that are 0. -/
def zero16 : ByteArray := strOfNums [0, 0, 0, 0, 0, 0, 0, 0, 0, 0, 0, 0, 0, 0, 0, 0]
theorem zconv (w1 : World) : (convert 22 9 (.slice (some ⟨w1.heap.size, 0, none⟩) 16 16)).run Try.prog (w1.alloc (.cells (zeros #[.int .u8 0] 16) 5)) = .ok (.string zero16) (w1.alloc (.cells (zeros #[.int .u8 0] 16) 5)) :=
  run_convert_bytes_arg (P := Try.prog) _ 22 5 (by kernel_rfl) (by kernel_rfl) w1.heap.size 0 16 16 [0, 0, 0, 0, 0, 0, 0, 0, 0, 0, 0, 0, 0, 0, 0, 0] rfl (fun i hi => by
    have := (new_cell w1 #[.int .u8 0] 16 i 0 5 hi (by simp)).1
    rw [Nat.zero_add]
    have e : ([0, 0, 0, 0, 0, 0, 0, 0, 0, 0, 0, 0, 0, 0, 0, 0] : List Int).getD i 0 = 0 := by
      rcases i with _ | _ | _ | _ | _ | _ | _ | _ | _ | _ | _ | _ | _ | _ | _ | _ | k
      all_goals first | rfl | omega
    rw [e]
    simpa using this) 9 (by kernel_rfl)

/-- What TreeRead answers. -/
def ReadIs (p : PoolD) (xs xb page : Int) (d : ByteArray) : Prop :=
  (TreeR p xs xb ∧ PageNo page → (Nil (pageS p xs xb page.toNat) (pageB p xs xb page.toNat) → d = zero16) ∧ (¬ Nil (pageS p xs xb page.toNat) (pageB p xs xb page.toNat) → d = (p.s (pageS p xs xb page.toNat).toNat).data)) ∧ (¬ (TreeR p xs xb ∧ PageNo page) → d = ⟨#[]⟩)
theorem readIs_one {p : PoolD} {xs xb page : Int} {d e : ByteArray} (h : ReadIs p xs xb page d) (h' : ReadIs p xs xb page e) : d = e := by
  by_cases hx : TreeR p xs xb ∧ PageNo page
  · by_cases hn : Nil (pageS p xs xb page.toNat) (pageB p xs xb page.toNat)
    · rw [(h.1 hx).1 hn, (h'.1 hx).1 hn]
    · rw [(h.1 hx).2 hn, (h'.1 hx).2 hn]
  · rw [h.2 hx, h'.2 hx]

set_option maxRecDepth 20000 in
set_option maxHeartbeats 1000000 in
theorem specTreeRead_any (v0 v1 : Value) (lo hi : Nat) (p : PoolD) (xs xb page : Int) (w : World) (h1 : PoolAt w lo hi v0 v1 p) :
    Calls Try.prog 31 #[.agg #[v0, v1], .agg #[.int .i64 xs, .int .i64 xb], .int .i64 page] w fun e w' => (∃ d, e = .returned (.string d) ∧ ReadIs p xs xb page d) ∧ Below w.heap.size w w' := by
  have Hp := hideT h1
  obtain ⟨a, c, a', c', rfl, rfl⟩ : ∃ a c a' c', v0 = .slice a p.n c ∧ v1 = .slice a' p.hn c' := by
    obtain ⟨⟨_, a, c, h1, _⟩, ⟨_, a', c', h3, _⟩⟩ := h1
    exact ⟨a, c, a', c', h1, h3⟩
  clear h1
  have hst := start22 w (.slice a p.n c) (.slice a' p.hn c') (.int .i64 xs) (.int .i64 xb) 26 33
  go_enter Try.func31, Try.ntmps31
  go_wp2_with fail
  generalize (w.alloc (.cells #[.slice a p.n c, .slice a' p.hn c'] 26)).alloc (.cells #[.int .i64 xs, .int .i64 xb] 33) = W at hst ⊢
  obtain ⟨hB, hX, hba, hz⟩ := hst
  refine (specTreeRight_any _ _ lo hi p xs xb W (Hp.out.below hba)).mono ?_
  rintro e w1 ⟨⟨t, rfl, ht⟩, hb1⟩
  have HB1 := hideT (hB.below hb1)
  have HX1 := hideT (hX.below hb1)
  have hB1 := below_next hba hb1
  have hz1 : w.heap.size + 2 ≤ w1.heap.size := by have := hb1.size; omega
  clear hB hX hba hb1 hz
  by_cases hR : TreeR p xs xb
  · have HR := hideT hR
    obtain rfl : t = true := ht.2 hR
    clear ht hR
    obtain ⟨⟨x0, x1⟩, ⟨x2, x3⟩⟩ := HB1.out
    obtain ⟨⟨y0, y1⟩, ⟨y2, y3⟩⟩ := HX1.out
    by_cases hN : PageNo page
    · have HNo := hideT hN
      obtain ⟨n, rfl⟩ := Int.eq_ofNat_of_zero_le hN.1
      have hn64 : n < 64 := by have := hN.2; omega
      clear hN
      go_wp2_with (first | (go_at_call 75; refine (l02Number_any _ _).mono ?_; rintro e w2 ⟨⟨t2, rfl, ht2⟩, rfl⟩; obtain rfl : t2 = true := ht2.2 HNo.out; clear ht2) | fail)
      go_wp2_with fail
      refine (l02Path_any _ _ lo hi p xs xb n _ (Hp.out.below hB1) HR.out hn64).mono ?_
      rintro e w3 ⟨rfl, hb3⟩
      have HB3 := hideT (HB1.out.below hb3)
      have hB3 := below_next hB1 hb3
      have hz3 := hb3.size
      clear hb3 x0 x1 x2 x3 y0 y1 y2 y3 HB1 HX1
      have ha3 := below_alloc w3 (.cells #[.int .i64 (pageS p xs xb n), .int .i64 (pageB p xs xb n)] 33)
      have ha4 := below_alloc (w3.alloc (.cells #[.int .i64 (pageS p xs xb n), .int .i64 (pageB p xs xb n)] 33)) (.cells #[.int .i64 (nodeS p xs xb n), .int .i64 (nodeB p xs xb n)] 33)
      have HX4 := hideT ((Box2.new w3 (.int .i64 (pageS p xs xb n)) (.int .i64 (pageB p xs xb n)) 33).below ha4)
      have HB4 := hideT ((HB3.out.below ha3).below ha4)
      have hB4 := below_next (below_next hB3 ha3) ha4
      clear ha3 ha4 HB3
      have Hpg := hideT (page_ok HR.out hn64)
      go_wp2_with fail
      generalize (w3.alloc (.cells #[.int .i64 (pageS p xs xb n), .int .i64 (pageB p xs xb n)] 33)).alloc (.cells #[.int .i64 (nodeS p xs xb n), .int .i64 (nodeB p xs xb n)] 33) = w4 at HX4 HB4 hB4 ⊢
      generalize w3.heap.size = X at HX4 hz3 ⊢
      refine (l01None_any (pageS p xs xb n) (pageB p xs xb n) w4).mono ?_
      rintro e w5 ⟨⟨t5, rfl, ht5⟩, hb5⟩
      have HB5 := hideT (HB4.out.below hb5)
      have HX5 := hideT (HX4.out.below hb5)
      have hB5 := below_next hB4 hb5
      clear hb5 hB4 hB3 HB4 HX4
      by_cases hnl : Nil (pageS p xs xb n) (pageB p xs xb n)
      · have HNl := hideT hnl
        obtain rfl : t5 = true := ht5.2 hnl
        clear ht5 hnl
        have hmk := make_zeros 22 5 (.int .u8 0) 1 1 (by kernel_rfl) infoU8T rfl 16 (by omega) (by omega)
        have hmk' : ∀ w, (Instr.makeSlice 22 (.int .i64 16) (.int .i64 16)).run Try.prog w = .ok (.slice (some ⟨w.heap.size, 0, none⟩) 16 16) (w.alloc (.cells (zeros #[.int .u8 0] 16) 5)) := hmk
        clear hmk
        have hcv := zconv w5
        have hB6 := below_next hB5 (below_alloc w5 (.cells (zeros #[.int .u8 0] 16) 5))
        go_wp2
        go_ret
        exact ⟨⟨_, rfl, ⟨fun _ => ⟨fun _ => rfl, fun h => absurd HNl.out h⟩, fun h => absurd ⟨HR.out, HNo.out⟩ h⟩⟩, hB6⟩
      · have HNl := hideT hnl
        obtain rfl : t5 = false := bool_no ht5 hnl
        clear ht5 hnl
        have hPg : PageAt p (pageS p xs xb n) (pageB p xs xb n) := Hpg.out.resolve_left HNl.out
        obtain ⟨m, hm⟩ := Int.eq_ofNat_of_zero_le hPg.1.2.1
        have hmp : m < p.n := by have := hPg.1.2.2.1; omega
        have hmp' : (m : Int) < (p.n : Int) := by omega
        obtain ⟨b, off, ka, kc, rfl, hsm⟩ := (Hp.out.1.below hB5).cells hmp
        obtain ⟨q0, q1, q2, _⟩ := hsm
        obtain ⟨⟨x0, x1⟩, ⟨x2, x3⟩⟩ := HB5.out
        obtain ⟨⟨y0, y1⟩, ⟨y2, y3⟩⟩ := HX5.out
        rw [hm] at y0
        have Hm := hideT hm
        clear hm hPg
        go_wp2
        go_ret
        refine ⟨⟨_, rfl, ⟨fun _ => ⟨fun h => absurd h HNl.out, fun _ => ?_⟩, fun h => absurd ⟨HR.out, HNo.out⟩ h⟩⟩, hB5⟩
        show (p.s m).data = (p.s (pageS p xs xb n).toNat).data
        rw [Hm.out]
        rfl
    · have HNo := hideT hN
      clear hN
      go_wp2_with (first | (go_at_call 75; refine (l02Number_any _ _).mono ?_; rintro e w2 ⟨⟨t2, rfl, ht2⟩, rfl⟩; obtain rfl : t2 = false := bool_no ht2 HNo.out; clear ht2) | fail)
      go_wp2
      go_ret
      exact ⟨⟨_, rfl, ⟨fun h => absurd h.2 HNo.out, fun _ => rfl⟩⟩, hB1⟩
  · have HR := hideT hR
    obtain rfl : t = false := bool_no ht hR
    clear ht hR
    go_wp2
    go_ret
    exact ⟨⟨_, rfl, ⟨fun h => absurd h.1 HR.out, fun _ => rfl⟩⟩, hB1⟩

end Go.Proofs.Ytikhipekmlhibaa

namespace Go.Proofs.Ytikhipekmlhibaa
open Go.RowKit
set_option linter.unusedVariables false

theorem fieldMet (f : Nat → Value) (w : World) : (Instr.field 98 (.agg (wayF f)) 2).run Try.prog w = .ok (.agg #[f 34, f 35, f 36, f 37, f 38, f 39]) w := by kernel_rfl
theorem indexMet (a b c d e g : Value) (w : World) : (Instr.index 96 (.agg #[a, b, c, d, e, g]) (.int .i64 2)).run Try.prog w = .ok (.agg #[e, g]) w := by kernel_rfl

set_option maxRecDepth 20000 in
set_option maxHeartbeats 1000000 in
theorem implTreeRead_any (v0 v1 : Value) (lo hi : Nat) (p : PoolD) (xs xb page : Int) (w : World) (h1 : PoolAt w lo hi v0 v1 p) :
    Calls Try.prog 23 #[.agg #[v0, v1], .agg #[.int .i64 xs, .int .i64 xb], .int .i64 page] w fun e w' => (∃ d, e = .returned (.string d) ∧ ReadIs p xs xb page d) ∧ Below w.heap.size w w' := by
  have Hp := hideT h1
  obtain ⟨a, c, a', c', rfl, rfl⟩ : ∃ a c a' c', v0 = .slice a p.n c ∧ v1 = .slice a' p.hn c' := by
    obtain ⟨⟨_, a, c, h1, _⟩, ⟨_, a', c', h3, _⟩⟩ := h1
    exact ⟨a, c, a', c', h1, h3⟩
  clear h1
  have hst := start22 w (.slice a p.n c) (.slice a' p.hn c') (.int .i64 xs) (.int .i64 xb) 26 33
  go_enter Try.func23, Try.ntmps23
  go_wp2_with fail
  generalize (w.alloc (.cells #[.slice a p.n c, .slice a' p.hn c'] 26)).alloc (.cells #[.int .i64 xs, .int .i64 xb] 33) = W at hst ⊢
  obtain ⟨hB, hX, hba, hz⟩ := hst
  refine (implTreeRight_any _ _ lo hi p xs xb W (Hp.out.below hba)).mono ?_
  rintro e w1 ⟨⟨t, rfl, ht⟩, hb1⟩
  have HB1 := hideT (hB.below hb1)
  have HX1 := hideT (hX.below hb1)
  have hB1 := below_next hba hb1
  have hz1 : w.heap.size + 2 ≤ w1.heap.size := by have := hb1.size; omega
  clear hB hX hba hb1 hz
  by_cases hR : TreeR p xs xb
  · have HR := hideT hR
    obtain rfl : t = true := ht.2 hR
    clear ht hR
    obtain ⟨⟨x0, x1⟩, ⟨x2, x3⟩⟩ := HB1.out
    obtain ⟨⟨y0, y1⟩, ⟨y2, y3⟩⟩ := HX1.out
    by_cases hN : PageNo page
    · have HNo := hideT hN
      obtain ⟨n, rfl⟩ := Int.eq_ofNat_of_zero_le hN.1
      have hn64 : n < 64 := by have := hN.2; omega
      clear hN
      go_wp2_with (first | (go_at_call 70; refine (pageNumber_any _ _).mono ?_; rintro e w2 ⟨⟨t2, rfl, ht2⟩, rfl⟩; obtain rfl : t2 = true := ht2.2 HNo.out; clear ht2) | fail)
      go_wp2_with fail
      refine (wayTo_any _ lo hi p xs xb n _ (Hp.out.below hB1).1 HR.out hn64).mono ?_
      rintro e w3 ⟨o, rfl, _, hb3⟩
      have HB3 := hideT (HB1.out.below hb3)
      have hB3 := below_next hB1 hb3
      have hz3 := hb3.size
      clear hb3 x0 x1 x2 x3 y0 y1 y2 y3 HB1 HX1
      have hfd := fun w => fieldMet (wayV p xs xb n 2 3 o) w
      have hix : ∀ w, (Instr.index 96 (.agg #[wayV p xs xb n 2 3 o 34, wayV p xs xb n 2 3 o 35, wayV p xs xb n 2 3 o 36, wayV p xs xb n 2 3 o 37, wayV p xs xb n 2 3 o 38, wayV p xs xb n 2 3 o 39]) (.int .i64 2)).run Try.prog w = .ok (.agg #[.int .i64 (pageS p xs xb n), .int .i64 (pageB p xs xb n)]) w := fun w => indexMet _ _ _ _ _ _ w
      have ha3 := below_alloc w3 (.cells #[.int .i64 (pageS p xs xb n), .int .i64 (pageB p xs xb n)] 33)
      have HX4 := hideT (Box2.new w3 (.int .i64 (pageS p xs xb n)) (.int .i64 (pageB p xs xb n)) 33)
      have HB4 := hideT (HB3.out.below ha3)
      have hB4 := below_next hB3 ha3
      clear ha3 HB3
      have Hpg := hideT (page_ok HR.out hn64)
      go_upto_region 4 with fail
      clear hfd hix
      generalize w3.alloc (.cells #[.int .i64 (pageS p xs xb n), .int .i64 (pageB p xs xb n)] 33) = w4 at HX4 HB4 hB4 ⊢
      generalize w3.heap.size = X at HX4 hz3 ⊢
      obtain ⟨⟨x0, x1⟩, ⟨x2, x3⟩⟩ := HB4.out
      obtain ⟨⟨y0, y1⟩, ⟨y2, y3⟩⟩ := HX4.out
      by_cases hnl : Nil (pageS p xs xb n) (pageB p xs xb n)
      · have HNl := hideT hnl
        rw [hnl.1] at y0
        rw [hnl.2] at y2
        clear hnl
        have hmk := make_zeros 22 5 (.int .u8 0) 1 1 (by kernel_rfl) infoU8T rfl 16 (by omega) (by omega)
        have hmk' : ∀ w, (Instr.makeSlice 22 (.int .i64 16) (.int .i64 16)).run Try.prog w = .ok (.slice (some ⟨w.heap.size, 0, none⟩) 16 16) (w.alloc (.cells (zeros #[.int .u8 0] 16) 5)) := hmk
        clear hmk
        have hcv := zconv w4
        have hB6 := below_next hB4 (below_alloc w4 (.cells (zeros #[.int .u8 0] 16) 5))
        go_wp2
        go_ret
        exact ⟨⟨_, rfl, ⟨fun _ => ⟨fun _ => rfl, fun h => absurd HNl.out h⟩, fun h => absurd ⟨HR.out, HNo.out⟩ h⟩⟩, hB6⟩
      · have HNl := hideT hnl
        have hPg : PageAt p (pageS p xs xb n) (pageB p xs xb n) := Hpg.out.resolve_left HNl.out
        obtain ⟨m, hm⟩ := Int.eq_ofNat_of_zero_le hPg.1.2.1
        have hmp : m < p.n := by have := hPg.1.2.2.1; omega
        have hmp' : (m : Int) < (p.n : Int) := by omega
        obtain ⟨b, off, ka, kc, rfl, hsm⟩ := (Hp.out.1.below hB4).cells hmp
        obtain ⟨q0, q1, q2, _⟩ := hsm
        have hnb := not_nil_bool hnl
        rw [hm] at y0 hnb
        have Hm := hideT hm
        clear hm hPg hnl
        rcases hnb with e0 | ⟨e0, e1⟩
        all_goals
          go_wp2
          go_ret
          refine ⟨⟨_, rfl, ⟨fun _ => ⟨fun h => absurd h HNl.out, fun _ => ?_⟩, fun h => absurd ⟨HR.out, HNo.out⟩ h⟩⟩, hB4⟩
          show (p.s m).data = (p.s (pageS p xs xb n).toNat).data
          rw [Hm.out]
          rfl
    · have HNo := hideT hN
      clear hN
      go_wp2_with (first | (go_at_call 70; refine (pageNumber_any _ _).mono ?_; rintro e w2 ⟨⟨t2, rfl, ht2⟩, rfl⟩; obtain rfl : t2 = false := bool_no ht2 HNo.out; clear ht2) | fail)
      go_wp2
      go_ret
      exact ⟨⟨_, rfl, ⟨fun h => absurd h.2 HNo.out, fun _ => rfl⟩⟩, hB1⟩
  · have HR := hideT hR
    obtain rfl : t = false := bool_no ht hR
    clear ht hR
    go_wp2
    go_ret
    exact ⟨⟨_, rfl, ⟨fun h => absurd h.1 HR.out, fun _ => rfl⟩⟩, hB1⟩

end Go.Proofs.Ytikhipekmlhibaa
