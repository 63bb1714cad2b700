/- For every pool and pointer that come in the law FnExactPoolAt returns true: impl.PoolAt answers as spec.PoolAt, writes nothing of its argument, and its answer is memory of its own. No condition. -/
import Derived.Test.YteffacfdbhdppacPoolAtA
import Derived.Test.YteffacfdbhdppacTo
import Derived.Test.YteffacfdbhdppacOpen
import Derived.OpenShut
import Derived.ChangeOld
import Derived.Deep.DeepCutAuto
namespace Go.Proofs.Yteffacfdbhdppac
open Go.ChangeShapes Go.WideShapes Go.ChangeAt Go.RowKit
set_option linter.unusedVariables false

theorem atP_small {w : World} {lo hi : Nat} {v0 v1 : Value} {p : PoolD} (h : PoolAt w lo hi v0 v1 p) (xs xb : Int) : (atP p xs xb).data.size ≤ maxLen := by
  by_cases hx : Right p ∧ Points p xs xb
  · rw [atP_yes hx.1 hx.2]
    obtain ⟨h1, h2, h3, h4⟩ := hx.2
    obtain ⟨⟨_, a, c, rfl, _⟩, _⟩ := id h
    obtain ⟨_, _, _, _, _, hs⟩ := h.1.cells (i := xs.toNat) (by omega)
    exact hs.slot.2.2.2
  · rw [atP_no hx]; exact Nat.zero_le _
theorem atP_kn (p : PoolD) (xs xb : Int) : (atP p xs xb).kn ≤ 8 := by
  by_cases hx : Right p ∧ Points p xs xb
  · rw [atP_yes hx.1 hx.2]
    obtain ⟨h1, h2, h3, h4⟩ := hx.2
    rcases hx.1.2.1 xs.toNat (by omega) with h | h
    · have := h.2.1; omega
    · rcases h.2 with h | h
      · omega
      · omega
  · rw [atP_no hx]; exact Nat.zero_le _

theorem hide {P : Prop} (h : P) : Hid P := h

/-- A slot's variable and its Kids, in blocks from lo to hi. -/
structure SlotVar (w : World) (b lo hi kb : Nat) (ka : Option Addr) (kc : Nat) (s : SlotD) : Prop where
  box : Box3 w b (.int .i64 s.birth) (.slice ka s.kn kc) (.string s.data)
  kids : PtrsOwn w kb (.slice ka s.kn kc) s.kn s.ks s.kb
  place : 0 < s.kn → lo ≤ kb ∧ kb < hi
  small : s.data.size ≤ maxLen

theorem SlotVar.below {w w' : World} {b lo hi kb : Nat} {ka : Option Addr} {kc : Nat} {s : SlotD} (h : SlotVar w b lo hi kb ka kc s) (t : Below w.heap.size w w') : SlotVar w' b lo hi kb ka kc s := ⟨h.box.below t, h.kids.below t, h.place, h.small⟩
theorem SlotVar.at {w : World} {b lo hi kb : Nat} {ka : Option Addr} {kc : Nat} {s : SlotD} (h : SlotVar w b lo hi kb ka kc s) : SlotAt w lo hi (.int .i64 s.birth) (.slice ka s.kn kc) (.string s.data) s := ⟨rfl, h.kids.at h.place, rfl, h.small⟩
theorem SlotVar.turned {S : Nat → Prop} {w w' : World} {b lo hi kb : Nat} {ka : Option Addr} {kc : Nat} {s : SlotD} (h : SlotVar w b lo hi kb ka kc s) (t : Turned S w w') (hb : ¬ S b) (hs : ∀ k, S k → k < lo ∨ hi ≤ k) : SlotVar w' b lo hi kb ka kc s :=
  ⟨h.box.turned t hb, h.kids.turned t (fun h0 hx => by have := h.place h0; have := hs _ hx; omega), h.place, h.small⟩

theorem slotVar_new {w : World} {lo hi kb : Nat} {ka : Option Addr} {kc : Nat} {s : SlotD} (t : TypeId) (hk : PtrsOwn w kb (.slice ka s.kn kc) s.kn s.ks s.kb) (hp : 0 < s.kn → lo ≤ kb ∧ kb < hi) (hs : s.data.size ≤ maxLen) :
    SlotVar (w.alloc (.cells #[.int .i64 s.birth, .slice ka s.kn kc, .string s.data] t)) w.heap.size lo hi kb ka kc s := ⟨Box3.new _ _ _ _ _, hk.below (below_alloc _ _), hp, hs⟩

theorem PoolOwn.at0 {w : World} {lo hi : Nat} {v0 v1 : Value} {p : PoolD} (h : PoolOwn w lo hi v0 v1 p) : PoolAt w 0 hi v0 v1 p := (h.wide (Nat.zero_le _) (Nat.le_refl _)).at

/-- A new variable that holds a slot, made since w1. -/
def NewVar (s : SlotD) (w1 : World) (t : Value) (wx : World) : Prop :=
  ∃ L kb ka kc, t = .pointer (some ⟨L, 0, none⟩) ∧ SlotVar wx L w1.heap.size wx.heap.size kb ka kc s ∧ w1.heap.size ≤ L ∧ L < wx.heap.size ∧ (0 < s.kn → kb ≠ L) ∧ Below w1.heap.size w1 wx

theorem newVar_late {s : SlotD} {w1 w2 : World} {ka : Option Addr} {kc kb m : Nat} {t : TypeId} (hC : Below w1.heap.size w1 w2) (hm : w1.heap.size ≤ m) (hk : PtrsOwn w2 kb (.slice ka s.kn kc) s.kn s.ks s.kb) (hkk : 0 < s.kn → m ≤ kb ∧ kb < w2.heap.size) (hs : s.data.size ≤ maxLen) :
    NewVar s w1 (.pointer (some ⟨w2.heap.size, 0, none⟩)) (w2.alloc (.cells #[.int .i64 s.birth, .slice ka s.kn kc, .string s.data] t)) := by
  refine ⟨_, kb, ka, kc, rfl, ⟨Box3.new _ _ _ _ _, hk.below (below_alloc _ _), fun h0 => ?_, hs⟩, hC.size, ?_, fun h0 => ?_, below_next hC (below_alloc _ _)⟩
  · have := hkk h0; rw [World.size_alloc]; omega
  · rw [World.size_alloc]; omega
  · have := hkk h0; omega
theorem newVar_early {s : SlotD} {w1 w2 : World} {ka : Option Addr} {kc kb m B : Nat} {o0 o1 o2 : Value} (hC : Below w1.heap.size w1 w2) (hL : Box3 w2 B o0 o1 o2) (hB : w1.heap.size ≤ B) (hm : B < m) (hk : PtrsOwn w2 kb (.slice ka s.kn kc) s.kn s.ks s.kb) (hkk : 0 < s.kn → m ≤ kb ∧ kb < w2.heap.size) (hs : s.data.size ≤ maxLen) :
    NewVar s w1 (.pointer (some ⟨B, 0, none⟩)) (((w2.setCell ⟨B, 0, none⟩ (.int .i64 s.birth)).setCell ⟨B, 1, none⟩ (.slice ka s.kn kc)).setCell ⟨B, 2, none⟩ (.string s.data)) := by
  have ht : Turned (fun k => k = B) w2 (((w2.setCell ⟨B, 0, none⟩ (.int .i64 s.birth)).setCell ⟨B, 1, none⟩ (.slice ka s.kn kc)).setCell ⟨B, 2, none⟩ (.string s.data)) :=
    (((Turned.refl (fun k => k = B) w2).setCell (p := ⟨B, 0, none⟩) rfl _).setCell (p := ⟨B, 1, none⟩) rfl _).setCell (p := ⟨B, 2, none⟩) rfl _
  have hBC := (hL.1).lt
  have hz := ht.size
  refine ⟨_, kb, ka, kc, rfl, ⟨hL.put _ _ _, hk.turned ht (fun h0 hx => ?_), fun h0 => ?_, hs⟩, hB, ?_, fun h0 => ?_, ((Turned.of_below (S := fun k => k = B) hC).trans ht).below (Nat.le_refl _) (fun k hk => hk ▸ hB)⟩
  all_goals first | (have := hkk h0; have := hC.size; omega) | omega

theorem poolVar_new {p : PoolD} {w1 w2 : World} {a a' : Option Addr} {c c' : Nat} {t : TypeId} (ho : PoolOwn w2 w1.heap.size w2.heap.size (.slice a p.n c) (.slice a' p.hn c') p) (hb : Below w1.heap.size w1 w2) :
    Box2 (w2.alloc (.cells #[.slice a p.n c, .slice a' p.hn c'] t)) w2.heap.size (.slice a p.n c) (.slice a' p.hn c') ∧ PoolOwn (w2.alloc (.cells #[.slice a p.n c, .slice a' p.hn c'] t)) w1.heap.size w2.heap.size (.slice a p.n c) (.slice a' p.hn c') p ∧
      w1.heap.size ≤ w2.heap.size ∧ w2.heap.size < (w2.alloc (.cells #[.slice a p.n c, .slice a' p.hn c'] t)).heap.size ∧ Below w1.heap.size w1 (w2.alloc (.cells #[.slice a p.n c, .slice a' p.hn c'] t)) :=
  ⟨Box2.new _ _ _ _, ho.below (below_alloc _ _), hb.size, by rw [World.size_alloc]; exact Nat.lt_succ_self _, below_next hb (below_alloc _ _)⟩

/-- The Kids with their marks from k0 on. -/
def kidsMarked (s : SlotD) (k0 : Int) : SlotD := { birth := s.birth, kn := s.kn, ks := fun i => k0 + 2 * i, kb := fun i => k0 + 2 * i + 1, data := s.data }
theorem SlotVar.marked {w w' : World} {b lo hi kb : Nat} {ka : Option Addr} {kc : Nat} {s : SlotD} {k0 : Int} (h : SlotVar w b lo hi kb ka kc s) (hp : PtrsOwn w' kb (.slice ka s.kn kc) s.kn (fun i => k0 + 2 * i) (fun i => k0 + 2 * i + 1)) (t : Turned (fun k => 0 < s.kn ∧ k = kb) w w') (hne : 0 < s.kn → kb ≠ b) : SlotVar w' b lo hi kb ka kc (kidsMarked s k0) :=
  ⟨h.box.turned t (fun hx => hne hx.1 hx.2.symm), hp, h.place, h.small⟩

theorem cnt_size (f : Nat → SlotD) : ∀ n, cnt f 1 n ≤ 1 + 2 * (n : Int) + 2 * (slotsN f n : Int)
  | 0 => by show (1 : Int) ≤ _; omega
  | n + 1 => by
    have := cnt_size f n
    show cnt f 1 n + 2 + 2 * ((f n).kn : Int) ≤ 1 + 2 * ((n + 1 : Nat) : Int) + 2 * ((slotsN f n + ((f n).kn + (f n).data.size) : Nat) : Int)
    omega
theorem end_small {p : PoolD} (h : poolN p ≤ 1048576) : endP p 1 ≤ 1000000000000 ∧ 0 ≤ endP p 1 := by
  have h1 := cnt_size p.s p.n
  have h2 := cnt_le p.s 1 (Nat.zero_le p.n)
  have h3 : cnt p.s 1 0 = 1 := rfl
  unfold poolN at h
  unfold endP
  omega

set_option maxHeartbeats 4000000 in
theorem poolAt_walk (v0 v1 : Value) (p : PoolD) (xs xb : Int) (w : World) (h : PoolAt w 0 w.heap.size v0 v1 p) : Calls Try.prog 6 #[.agg #[v0, v1], .agg #[.int .i64 xs, .int .i64 xb]] w fun e w' => e = .returned (.bool true) ∧ Below w.heap.size w w' := by
  have Hp : Hid (PoolAt w 0 w.heap.size v0 v1 p) := h
  have hsd := atP_small h xs xb
  have hsk := atP_kn p xs xb
  obtain ⟨a, c, a', c', rfl, rfl⟩ := h.form
  clear h
  have Hsd : Hid ((atP p xs xb).data.size ≤ maxLen) := hsd
  clear hsd
  go_enter Try.func6, Try.ntmps6
  go_wp2_with fail
  have ha := below_next (below_alloc w (.cells #[.slice a p.n c, .slice a' p.hn c'] 33)) (below_alloc _ (.cells #[.int .i64 xs, .int .i64 xb] 39))
  refine (szPool_any _ _ _ _ p _ _ (Hp.out.below ha) (by omega) (by omega)).mono ?_
  rintro e w1 ⟨⟨r, rfl, hr1, hr2, hr3⟩, hb1⟩
  have Ha1 : Hid (Box2 w1 w.heap.size (.slice a p.n c) (.slice a' p.hn c')) := ((Box2.new w _ _ _).below (below_alloc _ _)).below hb1
  have Hx1 : Hid (Box2 w1 (w.heap.size + 1) (.int .i64 xs) (.int .i64 xb)) := by
    have := (Box2.new (w.alloc (.cells #[.slice a p.n c, .slice a' p.hn c'] 33)) (.int .i64 xs) (.int .i64 xb) 39).below hb1
    rw [World.size_alloc] at this
    exact this
  have hB1 := below_next ha hb1
  have Hr : Hid (0 ≤ r → r + poolN p = 1048576) := hr1
  clear ha hb1 hr1
  by_cases hr : r < 0
  · go_wp2
    go_ret
    exact ⟨rfl, hB1⟩
  · have HN : Hid (poolN p ≤ 1048576) := by have := Hr.out (by omega); show _ ≤ _; omega
    have hz1 : w.heap.size + 1 < w1.heap.size := Hx1.out.1.lt
    have hend := end_small HN.out
    generalize hqe : endP p 1 = qe at hend
    have Hqe : Hid (endP p 1 = qe) := hqe
    obtain ⟨hqe1, hqe2⟩ := hend
    have hqe0 : ¬ qe < 0 := by omega
    clear hqe
    have hm0 : ¬ 1 + 2 * ((atP p xs xb).kn : Int) < 0 := by omega
    have hmm : ((1 + 2 * ((atP p xs xb).kn : Int)) != (1 + 2 * ((atP p xs xb).kn : Int))) = false := by simp
    obtain ⟨⟨x0, x1⟩, ⟨x2, x3⟩⟩ := Ha1.out
    obtain ⟨⟨y0, y1⟩, ⟨y2, y3⟩⟩ := Hx1.out
    have n0 : w1.heap.size ≠ w.heap.size := by omega
    have n1 : w1.heap.size ≠ w.heap.size + 1 := by omega
    go_wp2_with fail
    go_cut [6] (fun t wx => NewVar (atP p xs xb) w1 t wx)
    case first =>
      go_region_held3 (fun w' => w'.cell? ⟨w.heap.size, 0, none⟩ = some (.slice a p.n c) ∧ w'.cell? ⟨w.heap.size, 1, none⟩ = some (.slice a' p.hn c') ∧ w'.cell? ⟨w.heap.size + 1, 0, none⟩ = some (.int .i64 xs) ∧ w'.cell? ⟨w.heap.size + 1, 1, none⟩ = some (.int .i64 xb)) (go_keep)
        (first
          | (go_at_call 16; refine (toPool_any _ _ 0 w.heap.size p _ ?_ HN.out).mono ?_; (first | exact Hp.out.below hB1.drew | exact Hp.out.below (below_next hB1 hCq) | exact Hp.out.below (below_next hB1 (below_undrew (below_alloc _ _))) | exact Hp.out.below (below_next hB1 (below_next hCq (below_alloc _ _)))); rintro e wp ⟨v2, v3, rfl, hop, hbp⟩; obtain ⟨i0, j0, i1, j1, rfl, rfl⟩ := hop.form; have hCp : Below w1.heap.size w1 wp := (by first | exact below_undrew hbp | exact below_next hCq hbp | exact below_next (below_undrew (below_alloc _ _)) hbp | exact below_next (below_next hCq (below_alloc _ _)) hbp); (first | (have hLp : Box3 wp w1.heap.size (.int .i64 0) (.slice none 0 0) (.string ⟨#[]⟩) := (Box3.new w1 _ _ _ _).below hbp) | (have hLp := (Box3.new _ _ _ _ _).below hbp) | (have hLp : Box3 wp w1.heap.size (.int .i64 0) (.slice none 0 0) (.string ⟨#[]⟩) := (Box3.new w1 _ _ _ _).below (below_undrew hbp)) | (have hLp := hLq.below hbp) | skip); have np0 : wp.heap.size ≠ w.heap.size := (by have := hCp.size; omega); have np1 : wp.heap.size ≠ w.heap.size + 1 := (by have := hCp.size; omega); have zp0 := (Ha1.out.below hCp).1.1; have zp1 := (Ha1.out.below hCp).2.1; have zp2 := (Hx1.out.below hCp).1.1; have zp3 := (Hx1.out.below hCp).2.1)
          | (go_at_call 19; refine (toPtr_any _ _ _).mono ?_; rintro e wq ⟨rfl, hbq⟩; have hCq : Below w1.heap.size w1 wq := (by first | exact below_undrew hbq | exact below_next hCp hbq | exact below_next (below_undrew (below_alloc _ _)) hbq | exact below_next (below_next hCp (below_alloc _ _)) hbq); (first | (have hLq : Box3 wq w1.heap.size (.int .i64 0) (.slice none 0 0) (.string ⟨#[]⟩) := (Box3.new w1 _ _ _ _).below hbq) | (have hLq := (Box3.new _ _ _ _ _).below hbq) | (have hLq : Box3 wq w1.heap.size (.int .i64 0) (.slice none 0 0) (.string ⟨#[]⟩) := (Box3.new w1 _ _ _ _).below (below_undrew hbq)) | (have hLq := hLp.below hbq) | skip); have nq0 : wq.heap.size ≠ w.heap.size := (by have := hCq.size; omega); have nq1 : wq.heap.size ≠ w.heap.size + 1 := (by have := hCq.size; omega); have zq0 := (Ha1.out.below hCq).1.1; have zq1 := (Ha1.out.below hCq).2.1; have zq2 := (Hx1.out.below hCq).1.1; have zq3 := (Hx1.out.below hCq).2.1)
          | (go_at_call 18; refine (specPoolAt_any _ _ 0 wp.heap.size p _ _ _ ?_).mono ?_; (first | exact hop.at0 | exact hop.at0.below hbq | exact hop.at0.below (below_alloc _ _) | exact (hop.at0.below hbq).below (below_alloc _ _) | exact (hop.at0.below (below_alloc _ _)).below hbq); rintro e w2 ⟨kv, kb, rfl, hko, hkk, hb2⟩; have hko2 := hko; obtain ⟨_, ka, kc', rfl, _⟩ := hko2; have hC2 : Below w1.heap.size w1 w2 := (by first | exact below_next hCp hb2 | exact below_next hCq hb2 | exact below_next (below_next hCp (below_alloc _ _)) hb2 | exact below_next (below_next hCq (below_alloc _ _)) hb2); (first | (have hL2 := (Box3.new _ _ _ _ _).below hb2; have l0 := hL2.1.1; have l1 := hL2.1.2; have l2 := hL2.2.1.1; have l3 := hL2.2.1.2; have l4 := hL2.2.2.1; have l5 := hL2.2.2.2) | (have hL2 := hLp.below hb2; have l0 := hL2.1.1; have l1 := hL2.1.2; have l2 := hL2.2.1.1; have l3 := hL2.2.1.2; have l4 := hL2.2.2.1; have l5 := hL2.2.2.2) | (have hL2 := hLq.below hb2; have l0 := hL2.1.1; have l1 := hL2.1.2; have l2 := hL2.2.1.1; have l3 := hL2.2.1.2; have l4 := hL2.2.2.1; have l5 := hL2.2.2.2) | skip); have zr0 := (Ha1.out.below hC2).1.1; have zr1 := (Ha1.out.below hC2).2.1; have zr2 := (Hx1.out.below hC2).1.1; have zr3 := (Hx1.out.below hC2).2.1))
      all_goals (go_wp2_with fail; go_meet)
      all_goals (case rel => first | exact newVar_late hC2 (by first | exact hCq.size | exact hCp.size) hko hkk Hsd.out | exact newVar_early hC2 hL2 (by first | exact Nat.le_refl _ | exact hCp.size | exact hCq.size) (by first | (rw [World.size_alloc]; exact Nat.lt_succ_self _) | exact hLq.1.lt | exact hLp.1.lt) hko hkk Hsd.out)
    case rest =>
      clear y0 y1 y2 y3 x0 x1 x2 x3 n0 n1
      obtain ⟨L, kb, ka, kc, rfl, hv, hL1, hL2, hkL, hBc⟩ := hcut
      obtain ⟨wA, rfl⟩ : ∃ x, x = wc := ⟨_, rfl⟩
      have Hv : Hid (SlotVar wA L w1.heap.size wA.heap.size kb ka kc (atP p xs xb)) := hv
      have hBA := below_next hB1 hBc
      have HaA : Hid (Box2 wA w.heap.size (.slice a p.n c) (.slice a' p.hn c')) := Ha1.out.below hBc
      have HxA : Hid (Box2 wA (w.heap.size + 1) (.int .i64 xs) (.int .i64 xb)) := Hx1.out.below hBc
      have hzA := hBc.size
      clear hBc hv hB1 Ha1 Hx1 hkL
      obtain ⟨⟨x0, x1⟩, ⟨x2, x3⟩⟩ := HaA.out
      go_wp2_with fail
      refine (toPool_any _ _ 0 w.heap.size p _ (Hp.out.below hBA) HN.out).mono ?_
      rintro e w2 ⟨z0, z1, rfl, ho2, hb2⟩
      obtain ⟨i0, j0, i1, j1, rfl, rfl⟩ := ho2.form
      have hnv := poolVar_new (t := 26) ho2 hb2
      clear ho2 hb2 x0 x1 x2 x3
      go_wp2_with fail
      generalize w2.alloc (.cells #[.slice i0 p.n j0, .slice i1 p.hn j1] 26) = wB at hnv ⊢
      generalize w2.heap.size = X at hnv ⊢
      obtain ⟨hXb, hXo, hX1, hX2, hBc⟩ := hnv
      have HXb : Hid (Box2 wB X (.slice i0 p.n j0) (.slice i1 p.hn j1)) := hXb
      have HXo : Hid (PoolOwn wB wA.heap.size X (.slice i0 p.n j0) (.slice i1 p.hn j1) p) := hXo
      have HXat : Hid (PoolAt wB 0 wB.heap.size (.slice i0 p.n j0) (.slice i1 p.hn j1) p) := (hXo.wide (Nat.zero_le _) (Nat.le_of_lt hX2)).at
      have HvB : Hid (SlotVar wB L w1.heap.size wA.heap.size kb ka kc (atP p xs xb)) := Hv.out.below hBc
      have HaB : Hid (Box2 wB w.heap.size (.slice a p.n c) (.slice a' p.hn c')) := HaA.out.below hBc
      have HxB : Hid (Box2 wB (w.heap.size + 1) (.int .i64 xs) (.int .i64 xb)) := HxA.out.below hBc
      have hBB := below_next hBA hBc
      have hzB := hBc.size
      clear hBc hXb hXo hBA HaA HxA Hv
      obtain ⟨⟨x0, x1⟩, ⟨x2, x3⟩⟩ := HXb.out
      obtain ⟨⟨y0, y1⟩, ⟨y2, y3⟩⟩ := HxB.out
      have n0 : wB.heap.size ≠ X := by omega
      have n1 : wB.heap.size ≠ w.heap.size + 1 := by omega
      go_wp2_with fail
      go_cut [8] (fun t wx => NewVar (atP p xs xb) wB t wx)
      case first =>
        go_region_held3 (fun w' => w'.cell? ⟨X, 0, none⟩ = some (.slice i0 p.n j0) ∧ w'.cell? ⟨X, 1, none⟩ = some (.slice i1 p.hn j1) ∧ w'.cell? ⟨w.heap.size + 1, 0, none⟩ = some (.int .i64 xs) ∧ w'.cell? ⟨w.heap.size + 1, 1, none⟩ = some (.int .i64 xb)) (go_keep)
          (first
          | (go_at_call 19; refine (toPtr_any _ _ _).mono ?_; rintro e wq ⟨rfl, hbq⟩; have hCq : Below wB.heap.size wB wq := (by first | exact below_undrew hbq | exact below_next (below_undrew (below_alloc _ _)) hbq | exact below_next (below_alloc _ _) (below_undrew hbq)); (first | (have hLq : Box3 wq wB.heap.size (.int .i64 0) (.slice none 0 0) (.string ⟨#[]⟩) := (Box3.new wB _ _ _ _).below hbq) | (have hLq := (Box3.new _ _ _ _ _).below hbq) | (have hLq : Box3 wq wB.heap.size (.int .i64 0) (.slice none 0 0) (.string ⟨#[]⟩) := (Box3.new wB _ _ _ _).below (below_undrew hbq)) | skip); have nq0 : wq.heap.size ≠ X := (by have := hCq.size; omega); have nq1 : wq.heap.size ≠ w.heap.size + 1 := (by have := hCq.size; omega); have zq0 := (HXb.out.below hCq).1.1; have zq1 := (HXb.out.below hCq).2.1; have zq2 := (HxB.out.below hCq).1.1; have zq3 := (HxB.out.below hCq).2.1)
          | (go_at_call 20; refine (implPoolAt_any _ _ 0 wB.heap.size p _ _ _ ?_).mono ?_; (first | exact HXat.out.below hCq | exact (HXat.out.below hCq).below (below_alloc _ _)); rintro e w2 ⟨kv, kb, rfl, hko, hkk, hb2⟩; have hko2 := hko; obtain ⟨_, ka, kc', rfl, _⟩ := hko2; have hC2 : Below wB.heap.size wB w2 := (by first | exact below_next hCq hb2 | exact below_next (below_next hCq (below_alloc _ _)) hb2); (first | (have hL2 := (Box3.new _ _ _ _ _).below hb2; have l0 := hL2.1.1; have l1 := hL2.1.2; have l2 := hL2.2.1.1; have l3 := hL2.2.1.2; have l4 := hL2.2.2.1; have l5 := hL2.2.2.2) | (have hL2 := hLq.below hb2; have l0 := hL2.1.1; have l1 := hL2.1.2; have l2 := hL2.2.1.1; have l3 := hL2.2.1.2; have l4 := hL2.2.2.1; have l5 := hL2.2.2.2) | skip); have zr0 := (HXb.out.below hC2).1.1; have zr1 := (HXb.out.below hC2).2.1; have zr2 := (HxB.out.below hC2).1.1; have zr3 := (HxB.out.below hC2).2.1))
        all_goals (go_wp2_with fail; go_meet)
        all_goals (case rel => first | exact newVar_late hC2 (by first | exact hCq.size | exact hCp.size) hko hkk Hsd.out | exact newVar_early hC2 hL2 (by first | exact Nat.le_refl _ | exact hCp.size | exact hCq.size) (by first | (rw [World.size_alloc]; exact Nat.lt_succ_self _) | exact hLq.1.lt | exact hLp.1.lt) hko hkk Hsd.out)
      case rest =>
        clear x0 x1 x2 x3 y0 y1 y2 y3 n0 n1
        obtain ⟨G, gb, ga, gc, rfl, hg, hG1, hG2, hgG, hBc⟩ := hcut
        obtain ⟨wC, rfl⟩ : ∃ x, x = wc := ⟨_, rfl⟩
        have Hg : Hid (SlotVar wC G wB.heap.size wC.heap.size gb ga gc (atP p xs xb)) := hg
        have HgG : Hid (0 < (atP p xs xb).kn → gb ≠ G) := hgG
        have Hw : Hid (SlotVar wC L w1.heap.size wA.heap.size kb ka kc (atP p xs xb)) := HvB.out.below hBc
        have Hxb : Hid (Box2 wC X (.slice i0 p.n j0) (.slice i1 p.hn j1)) := HXb.out.below hBc
        have Hxo : Hid (PoolOwn wC wA.heap.size X (.slice i0 p.n j0) (.slice i1 p.hn j1) p) := HXo.out.below hBc
        have Ha : Hid (Box2 wC w.heap.size (.slice a p.n c) (.slice a' p.hn c')) := HaB.out.below hBc
        have Hx : Hid (Box2 wC (w.heap.size + 1) (.int .i64 xs) (.int .i64 xb)) := HxB.out.below hBc
        have hBC := below_next hBB hBc
        have hzC := hBc.size
        clear hBc hg hgG hBB HaB HxB HvB HXb HXo HXat
        -- the answers are the same
        obtain ⟨⟨x0, x1⟩, ⟨x2, x3⟩, ⟨x4, x5⟩⟩ := Hg.out.box
        obtain ⟨⟨y0, y1⟩, ⟨y2, y3⟩, ⟨y4, y5⟩⟩ := Hw.out.box
        go_wp2_with fail
        refine (eqSlot_any _ _ _ _ _ _ _ _ _ _ (atP p xs xb) (atP p xs xb) _ Hg.out.at Hw.out.at).mono ?_
        rintro e w5 ⟨⟨t, rfl, ht⟩, hb5⟩
        obtain rfl : t = true := ht.2 (SlotEq.refl _)
        have Hg5 := hide (Hg.out.below hb5)
        have Hw5 := hide (Hw.out.below hb5)
        have Hxb5 := hide (Hxb.out.below hb5)
        have Hxo5 := hide (Hxo.out.below hb5)
        have Ha5 := hide (Ha.out.below hb5)
        have Hx5 := hide (Hx.out.below hb5)
        have hB5 := below_next hBC hb5
        have hz5 := hb5.size
        clear ht hb5 hBC Hg Hw Hxb Hxo Ha Hx x0 x1 x2 x3 x4 x5 y0 y1 y2 y3 y4 y5
        -- the argument is as it was
        obtain ⟨⟨x0, x1⟩, ⟨x2, x3⟩⟩ := Ha5.out
        obtain ⟨⟨y0, y1⟩, ⟨y2, y3⟩⟩ := Hxb5.out
        go_wp2_with fail
        go_region_held3 (fun w' => w'.cell? ⟨w.heap.size, 0, none⟩ = some (.slice a p.n c) ∧ w'.cell? ⟨w.heap.size, 1, none⟩ = some (.slice a' p.hn c') ∧ w'.cell? ⟨X, 0, none⟩ = some (.slice i0 p.n j0) ∧ w'.cell? ⟨X, 1, none⟩ = some (.slice i1 p.hn j1)) (go_keep)
          (first
            | (go_at_call 16; refine (toPool_any _ _ 0 w.heap.size p _ ?_ HN.out).mono ?_; (exact Hp.out.below hB5.drew); rintro e w6 ⟨u0, u1, rfl, ho6, hb6⟩; obtain ⟨k0, l0, k1, l1, rfl, rfl⟩ := ho6.form; have hb6' := below_undrew hb6; have z0 := (Ha5.out.below hb6').1.1; have z1 := (Ha5.out.below hb6').2.1; have z2 := (Hxb5.out.below hb6').1.1; have z3 := (Hxb5.out.below hb6').2.1)
            | (go_at_call 11; refine (eqPool_any _ _ _ _ _ _ _ _ p p _ (Hxo5.out.at.below hb6') ho6.at).mono ?_; rintro e w7 ⟨⟨t7, rfl, ht7⟩, hb7⟩; obtain rfl : t7 = true := ht7.2 (PoolEq.refl p); clear ht7; have hb7' := below_next hb6' hb7; have zz0 := (Ha5.out.below hb7').1.1; have zz1 := (Ha5.out.below hb7').2.1; have zz2 := (Hxb5.out.below hb7').1.1; have zz3 := (Hxb5.out.below hb7').2.1))
        have Hg7 := hide (Hg5.out.below hb7')
        have Hw7 := hide (Hw5.out.below hb7')
        have Hxb7 := hide (Hxb5.out.below hb7')
        have Hxo7 := hide (Hxo5.out.below hb7')
        have Ha7 := hide (Ha5.out.below hb7')
        have Hx7 := hide (Hx5.out.below hb7')
        have hB7 := below_next hB5 hb7'
        have hz7 := hb7'.size
        clear hb7' hb7 hb6 hb6' ho6 z0 z1 z2 z3 zz0 zz1 zz2 zz3 x0 x1 x2 x3 y0 y1 y2 y3 hB5 Hg5 Hw5 Hxb5 Hxo5 Ha5 Hx5
        -- the marks are laid into the argument
        obtain ⟨⟨x0, x1⟩, ⟨x2, x3⟩⟩ := Hxb7.out
        go_wp2_with fail
        refine (markPool_own _ _ _ _ p 1 _ Hxo7.out (by omega) (by rw [Hqe.out]; omega)).mono ?_
        rintro e w8 ⟨rfl, ho8, ht8⟩
        rw [Hqe.out]
        have Hg8 := hide (Hg7.out.turned ht8 (by omega) (by omega))
        have Hw8 := hide (Hw7.out.turned ht8 (by omega) (by omega))
        have Ha8 := hide (Ha7.out.turned ht8 (by omega))
        have Hx8 := hide (Hx7.out.turned ht8 (by omega))
        have hB8 : Below w.heap.size w w8 := hB7.trans (ht8.below (by omega) (by omega))
        have hz8 := ht8.size
        clear ho8 ht8 x0 x1 x2 x3 hB7 Hg7 Hw7 Hxb7 Hxo7 Ha7 Hx7
        -- the answer stays
        obtain ⟨⟨x0, x1⟩, ⟨x2, x3⟩, ⟨x4, x5⟩⟩ := Hg8.out.box
        obtain ⟨⟨y0, y1⟩, ⟨y2, y3⟩, ⟨y4, y5⟩⟩ := Hw8.out.box
        go_wp2_with fail
        refine (eqSlot_any _ _ _ _ _ _ _ _ _ _ (atP p xs xb) (atP p xs xb) _ Hg8.out.at Hw8.out.at).mono ?_
        rintro e w9 ⟨⟨t, rfl, ht⟩, hb9⟩
        obtain rfl : t = true := ht.2 (SlotEq.refl _)
        have Hg9 := hide (Hg8.out.below hb9)
        have Hw9 := hide (Hw8.out.below hb9)
        have Ha9 := hide (Ha8.out.below hb9)
        have Hx9 := hide (Hx8.out.below hb9)
        have hB9 := below_next hB8 hb9
        have hz9 := hb9.size
        clear ht hb9 hB8 Hg8 Hw8 Ha8 Hx8 x0 x1 x2 x3 x4 x5 y0 y1 y2 y3 y4 y5
        -- marks are laid into the answer
        obtain ⟨⟨x0, x1⟩, ⟨x2, x3⟩, ⟨x4, x5⟩⟩ := Hg9.out.box
        have hpl := Hg9.out.place
        go_wp2_with fail
        refine (markSlot_any _ _ _ gb (atP p xs xb) 1 _ rfl Hg9.out.kids rfl (by omega) (by omega)).mono ?_
        rintro e w10 ⟨rfl, hp10, ht10⟩
        have Hg10 : Hid (SlotVar w10 G wB.heap.size wC.heap.size gb ga gc (kidsMarked (atP p xs xb) 1)) := Hg9.out.marked hp10 ht10 HgG.out
        have Hw10 := hide (Hw9.out.turned ht10 (fun hx => by have := hpl hx.1; omega) (fun k hx => by have := hpl hx.1; omega))
        have Ha10 := hide (Ha9.out.turned ht10 (fun hx => by have := hpl hx.1; omega))
        have Hx10 := hide (Hx9.out.turned ht10 (fun hx => by have := hpl hx.1; omega))
        have hB10 : Below w.heap.size w w10 := hB9.trans (ht10.below (by omega) (fun k hx => by have := hpl hx.1; omega))
        have hz10 := ht10.size
        clear hp10 ht10 hpl x0 x1 x2 x3 x4 x5 hB9 Hg9 Hw9 Ha9 Hx9
        -- and looked for
        obtain ⟨⟨x0, x1⟩, ⟨x2, x3⟩, ⟨x4, x5⟩⟩ : Box3 w10 G (.int .i64 (atP p xs xb).birth) (.slice ga (atP p xs xb).kn gc) (.string (atP p xs xb).data) := Hg10.out.box
        go_wp2_with fail
        refine (heldSlot_any _ _ _ wB.heap.size wC.heap.size _ (atP p xs xb).kn _ 1 _ rfl Hg10.out.at.2.1 rfl (by omega) (by omega)).mono ?_
        rintro e w11 ⟨rfl, hb11⟩
        have Hg11 : Hid (SlotVar w11 G wB.heap.size wC.heap.size gb ga gc (kidsMarked (atP p xs xb) 1)) := Hg10.out.below hb11
        have Hw11 := hide (Hw10.out.below hb11)
        have Ha11 := hide (Ha10.out.below hb11)
        have Hx11 := hide (Hx10.out.below hb11)
        have hB11 := below_next hB10 hb11
        have hz11 := hb11.size
        clear hb11 hB10 Hg10 Hw10 Ha10 Hx10 x0 x1 x2 x3 x4 x5
        -- a second answer
        obtain ⟨⟨x0, x1⟩, ⟨x2, x3⟩⟩ := Ha11.out
        obtain ⟨⟨y0, y1⟩, ⟨y2, y3⟩⟩ := Hx11.out
        have n0 : w11.heap.size ≠ w.heap.size := by omega
        have n1 : w11.heap.size ≠ w.heap.size + 1 := by omega
        go_wp2_with fail
        go_cut [12] (fun t wx => NewVar (atP p xs xb) w11 t wx)
        case first =>
          go_region_held3 (fun w' => w'.cell? ⟨w.heap.size, 0, none⟩ = some (.slice a p.n c) ∧ w'.cell? ⟨w.heap.size, 1, none⟩ = some (.slice a' p.hn c') ∧ w'.cell? ⟨w.heap.size + 1, 0, none⟩ = some (.int .i64 xs) ∧ w'.cell? ⟨w.heap.size + 1, 1, none⟩ = some (.int .i64 xb)) (go_keep)
            (first
          | (go_at_call 16; refine (toPool_any _ _ 0 w.heap.size p _ ?_ HN.out).mono ?_; (first | exact Hp.out.below hB11.drew | exact Hp.out.below (below_next hB11 hCq) | exact Hp.out.below (below_next hB11 (below_undrew (below_alloc _ _))) | exact Hp.out.below (below_next hB11 (below_next hCq (below_alloc _ _)))); rintro e wp ⟨v2, v3, rfl, hop, hbp⟩; obtain ⟨i0, j0, i1, j1, rfl, rfl⟩ := hop.form; have hCp : Below w11.heap.size w11 wp := (by first | exact below_undrew hbp | exact below_next hCq hbp | exact below_next (below_undrew (below_alloc _ _)) hbp | exact below_next (below_next hCq (below_alloc _ _)) hbp); (first | (have hLp : Box3 wp w11.heap.size (.int .i64 0) (.slice none 0 0) (.string ⟨#[]⟩) := (Box3.new w11 _ _ _ _).below hbp) | (have hLp := (Box3.new _ _ _ _ _).below hbp) | (have hLp : Box3 wp w11.heap.size (.int .i64 0) (.slice none 0 0) (.string ⟨#[]⟩) := (Box3.new w11 _ _ _ _).below (below_undrew hbp)) | (have hLp := hLq.below hbp) | skip); have np0 : wp.heap.size ≠ w.heap.size := (by have := hCp.size; omega); have np1 : wp.heap.size ≠ w.heap.size + 1 := (by have := hCp.size; omega); have zp0 := (Ha11.out.below hCp).1.1; have zp1 := (Ha11.out.below hCp).2.1; have zp2 := (Hx11.out.below hCp).1.1; have zp3 := (Hx11.out.below hCp).2.1)
          | (go_at_call 19; refine (toPtr_any _ _ _).mono ?_; rintro e wq ⟨rfl, hbq⟩; have hCq : Below w11.heap.size w11 wq := (by first | exact below_undrew hbq | exact below_next hCp hbq | exact below_next (below_undrew (below_alloc _ _)) hbq | exact below_next (below_next hCp (below_alloc _ _)) hbq); (first | (have hLq : Box3 wq w11.heap.size (.int .i64 0) (.slice none 0 0) (.string ⟨#[]⟩) := (Box3.new w11 _ _ _ _).below hbq) | (have hLq := (Box3.new _ _ _ _ _).below hbq) | (have hLq : Box3 wq w11.heap.size (.int .i64 0) (.slice none 0 0) (.string ⟨#[]⟩) := (Box3.new w11 _ _ _ _).below (below_undrew hbq)) | (have hLq := hLp.below hbq) | skip); have nq0 : wq.heap.size ≠ w.heap.size := (by have := hCq.size; omega); have nq1 : wq.heap.size ≠ w.heap.size + 1 := (by have := hCq.size; omega); have zq0 := (Ha11.out.below hCq).1.1; have zq1 := (Ha11.out.below hCq).2.1; have zq2 := (Hx11.out.below hCq).1.1; have zq3 := (Hx11.out.below hCq).2.1)
          | (go_at_call 20; refine (implPoolAt_any _ _ 0 wp.heap.size p _ _ _ ?_).mono ?_; (first | exact hop.at0 | exact hop.at0.below hbq | exact hop.at0.below (below_alloc _ _) | exact (hop.at0.below hbq).below (below_alloc _ _) | exact (hop.at0.below (below_alloc _ _)).below hbq); rintro e w2 ⟨kv, kb, rfl, hko, hkk, hb2⟩; have hko2 := hko; obtain ⟨_, ka, kc', rfl, _⟩ := hko2; have hC2 : Below w11.heap.size w11 w2 := (by first | exact below_next hCp hb2 | exact below_next hCq hb2 | exact below_next (below_next hCp (below_alloc _ _)) hb2 | exact below_next (below_next hCq (below_alloc _ _)) hb2); (first | (have hL2 := (Box3.new _ _ _ _ _).below hb2; have l0 := hL2.1.1; have l1 := hL2.1.2; have l2 := hL2.2.1.1; have l3 := hL2.2.1.2; have l4 := hL2.2.2.1; have l5 := hL2.2.2.2) | (have hL2 := hLp.below hb2; have l0 := hL2.1.1; have l1 := hL2.1.2; have l2 := hL2.2.1.1; have l3 := hL2.2.1.2; have l4 := hL2.2.2.1; have l5 := hL2.2.2.2) | (have hL2 := hLq.below hb2; have l0 := hL2.1.1; have l1 := hL2.1.2; have l2 := hL2.2.1.1; have l3 := hL2.2.1.2; have l4 := hL2.2.2.1; have l5 := hL2.2.2.2) | skip); have zr0 := (Ha11.out.below hC2).1.1; have zr1 := (Ha11.out.below hC2).2.1; have zr2 := (Hx11.out.below hC2).1.1; have zr3 := (Hx11.out.below hC2).2.1))
          all_goals (go_wp2_with fail; go_meet)
          all_goals (case rel => first | exact newVar_late hC2 (by first | exact hCq.size | exact hCp.size) hko hkk Hsd.out | exact newVar_early hC2 hL2 (by first | exact Nat.le_refl _ | exact hCp.size | exact hCq.size) (by first | (rw [World.size_alloc]; exact Nat.lt_succ_self _) | exact hLq.1.lt | exact hLp.1.lt) hko hkk Hsd.out)
        case rest =>
          clear x0 x1 x2 x3 y0 y1 y2 y3 n0 n1
          obtain ⟨E, eb, ea, ec, rfl, hh, hE1, hE2, heE, hBc⟩ := hcut
          have Hh : Hid (SlotVar wc E w11.heap.size wc.heap.size eb ea ec (atP p xs xb)) := hh
          have Hg12 : Hid (SlotVar wc G wB.heap.size wC.heap.size gb ga gc (kidsMarked (atP p xs xb) 1)) := Hg11.out.below hBc
          have Hw12 := hide (Hw11.out.below hBc)
          have hB12 := below_next hB11 hBc
          clear hBc hh hB11 Hg11 Hw11 Ha11 Hx11
          obtain ⟨⟨x0, x1⟩, ⟨x2, x3⟩, ⟨x4, x5⟩⟩ := Hh.out.box
          obtain ⟨⟨y0, y1⟩, ⟨y2, y3⟩, ⟨y4, y5⟩⟩ := Hw12.out.box
          go_wp2_with fail
          refine (eqSlot_any _ _ _ _ _ _ _ _ _ _ (atP p xs xb) (atP p xs xb) _ Hh.out.at Hw12.out.at).mono ?_
          rintro e w13 ⟨⟨t, rfl, ht⟩, hb13⟩
          obtain rfl : t = true := ht.2 (SlotEq.refl _)
          have Hg13 : Hid (SlotVar w13 G wB.heap.size wC.heap.size gb ga gc (kidsMarked (atP p xs xb) 1)) := Hg12.out.below hb13
          have hB13 := below_next hB12 hb13
          clear ht hb13 hB12 Hg12 Hw12 Hh x0 x1 x2 x3 x4 x5 y0 y1 y2 y3 y4 y5
          -- the marks are there still
          obtain ⟨⟨x0, x1⟩, ⟨x2, x3⟩, ⟨x4, x5⟩⟩ : Box3 w13 G (.int .i64 (atP p xs xb).birth) (.slice ga (atP p xs xb).kn gc) (.string (atP p xs xb).data) := Hg13.out.box
          go_wp2_with fail
          refine (heldSlot_any _ _ _ wB.heap.size wC.heap.size _ (atP p xs xb).kn _ 1 _ rfl Hg13.out.at.2.1 rfl (by omega) (by omega)).mono ?_
          rintro e w14 ⟨rfl, hb14⟩
          have hB14 := below_next hB13 hb14
          go_wp2
          go_ret
          exact ⟨rfl, hB14⟩

theorem own : ownKnob Try.prog.godebug = none := by kernel_rfl
theorem laidOut : laidOutB Try.prog = true := by kernel_rfl

set_option maxRecDepth 100000 in
theorem poolAt_lifted (os : Os) (started : os.Started) (H : Type) (enc : TypeId × Value → H) :
    ReturnsInHanded {} Try.checked os 6 .any (Rows.fnExactPoolAtSpec.pre6 enc Try.prog Try.f6 Rows.fnExactPoolAtRow.domain false) (Rows.fnExactPoolAtSpec.post enc Try.prog Try.f6 false true false false) := by
  refine returnsInHanded_of_change (C := Try.checked) own started (by kernel_rfl) Try.func6
    (ChangeSpec.witness6 (enc := enc) (C := Try.checked) false ⟨#[], #[.agg #[.slice none 0 0, .slice none 0 0], .agg #[.int .i64 0, .int .i64 0]], []⟩ 8 (by kernel_rfl) (by kernel_rfl) (by kernel_rfl) (by kernel_rfl)) ?_
  intro W base args ds gs before hval0 hW hcnd _
  have hval : ∀ (j : Nat) t v, Try.f6.params[j]? = some t → args[j]? = some v → Value.okWide Try.prog W .any base t v := hval0
  have hW' := hW
  obtain ⟨p, q, hA0, hV, rfl, hfz, hnd⟩ := hW
  have hA : DataW.TrodAll enc Try.prog W 0 (fun _ => true) true Try.f6.params.toList args.toList ds p := hA0
  rw [Try.params6] at hA hval
  obtain ⟨v0, vs0, d0, ds0, p0, q0, hargs, rfl, rfl, h0, r0⟩ := trodAll_cons hA
  obtain ⟨v1, vs1, d1, ds1, p1, q1, hargs1, rfl, rfl, h1, r1⟩ := trodAll_cons r0
  obtain ⟨rfl, rfl, rfl⟩ := trodAll_nil r1
  obtain rfl : args = #[v0, v1] := by cases args; simp_all
  obtain ⟨rfl, rfl⟩ := trodVars_none hV
  have k0 := h0
  have k1 := h1
  have lt0 : ∀ x ∈ p0, x.block < W.heap.size := by obtain ⟨m, hm⟩ := k0; exact DataW.trod_lt m _ _ _ hm
  have lt1 : ∀ x ∈ p1, x.block < W.heap.size := by obtain ⟨m, hm⟩ := k1; exact DataW.trod_lt m _ _ _ hm
  obtain ⟨s0, s1, pd, rfl, hpool⟩ := open_pool (hval 0 33 v0 rfl rfl) h0
  obtain ⟨xs, xb, rfl⟩ := open_ptr (hval 1 39 v1 rfl rfl) h1
  clear hA0 hval0
  refine (poolAt_walk s0 s1 pd xs xb W hpool).mono fun e W' ⟨he, bel⟩ => ?_
  subst he
  exact ⟨_, rfl, _, _, _, [], _, [], hW', trodAll_mk1 (shut_bool Try.underlying4 _), (trodAll_cons_mk (Below.trod laidOut (by kernel_rfl) (of_decide_eq_true (by kernel_rfl)) k0 bel lt0) (trodAll_cons_mk (Below.trod laidOut (by kernel_rfl) (of_decide_eq_true (by kernel_rfl)) k1 bel lt1) trodAll_mk0)), rfl, bel.frame _, fun h => by cases h⟩

theorem fnExactPoolAt_holds : Rows.FnExactPoolAtSaid :=
  OpenClaim.holds_of_wide 6 Try.f6 rfl rfl rfl rfl rfl rfl rfl ⟨rfl, rfl, rfl, rfl, rfl⟩ rfl rfl rfl rfl rfl (by kernel_rfl) Try.func6 (by kernel_rfl)
    (of_decide_eq_true (by kernel_rfl)) (by unfold Func.isWrapper; first | (rw [if_pos (by decide +kernel)]; kernel_rfl) | (rw [if_neg (by decide +kernel)]; exact ⟨rfl, rfl⟩))
    (fun os started H enc _ => poolAt_lifted os started H enc)

end Go.Proofs.Yteffacfdbhdppac
