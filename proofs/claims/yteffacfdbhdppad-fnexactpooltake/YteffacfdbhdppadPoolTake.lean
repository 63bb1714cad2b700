/- For every pool and slot that come in the law FnExactPoolTake returns true: impl.PoolTake answers as spec.PoolTake, writes nothing of its arguments, and its answer is memory of its own. No condition. -/
import Derived.Test.YteffacfdbhdppadTakeD
import Derived.Test.YteffacfdbhdppadOutKit
import Derived.Test.YteffacfdbhdppadSlotMark
import Derived.Test.YteffacfdbhdppadOpen
import Derived.OpenShut
import Derived.ChangeOld
import Derived.Deep.DeepCutAuto
namespace Go.Proofs.Yteffacfdbhdppad
open Go.ChangeShapes Go.WideShapes Go.ChangeAt Go.RowKit
set_option linter.unusedVariables false

theorem take_small (p : PoolD) (s : SlotD) : poolN (takeP p s).pool ≤ poolN p + slotN s := by
  by_cases h : Right p ∧ ¬ Free s ∧ Fits p s
  · by_cases hx : ∃ i, First p.n p.s i
    · obtain ⟨i, hi⟩ := hx
      rw [take_ok h hi]
      exact set_small p i s
    · have e : takeP p s = ⟨newP 0, 0, 0, 6⟩ := by
        unfold takeP
        rw [if_pos h, dif_neg hx]
      rw [e]; exact Nat.zero_le _
  · rw [take_form h]; exact Nat.zero_le _

/-- A variable that holds a slot with Kids of its own. -/
structure SlotVar (w : World) (b lo hi kb : Nat) (ka : Option Addr) (kc : Nat) (s : SlotD) : Prop where
  box : Box3 w b (.int .i64 s.birth) (.slice ka s.kn kc) (.string s.data)
  kids : PtrsOwn w kb (.slice ka s.kn kc) s.kn s.ks s.kb
  place : 0 < s.kn → lo ≤ kb ∧ kb < hi
  small : s.data.size ≤ maxLen
theorem SlotVar.below {w w' : World} {b lo hi kb : Nat} {ka : Option Addr} {kc : Nat} {s : SlotD} (h : SlotVar w b lo hi kb ka kc s) (t : Below w.heap.size w w') : SlotVar w' b lo hi kb ka kc s := ⟨h.box.below t, h.kids.below t, h.place, h.small⟩
theorem SlotVar.at {w : World} {b lo hi kb : Nat} {ka : Option Addr} {kc : Nat} {s : SlotD} (h : SlotVar w b lo hi kb ka kc s) : SlotAt w lo hi (.int .i64 s.birth) (.slice ka s.kn kc) (.string s.data) s := ⟨rfl, h.kids.at h.place, rfl, h.small⟩
theorem SlotVar.turned {S : Nat → Prop} {w w' : World} {b lo hi kb : Nat} {ka : Option Addr} {kc : Nat} {s : SlotD} (h : SlotVar w b lo hi kb ka kc s) (t : Turned S w w') (hb : ¬ S b) (hs : ∀ k, S k → k < lo ∨ hi ≤ k) : SlotVar w' b lo hi kb ka kc s :=
  ⟨h.box.turned t hb, h.kids.turned t (fun h0 hx => by have := h.place h0; have := hs _ hx; omega), h.place, h.small⟩

set_option maxRecDepth 20000 in
set_option maxHeartbeats 8000000 in
theorem poolTake_walk (v0 v1 s0 s1 s2 : Value) (p : PoolD) (s : SlotD) (w : World) (h : PoolAt w 0 w.heap.size v0 v1 p) (hS : SlotAt w 0 w.heap.size s0 s1 s2 s) : Calls Try.prog 3 #[.agg #[v0, v1], .agg #[s0, s1, s2]] w fun e w' => e = .returned (.bool true) ∧ Below w.heap.size w w' := by
  have Hp : Hid (PoolAt w 0 w.heap.size v0 v1 p) := h
  obtain ⟨a, c, a', c', rfl, rfl⟩ := h.form
  obtain ⟨ka, kc, rfl⟩ := hS.form
  obtain ⟨rfl, _, rfl, _⟩ := id hS
  have Hs := hide hS
  clear h hS
  go_enter Try.func3, Try.ntmps3
  go_wp2_with fail
  have ha := below_next (below_alloc w (.cells #[.slice a p.n c, .slice a' p.hn c'] 25)) (below_alloc _ (.cells #[.int .i64 s.birth, .slice ka s.kn kc, .string s.data] 28))
  refine (szPool_any _ _ _ _ p _ _ (Hp.out.below ha) (by omega) (by omega)).mono ?_
  rintro e w0 ⟨⟨r, rfl, hr1, hr2, hr3⟩, hb1⟩
  have Ha0 := hide (((Box2.new w (.slice a p.n c) (.slice a' p.hn c') 25).below (below_alloc _ (.cells #[.int .i64 s.birth, .slice ka s.kn kc, .string s.data] 28))).below hb1)
  have hx0 := (Box3.new (w.alloc (.cells #[.slice a p.n c, .slice a' p.hn c'] 25)) (.int .i64 s.birth) (.slice ka s.kn kc) (.string s.data) 28).below hb1
  rw [World.size_alloc] at hx0
  have Hx0 := hide hx0
  have hB0 := below_next ha hb1
  have Hr := hide hr1
  clear ha hb1 hr1 hx0
  by_cases hr : r < 0
  · go_wp2
    go_ret
    exact ⟨rfl, hB0⟩
  · have hr0 : 0 ≤ r := by omega
    obtain ⟨⟨y0, y1⟩, ⟨y2, y3⟩, ⟨y4, y5⟩⟩ := Hx0.out
    go_wp2_with fail
    refine (szSlot_any _ _ _ _ _ s r _ (Hs.out.below hB0) hr0 hr2).mono ?_
    rintro e w1 ⟨⟨r', rfl, hr1', hr2', hr3'⟩, hb1⟩
    have Ha1 := hide (Ha0.out.below hb1)
    have Hx1 := hide (Hx0.out.below hb1)
    have hB1 := below_next hB0 hb1
    have Hr' := hide hr1'
    clear hb1 hB0 Ha0 Hx0 hr1' y0 y1 y2 y3 y4 y5
    by_cases hr' : r' < 0
    · go_wp2
      go_ret
      exact ⟨rfl, hB1⟩
    · have HN2 : Hid (poolN p + slotN s ≤ 1048576) := by have h1 := Hr.out hr0; have h2 := Hr'.out (by omega); show _ ≤ _; omega
      have HN : Hid (poolN p ≤ 1048576) := by have := HN2.out; show _ ≤ _; omega
      have hkn : s.kn ≤ 1048576 := by have := HN2.out; unfold slotN at this; omega
      have hz1 : w.heap.size + 1 < w1.heap.size := Hx1.out.1.lt
      have hend := end_small HN.out
      have hend2 := end_small2 (p := (takeP p s).pool) (by have := take_small p s; have := HN2.out; omega)
      generalize hqe : endP p 1 = qe at hend
      have Hqe := hide hqe
      have SP : Hid (∀ v0 v1 kv lo hi lo' hi' w, PoolAt w lo hi v0 v1 p → SlotAt w lo' hi' (.int .i64 s.birth) kv (.string s.data) s → Calls Try.prog 9 #[.agg #[v0, v1], .agg #[.int .i64 s.birth, kv, .string s.data]] w (NewOut (takeP p s) w)) := fun v0 v1 kv lo hi lo' hi' w h h' => specPoolTake_any v0 v1 kv lo hi lo' hi' p s w h h' HN2.out
      have IM : Hid (∀ v0 v1 kv lo hi lo' hi' w, PoolAt w lo hi v0 v1 p → SlotAt w lo' hi' (.int .i64 s.birth) kv (.string s.data) s → Calls Try.prog 12 #[.agg #[v0, v1], .agg #[.int .i64 s.birth, kv, .string s.data]] w (NewOut (takeP p s) w)) := fun v0 v1 kv lo hi lo' hi' w h h' => implPoolTake_any v0 v1 kv lo hi lo' hi' p s w h h' HN2.out
      generalize takeP p s = o at hend2 SP IM
      generalize hge : endP o.pool 1 = ge at hend2
      have Hge := hide hge
      obtain ⟨hqe1, hqe2⟩ := hend
      obtain ⟨hge1, hge2⟩ := hend2
      have hqe0 : ¬ qe + 2 * (s.kn : Int) < 0 := by omega
      have hge0 : ¬ ge < 0 := by omega
      have hgg : (ge != ge) = false := by simp
      have hqe5 : qe ≤ 10000000 := by
        have h1 := cnt_size p.s p.n
        have h2 := HN.out
        have h3 := Hqe.out
        unfold poolN at h2
        unfold endP at h3
        omega
      clear hqe hge
      -- the specification's answer
      obtain ⟨⟨x0, x1⟩, ⟨x2, x3⟩⟩ := Ha1.out
      obtain ⟨⟨y0, y1⟩, ⟨y2, y3⟩, ⟨y4, y5⟩⟩ := Hx1.out
      have n0 : w1.heap.size ≠ w.heap.size := by omega
      have n1 : w1.heap.size ≠ w.heap.size + 1 := by omega
      go_wp2_with fail
      go_cut [6] (fun t wx => NewOutVar o w1 t wx)
      case first =>
        go_region_held3 (fun w' => w'.cell? ⟨w.heap.size, 0, none⟩ = some (.slice a p.n c) ∧ w'.cell? ⟨w.heap.size, 1, none⟩ = some (.slice a' p.hn c') ∧ w'.cell? ⟨w.heap.size + 1, 0, none⟩ = some (.int .i64 s.birth) ∧ w'.cell? ⟨w.heap.size + 1, 1, none⟩ = some (.slice ka s.kn kc) ∧ w'.cell? ⟨w.heap.size + 1, 2, none⟩ = some (.string s.data)) (go_keep)
          (first
          | (go_at_call 10; refine (toPool_any _ _ 0 w.heap.size p _ ?_ HN.out).mono ?_; (first | exact Hp.out.below hB1.drew | exact Hp.out.below (below_next hB1 hCq) | exact Hp.out.below (below_next hB1 (below_undrew (below_alloc _ _))) | exact Hp.out.below (below_next hB1 (below_next hCq (below_alloc _ _)))); rintro e wp ⟨v2, v3, rfl, hop, hbp⟩; obtain ⟨i0, j0, i1, j1, rfl, rfl⟩ := hop.form; have hCp : Below w1.heap.size w1 wp := (by first | exact below_undrew hbp | exact below_next hCq hbp | exact below_next (below_undrew (below_alloc _ _)) hbp | exact below_next (below_next hCq (below_alloc _ _)) hbp); (first | (have hLp : Box5 wp w1.heap.size (.slice none 0 0) (.slice none 0 0) (.int .i64 0) (.int .i64 0) (.int .i64 0) := (Box5.new w1 _ _ _ _ _ _).below hbp) | (have hLp := (Box5.new _ _ _ _ _ _ _).below hbp) | (have hLp : Box5 wp w1.heap.size (.slice none 0 0) (.slice none 0 0) (.int .i64 0) (.int .i64 0) (.int .i64 0) := (Box5.new w1 _ _ _ _ _ _).below (below_undrew hbp)) | (have hLp := hLq.below hbp) | skip); have np0 : wp.heap.size ≠ w.heap.size := (by have := hCp.size; omega); have np1 : wp.heap.size ≠ w.heap.size + 1 := (by have := hCp.size; omega); have zp0 := (Ha1.out.below hCp).1.1; have zp1 := (Ha1.out.below hCp).2.1; have zp2 := (Hx1.out.below hCp).1.1; have zp3 := (Hx1.out.below hCp).2.1.1; have zp4 := (Hx1.out.below hCp).2.2.1)
          | (go_at_call 11; refine (toSlot_any _ _ _ 0 w.heap.size s _ ?_ hkn).mono ?_; (first | exact Hs.out.below hB1.drew | exact Hs.out.below (below_next hB1 hCp) | exact Hs.out.below (below_next hB1 (below_undrew (below_alloc _ _))) | exact Hs.out.below (below_next hB1 (below_next hCp (below_alloc _ _)))); rintro e wq ⟨⟨tv, tb, rfl, htp, htb1, htb2⟩, hbq⟩; obtain ⟨_, ta, tc, rfl, _⟩ := id htp; have hsl : SlotAt wq 0 wq.heap.size (.int .i64 s.birth) (.slice ta s.kn tc) (.string s.data) s := ⟨rfl, htp.at (fun _ => ⟨Nat.zero_le _, htb2⟩), rfl, Hs.out.2.2.2⟩; have hCq : Below w1.heap.size w1 wq := (by first | exact below_undrew hbq | exact below_next hCp hbq | exact below_next (below_undrew (below_alloc _ _)) hbq | exact below_next (below_next hCp (below_alloc _ _)) hbq); (first | (have hLq : Box5 wq w1.heap.size (.slice none 0 0) (.slice none 0 0) (.int .i64 0) (.int .i64 0) (.int .i64 0) := (Box5.new w1 _ _ _ _ _ _).below hbq) | (have hLq := (Box5.new _ _ _ _ _ _ _).below hbq) | (have hLq : Box5 wq w1.heap.size (.slice none 0 0) (.slice none 0 0) (.int .i64 0) (.int .i64 0) (.int .i64 0) := (Box5.new w1 _ _ _ _ _ _).below (below_undrew hbq)) | (have hLq := hLp.below hbq) | skip); have nq0 : wq.heap.size ≠ w.heap.size := (by have := hCq.size; omega); have nq1 : wq.heap.size ≠ w.heap.size + 1 := (by have := hCq.size; omega); have zq0 := (Ha1.out.below hCq).1.1; have zq1 := (Ha1.out.below hCq).2.1; have zq2 := (Hx1.out.below hCq).1.1; have zq3 := (Hx1.out.below hCq).2.1.1; have zq4 := (Hx1.out.below hCq).2.2.1)
          | (go_at_call 9; refine (SP.out _ _ _ 0 wp.heap.size 0 wq.heap.size _ ?_ ?_).mono ?_; (first | exact hop.at0 | exact hop.at0.below hbq | exact hop.at0.below (below_alloc _ _) | exact (hop.at0.below hbq).below (below_alloc _ _) | exact (hop.at0.below (below_alloc _ _)).below hbq); (first | exact hsl | exact hsl.below (below_alloc _ _)); rintro e w2 ⟨s0, s1, rfl, ho2, hb2⟩; obtain ⟨oa, oc, ob, od, rfl, rfl⟩ := ho2.form; have hC2 : Below w1.heap.size w1 w2 := (by first | exact below_next hCp hb2 | exact below_next hCq hb2 | exact below_next (below_next hCp (below_alloc _ _)) hb2 | exact below_next (below_next hCq (below_alloc _ _)) hb2); (first | (have hL2 := (Box5.new _ _ _ _ _ _ _).below hb2; have l0 := hL2.1.1; have l1 := hL2.1.2; have l2 := hL2.2.1.1; have l3 := hL2.2.1.2; have l4 := hL2.2.2.1.1; have l5 := hL2.2.2.1.2; have l6 := hL2.2.2.2.1.1; have l7 := hL2.2.2.2.1.2; have l8 := hL2.2.2.2.2.1; have l9 := hL2.2.2.2.2.2) | (have hL2 := hLp.below hb2; have l0 := hL2.1.1; have l1 := hL2.1.2; have l2 := hL2.2.1.1; have l3 := hL2.2.1.2; have l4 := hL2.2.2.1.1; have l5 := hL2.2.2.1.2; have l6 := hL2.2.2.2.1.1; have l7 := hL2.2.2.2.1.2; have l8 := hL2.2.2.2.2.1; have l9 := hL2.2.2.2.2.2) | (have hL2 := hLq.below hb2; have l0 := hL2.1.1; have l1 := hL2.1.2; have l2 := hL2.2.1.1; have l3 := hL2.2.1.2; have l4 := hL2.2.2.1.1; have l5 := hL2.2.2.1.2; have l6 := hL2.2.2.2.1.1; have l7 := hL2.2.2.2.1.2; have l8 := hL2.2.2.2.2.1; have l9 := hL2.2.2.2.2.2) | skip); have zr0 := (Ha1.out.below hC2).1.1; have zr1 := (Ha1.out.below hC2).2.1; have zr2 := (Hx1.out.below hC2).1.1; have zr3 := (Hx1.out.below hC2).2.1.1; have zr4 := (Hx1.out.below hC2).2.2.1))
        all_goals (go_wp2_with fail; go_meet)
        all_goals (case rel => first | exact newOut_late hC2 (by first | exact hCq.size | exact hCp.size) ho2 | exact newOut_early hC2 hL2 (by first | exact Nat.le_refl _ | exact hCp.size | exact hCq.size) (by first | (rw [World.size_alloc]; exact Nat.lt_succ_self _) | exact hLq.1.lt | exact hLp.1.lt) ho2)
      case rest =>
        clear y0 y1 y2 y3 y4 y5 x0 x1 x2 x3 n0 n1
        obtain ⟨L, a3, c3, a4, c4, loL, hiL, rfl, hL, hL1, hL2, hL3, hL4, hL5, hBc⟩ := hcut
        obtain ⟨wA, rfl⟩ : ∃ x, x = wc := ⟨_, rfl⟩
        have HLA := hide hL
        have hBA := below_next hB1 hBc
        have HaA := hide (Ha1.out.below hBc)
        have HxA := hide (Hx1.out.below hBc)
        have hzA := hBc.size
        clear hBc hL hB1 Ha1 Hx1
        -- the copies that the call is given
        obtain ⟨⟨x0, x1⟩, ⟨x2, x3⟩⟩ := HaA.out
        go_wp2_with fail
        refine (toPool_any _ _ 0 w.heap.size p _ (Hp.out.below hBA) HN.out).mono ?_
        rintro e w2 ⟨z0, z1, rfl, ho2, hb2⟩
        obtain ⟨i0, j0, i1, j1, rfl, rfl⟩ := ho2.form
        have hnv := poolVar_new (t := 33) ho2 hb2
        have HxB := hide (HxA.out.below hnv.2.2.2)
        clear ho2 hb2 x0 x1 x2 x3
        obtain ⟨⟨y0, y1⟩, ⟨y2, y3⟩, ⟨y4, y5⟩⟩ := HxB.out
        go_wp2_with fail
        clear y0 y1 y2 y3 y4 y5
        generalize w2.alloc (.cells #[.slice i0 p.n j0, .slice i1 p.hn j1] 33) = wB at hnv HxB ⊢
        generalize w2.heap.size = X at hnv ⊢
        obtain ⟨hX, hX1, hX2, hBc⟩ := hnv
        have HXB := hide hX
        have HLB := hide (HLA.out.below hBc)
        have HaB := hide (HaA.out.below hBc)
        have hBB := below_next hBA hBc
        have hzB := hBc.size
        clear hBc hX hBA HaA HxA HLA
        refine (toSlot_any _ _ _ 0 w.heap.size s _ (Hs.out.below hBB) hkn).mono ?_
        rintro e w3 ⟨⟨tv, tb, rfl, htp, htb1, htb2⟩, hb3⟩
        obtain ⟨_, ta, tc, rfl, _⟩ := id htp
        have hal := below_next hb3 (below_alloc w3 (.cells #[.int .i64 s.birth, .slice ta s.kn tc, .string s.data] 42))
        have HY : Hid (SlotVar (w3.alloc (.cells #[.int .i64 s.birth, .slice ta s.kn tc, .string s.data] 42)) w3.heap.size wB.heap.size w3.heap.size tb ta tc s) := ⟨Box3.new _ _ _ _ _, htp.below (below_alloc _ _), fun _ => ⟨htb1, htb2⟩, Hs.out.2.2.2⟩
        have hzY : wB.heap.size ≤ w3.heap.size ∧ w3.heap.size < (w3.alloc (.cells #[.int .i64 s.birth, .slice ta s.kn tc, .string s.data] 42)).heap.size := ⟨hb3.size, by rw [World.size_alloc]; omega⟩
        have HXD := hide (HXB.out.below hal)
        have HLD := hide (HLB.out.below hal)
        have HaD := hide (HaB.out.below hal)
        have HxD := hide (HxB.out.below hal)
        have hBD := below_next hBB hal
        clear hb3 htp htb1 htb2 hal HXB HLB HaB HxB hBB
        obtain ⟨⟨x0, x1⟩, ⟨x2, x3⟩⟩ := HXD.out.box
        obtain ⟨⟨y0, y1⟩, ⟨y2, y3⟩, ⟨y4, y5⟩⟩ := HY.out.box
        go_wp2_with fail
        clear x0 x1 x2 x3 y0 y1 y2 y3 y4 y5
        generalize w3.alloc (.cells #[.int .i64 s.birth, .slice ta s.kn tc, .string s.data] 42) = wD at HY hzY HXD HLD HaD HxD hBD ⊢
        generalize w3.heap.size = Y at HY hzY ⊢
        obtain ⟨hY1, hY2⟩ := hzY
        -- its answer
        refine (IM.out _ _ _ _ _ _ _ _ HXD.out.own.at HY.out.at).mono ?_
        rintro e w5 ⟨u0, u1, rfl, ho5, hb5⟩
        obtain ⟨a7, c7, a8, c8, rfl, rfl⟩ := ho5.form
        have hnw := newOut_late (t := 37) hb5 (Nat.le_refl _) ho5
        have hbx := below_next hb5 (below_alloc w5 (.cells #[.slice a7 o.pool.n c7, .slice a8 o.pool.hn c8, .int .i64 o.ps, .int .i64 o.pb, .int .i64 o.code] 37))
        have HGC : Hid (OutVar (w5.alloc (.cells #[.slice a7 o.pool.n c7, .slice a8 o.pool.hn c8, .int .i64 o.ps, .int .i64 o.pb, .int .i64 o.code] 37)) w5.heap.size wD.heap.size w5.heap.size (.slice a7 o.pool.n c7) (.slice a8 o.pool.hn c8) o) := ⟨Box5.new _ _ _ _ _ _ _, ho5.below (below_alloc _ _)⟩
        have hzG : wD.heap.size ≤ w5.heap.size ∧ w5.heap.size < (w5.alloc (.cells #[.slice a7 o.pool.n c7, .slice a8 o.pool.hn c8, .int .i64 o.ps, .int .i64 o.pb, .int .i64 o.code] 37)).heap.size := ⟨hb5.size, by rw [World.size_alloc]; omega⟩
        have HLC := hide (HLD.out.below hbx)
        have HXC := hide (HXD.out.below hbx)
        have HYC := hide (HY.out.below hbx)
        have HaC := hide (HaD.out.below hbx)
        have HxC := hide (HxD.out.below hbx)
        have hBC := below_next hBD hbx
        clear hnw ho5 hb5 hbx HLD HXD HY HaD HxD hBD
        obtain ⟨⟨x0, x1⟩, ⟨x2, x3⟩, ⟨x4, x5⟩, ⟨x6, x7⟩, ⟨x8, x9⟩⟩ := HGC.out.box
        obtain ⟨⟨y0, y1⟩, ⟨y2, y3⟩, ⟨y4, y5⟩, ⟨y6, y7⟩, ⟨y8, y9⟩⟩ := HLC.out.box
        go_wp2_with fail
        clear x0 x1 x2 x3 x4 x5 x6 x7 x8 x9 y0 y1 y2 y3 y4 y5 y6 y7 y8 y9
        generalize w5.alloc (.cells #[.slice a7 o.pool.n c7, .slice a8 o.pool.hn c8, .int .i64 o.ps, .int .i64 o.pb, .int .i64 o.code] 37) = wC at HGC hzG HLC HXC HYC HaC HxC hBC ⊢
        generalize w5.heap.size = G at HGC hzG ⊢
        obtain ⟨hG1, hG2⟩ := hzG
        -- the answers are the same
        refine (eqPoolOut_same _ _ _ _ _ _ _ _ o _ HGC.out.own.at HLC.out.own.at).mono ?_
        rintro e w6 ⟨rfl, hb6⟩
        have Ha6 := hide (HaC.out.below hb6)
        have Hx6 := hide (HxC.out.below hb6)
        have HL6 := hide (HLC.out.below hb6)
        have HX6 := hide (HXC.out.below hb6)
        have HY6 := hide (HYC.out.below hb6)
        have HG6 := hide (HGC.out.below hb6)
        have hB6 := below_next hBC hb6
        have hz6 := hb6.size
        clear hb6 hBC HaC HxC HLC HXC HYC HGC
        -- the arguments are as they were
        obtain ⟨⟨x0, x1⟩, ⟨x2, x3⟩⟩ := Ha6.out
        obtain ⟨⟨y0, y1⟩, ⟨y2, y3⟩⟩ := HX6.out.box
        go_wp2_with fail
        go_region_held3 (fun w' => w'.cell? ⟨w.heap.size, 0, none⟩ = some (.slice a p.n c) ∧ w'.cell? ⟨w.heap.size, 1, none⟩ = some (.slice a' p.hn c') ∧ w'.cell? ⟨X, 0, none⟩ = some (.slice i0 p.n j0) ∧ w'.cell? ⟨X, 1, none⟩ = some (.slice i1 p.hn j1)) (go_keep)
          (first
            | (go_at_call 10; refine (toPool_any _ _ 0 w.heap.size p _ ?_ HN.out).mono ?_; (exact Hp.out.below hB6.drew); rintro e w7 ⟨u0, u1, rfl, ho7, hb7⟩; obtain ⟨k0, l0, k1, l1, rfl, rfl⟩ := ho7.form; have hb7' := below_undrew hb7; have z0 := (Ha6.out.below hb7').1.1; have z1 := (Ha6.out.below hb7').2.1; have z2 := (HX6.out.box.below hb7').1.1; have z3 := (HX6.out.box.below hb7').2.1)
            | (go_at_call 14; refine (eqPool_any _ _ _ _ _ _ _ _ p p _ (HX6.out.own.at.below hb7') ho7.at).mono ?_; rintro e w8 ⟨⟨t8, rfl, ht8⟩, hb8⟩; obtain rfl : t8 = true := ht8.2 (PoolEq.refl p); clear ht8; have hb8' := below_next hb7' hb8; have zz0 := (Ha6.out.below hb8').1.1; have zz1 := (Ha6.out.below hb8').2.1; have zz2 := (HX6.out.box.below hb8').1.1; have zz3 := (HX6.out.box.below hb8').2.1))
        have Ha7 := hide (Ha6.out.below hb8')
        have Hx7 := hide (Hx6.out.below hb8')
        have HL7 := hide (HL6.out.below hb8')
        have HX7 := hide (HX6.out.below hb8')
        have HY7 := hide (HY6.out.below hb8')
        have HG7 := hide (HG6.out.below hb8')
        have hB7 := below_next hB6 hb8'
        have hz7 := hb8'.size
        clear hb8' hb8 hb7 hb7' ho7 z0 z1 z2 z3 zz0 zz1 zz2 zz3 x0 x1 x2 x3 y0 y1 y2 y3 hB6 Ha6 Hx6 HL6 HX6 HY6 HG6
        obtain ⟨⟨x0, x1⟩, ⟨x2, x3⟩, ⟨x4, x5⟩⟩ := Hx7.out
        obtain ⟨⟨y0, y1⟩, ⟨y2, y3⟩, ⟨y4, y5⟩⟩ := HY7.out.box
        go_wp2_with fail
        go_region_held3 (fun w' => w'.cell? ⟨w.heap.size + 1, 0, none⟩ = some (.int .i64 s.birth) ∧ w'.cell? ⟨w.heap.size + 1, 1, none⟩ = some (.slice ka s.kn kc) ∧ w'.cell? ⟨w.heap.size + 1, 2, none⟩ = some (.string s.data) ∧ w'.cell? ⟨Y, 0, none⟩ = some (.int .i64 s.birth) ∧ w'.cell? ⟨Y, 1, none⟩ = some (.slice ta s.kn tc) ∧ w'.cell? ⟨Y, 2, none⟩ = some (.string s.data)) (go_keep)
          (first
            | (go_at_call 11; refine (toSlot_any _ _ _ 0 w.heap.size s _ ?_ hkn).mono ?_; (exact Hs.out.below hB7.drew); rintro e w8 ⟨⟨qv, qb, rfl, hqp, hqb1, hqb2⟩, hb8⟩; obtain ⟨_, qa, qc, rfl, _⟩ := id hqp; have hb8' := below_undrew hb8; have hsl8 : SlotAt w8 0 w8.heap.size (.int .i64 s.birth) (.slice qa s.kn qc) (.string s.data) s := ⟨rfl, hqp.at (fun _ => ⟨Nat.zero_le _, hqb2⟩), rfl, Hs.out.2.2.2⟩; obtain ⟨⟨z0, z1⟩, ⟨z2, z3⟩, ⟨z4, z5⟩⟩ := Hx7.out.below hb8'; obtain ⟨⟨z6, z7⟩, ⟨z8, z9⟩, ⟨z10, z11⟩⟩ := HY7.out.box.below hb8')
            | (go_at_call 15; refine (eqSlot_any _ _ _ _ _ _ _ _ _ _ s s _ (HY7.out.at.below hb8') hsl8).mono ?_; rintro e w9 ⟨⟨t9, rfl, ht9⟩, hb9⟩; obtain rfl : t9 = true := ht9.2 (SlotEq.refl s); clear ht9; have hb9' := below_next hb8' hb9; obtain ⟨⟨zz0, zz1⟩, ⟨zz2, zz3⟩, ⟨zz4, zz5⟩⟩ := Hx7.out.below hb9'; obtain ⟨⟨zz6, zz7⟩, ⟨zz8, zz9⟩, ⟨zz10, zz11⟩⟩ := HY7.out.box.below hb9'))
        have Ha8 := hide (Ha7.out.below hb9')
        have Hx8 := hide (Hx7.out.below hb9')
        have HL8 := hide (HL7.out.below hb9')
        have HX8 := hide (HX7.out.below hb9')
        have HY8 := hide (HY7.out.below hb9')
        have HG8 := hide (HG7.out.below hb9')
        have hB8 := below_next hB7 hb9'
        have hz8 := hb9'.size
        clear hb9' hb9 hb8 hb8' hqp hqb1 hqb2 hsl8 z0 z1 z2 z3 z4 z5 z6 z7 z8 z9 z10 z11 zz0 zz1 zz2 zz3 zz4 zz5 zz6 zz7 zz8 zz9 zz10 zz11 x0 x1 x2 x3 x4 x5 y0 y1 y2 y3 y4 y5 hB7 Ha7 Hx7 HL7 HX7 HY7 HG7
        -- the marks are laid into the arguments
        obtain ⟨⟨x0, x1⟩, ⟨x2, x3⟩⟩ := HX8.out.box
        go_wp2_with fail
        refine (markPool_own _ _ _ _ p 1 _ HX8.out.own (by omega) (by rw [Hqe.out]; omega)).mono ?_
        rintro e w9a ⟨rfl, ho9, ht9⟩
        rw [Hqe.out]
        have Ha9a := hide (Ha8.out.turned ht9 (by omega))
        have Hx9a := hide (Hx8.out.turned ht9 (by omega))
        have HL9a := hide (HL8.out.turned ht9 (by omega) (by omega))
        have HY9a := hide (HY8.out.turned ht9 (by omega) (by omega))
        have HG9a := hide (HG8.out.turned ht9 (by omega) (by omega))
        have hB9a : Below w.heap.size w w9a := hB8.trans (ht9.below (by omega) (by omega))
        have hz9a := ht9.size
        clear ho9 ht9 x0 x1 x2 x3 hB8 Ha8 Hx8 HL8 HX8 HY8 HG8
        obtain ⟨⟨y0, y1⟩, ⟨y2, y3⟩, ⟨y4, y5⟩⟩ := HY9a.out.box
        have hpl := HY9a.out.place
        go_wp2_with fail
        refine (markSlot_any _ _ _ tb s qe _ rfl HY9a.out.kids rfl hqe2 (by omega)).mono ?_
        rintro e w9 ⟨rfl, hp9, ht9⟩
        have Ha9 := hide (Ha9a.out.turned ht9 (fun hx => by have := hpl hx.1; omega))
        have Hx9 := hide (Hx9a.out.turned ht9 (fun hx => by have := hpl hx.1; omega))
        have HL9 := hide (HL9a.out.turned ht9 (fun hx => by have := hpl hx.1; omega) (fun k hx => by have := hpl hx.1; omega))
        have HG9 := hide (HG9a.out.turned ht9 (fun hx => by have := hpl hx.1; omega) (fun k hx => by have := hpl hx.1; omega))
        have hB9 : Below w.heap.size w w9 := hB9a.trans (ht9.below (by omega) (fun k hx => by have := hpl hx.1; omega))
        have hz9 := ht9.size
        clear hp9 ht9 hpl y0 y1 y2 y3 y4 y5 hB9a Ha9a Hx9a HL9a HY9a HG9a
        -- the answer stays
        obtain ⟨⟨x0, x1⟩, ⟨x2, x3⟩, ⟨x4, x5⟩, ⟨x6, x7⟩, ⟨x8, x9⟩⟩ := HG9.out.box
        obtain ⟨⟨y0, y1⟩, ⟨y2, y3⟩, ⟨y4, y5⟩, ⟨y6, y7⟩, ⟨y8, y9⟩⟩ := HL9.out.box
        go_wp2_with fail
        refine (eqPoolOut_same _ _ _ _ _ _ _ _ o _ HG9.out.own.at HL9.out.own.at).mono ?_
        rintro e w10 ⟨rfl, hb10⟩
        have Ha10 := hide (Ha9.out.below hb10)
        have Hx10 := hide (Hx9.out.below hb10)
        have HL10 := hide (HL9.out.below hb10)
        have HG10 := hide (HG9.out.below hb10)
        have hB10 := below_next hB9 hb10
        have hz10 := hb10.size
        clear hb10 hB9 Ha9 Hx9 HL9 HG9 x0 x1 x2 x3 x4 x5 x6 x7 x8 x9 y0 y1 y2 y3 y4 y5 y6 y7 y8 y9
        -- marks are laid into the answer
        obtain ⟨⟨x0, x1⟩, ⟨x2, x3⟩, ⟨x4, x5⟩, ⟨x6, x7⟩, ⟨x8, x9⟩⟩ := HG10.out.box
        go_wp2_with fail
        refine (markPoolOut_own _ _ _ _ _ _ _ o.pool 1 _ HG10.out.own (by omega) rfl (by omega) (by rw [Hge.out]; omega)).mono ?_
        rintro e w11 ⟨rfl, ho11, ht11⟩
        rw [Hge.out]
        have Ha11 := hide (Ha10.out.turned ht11 (by omega))
        have Hx11 := hide (Hx10.out.turned ht11 (by omega))
        have HL11 := hide (HL10.out.turned ht11 (by omega) (by omega))
        have HGb11 := hide (HG10.out.box.turned ht11 (by omega))
        have HGo11 := hide ho11
        have hB11 : Below w.heap.size w w11 := hB10.trans (ht11.below (by omega) (by omega))
        have hz11 := ht11.size
        clear ho11 ht11 x0 x1 x2 x3 x4 x5 x6 x7 x8 x9 hB10 Ha10 Hx10 HL10 HG10
        -- and looked for
        obtain ⟨⟨x0, x1⟩, ⟨x2, x3⟩, ⟨x4, x5⟩, ⟨x6, x7⟩, ⟨x8, x9⟩⟩ := HGb11.out
        go_wp2_with fail
        refine (heldPoolOut_own _ _ _ _ _ _ _ o.pool 1 _ HGo11.out.at (by omega) (by rw [Hge.out]; omega) (by rw [Hge.out]; omega)).mono ?_
        rintro e w12 ⟨rfl, hb12⟩
        rw [Hge.out]
        have Ha12 := hide (Ha11.out.below hb12)
        have Hx12 := hide (Hx11.out.below hb12)
        have HL12 := hide (HL11.out.below hb12)
        have HGb12 := hide (HGb11.out.below hb12)
        have HGo12 := hide (HGo11.out.below hb12)
        have hB12 := below_next hB11 hb12
        have hz12 := hb12.size
        clear hb12 hB11 Ha11 Hx11 HL11 HGb11 HGo11 x0 x1 x2 x3 x4 x5 x6 x7 x8 x9
        -- a second answer
        obtain ⟨⟨x0, x1⟩, ⟨x2, x3⟩⟩ := Ha12.out
        obtain ⟨⟨y0, y1⟩, ⟨y2, y3⟩, ⟨y4, y5⟩⟩ := Hx12.out
        have n0 : w12.heap.size ≠ w.heap.size := by omega
        have n1 : w12.heap.size ≠ w.heap.size + 1 := by omega
        go_wp2_with fail
        go_cut [13] (fun t wx => NewOutVar o w12 t wx)
        case first =>
          go_region_held3 (fun w' => w'.cell? ⟨w.heap.size, 0, none⟩ = some (.slice a p.n c) ∧ w'.cell? ⟨w.heap.size, 1, none⟩ = some (.slice a' p.hn c') ∧ w'.cell? ⟨w.heap.size + 1, 0, none⟩ = some (.int .i64 s.birth) ∧ w'.cell? ⟨w.heap.size + 1, 1, none⟩ = some (.slice ka s.kn kc) ∧ w'.cell? ⟨w.heap.size + 1, 2, none⟩ = some (.string s.data)) (go_keep)
            (first
          | (go_at_call 10; refine (toPool_any _ _ 0 w.heap.size p _ ?_ HN.out).mono ?_; (first | exact Hp.out.below hB12.drew | exact Hp.out.below (below_next hB12 hCq) | exact Hp.out.below (below_next hB12 (below_undrew (below_alloc _ _))) | exact Hp.out.below (below_next hB12 (below_next hCq (below_alloc _ _)))); rintro e wp ⟨v2, v3, rfl, hop, hbp⟩; obtain ⟨i0, j0, i1, j1, rfl, rfl⟩ := hop.form; have hCp : Below w12.heap.size w12 wp := (by first | exact below_undrew hbp | exact below_next hCq hbp | exact below_next (below_undrew (below_alloc _ _)) hbp | exact below_next (below_next hCq (below_alloc _ _)) hbp); (first | (have hLp : Box5 wp w12.heap.size (.slice none 0 0) (.slice none 0 0) (.int .i64 0) (.int .i64 0) (.int .i64 0) := (Box5.new w12 _ _ _ _ _ _).below hbp) | (have hLp := (Box5.new _ _ _ _ _ _ _).below hbp) | (have hLp : Box5 wp w12.heap.size (.slice none 0 0) (.slice none 0 0) (.int .i64 0) (.int .i64 0) (.int .i64 0) := (Box5.new w12 _ _ _ _ _ _).below (below_undrew hbp)) | (have hLp := hLq.below hbp) | skip); have np0 : wp.heap.size ≠ w.heap.size := (by have := hCp.size; omega); have np1 : wp.heap.size ≠ w.heap.size + 1 := (by have := hCp.size; omega); have zp0 := (Ha12.out.below hCp).1.1; have zp1 := (Ha12.out.below hCp).2.1; have zp2 := (Hx12.out.below hCp).1.1; have zp3 := (Hx12.out.below hCp).2.1.1; have zp4 := (Hx12.out.below hCp).2.2.1)
          | (go_at_call 11; refine (toSlot_any _ _ _ 0 w.heap.size s _ ?_ hkn).mono ?_; (first | exact Hs.out.below hB12.drew | exact Hs.out.below (below_next hB12 hCp) | exact Hs.out.below (below_next hB12 (below_undrew (below_alloc _ _))) | exact Hs.out.below (below_next hB12 (below_next hCp (below_alloc _ _)))); rintro e wq ⟨⟨tv, tb, rfl, htp, htb1, htb2⟩, hbq⟩; obtain ⟨_, ta, tc, rfl, _⟩ := id htp; have hsl : SlotAt wq 0 wq.heap.size (.int .i64 s.birth) (.slice ta s.kn tc) (.string s.data) s := ⟨rfl, htp.at (fun _ => ⟨Nat.zero_le _, htb2⟩), rfl, Hs.out.2.2.2⟩; have hCq : Below w12.heap.size w12 wq := (by first | exact below_undrew hbq | exact below_next hCp hbq | exact below_next (below_undrew (below_alloc _ _)) hbq | exact below_next (below_next hCp (below_alloc _ _)) hbq); (first | (have hLq : Box5 wq w12.heap.size (.slice none 0 0) (.slice none 0 0) (.int .i64 0) (.int .i64 0) (.int .i64 0) := (Box5.new w12 _ _ _ _ _ _).below hbq) | (have hLq := (Box5.new _ _ _ _ _ _ _).below hbq) | (have hLq : Box5 wq w12.heap.size (.slice none 0 0) (.slice none 0 0) (.int .i64 0) (.int .i64 0) (.int .i64 0) := (Box5.new w12 _ _ _ _ _ _).below (below_undrew hbq)) | (have hLq := hLp.below hbq) | skip); have nq0 : wq.heap.size ≠ w.heap.size := (by have := hCq.size; omega); have nq1 : wq.heap.size ≠ w.heap.size + 1 := (by have := hCq.size; omega); have zq0 := (Ha12.out.below hCq).1.1; have zq1 := (Ha12.out.below hCq).2.1; have zq2 := (Hx12.out.below hCq).1.1; have zq3 := (Hx12.out.below hCq).2.1.1; have zq4 := (Hx12.out.below hCq).2.2.1)
          | (go_at_call 12; refine (IM.out _ _ _ 0 wp.heap.size 0 wq.heap.size _ ?_ ?_).mono ?_; (first | exact hop.at0 | exact hop.at0.below hbq | exact hop.at0.below (below_alloc _ _) | exact (hop.at0.below hbq).below (below_alloc _ _) | exact (hop.at0.below (below_alloc _ _)).below hbq); (first | exact hsl | exact hsl.below (below_alloc _ _)); rintro e w2 ⟨s0, s1, rfl, ho2, hb2⟩; obtain ⟨oa, oc, ob, od, rfl, rfl⟩ := ho2.form; have hC2 : Below w12.heap.size w12 w2 := (by first | exact below_next hCp hb2 | exact below_next hCq hb2 | exact below_next (below_next hCp (below_alloc _ _)) hb2 | exact below_next (below_next hCq (below_alloc _ _)) hb2); (first | (have hL2 := (Box5.new _ _ _ _ _ _ _).below hb2; have l0 := hL2.1.1; have l1 := hL2.1.2; have l2 := hL2.2.1.1; have l3 := hL2.2.1.2; have l4 := hL2.2.2.1.1; have l5 := hL2.2.2.1.2; have l6 := hL2.2.2.2.1.1; have l7 := hL2.2.2.2.1.2; have l8 := hL2.2.2.2.2.1; have l9 := hL2.2.2.2.2.2) | (have hL2 := hLp.below hb2; have l0 := hL2.1.1; have l1 := hL2.1.2; have l2 := hL2.2.1.1; have l3 := hL2.2.1.2; have l4 := hL2.2.2.1.1; have l5 := hL2.2.2.1.2; have l6 := hL2.2.2.2.1.1; have l7 := hL2.2.2.2.1.2; have l8 := hL2.2.2.2.2.1; have l9 := hL2.2.2.2.2.2) | (have hL2 := hLq.below hb2; have l0 := hL2.1.1; have l1 := hL2.1.2; have l2 := hL2.2.1.1; have l3 := hL2.2.1.2; have l4 := hL2.2.2.1.1; have l5 := hL2.2.2.1.2; have l6 := hL2.2.2.2.1.1; have l7 := hL2.2.2.2.1.2; have l8 := hL2.2.2.2.2.1; have l9 := hL2.2.2.2.2.2) | skip); have zr0 := (Ha12.out.below hC2).1.1; have zr1 := (Ha12.out.below hC2).2.1; have zr2 := (Hx12.out.below hC2).1.1; have zr3 := (Hx12.out.below hC2).2.1.1; have zr4 := (Hx12.out.below hC2).2.2.1))
          all_goals (go_wp2_with fail; go_meet)
          all_goals (case rel => first | exact newOut_late hC2 (by first | exact hCq.size | exact hCp.size) ho2 | exact newOut_early hC2 hL2 (by first | exact Nat.le_refl _ | exact hCp.size | exact hCq.size) (by first | (rw [World.size_alloc]; exact Nat.lt_succ_self _) | exact hLq.1.lt | exact hLp.1.lt) ho2)
        case rest =>
          clear x0 x1 x2 x3 y0 y1 y2 y3 y4 y5 n0 n1
          obtain ⟨E, a9, c9, a10, c10, loE, hiE, rfl, hE, hE1, hE2, hE3, hE4, hE5, hBc⟩ := hcut
          have HED := hide hE
          have HLD := hide (HL12.out.below hBc)
          have HGbD := hide (HGb12.out.below hBc)
          have HGoD := hide (HGo12.out.below hBc)
          have hBD := below_next hB12 hBc
          clear hBc hE hB12 Ha12 Hx12 HL12 HGb12 HGo12
          obtain ⟨⟨x0, x1⟩, ⟨x2, x3⟩, ⟨x4, x5⟩, ⟨x6, x7⟩, ⟨x8, x9⟩⟩ := HED.out.box
          obtain ⟨⟨y0, y1⟩, ⟨y2, y3⟩, ⟨y4, y5⟩, ⟨y6, y7⟩, ⟨y8, y9⟩⟩ := HLD.out.box
          go_wp2_with fail
          refine (eqPoolOut_same _ _ _ _ _ _ _ _ o _ HED.out.own.at HLD.out.own.at).mono ?_
          rintro e w15 ⟨rfl, hb15⟩
          have HGb15 := hide (HGbD.out.below hb15)
          have HGo15 := hide (HGoD.out.below hb15)
          have hB15 := below_next hBD hb15
          clear hb15 hBD HLD HED HGbD HGoD x0 x1 x2 x3 x4 x5 x6 x7 x8 x9 y0 y1 y2 y3 y4 y5 y6 y7 y8 y9
          -- the marks are there still
          obtain ⟨⟨x0, x1⟩, ⟨x2, x3⟩, ⟨x4, x5⟩, ⟨x6, x7⟩, ⟨x8, x9⟩⟩ := HGb15.out
          go_wp2_with fail
          refine (heldPoolOut_own _ _ _ _ _ _ _ o.pool 1 _ HGo15.out.at (by omega) (by rw [Hge.out]; omega) (by rw [Hge.out]; omega)).mono ?_
          rintro e w16 ⟨rfl, hb16⟩
          rw [Hge.out]
          have hB16 := below_next hB15 hb16
          go_wp2
          go_ret
          exact ⟨rfl, hB16⟩

theorem own : ownKnob Try.prog.godebug = none := by kernel_rfl
theorem laidOut : laidOutB Try.prog = true := by kernel_rfl

theorem open_slot {H : Type} {enc : TypeId × Value → H} {W : World} {spare : Nat → Bool} {held : Bool} {r : Reach} {b0 : Nat} {v : Value} {d : DataW H} {ps : List MemPlace} (hv : Value.okWide Try.prog W r b0 28 v) (h : DataW.Trod enc Try.prog W 0 spare held 28 v d ps) :
    ∃ c0 c1 c2 s, v = .agg #[c0, c1, c2] ∧ SlotAt W 0 W.heap.size c0 c1 c2 s := by
  have hs : Try.prog.underlying 28 = some (.struct (Try.prog.fieldsOf 28)) := by kernel_rfl
  obtain ⟨cs, rfl, hsz⟩ := okWide_struct hs hv
  have hsz3 : cs.size = 3 := hsz.trans (by kernel_rfl)
  obtain ⟨c0, c1, c2, rfl⟩ : ∃ c0 c1 c2, cs = #[c0, c1, c2] := by
    obtain ⟨l⟩ := cs
    match l, hsz3 with
    | [c0, c1, c2], _ => exact ⟨c0, c1, c2, rfl⟩
  obtain ⟨fuel, hf⟩ := h
  have hf' : DataW.trod enc Try.prog W 0 spare held fuel 28 [c0, c1, c2] = some (d, ps) := by simpa [Value.cells] using hf
  obtain ⟨s, hs⟩ := open_slot_cells hf'
  exact ⟨c0, c1, c2, s, rfl, hs⟩

set_option maxRecDepth 100000 in
theorem poolTake_lifted (os : Os) (started : os.Started) (H : Type) (enc : TypeId × Value → H) :
    ReturnsInHanded {} Try.checked os 3 .any (Rows.fnExactPoolTakeSpec.pre6 enc Try.prog Try.f3 Rows.fnExactPoolTakeRow.domain false) (Rows.fnExactPoolTakeSpec.post enc Try.prog Try.f3 false true false false) := by
  refine returnsInHanded_of_change (C := Try.checked) own started (by kernel_rfl) Try.func3
    (ChangeSpec.witness6 (enc := enc) (C := Try.checked) false ⟨#[], #[.agg #[.slice none 0 0, .slice none 0 0], .agg #[.int .i64 0, .slice none 0 0, .string ⟨#[]⟩]], []⟩ 8 (by kernel_rfl) (by kernel_rfl) (by kernel_rfl) (by kernel_rfl)) ?_
  intro W base args ds gs before hval0 hW hcnd _
  have hval : ∀ (j : Nat) t v, Try.f3.params[j]? = some t → args[j]? = some v → Value.okWide Try.prog W .any base t v := hval0
  have hW' := hW
  obtain ⟨p, q, hA0, hV, rfl, hfz, hnd⟩ := hW
  have hA : DataW.TrodAll enc Try.prog W 0 (fun _ => true) true Try.f3.params.toList args.toList ds p := hA0
  rw [Try.params3] at hA hval
  obtain ⟨v0, vs0, d0, ds0, p0, q0, hargs, rfl, rfl, h0, r0⟩ := trodAll_cons hA
  obtain ⟨v1, vs1, d1, ds1, p1, q1, hargs1, rfl, rfl, h1, r1⟩ := trodAll_cons r0
  obtain ⟨rfl, rfl, rfl⟩ := trodAll_nil r1
  obtain rfl : args = #[v0, v1] := by cases args; simp_all
  obtain ⟨rfl, rfl⟩ := trodVars_none hV
  have k0 := h0
  have k1 := h1
  have lt0 : ∀ x ∈ p0, x.block < W.heap.size := by obtain ⟨m, hm⟩ := k0; exact DataW.trod_lt m _ _ _ hm
  have lt1 : ∀ x ∈ p1, x.block < W.heap.size := by obtain ⟨m, hm⟩ := k1; exact DataW.trod_lt m _ _ _ hm
  obtain ⟨s0, s1, pd, rfl, hpool⟩ := open_pool (hval 0 25 v0 rfl rfl) h0
  obtain ⟨t0, t1, t2, sd, rfl, hslot⟩ := open_slot (hval 1 28 v1 rfl rfl) h1
  clear hA0 hval0
  refine (poolTake_walk s0 s1 t0 t1 t2 pd sd W hpool hslot).mono fun e W' ⟨he, bel⟩ => ?_
  subst he
  exact ⟨_, rfl, _, _, _, [], _, [], hW', trodAll_mk1 (shut_bool Try.underlying4 _), (trodAll_cons_mk (Below.trod laidOut (by kernel_rfl) (of_decide_eq_true (by kernel_rfl)) k0 bel lt0) (trodAll_cons_mk (Below.trod laidOut (by kernel_rfl) (of_decide_eq_true (by kernel_rfl)) k1 bel lt1) trodAll_mk0)), rfl, bel.frame _, fun h => by cases h⟩

theorem fnExactPoolTake_holds : Rows.FnExactPoolTakeSaid :=
  OpenClaim.holds_of_wide 3 Try.f3 rfl rfl rfl rfl rfl rfl rfl ⟨rfl, rfl, rfl, rfl, rfl⟩ rfl rfl rfl rfl rfl (by kernel_rfl) Try.func3 (by kernel_rfl)
    (of_decide_eq_true (by kernel_rfl)) (by unfold Func.isWrapper; first | (rw [if_pos (by decide +kernel)]; kernel_rfl) | (rw [if_neg (by decide +kernel)]; exact ⟨rfl, rfl⟩))
    (fun os started H enc _ => poolTake_lifted os started H enc)

end Go.Proofs.Yteffacfdbhdppad
