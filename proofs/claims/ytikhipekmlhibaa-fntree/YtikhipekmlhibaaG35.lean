/- For every two texts of bytes that come in the law FnTree returns true: a page that is written into a drawn right tree is read from it, all others are as ahead, what is told to be old is just what is in the tree no more, and what was there ahead is there still; likewise of one that is trimmed; impl answers as spec. No condition. -/
import Derived.Test.YtikhipekmlhibaaG34
import Derived.ProofKit
import Derived.OpenShut
import Derived.ChangeOld
import Derived.Deep.Slices
import Derived.Deep.MidRow
import Derived.Lib.SmallJoins
namespace Go.Proofs.Ytikhipekmlhibaa
open Go.RowKit Go.Deep Go.Joins
open Go.ChangeShapes Go.WideShapes Go.ChangeAt
set_option linter.unusedVariables false

theorem own : ownKnob Try.prog.godebug = none := by kernel_rfl
theorem laidOut : laidOutB Try.prog = true := by kernel_rfl

/-- A list of bytes that comes in. -/
theorem open_bytes_at {H : Type} {enc : TypeId × Value → H} {W : World} {spare : Nat → Bool} {held : Bool} {fuel : Nat} {v : Value} {x : DataW H × List MemPlace} (h : DataW.trod enc Try.prog W 0 spare held fuel 22 [v] = some x) :
    ∃ a n c, v = .slice a n c ∧ n ≤ c ∧ n ≤ maxLen ∧ BytesAt W W.heap.size a n := by
  rcases open_slice1 (t := 22) (e := 5) (by kernel_rfl) (by kernel_rfl) h with ⟨hv, _⟩ | ⟨a, len, cap, m, n, V, D, Pl, hv, _, hl, hm, hmm, _, hx⟩
  · exact ⟨none, 0, 0, by simpa using hv, Nat.le_refl _, Nat.zero_le _, fun h => absurd h (Nat.lt_irrefl _)⟩
  · have hlm : len ≤ m := by rw [hmm]; split <;> omega
    refine ⟨some a, len, cap, by simpa using hv, hl, by omega, fun h0 => ?_⟩
    have hc0 := (hx 0 (by omega)).1
    rw [show a.add 0 = a by simp [Addr.add]] at hc0
    obtain ⟨b, off, spot⟩ := a
    have hs : spot = none := by simpa using World.cell?_spot hc0
    subst hs
    refine ⟨b, off, rfl, lt_of_cell hc0, fun i hi => ?_⟩
    obtain ⟨hc, ht⟩ := hx i (by omega)
    rw [Addr.add_mid] at hc
    obtain ⟨z, hz, _, hr⟩ := DataW.trod_int (show Try.prog.underlying 5 = some (.int .u8) by kernel_rfl) ht
    have hz' : V i = .int .u8 z := by simpa using hz
    have hr' : 0 ≤ z ∧ z < 256 := by
      have e1 : IntKind.u8.min = 0 := rfl
      have e2 : IntKind.u8.max = 255 := rfl
      simp [Lit.wf] at hr
      omega
    exact ⟨z, by rw [hc, hz'], hr'.1, hr'.2⟩

theorem open_bytes {H : Type} {enc : TypeId × Value → H} {W : World} {spare : Nat → Bool} {held : Bool} {v : Value} {d : DataW H} {ps : List MemPlace} (hv : v.cells = #[v]) (h : DataW.Trod enc Try.prog W 0 spare held 22 v d ps) :
    ∃ a n c, v = .slice a n c ∧ n ≤ c ∧ n ≤ maxLen ∧ BytesAt W W.heap.size a n := by
  obtain ⟨fuel, hf⟩ := h
  exact open_bytes_at (by simpa [hv] using hf)

set_option maxRecDepth 100000 in
theorem fnTree_lifted (os : Os) (started : os.Started) (H : Type) (enc : TypeId × Value → H) :
    ReturnsInHanded {} Try.checked os 4 .any (Rows.fnTreeSpec.pre6 enc Try.prog Try.f4 Rows.fnTreeRow.domain false) (Rows.fnTreeSpec.post enc Try.prog Try.f4 false true false false) := by
  refine returnsInHanded_of_change (C := Try.checked) own started (by kernel_rfl) Try.func4
    (ChangeSpec.witness6 (enc := enc) (C := Try.checked) false ⟨#[], #[.slice none 0 0, .slice none 0 0], []⟩ 8 (by kernel_rfl) (by kernel_rfl) (by kernel_rfl) (by kernel_rfl)) ?_
  intro W base args ds gs before hval0 hW hcnd _
  have hval : ∀ (j : Nat) t v, Try.f4.params[j]? = some t → args[j]? = some v → Value.okWide Try.prog W .any base t v := hval0
  have hW' := hW
  obtain ⟨p, q, hA0, hV, rfl, hfz, hnd⟩ := hW
  have hA : DataW.TrodAll enc Try.prog W 0 (fun _ => true) true Try.f4.params.toList args.toList ds p := hA0
  rw [Try.params4] at hA hval
  obtain ⟨v0, vs0, d0, ds0, p0, q0, hargs, rfl, rfl, h0, r0⟩ := trodAll_cons hA
  obtain ⟨v1, vs1, d1, ds1, p1, q1, hargs1, rfl, rfl, h1, r1⟩ := trodAll_cons r0
  obtain ⟨rfl, rfl, rfl⟩ := trodAll_nil r1
  obtain rfl : args = #[v0, v1] := by cases args; simp_all
  obtain ⟨rfl, rfl⟩ := trodVars_none hV
  have k0 := h0
  have k1 := h1
  have lt0 : ∀ x ∈ p0, x.block < W.heap.size := by obtain ⟨m, hm⟩ := k0; exact DataW.trod_lt m _ _ _ hm
  have lt1 : ∀ x ∈ p1, x.block < W.heap.size := by obtain ⟨m, hm⟩ := k1; exact DataW.trod_lt m _ _ _ hm
  have o0 := hval 0 22 v0 rfl rfl
  have o1 := hval 1 22 v1 rfl rfl
  have s0 : v0.cells = #[v0] := by obtain ⟨_, _, _, rfl⟩ := okWide_slice (e := 5) (by kernel_rfl) o0; rfl
  have s1 : v1.cells = #[v1] := by obtain ⟨_, _, _, rfl⟩ := okWide_slice (e := 5) (by kernel_rfl) o1; rfl
  obtain ⟨a0, n0, c0, rfl, hc0, hm0, hb0⟩ := open_bytes s0 h0
  obtain ⟨a1, n1, c1, rfl, hc1, hm1, hb1⟩ := open_bytes s1 h1
  clear hA0 hval0
  refine (fnTree_walk a0 a1 n0 c0 n1 c1 W hb0 hb1 hc0 hc1 hm0 hm1).mono fun e W' ⟨he, bel⟩ => ?_
  subst he
  exact ⟨_, rfl, _, _, _, [], _, [], hW', trodAll_mk1 (shut_bool Try.underlying4 _), (trodAll_cons_mk (Below.trod laidOut (by kernel_rfl) (of_decide_eq_true (by kernel_rfl)) k0 bel lt0) (trodAll_cons_mk (Below.trod laidOut (by kernel_rfl) (of_decide_eq_true (by kernel_rfl)) k1 bel lt1) trodAll_mk0)), rfl, bel.frame _, fun h => by cases h⟩

theorem fnTree_holds : Rows.FnTreeSaid :=
  OpenClaim.holds_of_wide 4 Try.f4 rfl rfl rfl rfl rfl rfl rfl ⟨rfl, rfl, rfl, rfl, rfl⟩ rfl rfl rfl rfl rfl (by kernel_rfl) Try.func4 (by kernel_rfl)
    (of_decide_eq_true (by kernel_rfl)) (by unfold Func.isWrapper; first | (rw [if_pos (by decide +kernel)]; kernel_rfl) | (rw [if_neg (by decide +kernel)]; exact ⟨rfl, rfl⟩))
    (fun os started H enc _ => fnTree_lifted os started H enc)

end Go.Proofs.Ytikhipekmlhibaa
