/- For every list of pointers that comes in the law FnExactPtrsRight returns true: impl.PtrsRight answers as spec.PtrsRight, and writes nothing of its argument. No condition. -/
import Derived.Test.YtckamdnichangaeDeadB
import Derived.Test.YtckamdnichangaeEq
import Derived.Test.YtckamdnichangaeTo
import Derived.Test.YtckamdnichangaeOpen
import Derived.OpenShut
import Derived.ChangeOld
namespace Go.Proofs.Ytckamdnichangae
open Go.ChangeShapes Go.WideShapes Go.ChangeAt Go.RowKit
set_option linter.unusedVariables false

set_option maxRecDepth 20000 in
set_option maxHeartbeats 1000000 in
theorem fnExactPtrsRight_walk (v : Value) (n : Nat) (f g : Nat → Int) (w : World) (h : PtrsAt w 0 w.heap.size v n f g) : Calls Try.prog 6 #[v] w fun e w' => e = .returned (.bool true) ∧ Below w.heap.size w w' := by
  have Hp := hideD h
  obtain ⟨_, a, c, rfl, _, _⟩ := id h
  clear h
  go_enter Try.func6, Try.ntmps6
  go_wp2_with fail
  refine (szPtrS_any _ n 0 w.heap.size f g _ _ Hp.out (by omega) (by omega)).mono ?_
  rintro e w1 ⟨⟨r, rfl, hr1, hr2, hr3⟩, hb1⟩
  by_cases hr : r < 0
  · go_wp2
    go_ret
    exact ⟨rfl, hb1⟩
  · have hn : n ≤ 1048576 := by have := hr1 (by omega); omega
    clear hr1 hr2 hr3
    go_wp2_with fail
    refine (toPtrS_any _ n 0 w.heap.size f g _ (Hp.out.below hb1) hn).mono ?_
    rintro e w2 ⟨⟨v2, rfl, ho2⟩, hb2, hz2⟩
    have hB2 := below_next hb1 hb2
    have Ha2 := hideD (ho2.at (lo := 0) (hi := w2.heap.size) (fun _ => ⟨Nat.zero_le _, hz2⟩))
    obtain ⟨a2, c2, rfl⟩ : ∃ a c, v2 = .slice a n c := by obtain ⟨_, a, c, e, _⟩ := ho2; exact ⟨a, c, e⟩
    clear ho2 hb2 hb1 hz2
    go_wp2_with fail
    refine (specPtrsRight_any _ n 0 _ f g _ Ha2.out).mono ?_
    rintro e w3 ⟨⟨t, rfl, ht⟩, hb3⟩
    have hB3 := below_next hB2 hb3
    have Ht := hideD ht
    clear ht hb3 hB2 Ha2
    go_wp2_with fail
    refine (toPtrS_any _ n 0 w.heap.size f g _ (Hp.out.below hB3) hn).mono ?_
    rintro e w4 ⟨⟨v4, rfl, ho4⟩, hb4, hz4⟩
    have hB4 := below_next hB3 hb4
    have Ha4 := hideD (ho4.at (lo := 0) (hi := w4.heap.size) (fun _ => ⟨Nat.zero_le _, hz4⟩))
    obtain ⟨a4, c4, rfl⟩ : ∃ a c, v4 = .slice a n c := by obtain ⟨_, a, c, e, _⟩ := ho4; exact ⟨a, c, e⟩
    clear ho4 hb4 hB3 hz4
    go_wp2_with fail
    refine (implPtrsRight_any _ n 0 _ f g _ Ha4.out).mono ?_
    rintro e w5 ⟨⟨t', rfl, ht'⟩, hb5⟩
    obtain rfl := BoolIs.same Ht.out ht'
    have hB5 := below_next hB4 hb5
    have Ha5 := hideD (Ha4.out.below hb5)
    have hne : (t' != t') = false := by simp
    clear ht' hb5 hB4 Ha4 Ht
    go_wp2_with fail
    refine (toPtrS_any _ n 0 w.heap.size f g _ (Hp.out.below hB5) hn).mono ?_
    rintro e w6 ⟨⟨v6, rfl, ho6⟩, hb6, hz6⟩
    have hB6 := below_next hB5 hb6
    have Ha6 := hideD (ho6.at (lo := 0) (hi := w6.heap.size) (fun _ => ⟨Nat.zero_le _, hz6⟩))
    have Hx6 := hideD (Ha5.out.below hb6)
    obtain ⟨a6, c6, rfl⟩ : ∃ a c, v6 = .slice a n c := by obtain ⟨_, a, c, e, _⟩ := ho6; exact ⟨a, c, e⟩
    clear ho6 hb6 hB5 Ha5 hz6
    go_wp2_with fail
    refine (eqPtrS_any _ _ n n 0 _ 0 _ f g f g _ Hx6.out Ha6.out).mono ?_
    rintro e w7 ⟨⟨t7, rfl, ht7⟩, hb7⟩
    obtain rfl : t7 = true := ht7.2 ⟨rfl, fun _ _ => ⟨rfl, rfl⟩⟩
    have hB7 := below_next hB6 hb7
    clear ht7 hb7
    go_wp2
    go_ret
    exact ⟨rfl, hB7⟩

theorem own : ownKnob Try.prog.godebug = none := by kernel_rfl
theorem laidOut : laidOutB Try.prog = true := by kernel_rfl

set_option maxRecDepth 100000 in
theorem fnExactPtrsRight_lifted (os : Os) (started : os.Started) (H : Type) (enc : TypeId × Value → H) :
    ReturnsInHanded {} Try.checked os 6 .any (Rows.fnExactPtrsRightSpec.pre6 enc Try.prog Try.f6 Rows.fnExactPtrsRightRow.domain false) (Rows.fnExactPtrsRightSpec.post enc Try.prog Try.f6 false true false false) := by
  refine returnsInHanded_of_change (C := Try.checked) own started (by kernel_rfl) Try.func6
    (ChangeSpec.witness6 (enc := enc) (C := Try.checked) false ⟨#[], #[.slice none 0 0], []⟩ 8 (by kernel_rfl) (by kernel_rfl) (by kernel_rfl) (by kernel_rfl)) ?_
  intro W base args ds gs before hval0 hW hcnd _
  have hval : ∀ (j : Nat) t v, Try.f6.params[j]? = some t → args[j]? = some v → Value.okWide Try.prog W .any base t v := hval0
  have hW' := hW
  obtain ⟨p, q, hA0, hV, rfl, hfz, hnd⟩ := hW
  have hA : DataW.TrodAll enc Try.prog W 0 (fun _ => true) true Try.f6.params.toList args.toList ds p := hA0
  rw [Try.params6] at hA hval
  obtain ⟨v0, vs0, d0, ds0, p0, q0, hargs0, rfl, rfl, h0, r0⟩ := trodAll_cons hA
  obtain ⟨rfl, rfl, rfl⟩ := trodAll_nil r0
  obtain rfl : args = #[v0] := by cases args; simp_all
  obtain ⟨rfl, rfl⟩ := trodVars_none hV
  have k0 := h0
  have lt0 : ∀ x ∈ p0, x.block < W.heap.size := by obtain ⟨m, hm⟩ := k0; exact DataW.trod_lt m _ _ _ hm
  have sc0 : v0.cells = #[v0] := by obtain ⟨_, _, _, rfl⟩ := okWide_slice (e := 27) (by kernel_rfl) (hval 0 50 v0 rfl rfl); rfl
  obtain ⟨n0, f0, g0, hp0⟩ : ∃ n f g, PtrsAt W 0 W.heap.size v0 n f g := by obtain ⟨fuel, hf⟩ := h0; exact open_ptrs_at (by simpa [sc0] using hf)
  clear hA0 hval0
  refine (fnExactPtrsRight_walk v0 n0 f0 g0 W hp0).mono fun e W' ⟨he, bel⟩ => ?_
  subst he
  exact ⟨_, rfl, _, _, _, [], _, [], hW', trodAll_mk1 (shut_bool Try.underlying4 _), (trodAll_cons_mk (Below.trod laidOut (by kernel_rfl) (of_decide_eq_true (by kernel_rfl)) k0 bel lt0) trodAll_mk0), rfl, bel.frame _, fun h => by cases h⟩

theorem fnExactPtrsRight_holds : Rows.FnExactPtrsRightSaid :=
  OpenClaim.holds_of_wide 6 Try.f6 rfl rfl rfl rfl rfl rfl rfl ⟨rfl, rfl, rfl, rfl, rfl⟩ rfl rfl rfl rfl rfl (by kernel_rfl) Try.func6 (by kernel_rfl)
    (of_decide_eq_true (by kernel_rfl)) (by unfold Func.isWrapper; first | (rw [if_pos (by decide +kernel)]; kernel_rfl) | (rw [if_neg (by decide +kernel)]; exact ⟨rfl, rfl⟩))
    (fun os started H enc _ => fnExactPtrsRight_lifted os started H enc)

end Go.Proofs.Ytckamdnichangae
