/- For every two lists of pointers that come in the law FnExactPtrsSame returns true: impl.PtrsSame answers as spec.PtrsSame, and writes nothing of its arguments. No condition. -/
import Derived.Test.YtckamdnichangaeDeadB
import Derived.Test.YtckamdnichangaeDeadC
import Derived.Test.YtckamdnichangaeEq
import Derived.Test.YtckamdnichangaeTo
import Derived.Test.YtckamdnichangaeOpen
import Derived.OpenShut
import Derived.ChangeOld
namespace Go.Proofs.Ytckamdnichangae
open Go.ChangeShapes Go.WideShapes Go.ChangeAt Go.RowKit
set_option linter.unusedVariables false

theorem toPtrS_at (v : Value) (n : Nat) (f g : Nat → Int) (w0 w : World) (h : PtrsAt w0 0 w0.heap.size v n f g) (hb : Below w0.heap.size w0 w) (hn : n ≤ 1048576) :
    Calls Try.prog 28 #[v] w fun e w' => ∃ a c, e = .returned (.slice a n c) ∧ PtrsAt w' 0 w'.heap.size (.slice a n c) n f g ∧ Below w.heap.size w w' := by
  refine (toPtrS_any _ n 0 w0.heap.size f g _ (h.below hb) hn).mono ?_
  rintro e w2 ⟨⟨v2, rfl, ho2⟩, hb2, hz2⟩
  have Ha2 := ho2.at (lo := 0) (hi := w2.heap.size) (fun _ => ⟨Nat.zero_le _, hz2⟩)
  obtain ⟨a2, c2, rfl⟩ : ∃ a c, v2 = .slice a n c := by obtain ⟨_, a, c, e, _⟩ := ho2; exact ⟨a, c, e⟩
  exact ⟨a2, c2, rfl, Ha2, hb2⟩

set_option maxRecDepth 20000 in
set_option maxHeartbeats 1000000 in
theorem fnExactPtrsSame_walk (v : Value) (n : Nat) (f g : Nat → Int) (v' : Value) (n' : Nat) (f' g' : Nat → Int) (w : World) (h : PtrsAt w 0 w.heap.size v n f g) (h' : PtrsAt w 0 w.heap.size v' n' f' g') : Calls Try.prog 8 #[v, v'] w fun e w' => e = .returned (.bool true) ∧ Below w.heap.size w w' := by
  have Hp := hideD h
  have Hp' := hideD h'
  obtain ⟨_, a, c, rfl, _, _⟩ := id h
  obtain ⟨_, a', c', rfl, _, _⟩ := id h'
  clear h h'
  go_enter Try.func8, Try.ntmps8
  go_wp2_with fail
  refine (szPtrS_any _ n 0 w.heap.size f g _ _ Hp.out (by omega) (by omega)).mono ?_
  rintro e w1 ⟨⟨r, rfl, hr1, hr2, hr3⟩, hb1⟩
  by_cases hr : r < 0
  · go_wp2
    go_ret
    exact ⟨rfl, hb1⟩
  · have hn : n ≤ 1048576 := by have := hr1 (by omega); omega
    clear hr1
    go_wp2_with fail
    refine (szPtrS_any _ n' 0 w.heap.size f' g' _ _ (Hp'.out.below hb1) (by omega) (by omega)).mono ?_
    rintro e w1' ⟨⟨r', rfl, hr1', hr2', hr3'⟩, hb1'⟩
    have hB1 := below_next hb1 hb1'
    clear hb1 hb1'
    by_cases hr' : r' < 0
    · go_wp2
      go_ret
      exact ⟨rfl, hB1⟩
    · have hn' : n' ≤ 1048576 := by have := hr1' (by omega); omega
      clear hr1' hr2 hr3 hr2' hr3'
      go_wp2_with fail
      refine (toPtrS_at _ n f g w _ Hp.out hB1 hn).mono ?_
      rintro e w2 ⟨a2, c2, rfl, ha2, hb2⟩
      have hB2 := below_next hB1 hb2
      have Ha2 := hideD ha2
      clear ha2 hb2 hB1
      go_wp2_with fail
      refine (toPtrS_at _ n' f' g' w _ Hp'.out hB2 hn').mono ?_
      rintro e w3 ⟨a3, c3, rfl, ha3, hb3⟩
      have hB3 := below_next hB2 hb3
      have Ha3 := hideD ha3
      have Ha2' := hideD (Ha2.out.below hb3)
      clear ha3 hb3 hB2 Ha2
      go_wp2_with fail
      refine (specPtrsSame_any _ _ n 0 _ n' 0 _ f g f' g' _ Ha2'.out Ha3.out).mono ?_
      rintro e w4 ⟨⟨t, rfl, ht⟩, hb4⟩
      have hB4 := below_next hB3 hb4
      have Ht := hideD ht
      clear ht hb4 hB3 Ha2' Ha3
      go_wp2_with fail
      refine (toPtrS_at _ n f g w _ Hp.out hB4 hn).mono ?_
      rintro e w5 ⟨a5, c5, rfl, ha5, hb5⟩
      have hB5 := below_next hB4 hb5
      have Ha5 := hideD ha5
      clear ha5 hb5 hB4
      go_wp2_with fail
      refine (toPtrS_at _ n' f' g' w _ Hp'.out hB5 hn').mono ?_
      rintro e w6 ⟨a6, c6, rfl, ha6, hb6⟩
      have hB6 := below_next hB5 hb6
      have Ha6 := hideD ha6
      have Ha5' := hideD (Ha5.out.below hb6)
      clear ha6 hb6 hB5 Ha5
      go_wp2_with fail
      refine (implPtrsSame_any _ _ n 0 _ n' 0 _ f g f' g' _ Ha5'.out Ha6.out).mono ?_
      rintro e w7 ⟨⟨t', rfl, ht'⟩, hb7⟩
      obtain rfl := BoolIs.same Ht.out ht'
      have hB7 := below_next hB6 hb7
      have Hx7 := hideD (Ha5'.out.below hb7)
      have Hy7 := hideD (Ha6.out.below hb7)
      have hne : (t' != t') = false := by simp
      clear ht' hb7 hB6 Ha5' Ha6 Ht
      go_wp2_with fail
      refine (toPtrS_at _ n f g w _ Hp.out hB7 hn).mono ?_
      rintro e w8 ⟨a8, c8, rfl, ha8, hb8⟩
      have hB8 := below_next hB7 hb8
      have Ha8 := hideD ha8
      have Hx8 := hideD (Hx7.out.below hb8)
      have Hy8 := hideD (Hy7.out.below hb8)
      clear ha8 hb8 hB7 Hx7 Hy7
      go_wp2_with fail
      refine (eqPtrS_any _ _ n n 0 _ 0 _ f g f g _ Hx8.out Ha8.out).mono ?_
      rintro e w9 ⟨⟨t9, rfl, ht9⟩, hb9⟩
      obtain rfl : t9 = true := ht9.2 ⟨rfl, fun _ _ => ⟨rfl, rfl⟩⟩
      have hB9 := below_next hB8 hb9
      have Hy9 := hideD (Hy8.out.below hb9)
      clear ht9 hb9 hB8 Hx8 Hy8 Ha8
      go_wp2_with fail
      refine (toPtrS_at _ n' f' g' w _ Hp'.out hB9 hn').mono ?_
      rintro e w10 ⟨a10, c10, rfl, ha10, hb10⟩
      have hB10 := below_next hB9 hb10
      have Ha10 := hideD ha10
      have Hy10 := hideD (Hy9.out.below hb10)
      clear ha10 hb10 hB9 Hy9
      go_wp2_with fail
      refine (eqPtrS_any _ _ n' n' 0 _ 0 _ f' g' f' g' _ Hy10.out Ha10.out).mono ?_
      rintro e w11 ⟨⟨t11, rfl, ht11⟩, hb11⟩
      obtain rfl : t11 = true := ht11.2 ⟨rfl, fun _ _ => ⟨rfl, rfl⟩⟩
      have hB11 := below_next hB10 hb11
      clear ht11 hb11
      go_wp2
      go_ret
      exact ⟨rfl, hB11⟩

theorem own : ownKnob Try.prog.godebug = none := by kernel_rfl
theorem laidOut : laidOutB Try.prog = true := by kernel_rfl

set_option maxRecDepth 100000 in
theorem fnExactPtrsSame_lifted (os : Os) (started : os.Started) (H : Type) (enc : TypeId × Value → H) :
    ReturnsInHanded {} Try.checked os 8 .any (Rows.fnExactPtrsSameSpec.pre6 enc Try.prog Try.f8 Rows.fnExactPtrsSameRow.domain false) (Rows.fnExactPtrsSameSpec.post enc Try.prog Try.f8 false true false false) := by
  refine returnsInHanded_of_change (C := Try.checked) own started (by kernel_rfl) Try.func8
    (ChangeSpec.witness6 (enc := enc) (C := Try.checked) false ⟨#[], #[.slice none 0 0, .slice none 0 0], []⟩ 8 (by kernel_rfl) (by kernel_rfl) (by kernel_rfl) (by kernel_rfl)) ?_
  intro W base args ds gs before hval0 hW hcnd _
  have hval : ∀ (j : Nat) t v, Try.f8.params[j]? = some t → args[j]? = some v → Value.okWide Try.prog W .any base t v := hval0
  have hW' := hW
  obtain ⟨p, q, hA0, hV, rfl, hfz, hnd⟩ := hW
  have hA : DataW.TrodAll enc Try.prog W 0 (fun _ => true) true Try.f8.params.toList args.toList ds p := hA0
  rw [Try.params8] at hA hval
  obtain ⟨v0, vs0, d0, ds0, p0, q0, hargs0, rfl, rfl, h0, r0⟩ := trodAll_cons hA
  obtain ⟨v1, vs1, d1, ds1, p1, q1, hargs1, rfl, rfl, h1, r1⟩ := trodAll_cons r0
  obtain ⟨rfl, rfl, rfl⟩ := trodAll_nil r1
  obtain rfl : args = #[v0, v1] := by cases args; simp_all
  obtain ⟨rfl, rfl⟩ := trodVars_none hV
  have k0 := h0
  have k1 := h1
  have lt0 : ∀ x ∈ p0, x.block < W.heap.size := by obtain ⟨m, hm⟩ := k0; exact DataW.trod_lt m _ _ _ hm
  have lt1 : ∀ x ∈ p1, x.block < W.heap.size := by obtain ⟨m, hm⟩ := k1; exact DataW.trod_lt m _ _ _ hm
  have sc0 : v0.cells = #[v0] := by obtain ⟨_, _, _, rfl⟩ := okWide_slice (e := 27) (by kernel_rfl) (hval 0 50 v0 rfl rfl); rfl
  obtain ⟨n0, f0, g0, hp0⟩ : ∃ n f g, PtrsAt W 0 W.heap.size v0 n f g := by obtain ⟨fuel, hf⟩ := h0; exact open_ptrs_at (by simpa [sc0] using hf)
  have sc1 : v1.cells = #[v1] := by obtain ⟨_, _, _, rfl⟩ := okWide_slice (e := 27) (by kernel_rfl) (hval 1 50 v1 rfl rfl); rfl
  obtain ⟨n1, f1, g1, hp1⟩ : ∃ n f g, PtrsAt W 0 W.heap.size v1 n f g := by obtain ⟨fuel, hf⟩ := h1; exact open_ptrs_at (by simpa [sc1] using hf)
  clear hA0 hval0
  refine (fnExactPtrsSame_walk v0 n0 f0 g0 v1 n1 f1 g1 W hp0 hp1).mono fun e W' ⟨he, bel⟩ => ?_
  subst he
  exact ⟨_, rfl, _, _, _, [], _, [], hW', trodAll_mk1 (shut_bool Try.underlying4 _), (trodAll_cons_mk (Below.trod laidOut (by kernel_rfl) (of_decide_eq_true (by kernel_rfl)) k0 bel lt0) (trodAll_cons_mk (Below.trod laidOut (by kernel_rfl) (of_decide_eq_true (by kernel_rfl)) k1 bel lt1) trodAll_mk0)), rfl, bel.frame _, fun h => by cases h⟩

theorem fnExactPtrsSame_holds : Rows.FnExactPtrsSameSaid :=
  OpenClaim.holds_of_wide 8 Try.f8 rfl rfl rfl rfl rfl rfl rfl ⟨rfl, rfl, rfl, rfl, rfl⟩ rfl rfl rfl rfl rfl (by kernel_rfl) Try.func8 (by kernel_rfl)
    (of_decide_eq_true (by kernel_rfl)) (by unfold Func.isWrapper; first | (rw [if_pos (by decide +kernel)]; kernel_rfl) | (rw [if_neg (by decide +kernel)]; exact ⟨rfl, rfl⟩))
    (fun os started H enc _ => fnExactPtrsSame_lifted os started H enc)

end Go.Proofs.Ytckamdnichangae
