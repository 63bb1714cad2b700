/- For every list of pointers and every time that come in the law FnExactSplit returns true: impl.Split answers as spec.Split, writes nothing of its argument, and its answer is memory of its own. No condition. -/
import Derived.Test.YtckamdnichangaeDeadE
import Derived.Test.YtckamdnichangaeDeadF
import Derived.Test.YtckamdnichangaeTo
import Derived.Test.YtckamdnichangaeOpen
import Derived.OpenShut
import Derived.ChangeOld
namespace Go.Proofs.Ytckamdnichangae
open Go.ChangeShapes Go.WideShapes Go.ChangeAt Go.RowKit
set_option linter.unusedVariables false

/-- An answer laid into a new variable. -/
theorem dead_new {l l' : List (Int × Int)} {w1 w2 : World} {v v' : Value} {t : TypeId} (h : NewTwo l l' w1 w2 v v') (hl : l.length ≤ 200) (hl' : l'.length ≤ 200) :
    ∃ b b', DeadV (w2.alloc (.cells #[v, v'] t)) w2.heap.size w1.heap.size w2.heap.size v v' l.length l'.length (fstL l) (sndL l) (fstL l') (sndL l') b b' ∧ Below w1.heap.size w1 (w2.alloc (.cells #[v, v'] t)) ∧ w1.heap.size ≤ w2.heap.size ∧ w2.heap.size < (w2.alloc (.cells #[v, v'] t)).heap.size := by
  obtain ⟨h1, h2, h3, h4⟩ := h
  obtain ⟨b, b', q⟩ := Two.of h1 h2 (by unfold maxLen; omega) (by unfold maxLen; omega) h3
  have q' := q.below (below_alloc w2 (.cells #[v, v'] t))
  exact ⟨b, b', ⟨Box2.new _ _ _ _, q'.one, q'.two, q.in1, q.in2, q.apart, Or.inr (Nat.le_refl _)⟩, below_next h4 (below_alloc _ _), h4.size, by rw [World.size_alloc]; omega⟩

set_option maxRecDepth 20000 in
set_option maxHeartbeats 2000000 in
theorem fnExactSplit_walk (v : Value) (n : Nat) (f g : Nat → Int) (t : Int) (w : World) (h : PtrsAt w 0 w.heap.size v n f g) (ht0 : (Lit.int .i64 t).wf = true) : Calls Try.prog 7 #[v, .int .i64 t] w fun e w' => e = .returned (.bool true) ∧ Below w.heap.size w w' := by
  have Hp := hideD h
  obtain ⟨_, a, c, rfl, _, _⟩ := id h
  clear h ht0
  go_enter Try.func7, Try.ntmps7
  go_wp2_with fail
  refine (szPtrS_any _ n 0 w.heap.size f g _ _ Hp.out (by omega) (by omega)).mono ?_
  rintro e w1 ⟨⟨r, rfl, hr1, hr2, hr3⟩, hb1⟩
  by_cases hr : r < 0
  · go_wp2
    go_ret
    exact ⟨rfl, hb1⟩
  · have hn : n ≤ 1048576 := by have := hr1 (by omega); omega
    clear hr1 hr2 hr3
    -- spec.Split of a copy
    go_wp2_with fail
    refine (toPtrS_any _ n 0 w.heap.size f g _ (Hp.out.below hb1) hn).mono ?_
    rintro e w2 ⟨⟨v2, rfl, ho2⟩, hb2, hz2⟩
    have hB2 := below_next hb1 hb2
    have Ha2 := hideD (ho2.at (lo := 0) (hi := w2.heap.size) (fun _ => ⟨Nat.zero_le _, hz2⟩))
    obtain ⟨a2, c2, rfl⟩ := ho2.formD
    clear ho2 hb2 hb1 hz2
    go_wp2_with fail
    refine (specSplit_any _ n 0 _ f g t _ Ha2.out).mono ?_
    rintro e w3 ⟨vy, vo, l, l', rfl, hY, hO, hT⟩
    have hlen := split_len hY hO
    have HY := hideD hY
    have HO := hideD hO
    obtain ⟨lb, lb', hD, hbD, hz3, hz3'⟩ := dead_new (t := 56) hT hlen.1 hlen.2
    obtain ⟨ya, yc, rfl⟩ := hD.one.formD
    obtain ⟨oa, oc, rfl⟩ := hD.two.formD
    obtain ⟨hl1, hl2⟩ := hlen
    clear hY hO hT Ha2
    go_wp2_with fail
    generalize w3.alloc (.cells #[.slice ya l.length yc, .slice oa l'.length oc] 56) = wA at hD hbD hz3' ⊢
    generalize w3.heap.size = A at hD hz3 hz3' ⊢
    have HD := hideD hD
    have hBA := below_next hB2 hbD
    have hw2 := hB2.size
    clear hD hbD hB2
    -- impl.Split of another one
    refine (toPtrS_any _ n 0 w.heap.size f g _ (Hp.out.below hBA) hn).mono ?_
    rintro e w4 ⟨⟨v4, rfl, ho4⟩, hb4, hz4⟩
    have hB4 := below_next hBA hb4
    have HX4 := hideD ho4
    have HD4 := hideD (HD.out.below hb4)
    obtain ⟨xa, xc, rfl⟩ := ho4.formD
    clear ho4 hb4 hBA HD
    generalize wA.heap.size = X at HX4 hz3' hz4
    go_wp2_with fail
    refine (implSplit_any _ n 0 w4.heap.size f g t _ (HX4.out.at (fun _ => ⟨Nat.zero_le _, hz4⟩))).mono ?_
    rintro e w5 ⟨gy, go, m, m', rfl, hY, hO, hT⟩
    obtain rfl := splitY_one hY HY.out
    obtain rfl := splitO_one hO HO.out
    obtain ⟨gb, gb', hG, hbG, hz5, hz5'⟩ := dead_new (t := 56) hT hl1 hl2
    obtain ⟨gya, gyc, rfl⟩ := hG.one.formD
    obtain ⟨goa, goc, rfl⟩ := hG.two.formD
    clear hY hO hT
    have HDB := hideD (HD4.out.below hbG)
    obtain ⟨⟨y0, y1⟩, ⟨y2, y3⟩⟩ := HDB.out.box
    -- the answers are the same
    go_wp2_with fail
    clear y0 y1 y2 y3
    generalize w5.alloc (.cells #[.slice gya m.length gyc, .slice goa m'.length goc] 56) = wB at hG hbG hz5' HDB ⊢
    generalize w5.heap.size = G at hG hz5 hz5' ⊢
    have HG := hideD hG
    have HXB := hideD (HX4.out.below hbG)
    have hBB := below_next hB4 hbG
    clear hG hbG hB4 HX4 HD4
    refine (eqDeadOut_any _ _ _ _ _ _ _ _ _ _ _ _ _ _ _ HG.out.at1 HG.out.at2 HDB.out.at1 HDB.out.at2).mono ?_
    rintro e w6 ⟨rfl, hb6⟩
    have HG6 := hideD (HG.out.below hb6)
    have HD6 := hideD (HDB.out.below hb6)
    have HX6 := hideD (HXB.out.below hb6)
    have hB6 := below_next hBB hb6
    clear hb6 hBB HG HDB HXB
    -- the argument is as it was
    go_wp2_with fail
    refine (toPtrS_any _ n 0 w.heap.size f g _ (Hp.out.below hB6) hn).mono ?_
    rintro e w7 ⟨⟨v7, rfl, ho7⟩, hb7, hz7⟩
    have hB7 := below_next hB6 hb7
    have Ha7 := hideD (ho7.at (lo := 0) (hi := w7.heap.size) (fun _ => ⟨Nat.zero_le _, hz7⟩))
    have HG7 := hideD (HG6.out.below hb7)
    have HD7 := hideD (HD6.out.below hb7)
    have HX7 := hideD (HX6.out.below hb7)
    obtain ⟨a7, c7, rfl⟩ := ho7.formD
    clear ho7 hb7 hB6 HG6 HD6 HX6 hz7
    go_wp2_with fail
    refine (eqPtrS_any _ _ n n 0 w4.heap.size 0 _ f g f g _ (HX7.out.at (fun _ => ⟨Nat.zero_le _, hz4⟩)) Ha7.out).mono ?_
    rintro e w8 ⟨⟨t8, rfl, ht8⟩, hb8⟩
    obtain rfl : t8 = true := ht8.2 ⟨rfl, fun _ _ => ⟨rfl, rfl⟩⟩
    have HG8 := hideD (HG7.out.below hb8)
    have HD8 := hideD (HD7.out.below hb8)
    have HX8 := hideD (HX7.out.below hb8)
    have hB8 := below_next hB7 hb8
    clear ht8 hb8 hB7 HG7 HD7 HX7 Ha7
    -- marks are laid into the argument
    go_wp2_with fail
    refine (markPtrS_any _ _ n f g 1 _ HX8.out (by omega) (by omega)).mono ?_
    rintro e w9 ⟨rfl, ho9, ht9⟩
    have HG9 := hideD (HG8.out.turned ht9 (by omega) (by omega))
    have HD9 := hideD (HD8.out.turned ht9 (by omega) (by omega))
    have hB9 : Below w.heap.size w w9 := hB8.trans (ht9.below hB8.size (by omega))
    have hk : ¬ (1 : Int) + 2 * (n : Int) < 0 := by omega
    clear ho9 ht9 hB8 HG8 HD8 HX8
    -- the answer stays
    obtain ⟨⟨x0, x1⟩, ⟨x2, x3⟩⟩ := HG9.out.box
    obtain ⟨⟨y0, y1⟩, ⟨y2, y3⟩⟩ := HD9.out.box
    go_wp2_with fail
    refine (eqDeadOut_any _ _ _ _ _ _ _ _ _ _ _ _ _ _ _ HG9.out.at1 HG9.out.at2 HD9.out.at1 HD9.out.at2).mono ?_
    rintro e w10 ⟨rfl, hb10⟩
    have HG10 := hideD (HG9.out.below hb10)
    have HD10 := hideD (HD9.out.below hb10)
    have hB10 := below_next hB9 hb10
    clear hb10 hB9 HG9 HD9 x0 x1 x2 x3 y0 y1 y2 y3
    -- marks are laid into the answer
    obtain ⟨⟨x0, x1⟩, ⟨x2, x3⟩⟩ := HG10.out.box
    have hin1 := HG10.out.in1
    have hin2 := HG10.out.in2
    go_wp2_with fail
    refine (markDeadOut_any _ _ _ _ gb gb' _ _ _ _ 1 _ HG10.out.one HG10.out.two HG10.out.apart hl1 hl2 (by omega) (by omega)).mono ?_
    rintro e w11 ⟨rfl, ho11, hp11, ht11⟩
    have HG11 : Hid (DeadV w11 G w4.heap.size G (.slice gya m.length gyc) (.slice goa m'.length goc) m.length m'.length (fun i => 1 + 2 * i) (fun i => 1 + 2 * i + 1) (fun i => 1 + 2 * m.length + 2 * i) (fun i => 1 + 2 * m.length + 2 * i + 1) gb gb') := ⟨HG10.out.box.turned ht11 (fun hx => by rcases hx with hx | hx; (have := hin1 hx.1; omega); (have := hin2 hx.1; omega)), ho11, hp11, HG10.out.in1, HG10.out.in2, HG10.out.apart, HG10.out.out⟩
    have HD11 := hideD (HD10.out.turned ht11 (fun hx => by rcases hx with hx | hx; (have := hin1 hx.1; omega); (have := hin2 hx.1; omega)) (fun k hx => by rcases hx with hx | hx; (have := hin1 hx.1; omega); (have := hin2 hx.1; omega)))
    have hB11 : Below w.heap.size w w11 := hB10.trans (ht11.below hB10.size (fun k hx => by rcases hx with hx | hx; (have := hin1 hx.1; omega); (have := hin2 hx.1; omega)))
    clear ho11 hp11 ht11 hB10 HG10 HD10 x0 x1 x2 x3 hin1 hin2
    have hm0 : ¬ (1 : Int) + 2 * (m.length : Int) + 2 * (m'.length : Int) < 0 := by omega
    have hmm : ((1 : Int) + 2 * (m.length : Int) + 2 * (m'.length : Int) != (1 : Int) + 2 * (m.length : Int) + 2 * (m'.length : Int)) = false := by simp
    -- and looked for
    obtain ⟨⟨x0, x1⟩, ⟨x2, x3⟩⟩ := HG11.out.box
    go_wp2_with fail
    refine (heldDeadOut_any _ _ _ _ _ _ 1 _ HG11.out.at1 HG11.out.at2 hl1 hl2 (by omega) (by omega)).mono ?_
    rintro e w12 ⟨rfl, hb12⟩
    have HG12 := hideD (HG11.out.below hb12)
    have HD12 := hideD (HD11.out.below hb12)
    have hB12 := below_next hB11 hb12
    clear hb12 hB11 HG11 HD11 x0 x1 x2 x3
    -- a second answer
    go_wp2_with fail
    refine (toPtrS_any _ n 0 w.heap.size f g _ (Hp.out.below hB12) hn).mono ?_
    rintro e w13 ⟨⟨v13, rfl, ho13⟩, hb13, hz13⟩
    have hB13 := below_next hB12 hb13
    have Ha13 := hideD (ho13.at (lo := 0) (hi := w13.heap.size) (fun _ => ⟨Nat.zero_le _, hz13⟩))
    have HG13 := hideD (HG12.out.below hb13)
    have HD13 := hideD (HD12.out.below hb13)
    obtain ⟨a13, c13, rfl⟩ := ho13.formD
    clear ho13 hb13 hB12 HG12 HD12 hz13
    go_wp2_with fail
    refine (implSplit_any _ n 0 _ f g t _ Ha13.out).mono ?_
    rintro e w14 ⟨hy, ho, q, q', rfl, hY, hO, hT⟩
    obtain rfl := splitY_one hY HY.out
    obtain rfl := splitO_one hO HO.out
    obtain ⟨hb, hb', hH, hbH, hz14, hz14'⟩ := dead_new (t := 56) hT hl1 hl2
    obtain ⟨hya, hyc, rfl⟩ := hH.one.formD
    obtain ⟨hoa, hoc, rfl⟩ := hH.two.formD
    clear hY hO hT Ha13
    have HDH := hideD (HD13.out.below hbH)
    obtain ⟨⟨y0, y1⟩, ⟨y2, y3⟩⟩ := HDH.out.box
    go_wp2_with fail
    clear y0 y1 y2 y3
    generalize w14.alloc (.cells #[.slice hya q.length hyc, .slice hoa q'.length hoc] 56) = wH at hH hbH hz14' HDH ⊢
    generalize w14.heap.size = E at hH hz14 hz14' ⊢
    have HH := hideD hH
    have HGH := hideD (HG13.out.below hbH)
    have hBH := below_next hB13 hbH
    clear hH hbH hB13 HG13 HD13
    refine (eqDeadOut_any _ _ _ _ _ _ _ _ _ _ _ _ _ _ _ HH.out.at1 HH.out.at2 HDH.out.at1 HDH.out.at2).mono ?_
    rintro e w15 ⟨rfl, hb15⟩
    have HG15 := hideD (HGH.out.below hb15)
    have hB15 := below_next hBH hb15
    clear hb15 hBH HH HDH HGH
    -- the marks are there still
    obtain ⟨⟨x0, x1⟩, ⟨x2, x3⟩⟩ := HG15.out.box
    go_wp2_with fail
    refine (heldDeadOut_any _ _ _ _ _ _ 1 _ HG15.out.at1 HG15.out.at2 hl1 hl2 (by omega) (by omega)).mono ?_
    rintro e w16 ⟨rfl, hb16⟩
    have hB16 := below_next hB15 hb16
    clear hb16
    go_wp2
    go_ret
    exact ⟨rfl, hB16⟩

theorem own : ownKnob Try.prog.godebug = none := by kernel_rfl
theorem laidOut : laidOutB Try.prog = true := by kernel_rfl

set_option maxRecDepth 100000 in
theorem fnExactSplit_lifted (os : Os) (started : os.Started) (H : Type) (enc : TypeId × Value → H) :
    ReturnsInHanded {} Try.checked os 7 .any (Rows.fnExactSplitSpec.pre6 enc Try.prog Try.f7 Rows.fnExactSplitRow.domain false) (Rows.fnExactSplitSpec.post enc Try.prog Try.f7 false true false false) := by
  refine returnsInHanded_of_change (C := Try.checked) own started (by kernel_rfl) Try.func7
    (ChangeSpec.witness6 (enc := enc) (C := Try.checked) false ⟨#[], #[.slice none 0 0, .int .i64 0], []⟩ 8 (by kernel_rfl) (by kernel_rfl) (by kernel_rfl) (by kernel_rfl)) ?_
  intro W base args ds gs before hval0 hW hcnd _
  have hval : ∀ (j : Nat) t v, Try.f7.params[j]? = some t → args[j]? = some v → Value.okWide Try.prog W .any base t v := hval0
  have hW' := hW
  obtain ⟨p, q, hA0, hV, rfl, hfz, hnd⟩ := hW
  have hA : DataW.TrodAll enc Try.prog W 0 (fun _ => true) true Try.f7.params.toList args.toList ds p := hA0
  rw [Try.params7] at hA hval
  obtain ⟨v0, vs0, d0, ds0, p0, q0, hargs0, rfl, rfl, h0, r0⟩ := trodAll_cons hA
  obtain ⟨v1, vs1, d1, ds1, p1, q1, hargs1, rfl, rfl, h1, r1⟩ := trodAll_cons r0
  obtain ⟨rfl, rfl, rfl⟩ := trodAll_nil r1
  obtain rfl : args = #[v0, v1] := by cases args; simp_all
  obtain ⟨rfl, rfl⟩ := trodVars_none hV
  have k0 := h0
  have k1 := h1
  have lt0 : ∀ x ∈ p0, x.block < W.heap.size := by obtain ⟨m, hm⟩ := k0; exact DataW.trod_lt m _ _ _ hm
  have lt1 : ∀ x ∈ p1, x.block < W.heap.size := by obtain ⟨m, hm⟩ := k1; exact DataW.trod_lt m _ _ _ hm
  have sc0 : v0.cells = #[v0] := by obtain ⟨_, _, _, rfl⟩ := okWide_slice (e := 27) (by kernel_rfl) (hval 0 50 v0 rfl rfl); rfl
  obtain ⟨n0, f0, g0, hp0⟩ : ∃ n f g, PtrsAt W 0 W.heap.size v0 n f g := by obtain ⟨fuel, hf⟩ := h0; exact open_ptrs_at (by simpa [sc0] using hf)
  obtain ⟨z1, rfl, e1, _, wz1⟩ := open_int Try.underlying2 (hval 1 2 v1 rfl rfl) h1
  clear hA0 hval0
  refine (fnExactSplit_walk v0 n0 f0 g0 z1 W hp0 wz1).mono fun e W' ⟨he, bel⟩ => ?_
  subst he
  exact ⟨_, rfl, _, _, _, [], _, [], hW', trodAll_mk1 (shut_bool Try.underlying4 _), (trodAll_cons_mk (Below.trod laidOut (by kernel_rfl) (of_decide_eq_true (by kernel_rfl)) k0 bel lt0) (trodAll_cons_mk (Below.trod laidOut (by kernel_rfl) (of_decide_eq_true (by kernel_rfl)) k1 bel lt1) trodAll_mk0)), rfl, bel.frame _, fun h => by cases h⟩

theorem fnExactSplit_holds : Rows.FnExactSplitSaid :=
  OpenClaim.holds_of_wide 7 Try.f7 rfl rfl rfl rfl rfl rfl rfl ⟨rfl, rfl, rfl, rfl, rfl⟩ rfl rfl rfl rfl rfl (by kernel_rfl) Try.func7 (by kernel_rfl)
    (of_decide_eq_true (by kernel_rfl)) (by unfold Func.isWrapper; first | (rw [if_pos (by decide +kernel)]; kernel_rfl) | (rw [if_neg (by decide +kernel)]; exact ⟨rfl, rfl⟩))
    (fun os started H enc _ => fnExactSplit_lifted os started H enc)

end Go.Proofs.Ytckamdnichangae
