/- For every two texts of bytes that come in the law FnSplit returns true: drawn right pointers are parted into those born behind a time and the others, and put together are all again; impl answers as spec. No condition. -/
import Derived.Test.YtckamdnichangaaDeadB
import Derived.Test.YtckamdnichangaaDeadC
import Derived.Test.YtckamdnichangaaDeadH
import Derived.Test.YtckamdnichangaaDeadI
import Derived.ProofKit
import Derived.OpenShut
import Derived.ChangeOld
import Derived.Deep.Slices
import Derived.Deep.MidRow
import Derived.Lib.SmallJoins
namespace Go.Proofs.Ytckamdnichangaa
open Go.RowKit Go.Deep Go.Joins
open Go.ChangeShapes Go.WideShapes Go.ChangeAt
set_option linter.unusedVariables false

theorem bytes_grown {w w' : World} {a : Option Addr} {n : Nat} (h : BytesAt w w.heap.size a n) (t : Below w.heap.size w w') : BytesAt w' w'.heap.size a n := fun h0 => by
  obtain ⟨b, off, ha, hb, hc⟩ := h h0
  refine ⟨b, off, ha, Nat.lt_of_lt_of_le hb t.size, fun i hi => ?_⟩
  obtain ⟨x, hx, hr⟩ := hc i hi
  exact ⟨x, (t.cell (lt_of_cell hx)).trans hx, hr⟩

set_option maxRecDepth 20000 in
set_option maxHeartbeats 4000000 in
theorem fnSplit_walk (a0 a1 : Option Addr) (n0 c0 n1 c1 : Nat) (w : World) (hb0 : BytesAt w w.heap.size a0 n0) (hb1 : BytesAt w w.heap.size a1 n1) (hc0 : n0 ≤ c0) (hc1 : n1 ≤ c1) (hm0 : n0 ≤ maxLen) (hm1 : n1 ≤ maxLen) :
    Calls Try.prog 5 #[.slice a0 n0 c0, .slice a1 n1 c1] w fun e w' => e = .returned (.bool true) ∧ Below w.heap.size w w' := by
  have Hb0 := hideD hb0
  have Hb1 := hideD hb1
  unfold maxLen at hm0 hm1
  clear hb0 hb1
  go_enter Try.func5, Try.ntmps5
  by_cases hn0 : (1048576 : Int) < n0
  · go_wp2
    go_ret
    exact ⟨rfl, Below.refl _ _⟩
  by_cases hn1 : (1048576 : Int) < n1
  · go_wp2
    go_ret
    exact ⟨rfl, Below.refl _ _⟩
  go_wp2_with fail
  refine (drawSplit_any a0 n0 c0 w Hb0.out (by omega) hc0).mono ?_
  rintro e w1 ⟨v, l, t, rfl, hl, hr, hb⟩
  obtain ⟨la, lc, rfl, _⟩ := owns_form hr
  have HL1 := hideD hr
  have hB1 := hb
  clear hr hb
  -- impl.Split
  go_wp2_with fail
  refine (implSplit_any _ l.length 0 _ (fstL l) (sndL l) t _ (HL1.out.at' (by unfold maxLen; omega))).mono ?_
  rintro e w2 ⟨vy, vo, y, o, rfl, hY, hO, hT⟩
  obtain ⟨ya, yc, rfl, _⟩ := owns_form hT.1
  obtain ⟨oa, oc, rfl, _⟩ := owns_form hT.2.1
  obtain ⟨hly, hlo⟩ := split_len hY hO
  have hb2 := hT.2.2.2
  have ha2 := below_alloc w2 (.cells #[.slice ya y.length yc, .slice oa o.length oc] 62)
  have hb3 := below_next hb2 ha2
  have HX3 := hideD (Box2.new w2 (.slice ya y.length yc) (.slice oa o.length oc) 62)
  have HY3 := hideD (RowL.below hT.1 ha2)
  have HO3 := hideD (RowL.below hT.2.1 ha2)
  have HL3 := hideD (HL1.out.below hb3)
  have hB3 := below_next hB1 hb3
  have HSY := hideD hY
  have HSO := hideD hO
  clear hY hO hT hb2 ha2 hb3 hB1 HL1
  go_wp2_with fail
  generalize w2.alloc (.cells #[.slice ya y.length yc, .slice oa o.length oc] 62) = w3 at HX3 HY3 HO3 HL3 hB3 ⊢
  generalize w2.heap.size = X at HX3 ⊢
  -- two lists more
  refine (drawPtrsSame_any a1 n1 c1 _ (bytes_grown Hb1.out hB3) (by omega) hc1).mono ?_
  rintro e w4 ⟨va, vb, l2, l3, rfl, hl2, hl3, hr2, hr3, hb4⟩
  obtain ⟨pa, pc, rfl, _⟩ := owns_form hr2
  obtain ⟨qa, qc, rfl, _⟩ := owns_form hr3
  have HA := hideD (RowL.at' hr2 (by unfold maxLen; omega))
  have HB := hideD (RowL.at' hr3 (by unfold maxLen; omega))
  have HX4 := hideD (HX3.out.below hb4)
  have HY4 := hideD (HY3.out.below hb4)
  have HO4 := hideD (HO3.out.below hb4)
  have HL4 := hideD (HL3.out.below hb4)
  have hB4 := below_next hB3 hb4
  clear hr2 hr3 hb4 hB3 HX3 HY3 HO3 HL3
  -- impl.PtrsRight, spec.PtrsRight
  go_wp2_with fail
  refine (implPtrsRight_any _ l.length 0 _ (fstL l) (sndL l) _ (HL4.out.at' (by unfold maxLen; omega))).mono ?_
  rintro e w5 ⟨⟨t5, rfl, ht5⟩, hb5⟩
  have Ht5 := hideD ht5
  have HL5 := hideD (HL4.out.below hb5)
  clear ht5
  go_wp2_with fail
  refine (specPtrsRight_any _ l.length 0 _ (fstL l) (sndL l) _ (HL5.out.at' (by unfold maxLen; omega))).mono ?_
  rintro e w6 ⟨⟨t6, rfl, ht6⟩, hb6⟩
  obtain rfl := BoolIs.same Ht5.out ht6
  have hC6 := below_next hb5 hb6
  have HA6 := hideD (HA.out.below hC6)
  have HB6 := hideD (HB.out.below hC6)
  have HX6 := hideD (HX4.out.below hC6)
  have HY6 := hideD (HY4.out.below hC6)
  have HO6 := hideD (HO4.out.below hC6)
  have HL6 := hideD (HL4.out.below hC6)
  have hB6 := below_next hB4 hC6
  have hne6 : (t6 != t6) = false := by simp
  clear ht6 hb5 hb6 hC6 hB4 HA HB HX4 HY4 HO4 HL4 HL5 Ht5
  -- impl.PtrsSame, spec.PtrsSame
  go_wp2_with fail
  refine (implPtrsSame_any _ _ l2.length 0 _ l3.length 0 _ _ _ _ _ _ HA6.out HB6.out).mono ?_
  rintro e w7 ⟨⟨t7, rfl, ht7⟩, hb7⟩
  have Ht7 := hideD ht7
  have HA7 := hideD (HA6.out.below hb7)
  have HB7 := hideD (HB6.out.below hb7)
  clear ht7
  go_wp2_with fail
  refine (specPtrsSame_any _ _ l2.length 0 _ l3.length 0 _ _ _ _ _ _ HA7.out HB7.out).mono ?_
  rintro e w8 ⟨⟨t8, rfl, ht8⟩, hb8⟩
  obtain rfl := BoolIs.same Ht7.out ht8
  have hC8 := below_next hb7 hb8
  have HA8 := hideD (HA6.out.below hC8)
  have HB8 := hideD (HB6.out.below hC8)
  have hne8 : (t8 != t8) = false := by simp
  clear ht8 hb7 hb8 HA6 HB6 HA7 HB7
  go_wp2_with fail
  refine (implPtrsSame_any _ _ l2.length 0 _ l3.length 0 _ _ _ _ _ _ HA8.out HB8.out).mono ?_
  rintro e w9 ⟨⟨t9, rfl, ht9⟩, hb9⟩
  have Ht9 := hideD ht9
  have HA9 := hideD (HA8.out.below hb9)
  have HB9 := hideD (HB8.out.below hb9)
  clear ht9
  go_wp2_with fail
  refine (implPtrsSame_any _ _ l3.length 0 _ l2.length 0 _ _ _ _ _ _ HB9.out HA9.out).mono ?_
  rintro e w10 ⟨⟨t10, rfl, ht10⟩, hb10⟩
  obtain rfl := BoolIs.same Ht9.out (ht10.trans ⟨PSame.symm, PSame.symm⟩)
  have hC10 := below_next hC8 (below_next hb9 hb10)
  have HX10 := hideD (HX6.out.below hC10)
  have HY10 := hideD (HY6.out.below hC10)
  have HO10 := hideD (HO6.out.below hC10)
  have HL10 := hideD (HL6.out.below hC10)
  have hB10 := below_next hB6 hC10
  have hne10 : (t10 != t10) = false := by simp
  clear ht10 hb9 hb10 hC8 hC10 hB6 HA8 HB8 HA9 HB9 HX6 HY6 HO6 HL6 Ht7 Ht9
  -- spec.PtrsRight
  go_wp2_with fail
  refine (specPtrsRight_any _ l.length 0 _ (fstL l) (sndL l) _ (HL10.out.at' (by unfold maxLen; omega))).mono ?_
  rintro e wn ⟨⟨t11, rfl, ht11⟩, hb11⟩
  have HX := hideD (HX10.out.below hb11)
  have HY := hideD (HY10.out.below hb11)
  have HO := hideD (HO10.out.below hb11)
  have HL := hideD (HL10.out.below hb11)
  have hBn := below_next hB10 hb11
  clear hb11 hB10 HX10 HY10 HO10 HL10
  by_cases hok : PtrsOk l.length (fstL l) (sndL l)
  · have Hok := hideD hok
    obtain rfl : t11 = true := ht11.2 hok
    clear ht11 hok
    by_cases htm : TimeOk t
    · obtain ⟨ht0, ht1⟩ := id htm
      have ht0' : ¬ t < 0 := by omega
      have ht1' : ¬ (1000000 : Int) < t := by omega
      obtain rfl := HSY.out.1 ⟨Hok.out, htm⟩
      obtain rfl := HSO.out.1 ⟨Hok.out, htm⟩
      have HS := hideD (both_same t Hok.out)
      have Hyg := hideD (fun (x : Int × Int) (hx : x ∈ youngL (fstL l) (sndL l) t l.length) => young_gt hx)
      have Hol := hideD (fun (x : Int × Int) (hx : x ∈ oldL (fstL l) (sndL l) t l.length) => old_le hx)
      clear HSY HSO htm
      generalize youngL (fstL l) (sndL l) t l.length = y at HX HY HO HS Hyg hly ⊢
      generalize oldL (fstL l) (sndL l) t l.length = o at HX HY HO HS Hol hlo ⊢
      obtain ⟨⟨x0, x1⟩, ⟨x2, x3⟩⟩ := HX.out
      go_wp2
      go_loopw [10] (fun i wr => ∃ k : Nat, k ≤ y.length ∧ i = .int .i64 k ∧ wn = wr) (fun i _ => y.length - (intOf i).toNat)
      case atStart => exact ⟨0, Nat.zero_le _, rfl, rfl⟩
      case round =>
        obtain ⟨k, hk, rfl, rfl⟩ := hrel
        by_cases hlt : k < y.length
        · have hlt' : (k : Int) < (y.length : Int) := by omega
          obtain ⟨b, rfl, _, _, hnn, hc⟩ := HY.out.cells (by omega)
          obtain ⟨q2, q3⟩ := hc _ _ (pcl_get y k hlt).2
          have hgt : ¬ (y.getD k (0, 0)).2 ≤ t := by have := Hyg.out _ (mem_getL hlt); have e : (y.getD k (0, 0)).2 = sndL y k := rfl; omega
          clear hc hnn
          generalize (y.getD k (0, 0)).2 = z at q2 hgt
          go_wp2
          go_roundw
          case rel => exact ⟨k + 1, by omega, by go_num, trivial⟩
          case measure => simp [intOf]; omega
        · obtain rfl : k = y.length := by omega
          go_wp2
          go_loopw [11] (fun i wr => ∃ k : Nat, k ≤ o.length ∧ i = .int .i64 k ∧ wn = wr) (fun i _ => o.length - (intOf i).toNat)
          case atStart => exact ⟨0, Nat.zero_le _, rfl, rfl⟩
          case round =>
            obtain ⟨k, hk, rfl, rfl⟩ := hrel
            by_cases hlt : k < o.length
            · have hlt' : (k : Int) < (o.length : Int) := by omega
              obtain ⟨b, rfl, _, _, hnn, hc⟩ := HO.out.cells (by omega)
              obtain ⟨q2, q3⟩ := hc _ _ (pcl_get o k hlt).2
              have hgt : ¬ t < (o.getD k (0, 0)).2 := by have := Hol.out _ (mem_getL hlt); have e : (o.getD k (0, 0)).2 = sndL o k := rfl; omega
              clear hc hnn
              generalize (o.getD k (0, 0)).2 = z at q2 hgt
              go_wp2
              go_roundw
              case rel => exact ⟨k + 1, by omega, by go_num, trivial⟩
              case measure => simp [intOf]; omega
            · obtain rfl : k = o.length := by omega
              go_wp2_with fail
              refine wp_region_held_drew (S := (fun w' => w'.cell? ⟨X, 0, none⟩ = some (.slice ya y.length yc) ∧ w'.cell? ⟨X, 1, none⟩ = some (.slice oa o.length oc))) (by kernel_rfl) ?_ (fun hHeld => ?_)
              · (try dsimp only)
                go_keep
              refine wpAnyH_take (i := 1) (oi := ({ dst := some 108, op := Op.fieldAddr 62 (Operand.tmp 7) 1, type := 0, pos := "laws.go:171", after := #[], guard := none } : Oper)) (v := ?_) rfl (by kernel_rfl) (by kernel_rfl) (by kernel_rfl) (fun _ _ _ h => h) (Or.inl ⟨by rfl, ?_⟩) (by assumption) ?_
              rotate_left
              · (intro w hSw; (try dsimp only at hSw); go_simp; try with_reducible rfl)
              try simp only [Act.put, List.setIfInBounds_toArray, List.set_cons_zero, List.set_cons_succ]
              refine wpAnyH_take (i := 4) (oi := ({ dst := some 111, op := Op.fieldAddr 62 (Operand.tmp 7) 0, type := 0, pos := "laws.go:171", after := #[], guard := none } : Oper)) (v := ?_) rfl (by kernel_rfl) (by kernel_rfl) (by kernel_rfl) (fun _ _ _ h => h) (Or.inl ⟨by rfl, ?_⟩) (by assumption) ?_
              rotate_left
              · (intro w hSw; (try dsimp only at hSw); go_simp; try with_reducible rfl)
              try simp only [Act.put, List.setIfInBounds_toArray, List.set_cons_zero, List.set_cons_succ]
              refine wpAnyH_take (i := 7) (oi := ({ dst := some 114, op := Op.move (Operand.tmp 5), type := 27, pos := "laws.go:171", after := #[], guard := none } : Oper)) (v := ?_) rfl (by kernel_rfl) (by kernel_rfl) (by kernel_rfl) (fun _ _ _ h => h) (Or.inl ⟨by rfl, ?_⟩) (by assumption) ?_
              rotate_left
              · (intro w hSw; (try dsimp only at hSw); go_simp; try with_reducible rfl)
              try simp only [Act.put, List.setIfInBounds_toArray, List.set_cons_zero, List.set_cons_succ]
              refine wpAnyH_take (i := 2) (oi := ({ dst := some 109, op := Op.load 27 (Operand.tmp 108), type := 27, pos := "laws.go:171", after := #[{ on := 1, ground := Ground.data }], guard := none } : Oper)) (v := ?_) rfl (by kernel_rfl) (by kernel_rfl) (by kernel_rfl) (fun _ _ _ h => h) (Or.inl ⟨by rfl, ?_⟩) (by assumption) ?_
              rotate_left
              · (intro w hSw; (try dsimp only at hSw); go_simp; try with_reducible rfl)
              try simp only [Act.put, List.setIfInBounds_toArray, List.set_cons_zero, List.set_cons_succ]
              refine wpAnyH_take (i := 5) (oi := ({ dst := some 112, op := Op.load 27 (Operand.tmp 111), type := 27, pos := "laws.go:171", after := #[{ on := 4, ground := Ground.data }], guard := none } : Oper)) (v := ?_) rfl (by kernel_rfl) (by kernel_rfl) (by kernel_rfl) (fun _ _ _ h => h) (Or.inl ⟨by rfl, ?_⟩) (by assumption) ?_
              rotate_left
              · (intro w hSw; (try dsimp only at hSw); go_simp; try with_reducible rfl)
              try simp only [Act.put, List.setIfInBounds_toArray, List.set_cons_zero, List.set_cons_succ]
              refine wpAnyH_ready (rs := [0]) (by kernel_rfl) (by simp) ?_
              refine AllReadyH.cons (o := ({ dst := some 107, op := Op.buildSlice 27 0 #[], type := 27, pos := "laws.go:171", after := #[], guard := none } : Oper)) rfl (fun K hK => ?_) AllReadyH.nil
              go_simp
              have hC0 : Below wn.heap.size wn (wn.drew.alloc (.cells #[] 33)) := (Below.refl _ _).drew.alloc (Nat.le_refl _) _
              have hr0 : RowL (wn.drew.alloc (.cells #[] 33)) wn.heap.size (.slice (some ⟨wn.heap.size, 0, none⟩) 0 0) [] := World.ownsRow_lit (e := 33) (size := 2) wn.drew #[] 0 (Nat.le_refl _) (by unfold maxLen; omega) rfl
              obtain ⟨⟨k0, _⟩, ⟨k1, _⟩⟩ := HX.out.below hC0
              (try go_wp2_with fail)
              refine hK.out _ _ ?_ (fun hHeld => ?_)
              · (try dsimp only)
                go_keep
              clear hK K
              try simp only [Act.put, List.setIfInBounds_toArray, List.set_cons_zero, List.set_cons_succ]
              refine wpAnyH_ready (rs := [3]) (by kernel_rfl) (by simp) ?_
              refine AllReadyH.cons (o := ({ dst := some 110, op := Op.call { callee := Callee.builtin Builtin.append, args := #[Operand.tmp 107, Operand.tmp 109], argTypes := #[27, 27] }, type := 27, pos := "laws.go:171", after := #[{ on := 0, ground := Ground.data }, { on := 2, ground := Ground.data }], guard := none } : Oper)) rfl (fun K hK => ?_) AllReadyH.nil
              refine step_rows rfl (.tmp 107) (.tmp 109) rfl wn.heap.size _ (.slice (some ⟨wn.heap.size, 0, none⟩) 0 0) [] rfl hr0 oa o.length oc o rfl rfl (HO.out.below hC0) (by simp; omega) hC0.size ?_
              intro v3 w3 hr3 hg3
              have hr3' : RowL w3 wn.heap.size v3 o := hr3
              have hC3 := hC0.grown hg3 hC0.size (fun q hq => by simp only [Value.ownBlock, Option.some.injEq] at hq; omega)
              obtain ⟨⟨l0, _⟩, ⟨l1, _⟩⟩ := HX.out.below hC3
              refine hK.out _ _ ?_ (fun hHeld => ?_)
              · (try dsimp only)
                go_keep
              clear hK K
              try simp only [Act.put, List.setIfInBounds_toArray, List.set_cons_zero, List.set_cons_succ]
              refine wpAnyH_ready (rs := [6]) (by kernel_rfl) (by simp) ?_
              refine AllReadyH.cons (o := ({ dst := some 113, op := Op.call { callee := Callee.builtin Builtin.append, args := #[Operand.tmp 110, Operand.tmp 112], argTypes := #[27, 27] }, type := 27, pos := "laws.go:171", after := #[{ on := 3, ground := Ground.data }, { on := 5, ground := Ground.data }, { on := 3, ground := Ground.chain }], guard := none } : Oper)) rfl (fun K hK => ?_) AllReadyH.nil
              refine step_rows rfl (.tmp 110) (.tmp 112) rfl wn.heap.size _ v3 o rfl hr3' ya y.length yc y rfl rfl (HY.out.below hC3) (by omega) hC3.size ?_
              intro v6 w6 hr6 hg6
              have hC6 := hC3.grown hg6 hC3.size (fun q hq => (hr3'.lt hq).1)
              obtain ⟨⟨m0, _⟩, ⟨m1, _⟩⟩ := HX.out.below hC6
              refine hK.out _ _ ?_ (fun hHeld => ?_)
              · (try dsimp only)
                go_keep
              clear hK K
              try simp only [Act.put, List.setIfInBounds_toArray, List.set_cons_zero, List.set_cons_succ]
              refine wpAnyH_ready (rs := [8]) (by kernel_rfl) (by simp) ?_
              refine AllReadyH.cons (o := ({ dst := some 115, op := Op.call { callee := Callee.value (Operand.func 37), args := #[Operand.tmp 113, Operand.tmp 114], argTypes := #[27, 27] }, type := 4, pos := "laws.go:171", after := #[{ on := 6, ground := Ground.data }, { on := 7, ground := Ground.data }, { on := 6, ground := Ground.chain }], guard := none } : Oper)) rfl (fun K hK => ?_) AllReadyH.nil
              go_simp
              go_at_call 37
              refine (implPtrsSame_any _ _ _ 0 _ _ 0 _ _ _ _ _ _ (hr6.at' (by rw [List.length_append]; unfold maxLen; omega)) ((HL.out.below hC6).at' (by unfold maxLen; omega))).mono ?_
              rintro e w8 ⟨⟨t8, rfl, ht8⟩, hb8⟩
              obtain rfl : t8 = true := ht8.2 HS.out
              clear ht8
              have hC8 := below_next hC6 hb8
              obtain ⟨⟨n0, _⟩, ⟨n1, _⟩⟩ := HX.out.below hC8
              (try go_wp2_with fail)
              refine hK.out _ _ ?_ (fun hHeld => ?_)
              · (try dsimp only)
                go_keep
              clear hK K
              try simp only [Act.put, List.setIfInBounds_toArray, List.set_cons_zero, List.set_cons_succ]
              refine wpAnyH_take (i := 9) (oi := ({ dst := some 4, op := Op.assign (Operand.tmp 115), type := 4, pos := "laws.go:171", after := #[{ on := 8, ground := Ground.data }, { on := 8, ground := Ground.chain }, { on := 0, ground := Ground.phase }, { on := 1, ground := Ground.phase }, { on := 2, ground := Ground.phase }, { on := 3, ground := Ground.phase }, { on := 4, ground := Ground.phase }, { on := 5, ground := Ground.phase }, { on := 6, ground := Ground.phase }, { on := 7, ground := Ground.phase }, { on := 8, ground := Ground.phase }], guard := none } : Oper)) (v := ?_) rfl (by kernel_rfl) (by kernel_rfl) (by kernel_rfl) (fun _ _ _ h => h) (Or.inl ⟨by rfl, ?_⟩) (by assumption) ?_
              rotate_left
              · (intro w hSw; (try dsimp only at hSw); go_simp; try with_reducible rfl)
              try simp only [Act.put, List.setIfInBounds_toArray, List.set_cons_zero, List.set_cons_succ]
              refine wpAnyH_done (by kernel_rfl) ?_ _
              have hBe := below_next hBn hC8
              go_wp2
              go_ret
              exact ⟨rfl, hBe⟩
    · have Htm := hideD htm
      have e1 := HSY.out.2 (fun h => Htm.out h.2)
      have e2 := HSO.out.2 (fun h => Htm.out h.2)
      subst e1 e2
      have ht : t < 0 ∨ (1000000 : Int) < t := by
        by_cases h : t < 0
        · exact Or.inl h
        · exact Or.inr (by by_cases h' : (1000000 : Int) < t; exact h'; exact absurd ⟨by omega, by omega⟩ htm)
      clear htm
      obtain ⟨⟨x0, x1⟩, ⟨x2, x3⟩⟩ := HX.out
      rcases ht with ht | ht
      · go_wp2
        go_ret
        exact ⟨rfl, hBn⟩
      · have ht' : ¬ t < 0 := by omega
        go_wp2
        go_ret
        exact ⟨rfl, hBn⟩
  · have Hok := hideD hok
    obtain rfl : t11 = false := bool_no ht11 hok
    have e1 := HSY.out.2 (fun h => Hok.out h.1)
    have e2 := HSO.out.2 (fun h => Hok.out h.1)
    subst e1 e2
    clear ht11 hok
    obtain ⟨⟨x0, x1⟩, ⟨x2, x3⟩⟩ := HX.out
    go_wp2
    go_ret
    exact ⟨rfl, hBn⟩

end Go.Proofs.Ytckamdnichangaa
