/- For every string the law FnExactNameRight returns true: impl.NameRight answers as spec.NameRight, at every string. No condition. -/
import Derived.Test.YteffacfdbhdppacRows
import Derived.WalkKit
import Derived.WalkSpells
import Derived.WalkLawsBesides
import Derived.ProofKit
import Derived.OpenShut
import Derived.ShutString
namespace Go.Proofs.Yteffacfdbhdppac.NameRight
open Go.ChangeShapes Go.WideShapes Go.ChangeAt Go.RowKit
open Go.ChangeMaps (open_string shut_string)
set_option linter.unusedVariables false

theorem own : ownKnob Try.prog.godebug = none := by kernel_rfl

/-- A byte that may stand at the place i of a name. -/
def OkAt (i : Nat) (c : Int) : Prop := (97 ≤ c ∧ c ≤ 122) ∨ (i ≠ 0 ∧ ((48 ≤ c ∧ c ≤ 57) ∨ c = 95))

def NameP (s : ByteArray) : Prop := 1 ≤ s.size ∧ s.size ≤ 20 ∧ ∀ j, (h : j < s.size) → OkAt j (s[j].toNat : Int)

/-- The answer is a bool, which is true just if P. -/
def BoolIs (P : Prop) (e : Ending) : Prop := ∃ b : Bool, e = .returned (.bool b) ∧ (b = true ↔ P)

theorem relK {s : ByteArray} {k : Nat} (hlt : k < s.size) (hall : ∀ j, (h : j < k) → (h' : j < s.size) → OkAt j (s[j].toNat : Int)) (hok : OkAt k (s[k].toNat : Int)) :
    ∃ m : Nat, m ≤ s.size ∧ Value.int .i64 ((k : Int) + 1) = .int .i64 (m : Int) ∧ ∀ j, (h : j < m) → (h' : j < s.size) → OkAt j (s[j].toNat : Int) := by
  refine ⟨k + 1, by omega, by simp, fun j h h' => ?_⟩
  by_cases e : j = k
  · subst e; exact hok
  · exact hall j (by omega) h'

theorem rel0 {s : ByteArray} (hlt : 0 < s.size) (hok : OkAt 0 (s[0].toNat : Int)) :
    ∃ m : Nat, m ≤ s.size ∧ Value.int .i64 1 = .int .i64 (m : Int) ∧ ∀ j, (h : j < m) → (h' : j < s.size) → OkAt j (s[j].toNat : Int) := by
  refine ⟨1, by omega, by simp, fun j h h' => ?_⟩
  obtain rfl : j = 0 := by omega
  exact hok

set_option maxHeartbeats 400000 in
theorem spec_any (s : ByteArray) (w : World) (hs : s.size ≤ maxLen) :
    Calls Try.prog 7 #[.string s] w fun e w' => BoolIs (NameP s) e ∧ w' = w := by
  unfold maxLen at hs
  by_cases h1 : s.size < 1
  · have h1' : (s.size : Int) < 1 := by omega
    go_enter Try.func7, Try.ntmps7
    go_wp2
    go_ret
    exact ⟨⟨false, rfl, by simp [NameP]; omega⟩, rfl⟩
  by_cases h2 : 20 < s.size
  · have h2' : (20 : Int) < (s.size : Int) := by omega
    have h1' : ¬ (s.size : Int) < 1 := by omega
    go_enter Try.func7, Try.ntmps7
    go_wp2
    go_ret
    exact ⟨⟨false, rfl, by simp [NameP]; omega⟩, rfl⟩
  have h1' : ¬ (s.size : Int) < 1 := by omega
  have h2' : ¬ (20 : Int) < (s.size : Int) := by omega
  go_enter Try.func7, Try.ntmps7
  go_wp2
  go_loop [3] (fun i => ∃ k : Nat, k ≤ s.size ∧ i = .int .i64 k ∧ ∀ j, (h : j < k) → (h' : j < s.size) → OkAt j (s[j].toNat : Int)) (fun i => s.size - (intOf i).toNat)
  case atStart => exact ⟨0, Nat.zero_le _, rfl, fun j h => absurd h (Nat.not_lt_zero _)⟩
  case round =>
    obtain ⟨k, hk, rfl, hall⟩ := hrel
    have Hall : Hid (∀ j, (h : j < k) → (h' : j < s.size) → OkAt j (s[j].toNat : Int)) := hall
    clear hall
    by_cases hlt : k < s.size
    · by_cases hk0 : k = 0
      all_goals try subst hk0
      all_goals go_wp2
      all_goals try (go_ret; refine ⟨⟨false, rfl, ?_⟩, rfl⟩; simp only [Bool.false_eq_true, false_iff]; intro h; have h3 := h.2.2 _ hlt; unfold OkAt at h3; first | omega | grind)
      all_goals
        go_round
        case measure => simp [intOf]; omega
        case rel => first | exact rel0 hlt (by unfold OkAt; first | omega | grind) | exact relK hlt Hall.out (by unfold OkAt; first | omega | grind)
    · go_wp2
      go_ret
      refine ⟨⟨true, rfl, ?_⟩, rfl⟩
      simp only [true_iff]
      exact ⟨by omega, by omega, fun j h => Hall.out j (by omega) h⟩

set_option maxHeartbeats 400000 in
theorem impl_any (s : ByteArray) (w : World) (hs : s.size ≤ maxLen) :
    Calls Try.prog 8 #[.string s] w fun e w' => BoolIs (NameP s) e ∧ w' = w := by
  unfold maxLen at hs
  by_cases h1 : s.size < 1
  · have h1' : (s.size : Int) < 1 := by omega
    go_enter Try.func8, Try.ntmps8
    go_wp2
    go_ret
    exact ⟨⟨false, rfl, by simp [NameP]; omega⟩, rfl⟩
  by_cases h2 : 20 < s.size
  · have h2' : (20 : Int) < (s.size : Int) := by omega
    have h1' : ¬ (s.size : Int) < 1 := by omega
    go_enter Try.func8, Try.ntmps8
    go_wp2
    go_ret
    exact ⟨⟨false, rfl, by simp [NameP]; omega⟩, rfl⟩
  have h1' : ¬ (s.size : Int) < 1 := by omega
  have h2' : ¬ (20 : Int) < (s.size : Int) := by omega
  have h0 : 0 < s.size := by omega
  by_cases hc0 : 97 ≤ (s[0].toNat : Int) ∧ (s[0].toNat : Int) ≤ 122
  · obtain ⟨hc1, hc2⟩ := hc0
    go_enter Try.func8, Try.ntmps8
    go_wp2
    go_loop [20] (fun i => ∃ k : Nat, k ≤ s.size ∧ i = .int .i64 k ∧ ∀ j, (h : j < k) → (h' : j < s.size) → OkAt j (s[j].toNat : Int)) (fun i => s.size - (intOf i).toNat)
    case atStart => exact ⟨0, Nat.zero_le _, rfl, fun j h => absurd h (Nat.not_lt_zero _)⟩
    case round =>
      obtain ⟨k, hk, rfl, hall⟩ := hrel
      have Hall : Hid (∀ j, (h : j < k) → (h' : j < s.size) → OkAt j (s[j].toNat : Int)) := hall
      clear hall
      by_cases hlt : k < s.size
      · by_cases hk0 : k = 0
        all_goals try subst hk0
        all_goals go_wp2
        all_goals try (go_ret; refine ⟨⟨false, rfl, ?_⟩, rfl⟩; simp only [Bool.false_eq_true, false_iff]; intro h; have h3 := h.2.2 _ hlt; unfold OkAt at h3; first | omega | grind)
        all_goals
          go_round
          case measure => simp [intOf]; omega
          case rel => first | exact rel0 hlt (by unfold OkAt; first | omega | grind) | exact relK hlt Hall.out (by unfold OkAt; first | omega | grind)
      · go_wp2
        go_ret
        refine ⟨⟨true, rfl, ?_⟩, rfl⟩
        simp only [true_iff]
        exact ⟨by omega, by omega, fun j h => Hall.out j (by omega) h⟩
  · by_cases hc1 : 97 ≤ (s[0].toNat : Int)
    · have hc2 : ¬ (s[0].toNat : Int) ≤ 122 := fun h => hc0 ⟨hc1, h⟩
      clear hc0
      go_enter Try.func8, Try.ntmps8
      go_wp2
      go_ret
      refine ⟨⟨false, rfl, ?_⟩, rfl⟩; simp only [Bool.false_eq_true, false_iff]; intro h; have h3 := h.2.2 _ h0; unfold OkAt at h3; omega
    · clear hc0
      go_enter Try.func8, Try.ntmps8
      go_wp2
      go_ret
      refine ⟨⟨false, rfl, ?_⟩, rfl⟩; simp only [Bool.false_eq_true, false_iff]; intro h; have h3 := h.2.2 _ h0; unfold OkAt at h3; omega

theorem BoolIs.same {P : Prop} {b c : Bool} (h : b = true ↔ P) (h' : c = true ↔ P) : c = b := by
  cases b <;> cases c <;> simp_all

set_option maxHeartbeats 400000 in
theorem walk (a0 : ByteArray) (w0 : a0.size ≤ maxLen) (w : World) :
    Calls Try.prog 3 #[.string a0] w fun e w' => e = .returned (.bool true) ∧ Grown w w' := by
  have hs := w0
  unfold maxLen at hs
  by_cases hb : (1048576 : Int) < (a0.size : Int)
  · go_enter Try.func3, Try.ntmps3
    go_wp2
    go_ret
    exact ⟨rfl, Grown.refl _⟩
  · go_enter Try.func3, Try.ntmps3
    go_wp2_with fail
    refine (spec_any a0 _ w0).mono ?_
    rintro e w' ⟨⟨b, rfl, hb1⟩, rfl⟩
    have Hb1 : Hid (b = true ↔ NameP a0) := hb1
    clear hb1
    go_wp2_with fail
    refine (impl_any a0 _ w0).mono ?_
    rintro e w' ⟨⟨c, rfl, hc1⟩, rfl⟩
    obtain rfl := BoolIs.same Hb1.out hc1
    clear hc1 Hb1
    have hne : (c != c) = false := by simp
    go_wp2
    go_ret
    exact ⟨rfl, Grown.refl _⟩


set_option maxRecDepth 100000 in
theorem lifted (os : Os) (started : os.Started) (H : Type) (enc : TypeId × Value → H) :
    ReturnsInHanded {} Try.checked os 3 .any (Rows.fnExactNameRightSpec.pre6 enc Try.prog Try.f3 Rows.fnExactNameRightRow.domain false) (Rows.fnExactNameRightSpec.post enc Try.prog Try.f3 false true false false) := by
  refine returnsInHanded_of_change (C := Try.checked) own started (by kernel_rfl) Try.func3
    (ChangeSpec.witness6 (enc := enc) (C := Try.checked) false ⟨#[], #[.string ByteArray.empty], []⟩ 8 (by kernel_rfl) (by kernel_rfl) (by kernel_rfl) (by kernel_rfl)) ?_
  intro W base args ds gs before hval0 hW hcnd _
  have hval : ∀ (j : Nat) t v, Try.f3.params[j]? = some t → args[j]? = some v → Value.okWide Try.prog W .any base t v := hval0
  have hW' := hW
  obtain ⟨p, q, hA0, hV, rfl, hfz, hnd⟩ := hW
  have hA : DataW.TrodAll enc Try.prog W 0 (fun _ => true) true Try.f3.params.toList args.toList ds p := hA0
  rw [Try.params3] at hA hval
  obtain ⟨v0, vs0, d0, ds0, p0, q0, hargs, rfl, rfl, h0, r0⟩ := trodAll_cons hA
  obtain ⟨rfl, rfl, rfl⟩ := trodAll_nil r0
  obtain rfl : args = #[v0] := by cases args; simp_all
  obtain ⟨rfl, rfl⟩ := trodVars_none hV
  obtain ⟨a0, rfl, rfl, rfl, w0⟩ := open_string Try.underlying9 (hval 0 9 v0 rfl rfl) h0
  clear hA0 hval0
  simp only [List.append_nil] at hW'
  refine (walk a0 w0 W).mono fun e W' ⟨he, hg⟩ => ?_
  subst he
  exact ⟨_, rfl, post_of_same (pa := []) (pv := []) hW' (fun _ _ _ => (trodAll_cons_mk (shut_bool Try.underlying4 _) trodAll_mk0)) (fun sp _ => (trodAll_cons_mk (shut_string Try.underlying9 w0) trodAll_mk0)) (fun _ _ => rfl) rfl
    (hg.frame _) hg.2.1 (ok_one (by kernel_rfl) rfl (okWide_bool_mk Try.underlying4 _))⟩

theorem over : Rows.fnExactNameRightRow.holds Try.pinned (OpenSpec.ofChange Rows.fnExactNameRightSpec) :=
  OpenClaim.holds_of_wide 3 Try.f3 rfl rfl rfl rfl rfl rfl rfl ⟨rfl, rfl, rfl, rfl, rfl⟩ rfl rfl rfl rfl rfl (by kernel_rfl) Try.func3 (by kernel_rfl)
    (of_decide_eq_true (by kernel_rfl)) (by unfold Func.isWrapper; first | (rw [if_pos (by decide +kernel)]; kernel_rfl) | (rw [if_neg (by decide +kernel)]; exact ⟨rfl, rfl⟩))
    (fun os started H enc _ => lifted os started H enc)

end Go.Proofs.Yteffacfdbhdppac.NameRight

namespace Go.Proofs.Yteffacfdbhdppac
theorem fnExactNameRight_holds : Rows.FnExactNameRightSaid := NameRight.over
end Go.Proofs.Yteffacfdbhdppac
