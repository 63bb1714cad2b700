/- The way to a page: what impl.wayTo leaves in its variable, step by step; a scope's labels by an invariant (no law is proved here). -/
import Derived.Test.YtiijnmpenljniadTreeR
namespace Go.Proofs.Ytiijnmpenljniad
open Go Go.RowKit
set_option linter.unusedVariables false

theorem hop_mono {J J' : Nat → Act → World → Prop} {Q : Exit → Act → World → Prop} (h : ∀ l a w, J l a w → J' l a w) : ∀ {e : Exit} {a : Act} {w : World}, hop J Q e a w → hop J' Q e a w
  | .goto l, a, w, he => h l a w he
  | .normal, _, _, he => he
  | .exit _, _, _, he => he
  | .ret, _, _, he => he
  | .panic _, _, _, he => he
  | .outgrown, _, _, he => he

/-- A scope with labels: R n l holds where the run comes to the label l, with at most n jumps left. -/
theorem wp_scope_inv {P : Program} {a : Act} {w : World} {Q : Exit → Act → World → Prop} {c : Code} (R : Nat → Nat → Act → World → Prop) (n : Nat) (zero : ∀ l a w, ¬ R 0 l a w)
    (step : ∀ n l a w, R (n + 1) l a w → ∃ rest, findLabel c l = some (Code.skip.seq rest) ∧ rest.wp P (hop (R n) Q) a w)
    (first : (∀ l a w rest, findLabel c l = some (Code.skip.seq rest) → R (n + 1) l a w → rest.wp P (hop (R n) Q) a w) → c.wp P (hop (R n) Q) a w) : (Code.scope c).wp P Q a w := by
  have key : ∀ n l a w, R n l a w → JU P c Q n l a w := by
    intro n
    induction n with
    | zero => intro l a w h; exact absurd h (zero l a w)
    | succ n ih =>
      intro l a w h
      obtain ⟨rest, hf, hw⟩ := step n l a w h
      exact ⟨_, hf, Code.wp_mono (fun e a w he => hop_mono ih he) (wp_seq (wp_skip hw))⟩
  refine wp_scope_hops n (Code.wp_mono (fun e a w he => hop_mono (key n) he) (first ?_))
  intro l a w rest hf hR
  obtain ⟨rest', hf', hw⟩ := step n l a w hR
  rw [hf] at hf'
  simp only [Option.some.injEq, Code.seq.injEq, true_and] at hf'
  rw [hf']
  exact hw

/-- What is met on each level: root, node, page. -/
def metS (p : PoolD) (xs xb : Int) (n L : Nat) : Int := if L = 0 then xs else if L = 1 then nodeS p xs xb n else pageS p xs xb n
def metB (p : PoolD) (xs xb : Int) (n L : Nat) : Int := if L = 0 then xb else if L = 1 then nodeB p xs xb n else pageB p xs xb n
/-- The place among the Kids on each level. -/
def plc (n L : Nat) : Nat := if L = 0 then n / 8 else n % 8
/-- The cells of the Kids of what is met. -/
def kidC (p : PoolD) (xs xb : Int) (n L j : Nat) : Int := if Nil (metS p xs xb n L) (metB p xs xb n L) then 0 else kidCell (p.s (metS p xs xb n L).toNat) j
theorem met_next (p : PoolD) (xs xb : Int) (n : Nat) {L : Nat} (h : L < 2) : metS p xs xb n (L + 1) = kidC p xs xb n L (plc n L * 2) ∧ metB p xs xb n (L + 1) = kidC p xs xb n L (plc n L * 2 + 1) := by
  rcases L with _ | _ | L
  · exact ⟨rfl, rfl⟩
  · exact ⟨rfl, rfl⟩
  · omega
theorem plc_lt {n L : Nat} (h : n < 64) : plc n L < 8 := by unfold plc; split <;> omega
theorem met_nil {p : PoolD} {xs xb : Int} {n L : Nat} (h : Nil (metS p xs xb n L) (metB p xs xb n L)) (hL : L < 2) : Nil (metS p xs xb n (L + 1)) (metB p xs xb n (L + 1)) := by
  rw [(met_next p xs xb n hL).1, (met_next p xs xb n hL).2]
  unfold kidC
  rw [if_pos h, if_pos h]
  exact ⟨rfl, rfl⟩
theorem met_ok {p : PoolD} {xs xb : Int} {n L : Nat} (h : TreeR p xs xb) (hn : n < 64) (hL : L < 2) : KidsOk p (metS p xs xb n L) (metB p xs xb n L) := by
  rcases L with _ | _ | L
  · exact root_ok h
  · exact node_ok h (by omega)
  · omega

/-- The variable with the Kids of K levels and what is met on M of them. -/
def wayV (p : PoolD) (xs xb : Int) (n K M : Nat) (o : Value) (i : Nat) : Value :=
  if i < 2 then .int .i64 (plc n i : Nat)
  else if i < 34 then .int .i64 (if (i - 2) / 16 < K then kidC p xs xb n ((i - 2) / 16) ((i - 2) % 16) else 0)
  else if i < 40 then .int .i64 (if (i - 34) / 2 < M then (if (i - 34) % 2 = 0 then metS p xs xb n ((i - 34) / 2) else metB p xs xb n ((i - 34) / 2)) else 0)
  else o
theorem way_zero (p : PoolD) (xs xb : Int) (n : Nat) {i : Nat} (hi : i < 41) : way0 n i = wayV p xs xb n 0 0 (.slice none 0 0) i := by
  unfold way0 wayV
  by_cases h0 : i = 0
  · subst h0; rfl
  by_cases h1 : i = 1
  · subst h1; rfl
  rw [if_neg h0, if_neg h1, if_neg (show ¬ i < 2 by omega)]
  by_cases h2 : i = 40
  · subst h2; rfl
  rw [if_neg h2]
  by_cases h3 : i < 34
  · rw [if_pos h3, if_neg (Nat.not_lt_zero _)]
  · rw [if_neg h3, if_pos (by omega), if_neg (Nat.not_lt_zero _)]
theorem way_met {p : PoolD} {xs xb : Int} {n K L : Nat} {o : Value} {w : World} {B : Nat} (hL : L < 3) (h : WayAt w B (wayV p xs xb n K L o)) :
    WayAt ((w.setCell ⟨B, 34 + L * 2, none⟩ (.int .i64 (metS p xs xb n L))).setCell ⟨B, 34 + L * 2 + 1, none⟩ (.int .i64 (metB p xs xb n L))) B (wayV p xs xb n K (L + 1) o) := by
  refine ((h.put _ _).put _ _).congr fun i hi => ?_
  show (if i = 34 + L * 2 + 1 then _ else if i = 34 + L * 2 then _ else _) = _
  by_cases h1 : i = 34 + L * 2 + 1
  · subst h1
    rw [if_pos rfl]
    unfold wayV
    rw [if_neg (by omega), if_neg (by omega), if_pos (by omega), show (34 + L * 2 + 1 - 34) / 2 = L by omega, show (34 + L * 2 + 1 - 34) % 2 = 1 by omega, if_pos (by omega), if_neg (by omega)]
  rw [if_neg h1]
  by_cases h2 : i = 34 + L * 2
  · subst h2
    rw [if_pos rfl]
    unfold wayV
    rw [if_neg (by omega), if_neg (by omega), if_pos (by omega), show (34 + L * 2 - 34) / 2 = L by omega, show (34 + L * 2 - 34) % 2 = 0 by omega, if_pos (by omega), if_pos rfl]
  rw [if_neg h2]
  unfold wayV
  by_cases h3 : i < 2
  · rw [if_pos h3, if_pos h3]
  by_cases h4 : i < 34
  · rw [if_neg h3, if_neg h3, if_pos h4, if_pos h4]
  rw [if_neg h3, if_neg h3, if_neg h4, if_neg h4]
  by_cases h5 : i < 40
  · rw [if_pos h5, if_pos h5]
    by_cases h6 : (i - 34) / 2 < L
    · rw [if_pos h6, if_pos (show (i - 34) / 2 < L + 1 by omega)]
    · rw [if_neg h6, if_neg (by omega)]
  · rw [if_neg h5, if_neg h5]
theorem way_kids {p : PoolD} {xs xb : Int} {n L M : Nat} {o : Value} {w : World} {B : Nat} (hL : L < 2) (h : WayAt w B (wayV p xs xb n L M o)) (hN : ¬ Nil (metS p xs xb n L) (metB p xs xb n L)) :
    WayAt (w.setCells B (2 + L * 16) (kidsA (p.s (metS p xs xb n L).toNat)).toList) B (wayV p xs xb n (L + 1) M o) := by
  have hlen : (kidsA (p.s (metS p xs xb n L).toNat)).toList.length = 16 := by simp [kidsA, arr16_size]
  refine (h.puts (2 + L * 16) _ (by omega)).congr fun i hi => ?_
  show (if 2 + L * 16 ≤ i ∧ i < 2 + L * 16 + _ then _ else _) = _
  rw [hlen]
  by_cases h1 : 2 + L * 16 ≤ i ∧ i < 2 + L * 16 + 16
  · rw [if_pos h1]
    have hj : i - (2 + L * 16) < 16 := by omega
    have e : (kidsA (p.s (metS p xs xb n L).toNat)).toList.getD (i - (2 + L * 16)) undef = .int .i64 (kidCell (p.s (metS p xs xb n L).toNat) (i - (2 + L * 16))) := by
      rw [List.getD_eq_getElem?_getD, Array.getElem?_toList]
      have := arr16_at (kidCell (p.s (metS p xs xb n L).toNat)) hj
      rw [show kidsA (p.s (metS p xs xb n L).toNat) = arr16 (kidCell (p.s (metS p xs xb n L).toNat)) from rfl, this]
      rfl
    rw [e]
    unfold wayV kidC
    rw [if_neg (by omega), if_pos (by omega), show (i - 2) / 16 = L by omega, if_pos (by omega), if_neg hN, show (i - 2) % 16 = i - (2 + L * 16) by omega]
  · rw [if_neg h1]
    unfold wayV
    by_cases h3 : i < 2
    · rw [if_pos h3, if_pos h3]
    rw [if_neg h3, if_neg h3]
    by_cases h4 : i < 34
    · rw [if_pos h4, if_pos h4]
      by_cases h6 : (i - 2) / 16 < L
      · rw [if_pos h6, if_pos (by omega)]
      · rw [if_neg h6, if_neg (by omega)]
    · rw [if_neg h4, if_neg h4]
/-- Below what is none there is nothing. -/
theorem way_end {p : PoolD} {xs xb : Int} {n L : Nat} {o : Value} {w : World} {B : Nat} (hL : L < 3) (h : WayAt w B (wayV p xs xb n L (L + 1) o)) (hN : L < 2 → Nil (metS p xs xb n L) (metB p xs xb n L)) : WayAt w B (wayV p xs xb n 2 3 o) := by
  refine h.congr fun i hi => ?_
  have hz : ∀ K, L ≤ K → K < 3 → L < 2 → Nil (metS p xs xb n K) (metB p xs xb n K) := fun K h1 h2 h3 => by
    have n0 := hN h3
    by_cases e : K = L
    · subst e; exact n0
    have n1 := met_nil n0 h3
    by_cases e1 : K = L + 1
    · subst e1; exact n1
    have n2 := met_nil n1 (by omega)
    rw [show K = L + 1 + 1 by omega]
    exact n2
  unfold wayV
  by_cases h3 : i < 2
  · rw [if_pos h3, if_pos h3]
  rw [if_neg h3, if_neg h3]
  by_cases h4 : i < 34
  · rw [if_pos h4, if_pos h4]
    by_cases h6 : (i - 2) / 16 < L
    · rw [if_pos h6, if_pos (by omega)]
    · rw [if_neg h6, if_pos (by omega)]
      unfold kidC
      rw [if_pos (hz _ (by omega) (by omega) (by omega))]
  · rw [if_neg h4, if_neg h4]
    by_cases h5 : i < 40
    · rw [if_pos h5, if_pos h5]
      by_cases h6 : (i - 34) / 2 < L + 1
      · rw [if_pos h6, if_pos (show (i - 34) / 2 < 3 by omega)]
      · rw [if_neg h6, if_pos (show (i - 34) / 2 < 3 by omega)]
        have := hz ((i - 34) / 2) (by omega) (by omega) (by omega)
        split
        · rw [this.1]
        · rw [this.2]
    · rw [if_neg h5, if_neg h5]
theorem way_old {p : PoolD} {xs xb : Int} {n K M : Nat} {o : Value} {w : World} {B : Nat} (o' : Value) (h : WayAt w B (wayV p xs xb n K M o)) : WayAt (w.setCell ⟨B, 40, none⟩ o') B (wayV p xs xb n K M o') := by
  refine (h.put _ _).congr fun i hi => ?_
  show (if i = 40 then _ else _) = _
  by_cases e : i = 40
  · subst e; rfl
  · rw [if_neg e]
    unfold wayV
    by_cases h3 : i < 2
    · rw [if_pos h3, if_pos h3]
    rw [if_neg h3, if_neg h3]
    by_cases h4 : i < 34
    · rw [if_pos h4, if_pos h4]
    · rw [if_neg h4, if_neg h4, if_pos (show i < 40 by omega), if_pos (show i < 40 by omega)]

/-- What was met, from the page up to the root. -/
def oldW (p : PoolD) (xs xb : Int) (n k : Nat) : List (Int × Int) := kidsUp (fun i => metS p xs xb n (2 - i)) (fun i => metB p xs xb n (2 - i)) k

end Go.Proofs.Ytiijnmpenljniad
