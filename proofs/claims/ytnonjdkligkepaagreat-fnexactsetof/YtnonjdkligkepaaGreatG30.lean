/- What append of a list of pointers to an empty one leaves: a copy in new memory (no law is proved here). -/
import Derived.Test.YtnonjdkligkepaaGreatG6
import Derived.Test.YtnonjdkligkepaaGreatG23
import Derived.Test.YtnonjdkligkepaaGreatG27
import Derived.Test.YtnonjdkligkepaaGreatG17
namespace Go.Proofs.YtnonjdkligkepaaGreat
open Go.RowKit
set_option linter.unusedVariables false

theorem wpList_append_run {P : Program} {w w1 : World} {ops : Array Oper} {rest : List Oper} {o : Oper} {a : Act} {Q : Exit → Act → World → Prop} (hgd : o.guard = none) (s x : Operand) (t : TypeId)
    (ho : o.op = .call { callee := .builtin .append, args := #[s, x], argTypes := #[t, t] }) (vs vx v' : Value) (hs : a.eval s = vs) (hx : a.eval x = vx) (hrun : (Builtin.append_ #[t, t] o.type #[vs, vx]).run P w = .ok v' w1)
    (h : wpList P ops Q rest (a.put o.dst v') w1) : wpList P ops Q (o :: rest) a w := by
  refine wpList_plain hgd fun K hK => ?_
  unfold Oper.wp
  simp [execOp, ho, resolve, invoke, builtin, hs, hx, hrun, Result.andThen]
  exact hK _ _ h

theorem run_copy_ptrs (w : World) (lo hi : Nat) (a : Option Addr) (n c : Nat) (f g : Nat → Int) (h : PtrsAt w lo hi (.slice a n c) n f g) (hn : n ≤ 1048576) (ty : TypeId) : ∃ a' c' kb w1,
    (Builtin.append_ #[44, 44] ty #[.slice (some ⟨w.heap.size, 0, none⟩) 0 0, .slice a n c]).run Tryz.prog (w.alloc (.cells #[] 43)) = .ok (.slice a' n c') w1 ∧ PtrsOwn w1 kb (.slice a' n c') n f g ∧ (0 < n → w.heap.size ≤ kb ∧ kb < w1.heap.size) ∧ Below w.heap.size w w1 ∧ w.heap.size < w1.heap.size := by
  obtain ⟨m1, a0, c0, hv, mc, g1⟩ := h
  simp only [Value.slice.injEq, true_and] at hv
  obtain ⟨rfl, rfl⟩ := hv
  obtain ⟨i0, hi0, hzz⟩ := Option.map_eq_some_iff.1 infoPtrT
  simp only [Prod.mk.injEq] at hzz
  obtain ⟨hz, hs, hby⟩ := hzz
  have ht : Tryz.prog.underlying 44 = some (.slice 43) := by kernel_rfl
  have hown0 : (w.alloc (.cells #[] 43)).ownsRow w.heap.size 43 2 (.slice (some ⟨w.heap.size, 0, none⟩) 0 0) 0 [] := World.ownsRow_made w #[] 0 (Nat.le_refl _) (Nat.zero_le _) (by simp)
  have hba := below_alloc w (.cells #[] 43)
  by_cases h0 : 0 < n
  · obtain ⟨b, off, rfl, _, _, hc⟩ := g1 h0
    have hadd : ∀ j, (⟨b, off, none⟩ : Addr).add j = ⟨b, off + j, none⟩ := fun j => by unfold Addr.add; split <;> simp_all
    obtain ⟨v', w1, hr, r1, r2, _⟩ := run_append_own (P := Tryz.prog) (w.alloc (.cells #[] 43)) w.heap.size 44 ty 43 i0 (.agg #[.int .i64 0, .int .i64 0]) 2 16 ht hi0 hz hs hby rfl (by decide) _ 0 [] hown0 ⟨b, off, none⟩ n c (kc f g n) (kc_len f g n) (fun j u hj => by
        have := kc_cells hc j u hj
        rw [hadd] at this ⊢
        exact (hba.cell (lt_of_cell this)).trans this) (kc_one f g n) (by unfold maxLen; omega) (by omega) (by simp)
    have hown2 : w1.ownsRow w.heap.size 43 2 v' n (kc f g n) := by simpa using r1
    obtain ⟨kb, hp, hk⟩ := ptrs_of_owns m1 hown2
    obtain ⟨_, a', c', rfl, _⟩ := id hp
    have hb1 : Below w.heap.size w w1 := hba.grown r2 (by simp) (fun q hq => by have := hown0.lt q hq; omega)
    exact ⟨a', c', kb, w1, hr, hp, hk, hb1, by have := hk h0; omega⟩
  · obtain rfl : n = 0 := by omega
    have hr := run_append_zero (P := Tryz.prog) (w := w.alloc (.cells #[] 43)) w.heap.size 44 ty 43 i0 2 c a ht hi0 _ 0 [] hown0
    exact ⟨_, 0, 0, _, hr, ⟨Nat.zero_le _, _, 0, rfl, Nat.le_refl _, fun h => absurd h (Nat.lt_irrefl _)⟩, fun h => absurd h (Nat.lt_irrefl _), hba, by simp⟩

end Go.Proofs.YtnonjdkligkepaaGreat

namespace Go.Proofs.YtnonjdkligkepaaGreat
open Go.RowKit Go.Maps
set_option linter.unusedVariables false

def zeroSetD : SetD := ⟨⟨#[]⟩, 0, 0, 0, 0, 0, fun _ => 0, fun _ => 0⟩
open Classical in
/-- The set of a name, or none. -/
noncomputable def setAt (W : WorldD) (x : ByteArray) : SetD := if h : ∃ k, SetNo W x k then W.sets h.choose else zeroSetD
theorem setAt_at {W : WorldD} {x : ByteArray} {k : Nat} (h : SetNo W x k) : setAt W x = W.sets k := by
  have hx : ∃ k, SetNo W x k := ⟨k, h⟩
  unfold setAt
  rw [dif_pos hx, hx.choose_spec.uniq h]
theorem setAt_no {W : WorldD} {x : ByteArray} (h : ∀ k, k < W.sn → (W.sets k).name ≠ x) : setAt W x = zeroSetD := by
  unfold setAt
  rw [dif_neg]
  rintro ⟨k, hk⟩
  exact h k hk.1 hk.2.1
theorem setNo_of {W : WorldD} {x : ByteArray} : ∀ {n : Nat}, n ≤ W.sn → (∃ i, i < n ∧ (W.sets i).name = x) → ∃ k, SetNo W x k
  | 0, _, ⟨i, hi, _⟩ => absurd hi (Nat.not_lt_zero _)
  | n + 1, hn, ⟨i, hi, e⟩ => by
    by_cases hx : ∃ j, j < n ∧ (W.sets j).name = x
    · exact setNo_of (by omega) hx
    · have : i = n := by
        by_cases h : i = n
        · exact h
        · exact absurd ⟨i, by omega, e⟩ hx
      subst this
      exact ⟨i, by omega, e, fun j hj e2 => hx ⟨j, hj, e2⟩⟩
/-- No two sets have one name. -/
def NamesDist (W : WorldD) : Prop := ∀ i, i < W.sn → ∀ j, j < i → (W.sets j).name ≠ (W.sets i).name
theorem SpecNames.rise {W : WorldD} (h : SpecNames W) : ∀ i, i < W.sn → ∀ j, j < i → Rises (W.sets j).name (W.sets i).name
  | 0, _, j, hj => absurd hj (Nat.not_lt_zero _)
  | i + 1, hi, j, hj => by
    have h1 : Rises (W.sets i).name (W.sets (i + 1)).name := (h.2.2.2.2.1 (i + 1) hi).2.1 (by omega)
    by_cases e : j = i
    · subst e; exact h1
    · exact bl_trans _ _ _ (SpecNames.rise h i (by omega) j (by omega)) h1
theorem SpecNames.dist {W : WorldD} (h : SpecNames W) : NamesDist W := fun i hi j hj e => by
  have := h.rise i hi j hj
  unfold Rises at this
  rw [e, bl_irrefl] at this
  exact absurd this (by simp)
/-- How great the lists of what was dropped are. -/
def DeadsN (W : WorldD) : Prop := (∀ i, i < W.sn → (W.sets i).dn ≤ 1048576) ∧ ∀ i, i < W.pn → (W.snaps i).dn ≤ 1048576
theorem setN_one (f : Nat → SetD) : ∀ {n i : Nat}, i < n → setN (f i) ≤ setsN f n
  | n + 1, i, h => by
    show setN (f i) ≤ setsN f n + setN (f n)
    by_cases e : i = n
    · subst e; omega
    · have := setN_one f (show i < n by omega); omega
theorem snapN_one (f : Nat → SnapD) : ∀ {n i : Nat}, i < n → snapN (f i) ≤ snapsN f n
  | n + 1, i, h => by
    show snapN (f i) ≤ snapsN f n + snapN (f n)
    by_cases e : i = n
    · subst e; omega
    · have := snapN_one f (show i < n by omega); omega
theorem worldN_deads {W : WorldD} (h : worldN W ≤ 1048576) : DeadsN W := by
  unfold worldN at h
  refine ⟨fun i hi => ?_, fun i hi => ?_⟩
  · have := setN_one W.sets hi; unfold setN at this; omega
  · have := snapN_one W.snaps hi; unfold snapN at this; omega
open Classical in
noncomputable def snapAns (W : WorldD) (x : Int) : SnapD := if SpecW W then aheadOf W x else zeroSnap
open Classical in
noncomputable def setAns (W : WorldD) (x : ByteArray) : SetD := if SpecW W then setAt W x else zeroSetD
theorem snapAns_yes {W : WorldD} {x : Int} (h : SpecW W) : snapAns W x = aheadOf W x := if_pos h
theorem snapAns_no {W : WorldD} {x : Int} (h : ¬ SpecW W) : snapAns W x = zeroSnap := if_neg h
theorem setAns_yes {W : WorldD} {x : ByteArray} (h : SpecW W) : setAns W x = setAt W x := if_pos h
theorem setAns_no {W : WorldD} {x : ByteArray} (h : ¬ SpecW W) : setAns W x = zeroSetD := if_neg h
theorem snapAns_none {W : WorldD} {x : Int} (h : ∀ k, k < W.pn → (W.snaps k).id ≠ x) : snapAns W x = zeroSnap := by
  by_cases hS : SpecW W
  · rw [snapAns_yes hS, aheadOf_no h]
  · exact snapAns_no hS
theorem setAns_none {W : WorldD} {x : ByteArray} (h : ∀ k, k < W.sn → (W.sets k).name ≠ x) : setAns W x = zeroSetD := by
  by_cases hS : SpecW W
  · rw [setAns_yes hS, setAt_no h]
  · exact setAns_no hS
theorem setAns_long {W : WorldD} {x : ByteArray} (h : 8000 < x.size) : setAns W x = zeroSetD := by
  by_cases hS : SpecW W
  · refine setAns_none (fun k hk e => ?_)
    have := (hS.names.2.2.2.2.1 k hk).1.2.1
    rw [e] at this
    omega
  · exact setAns_no hS
theorem aheadOf_dn {W : WorldD} (h : DeadsN W) (x : Int) : (aheadOf W x).dn ≤ 1048576 := by
  by_cases hx : ∃ k, SnapNo W x k
  · obtain ⟨k, hk⟩ := hx
    rw [aheadOf_at hk]; exact h.2 k hk.1
  · have : aheadOf W x = zeroSnap := by unfold aheadOf; rw [dif_neg hx]
    rw [this]; exact Nat.zero_le _
theorem setAt_dn {W : WorldD} (h : DeadsN W) (x : ByteArray) : (setAt W x).dn ≤ 1048576 := by
  by_cases hx : ∃ k, SetNo W x k
  · obtain ⟨k, hk⟩ := hx
    rw [setAt_at hk]; exact h.1 k hk.1
  · have : setAt W x = zeroSetD := by unfold setAt; rw [dif_neg hx]
    rw [this]; exact Nat.zero_le _
/-- The answer is a snapshot, what it dropped in new memory. -/
def NewSnap (s : SnapD) (w : World) (e : Ending) (w' : World) : Prop := ∃ v b, e = .returned (snapV v s) ∧ PtrsOwn w' b v s.dn s.ds s.db ∧ (0 < s.dn → w.heap.size ≤ b ∧ b < w'.heap.size) ∧ Below w.heap.size w w'
def NewSet (s : SetD) (w : World) (e : Ending) (w' : World) : Prop := ∃ v b, e = .returned (setV v s) ∧ PtrsOwn w' b v s.dn s.ds s.db ∧ (0 < s.dn → w.heap.size ≤ b ∧ b < w'.heap.size) ∧ Below w.heap.size w w'
theorem newSnap_zero {w w' : World} (h : Below w.heap.size w w') : NewSnap zeroSnap w (.returned (.agg #[.int .i64 0, .string ⟨#[]⟩, .string ⟨#[]⟩, .int .i64 0, .int .i64 0, .int .i64 0, .int .i64 0, .slice none 0 0])) w' :=
  ⟨.slice none 0 0, 0, rfl, ⟨Nat.zero_le _, none, 0, rfl, Nat.le_refl _, fun h => absurd h (Nat.lt_irrefl _)⟩, fun h => absurd h (Nat.lt_irrefl _), h⟩
theorem newSet_zero {w w' : World} (h : Below w.heap.size w w') : NewSet zeroSetD w (.returned (.agg #[.string ⟨#[]⟩, .int .i64 0, .int .i64 0, .int .i64 0, .int .i64 0, .slice none 0 0])) w' :=
  ⟨.slice none 0 0, 0, rfl, ⟨Nat.zero_le _, none, 0, rfl, Nat.le_refl _, fun h => absurd h (Nat.lt_irrefl _)⟩, fun h => absurd h (Nat.lt_irrefl _), h⟩
/-- What is found at a name. -/
theorem setNames_look {W : WorldD} {w : World} {lo hi : Nat} {vd : Nat → Value} (hD : NamesDist W) (hd : SetDeads w lo hi W.sn W.sets vd) (x : ByteArray) : ∃ a c, (putD (fun i => keyS (W.sets i).name) (fun i => setV (vd i) (W.sets i)) W.sn).atKey (keyS x) (.held (.agg #[.string ⟨#[]⟩, .int .i64 0, .int .i64 0, .int .i64 0, .int .i64 0, .slice none 0 0])) = .held (setV (.slice a (setAt W x).dn c) (setAt W x)) ∧ PtrsAt w lo hi (.slice a (setAt W x).dn c) (setAt W x).dn (setAt W x).ds (setAt W x).db := by
  have hk : KeysOk (fun i => keyS (W.sets i).name) := fun i => keyS_key _
  by_cases hx : ∃ k, SetNo W x k
  · obtain ⟨k, hk'⟩ := hx
    rw [setAt_at hk']
    have hp := hd k hk'.1
    obtain ⟨_, a, c, hv, _⟩ := id hp
    refine ⟨a, c, ?_, by rw [← hv]; exact hp⟩
    have := putD_at hk (fun i => setV (vd i) (W.sets i)) (.held (.agg #[.string ⟨#[]⟩, .int .i64 0, .int .i64 0, .int .i64 0, .int .i64 0, .slice none 0 0])) W.sn k hk'.1 (fun j h1 h2 e => hD j h2 k h1 (keyS_inj e).symm)
    rw [hk'.2.1] at this
    rw [this, hv]
  · have e : setAt W x = zeroSetD := by unfold setAt; rw [dif_neg hx]
    rw [e]
    refine ⟨none, 0, ?_, ⟨Nat.zero_le _, none, 0, rfl, Nat.le_refl _, fun h => absurd h (by simp [zeroSetD])⟩⟩
    refine putD_none hk _ (fun i hi' e2 => ?_) _
    exact hx (setNo_of (Nat.le_refl _) ⟨i, hi', keyS_inj e2⟩)

end Go.Proofs.YtnonjdkligkepaaGreat

namespace Go.Proofs.YtnonjdkligkepaaGreat
open Go.RowKit Go.Maps
set_option linter.unusedVariables false

set_option maxRecDepth 20000 in
set_option maxHeartbeats 1000000 in
theorem specSnapOf_any (v0 v1 v2 v3 : Value) (lo hi : Nat) (W : WorldD) (x : Int) (w : World) (h : WorldAt w lo hi v0 v1 v2 v3 W) (hN : DeadsN W) : Calls Tryz.prog 12 #[worldV v0 v1 v2 v3 W, .int .i64 x] w (NewSnap (snapAns W x) w) := by
  have Hp := hideW h
  have HN := hideW hN
  obtain ⟨m1, al, cl, rfl, ml, -⟩ := id h.snaps
  clear h hN
  unfold maxLen at m1
  have hst : ∀ Wa Wb : World, Wa = w.alloc (.cells #[v0, v1, .int .i64 W.time, .int .i64 W.next, v2, .slice al W.pn cl] 38) → Wb = Wa.alloc (.cells #[.int .i64 0, .string ⟨#[]⟩, .string ⟨#[]⟩, .int .i64 0, .int .i64 0, .int .i64 0, .int .i64 0, .slice none 0 0] 46) → Box6 Wb w.heap.size v0 v1 (.int .i64 W.time) (.int .i64 W.next) v2 (.slice al W.pn cl) ∧ Row8 Wb (w.heap.size + 1) (.int .i64 0) (.string ⟨#[]⟩) (.string ⟨#[]⟩) (.int .i64 0) (.int .i64 0) (.int .i64 0) (.int .i64 0) (.slice none 0 0) ∧ Below w.heap.size w Wb ∧ Wb.heap.size = w.heap.size + 1 + 1 := by
    rintro Wa Wb ea eb
    have ha := below_alloc w (.cells #[v0, v1, .int .i64 W.time, .int .i64 W.next, v2, .slice al W.pn cl] 38)
    have h1 := Box6.new w v0 v1 (.int .i64 W.time) (.int .i64 W.next) v2 (.slice al W.pn cl) 38
    have z1 : Wa.heap.size = w.heap.size + 1 := by rw [ea]; exact World.size_alloc _ _
    rw [← ea] at ha h1
    have hb := below_alloc Wa (.cells #[.int .i64 0, .string ⟨#[]⟩, .string ⟨#[]⟩, .int .i64 0, .int .i64 0, .int .i64 0, .int .i64 0, .slice none 0 0] 46)
    have h2 := Row8.new Wa (.int .i64 0) (.string ⟨#[]⟩) (.string ⟨#[]⟩) (.int .i64 0) (.int .i64 0) (.int .i64 0) (.int .i64 0) (.slice none 0 0) 46
    have z2 : Wb.heap.size = w.heap.size + 1 + 1 := by rw [eb, World.size_alloc, z1]
    rw [← eb, z1] at h2
    rw [← eb] at hb
    exact ⟨h1.below hb, h2, below_next ha hb, z2⟩
  obtain ⟨hX, hY, hbw, hsz⟩ := hst _ _ rfl rfl
  have HX := hideW hX
  have HY := hideW hY
  have HS := hideW hsz
  obtain ⟨⟨x0, -⟩, ⟨x1, -⟩, ⟨x2, -⟩, ⟨x3, -⟩, ⟨x4, -⟩, ⟨x5, -⟩⟩ := HX.out
  clear hst hX hY hsz
  go_enter Tryz.func12, Tryz.ntmps12
  go_wp2_with fail
  generalize (w.alloc (.cells #[v0, v1, .int .i64 W.time, .int .i64 W.next, v2, .slice al W.pn cl] 38)).alloc (.cells #[.int .i64 0, .string ⟨#[]⟩, .string ⟨#[]⟩, .int .i64 0, .int .i64 0, .int .i64 0, .int .i64 0, .slice none 0 0] 46) = W0 at HX HY HS hbw x0 x1 x2 x3 x4 x5 ⊢
  refine (l04Snap_any _ _ _ _ lo hi W x W0 (Hp.out.below hbw)).mono ?_
  rintro e w1 ⟨r, rfl, hr, hb1⟩
  have hB1 := below_next hbw hb1
  have HX1 := hideW (HX.out.below hb1)
  have HY1 := hideW (HY.out.below hb1)
  have HS1 := hideW (show w.heap.size + 1 + 1 ≤ w1.heap.size by have := HS.out; have := hb1.size; omega)
  clear x0 x1 x2 x3 x4 x5 hb1 hbw HX HY HS
  rcases hr with ⟨k, hk, hke, hkl, rfl⟩ | ⟨hno, rfl⟩
  rotate_left
  · have HA := hideW (show snapAns W x = zeroSnap from snapAns_none hno)
    clear hno
    obtain ⟨⟨y0, y0'⟩, ⟨y1, y1'⟩, ⟨y2, y2'⟩, ⟨y3, y3'⟩, ⟨y4, y4'⟩, ⟨y5, y5'⟩, ⟨y6, y6'⟩, ⟨y7, y7'⟩⟩ := HY1.out
    go_wp2
    have HR := HY1.out.put (.int .i64 0) (.string ⟨#[]⟩) (.string ⟨#[]⟩) (.int .i64 0) (.int .i64 0) (.int .i64 0) (.int .i64 0) (.slice none 0 0)
    refine bodyPost_ret (v := .agg #[.int .i64 0, .string ⟨#[]⟩, .string ⟨#[]⟩, .int .i64 0, .int .i64 0, .int .i64 0, .int .i64 0, .slice none 0 0]) (by simp [results, Tryz.results12, go_sem, HR.1.1, HR.2.1.1, HR.2.2.1.1, HR.2.2.2.1.1, HR.2.2.2.2.1.1, HR.2.2.2.2.2.1.1, HR.2.2.2.2.2.2.1.1, HR.2.2.2.2.2.2.2.1]) rfl ?_
    rw [HA.out]
    exact newSnap_zero ((hB1.trans ((Turned.putR8 w1 (w.heap.size + 1) (.int .i64 0) (.string ⟨#[]⟩) (.string ⟨#[]⟩) (.int .i64 0) (.int .i64 0) (.int .i64 0) (.int .i64 0) (.slice none 0 0)).below (B := w.heap.size) (by have := HS1.out; omega) (fun k e => by omega))))
  · have Hno := hideW (show SnapNo W x k from ⟨hk, hke, hkl⟩)
    have hk' : (k : Int) < (W.pn : Int) := by omega
    clear hke hkl
    obtain ⟨⟨x0, -⟩, ⟨x1, -⟩, ⟨x2, -⟩, ⟨x3, -⟩, ⟨x4, -⟩, ⟨x5, -⟩⟩ := HX1.out
    go_wp2_with fail
    refine (specWorldRight_any _ _ _ _ lo hi W w1 (Hp.out.below hB1)).mono ?_
    rintro e w2 ⟨⟨t, rfl, ht⟩, hb2⟩
    have Ht := hideW ht
    have hB2 := below_next hB1 hb2
    have HX2 := hideW (HX1.out.below hb2)
    have HY2 := hideW (HY1.out.below hb2)
    have HS2 := hideW (show w.heap.size + 1 + 1 ≤ w2.heap.size by have := HS1.out; have := hb2.size; omega)
    clear ht x0 x1 x2 x3 x4 x5 hb2 hB1 HX1 HY1 HS1
    cases t
    · have HA := hideW (show snapAns W x = zeroSnap from snapAns_no (fun h => absurd (Ht.out.2 h) (by simp)))
      obtain ⟨⟨y0, y0'⟩, ⟨y1, y1'⟩, ⟨y2, y2'⟩, ⟨y3, y3'⟩, ⟨y4, y4'⟩, ⟨y5, y5'⟩, ⟨y6, y6'⟩, ⟨y7, y7'⟩⟩ := HY2.out
      go_wp2
      have HR := HY2.out.put (.int .i64 0) (.string ⟨#[]⟩) (.string ⟨#[]⟩) (.int .i64 0) (.int .i64 0) (.int .i64 0) (.int .i64 0) (.slice none 0 0)
      refine bodyPost_ret (v := .agg #[.int .i64 0, .string ⟨#[]⟩, .string ⟨#[]⟩, .int .i64 0, .int .i64 0, .int .i64 0, .int .i64 0, .slice none 0 0]) (by simp [results, Tryz.results12, go_sem, HR.1.1, HR.2.1.1, HR.2.2.1.1, HR.2.2.2.1.1, HR.2.2.2.2.1.1, HR.2.2.2.2.2.1.1, HR.2.2.2.2.2.2.1.1, HR.2.2.2.2.2.2.2.1]) rfl ?_
      rw [HA.out]
      exact newSnap_zero ((hB2.trans ((Turned.putR8 w2 (w.heap.size + 1) (.int .i64 0) (.string ⟨#[]⟩) (.string ⟨#[]⟩) (.int .i64 0) (.int .i64 0) (.int .i64 0) (.int .i64 0) (.slice none 0 0)).below (B := w.heap.size) (by have := HS2.out; omega) (fun k e => by omega))))
    · have HA := hideW (show snapAns W x = W.snaps k by rw [snapAns_yes (Ht.out.1 rfl), aheadOf_at Hno.out])
      obtain ⟨b, off, vd, rfl, hs⟩ := (Hp.out.snaps.below hB2).cells hk
      obtain ⟨-, ad, cd, rfl, -, -⟩ := id hs.dead
      have Hs := hideW hs
      have q0 := hs.c0
      have q1 := hs.c1
      have q2 := hs.c2
      have q3 := hs.c3
      have q4 := hs.c4
      have q5 := hs.c5
      have q6 := hs.c6
      have q7 := hs.c7
      clear hs
      -- the variable, the new list
      have ha3 := below_alloc w2 (.cells #[.int .i64 (W.snaps k).id, .string (W.snaps k).name, .string (W.snaps k).set, .int .i64 (W.snaps k).prev, .int .i64 (W.snaps k).time, .int .i64 (W.snaps k).rs, .int .i64 (W.snaps k).rb, .slice ad (W.snaps k).dn cd] 46)
      have hZ := Row8.new w2 (.int .i64 (W.snaps k).id) (.string (W.snaps k).name) (.string (W.snaps k).set) (.int .i64 (W.snaps k).prev) (.int .i64 (W.snaps k).time) (.int .i64 (W.snaps k).rs) (.int .i64 (W.snaps k).rb) (.slice ad (W.snaps k).dn cd) 46
      have hz3 : (w2.alloc (.cells #[.int .i64 (W.snaps k).id, .string (W.snaps k).name, .string (W.snaps k).set, .int .i64 (W.snaps k).prev, .int .i64 (W.snaps k).time, .int .i64 (W.snaps k).rs, .int .i64 (W.snaps k).rb, .slice ad (W.snaps k).dn cd] 46)).heap.size = w2.heap.size + 1 := World.size_alloc _ _
      obtain ⟨a', c', kb, w3, hrun, hp3, hk3, hb3, hs3⟩ := run_copy_ptrs (w2.alloc (.cells #[.int .i64 (W.snaps k).id, .string (W.snaps k).name, .string (W.snaps k).set, .int .i64 (W.snaps k).prev, .int .i64 (W.snaps k).time, .int .i64 (W.snaps k).rs, .int .i64 (W.snaps k).rb, .slice ad (W.snaps k).dn cd] 46)) lo hi ad (W.snaps k).dn cd (W.snaps k).ds (W.snaps k).db (Hs.out.dead.below ha3) (HN.out.2 k hk) 44
      have ha4 := below_alloc (w2.alloc (.cells #[.int .i64 (W.snaps k).id, .string (W.snaps k).name, .string (W.snaps k).set, .int .i64 (W.snaps k).prev, .int .i64 (W.snaps k).time, .int .i64 (W.snaps k).rs, .int .i64 (W.snaps k).rb, .slice ad (W.snaps k).dn cd] 46)) (.cells #[] 43)
      obtain ⟨⟨z0, z0'⟩, ⟨z1, z1'⟩, ⟨z2, z2'⟩, ⟨z3, z3'⟩, ⟨z4, z4'⟩, ⟨z5, z5'⟩, ⟨z6, z6'⟩, ⟨z7, z7'⟩⟩ := hZ.below ha4
      have HZ3 := hideW (hZ.below hb3)
      have hB3 := below_next (below_next hB2 ha3) hb3
      have HY3 := hideW ((HY2.out.below ha3).below hb3)
      have HP3 := hideW hp3
      have HK3 := hideW hk3
      have HS3 := hideW (show w2.heap.size + 1 < w3.heap.size by omega)
      rw [hz3] at hrun hk3
      obtain ⟨⟨x0, -⟩, ⟨x1, -⟩, ⟨x2, -⟩, ⟨x3, -⟩, ⟨x4, -⟩, ⟨x5, -⟩⟩ := HX2.out
      obtain ⟨⟨X0, -⟩, ⟨X1, -⟩, ⟨X2, -⟩, ⟨X3, -⟩, ⟨X4, -⟩, ⟨X5, -⟩⟩ := (HX2.out.below ha3)
      obtain ⟨⟨p0, p0'⟩, ⟨p1, p1'⟩, ⟨p2, p2'⟩, ⟨p3, p3'⟩, ⟨p4, p4'⟩, ⟨p5, p5'⟩, ⟨p6, p6'⟩, ⟨p7, p7'⟩⟩ := HZ3.out
      obtain ⟨⟨y0, y0'⟩, ⟨y1, y1'⟩, ⟨y2, y2'⟩, ⟨y3, y3'⟩, ⟨y4, y4'⟩, ⟨y5, y5'⟩, ⟨y6, y6'⟩, ⟨y7, y7'⟩⟩ := HY3.out
      have Hz3 := hideW hz3
      have Hrun := hideW hrun
      have hV : w2.heap.size ≠ w.heap.size + 1 := by have := HS2.out; omega
      have hV' : w.heap.size + 1 ≠ w2.heap.size := by have := HS2.out; omega
      clear hp3 hk3 hb3 hs3 ha3 ha4 hZ hz3 hrun
      go_wp2_with (first
        | (at_builtin; refine wpList_append_run rfl _ _ 44 rfl _ _ _ rfl rfl Hrun.out ?_)
        | go_in)
      have hs2 := HS2.out
      have hs3 := HS3.out
      have T1 := Turned.put w3 w2.heap.size 7 (.slice a' (W.snaps k).dn c')
      have HR := (HY3.out.turned T1 (fun e => absurd e (by omega))).put (.int .i64 (W.snaps k).id) (.string (W.snaps k).name) (.string (W.snaps k).set) (.int .i64 (W.snaps k).prev) (.int .i64 (W.snaps k).time) (.int .i64 (W.snaps k).rs) (.int .i64 (W.snaps k).rb) (.slice a' (W.snaps k).dn c')
      have T2 := Turned.putR8 (w3.setCell ⟨w2.heap.size, 7, none⟩ (.slice a' (W.snaps k).dn c')) (w.heap.size + 1) (.int .i64 (W.snaps k).id) (.string (W.snaps k).name) (.string (W.snaps k).set) (.int .i64 (W.snaps k).prev) (.int .i64 (W.snaps k).time) (.int .i64 (W.snaps k).rs) (.int .i64 (W.snaps k).rb) (.slice a' (W.snaps k).dn c')
      have TT := (T1.mono (T := fun k => k = w.heap.size + 1 ∨ k = w2.heap.size) (fun k e => Or.inr e)).trans (T2.mono (fun k e => Or.inl e))
      refine bodyPost_ret (v := .agg #[.int .i64 (W.snaps k).id, .string (W.snaps k).name, .string (W.snaps k).set, .int .i64 (W.snaps k).prev, .int .i64 (W.snaps k).time, .int .i64 (W.snaps k).rs, .int .i64 (W.snaps k).rb, .slice a' (W.snaps k).dn c']) (by simp [results, Tryz.results12, go_sem, HR.1.1, HR.2.1.1, HR.2.2.1.1, HR.2.2.2.1.1, HR.2.2.2.2.1.1, HR.2.2.2.2.2.1.1, HR.2.2.2.2.2.2.1.1, HR.2.2.2.2.2.2.2.1]) rfl ?_
      rw [HA.out]
      refine ⟨.slice a' (W.snaps k).dn c', kb, rfl, HP3.out.turned TT (fun h0 e => by have h1 := HK3.out h0; have h2 := Hz3.out; omega), fun h0 => ?_, hB3.trans (TT.below (B := w.heap.size) (by omega) (fun k e => by omega))⟩
      have h1 := HK3.out h0
      have h2 := Hz3.out
      simp only [World.size_setCell]
      omega

set_option maxRecDepth 20000 in
set_option maxHeartbeats 1000000 in
theorem specSetOf_any (v0 v1 v2 v3 : Value) (lo hi : Nat) (W : WorldD) (x : ByteArray) (w : World) (h : WorldAt w lo hi v0 v1 v2 v3 W) (hN : DeadsN W) (hsx : x.size ≤ maxLen) : Calls Tryz.prog 18 #[worldV v0 v1 v2 v3 W, .string x] w (NewSet (setAns W x) w) := by
  have Hp := hideW h
  have HN := hideW hN
  obtain ⟨m1, al, cl, rfl, ml, -⟩ := id h.sets
  clear h hN
  unfold maxLen at m1
  have hst : ∀ Wa Wb : World, Wa = w.alloc (.cells #[v0, v1, .int .i64 W.time, .int .i64 W.next, .slice al W.sn cl, v3] 38) → Wb = Wa.alloc (.cells #[.string ⟨#[]⟩, .int .i64 0, .int .i64 0, .int .i64 0, .int .i64 0, .slice none 0 0] 53) → Box6 Wb w.heap.size v0 v1 (.int .i64 W.time) (.int .i64 W.next) (.slice al W.sn cl) v3 ∧ Box6 Wb (w.heap.size + 1) (.string ⟨#[]⟩) (.int .i64 0) (.int .i64 0) (.int .i64 0) (.int .i64 0) (.slice none 0 0) ∧ Below w.heap.size w Wb ∧ Wb.heap.size = w.heap.size + 1 + 1 := by
    rintro Wa Wb ea eb
    have ha := below_alloc w (.cells #[v0, v1, .int .i64 W.time, .int .i64 W.next, .slice al W.sn cl, v3] 38)
    have h1 := Box6.new w v0 v1 (.int .i64 W.time) (.int .i64 W.next) (.slice al W.sn cl) v3 38
    have z1 : Wa.heap.size = w.heap.size + 1 := by rw [ea]; exact World.size_alloc _ _
    rw [← ea] at ha h1
    have hb := below_alloc Wa (.cells #[.string ⟨#[]⟩, .int .i64 0, .int .i64 0, .int .i64 0, .int .i64 0, .slice none 0 0] 53)
    have h2 := Box6.new Wa (.string ⟨#[]⟩) (.int .i64 0) (.int .i64 0) (.int .i64 0) (.int .i64 0) (.slice none 0 0) 53
    have z2 : Wb.heap.size = w.heap.size + 1 + 1 := by rw [eb, World.size_alloc, z1]
    rw [← eb, z1] at h2
    rw [← eb] at hb
    exact ⟨h1.below hb, h2, below_next ha hb, z2⟩
  obtain ⟨hX, hY, hbw, hsz⟩ := hst _ _ rfl rfl
  have HX := hideW hX
  have HY := hideW hY
  have HS := hideW hsz
  obtain ⟨⟨x0, -⟩, ⟨x1, -⟩, ⟨x2, -⟩, ⟨x3, -⟩, ⟨x4, -⟩, ⟨x5, -⟩⟩ := HX.out
  clear hst hX hY hsz
  go_enter Tryz.func18, Tryz.ntmps18
  go_wp2_with fail
  generalize (w.alloc (.cells #[v0, v1, .int .i64 W.time, .int .i64 W.next, .slice al W.sn cl, v3] 38)).alloc (.cells #[.string ⟨#[]⟩, .int .i64 0, .int .i64 0, .int .i64 0, .int .i64 0, .slice none 0 0] 53) = W0 at HX HY HS hbw x0 x1 x2 x3 x4 x5 ⊢
  refine (l04Set_any _ _ _ _ lo hi W x W0 (Hp.out.below hbw)).mono ?_
  rintro e w1 ⟨r, rfl, hr, hb1⟩
  have hB1 := below_next hbw hb1
  have HX1 := hideW (HX.out.below hb1)
  have HY1 := hideW (HY.out.below hb1)
  have HS1 := hideW (show w.heap.size + 1 + 1 ≤ w1.heap.size by have := HS.out; have := hb1.size; omega)
  clear x0 x1 x2 x3 x4 x5 hb1 hbw HX HY HS
  by_cases hbig : 8000 < x.size
  · have hbig' : (8000 : Int) < (x.size : Int) := by omega
    have HA := hideW (show setAns W x = zeroSetD from setAns_long hbig)
    clear hr
    obtain ⟨⟨y0, y0'⟩, ⟨y1, y1'⟩, ⟨y2, y2'⟩, ⟨y3, y3'⟩, ⟨y4, y4'⟩, ⟨y5, y5'⟩⟩ := HY1.out
    go_wp2
    have HR := HY1.out.put (.string ⟨#[]⟩) (.int .i64 0) (.int .i64 0) (.int .i64 0) (.int .i64 0) (.slice none 0 0)
    refine bodyPost_ret (v := .agg #[.string ⟨#[]⟩, .int .i64 0, .int .i64 0, .int .i64 0, .int .i64 0, .slice none 0 0]) (by simp [results, Tryz.results18, go_sem, HR.1.1, HR.2.1.1, HR.2.2.1.1, HR.2.2.2.1.1, HR.2.2.2.2.1.1, HR.2.2.2.2.2.1]) rfl ?_
    rw [HA.out]
    exact newSet_zero ((hB1.trans ((Turned.put6 w1 (w.heap.size + 1) (.string ⟨#[]⟩) (.int .i64 0) (.int .i64 0) (.int .i64 0) (.int .i64 0) (.slice none 0 0)).below (B := w.heap.size) (by have := HS1.out; omega) (fun k e => by omega))))
  have hbig' : ¬ (8000 : Int) < (x.size : Int) := by omega
  unfold maxLen at hsx
  rcases hr with ⟨k, hk, hke, hkl, rfl⟩ | ⟨hno, rfl⟩
  rotate_left
  · have HA := hideW (show setAns W x = zeroSetD from setAns_none hno)
    clear hno
    obtain ⟨⟨y0, y0'⟩, ⟨y1, y1'⟩, ⟨y2, y2'⟩, ⟨y3, y3'⟩, ⟨y4, y4'⟩, ⟨y5, y5'⟩⟩ := HY1.out
    go_wp2
    have HR := HY1.out.put (.string ⟨#[]⟩) (.int .i64 0) (.int .i64 0) (.int .i64 0) (.int .i64 0) (.slice none 0 0)
    refine bodyPost_ret (v := .agg #[.string ⟨#[]⟩, .int .i64 0, .int .i64 0, .int .i64 0, .int .i64 0, .slice none 0 0]) (by simp [results, Tryz.results18, go_sem, HR.1.1, HR.2.1.1, HR.2.2.1.1, HR.2.2.2.1.1, HR.2.2.2.2.1.1, HR.2.2.2.2.2.1]) rfl ?_
    rw [HA.out]
    exact newSet_zero ((hB1.trans ((Turned.put6 w1 (w.heap.size + 1) (.string ⟨#[]⟩) (.int .i64 0) (.int .i64 0) (.int .i64 0) (.int .i64 0) (.slice none 0 0)).below (B := w.heap.size) (by have := HS1.out; omega) (fun k e => by omega))))
  · have Hno := hideW (show SetNo W x k from ⟨hk, hke, hkl⟩)
    have hk' : (k : Int) < (W.sn : Int) := by omega
    clear hke hkl
    obtain ⟨⟨x0, -⟩, ⟨x1, -⟩, ⟨x2, -⟩, ⟨x3, -⟩, ⟨x4, -⟩, ⟨x5, -⟩⟩ := HX1.out
    go_wp2_with fail
    refine (specWorldRight_any _ _ _ _ lo hi W w1 (Hp.out.below hB1)).mono ?_
    rintro e w2 ⟨⟨t, rfl, ht⟩, hb2⟩
    have Ht := hideW ht
    have hB2 := below_next hB1 hb2
    have HX2 := hideW (HX1.out.below hb2)
    have HY2 := hideW (HY1.out.below hb2)
    have HS2 := hideW (show w.heap.size + 1 + 1 ≤ w2.heap.size by have := HS1.out; have := hb2.size; omega)
    clear ht x0 x1 x2 x3 x4 x5 hb2 hB1 HX1 HY1 HS1
    cases t
    · have HA := hideW (show setAns W x = zeroSetD from setAns_no (fun h => absurd (Ht.out.2 h) (by simp)))
      obtain ⟨⟨y0, y0'⟩, ⟨y1, y1'⟩, ⟨y2, y2'⟩, ⟨y3, y3'⟩, ⟨y4, y4'⟩, ⟨y5, y5'⟩⟩ := HY2.out
      go_wp2
      have HR := HY2.out.put (.string ⟨#[]⟩) (.int .i64 0) (.int .i64 0) (.int .i64 0) (.int .i64 0) (.slice none 0 0)
      refine bodyPost_ret (v := .agg #[.string ⟨#[]⟩, .int .i64 0, .int .i64 0, .int .i64 0, .int .i64 0, .slice none 0 0]) (by simp [results, Tryz.results18, go_sem, HR.1.1, HR.2.1.1, HR.2.2.1.1, HR.2.2.2.1.1, HR.2.2.2.2.1.1, HR.2.2.2.2.2.1]) rfl ?_
      rw [HA.out]
      exact newSet_zero ((hB2.trans ((Turned.put6 w2 (w.heap.size + 1) (.string ⟨#[]⟩) (.int .i64 0) (.int .i64 0) (.int .i64 0) (.int .i64 0) (.slice none 0 0)).below (B := w.heap.size) (by have := HS2.out; omega) (fun k e => by omega))))
    · have HA := hideW (show setAns W x = W.sets k by rw [setAns_yes (Ht.out.1 rfl), setAt_at Hno.out])
      obtain ⟨b, off, vd, rfl, hs⟩ := (Hp.out.sets.below hB2).cells hk
      obtain ⟨-, ad, cd, rfl, -, -⟩ := id hs.dead
      have Hs := hideW hs
      have q0 := hs.c0
      have q1 := hs.c1
      have q2 := hs.c2
      have q3 := hs.c3
      have q4 := hs.c4
      have q5 := hs.c5
      clear hs
      -- the variable, the new list
      have ha3 := below_alloc w2 (.cells #[.string (W.sets k).name, .int .i64 (W.sets k).origin, .int .i64 (W.sets k).prev, .int .i64 (W.sets k).rs, .int .i64 (W.sets k).rb, .slice ad (W.sets k).dn cd] 53)
      have hZ := Box6.new w2 (.string (W.sets k).name) (.int .i64 (W.sets k).origin) (.int .i64 (W.sets k).prev) (.int .i64 (W.sets k).rs) (.int .i64 (W.sets k).rb) (.slice ad (W.sets k).dn cd) 53
      have hz3 : (w2.alloc (.cells #[.string (W.sets k).name, .int .i64 (W.sets k).origin, .int .i64 (W.sets k).prev, .int .i64 (W.sets k).rs, .int .i64 (W.sets k).rb, .slice ad (W.sets k).dn cd] 53)).heap.size = w2.heap.size + 1 := World.size_alloc _ _
      obtain ⟨a', c', kb, w3, hrun, hp3, hk3, hb3, hs3⟩ := run_copy_ptrs (w2.alloc (.cells #[.string (W.sets k).name, .int .i64 (W.sets k).origin, .int .i64 (W.sets k).prev, .int .i64 (W.sets k).rs, .int .i64 (W.sets k).rb, .slice ad (W.sets k).dn cd] 53)) lo hi ad (W.sets k).dn cd (W.sets k).ds (W.sets k).db (Hs.out.dead.below ha3) (HN.out.1 k hk) 44
      have ha4 := below_alloc (w2.alloc (.cells #[.string (W.sets k).name, .int .i64 (W.sets k).origin, .int .i64 (W.sets k).prev, .int .i64 (W.sets k).rs, .int .i64 (W.sets k).rb, .slice ad (W.sets k).dn cd] 53)) (.cells #[] 43)
      obtain ⟨⟨z0, z0'⟩, ⟨z1, z1'⟩, ⟨z2, z2'⟩, ⟨z3, z3'⟩, ⟨z4, z4'⟩, ⟨z5, z5'⟩⟩ := hZ.below ha4
      have HZ3 := hideW (hZ.below hb3)
      have hB3 := below_next (below_next hB2 ha3) hb3
      have HY3 := hideW ((HY2.out.below ha3).below hb3)
      have HP3 := hideW hp3
      have HK3 := hideW hk3
      have HS3 := hideW (show w2.heap.size + 1 < w3.heap.size by omega)
      rw [hz3] at hrun hk3
      obtain ⟨⟨x0, -⟩, ⟨x1, -⟩, ⟨x2, -⟩, ⟨x3, -⟩, ⟨x4, -⟩, ⟨x5, -⟩⟩ := HX2.out
      obtain ⟨⟨X0, -⟩, ⟨X1, -⟩, ⟨X2, -⟩, ⟨X3, -⟩, ⟨X4, -⟩, ⟨X5, -⟩⟩ := (HX2.out.below ha3)
      obtain ⟨⟨p0, p0'⟩, ⟨p1, p1'⟩, ⟨p2, p2'⟩, ⟨p3, p3'⟩, ⟨p4, p4'⟩, ⟨p5, p5'⟩⟩ := HZ3.out
      obtain ⟨⟨y0, y0'⟩, ⟨y1, y1'⟩, ⟨y2, y2'⟩, ⟨y3, y3'⟩, ⟨y4, y4'⟩, ⟨y5, y5'⟩⟩ := HY3.out
      have Hz3 := hideW hz3
      have Hrun := hideW hrun
      have hV : w2.heap.size ≠ w.heap.size + 1 := by have := HS2.out; omega
      have hV' : w.heap.size + 1 ≠ w2.heap.size := by have := HS2.out; omega
      clear hp3 hk3 hb3 hs3 ha3 ha4 hZ hz3 hrun
      go_wp2_with (first
        | (at_builtin; refine wpList_append_run rfl _ _ 44 rfl _ _ _ rfl rfl Hrun.out ?_)
        | go_in)
      have hs2 := HS2.out
      have hs3 := HS3.out
      have T1 := Turned.put w3 w2.heap.size 5 (.slice a' (W.sets k).dn c')
      have HR := (HY3.out.turned T1 (fun e => absurd e (by omega))).put (.string (W.sets k).name) (.int .i64 (W.sets k).origin) (.int .i64 (W.sets k).prev) (.int .i64 (W.sets k).rs) (.int .i64 (W.sets k).rb) (.slice a' (W.sets k).dn c')
      have T2 := Turned.put6 (w3.setCell ⟨w2.heap.size, 5, none⟩ (.slice a' (W.sets k).dn c')) (w.heap.size + 1) (.string (W.sets k).name) (.int .i64 (W.sets k).origin) (.int .i64 (W.sets k).prev) (.int .i64 (W.sets k).rs) (.int .i64 (W.sets k).rb) (.slice a' (W.sets k).dn c')
      have TT := (T1.mono (T := fun k => k = w.heap.size + 1 ∨ k = w2.heap.size) (fun k e => Or.inr e)).trans (T2.mono (fun k e => Or.inl e))
      refine bodyPost_ret (v := .agg #[.string (W.sets k).name, .int .i64 (W.sets k).origin, .int .i64 (W.sets k).prev, .int .i64 (W.sets k).rs, .int .i64 (W.sets k).rb, .slice a' (W.sets k).dn c']) (by simp [results, Tryz.results18, go_sem, HR.1.1, HR.2.1.1, HR.2.2.1.1, HR.2.2.2.1.1, HR.2.2.2.2.1.1, HR.2.2.2.2.2.1]) rfl ?_
      rw [HA.out]
      refine ⟨.slice a' (W.sets k).dn c', kb, rfl, HP3.out.turned TT (fun h0 e => by have h1 := HK3.out h0; have h2 := Hz3.out; omega), fun h0 => ?_, hB3.trans (TT.below (B := w.heap.size) (by omega) (fun k e => by omega))⟩
      have h1 := HK3.out h0
      have h2 := Hz3.out
      simp only [World.size_setCell]
      omega

end Go.Proofs.YtnonjdkligkepaaGreat

namespace Go.Proofs.YtnonjdkligkepaaGreat
open Go.RowKit
set_option linter.unusedVariables false

set_option maxRecDepth 20000 in
set_option maxHeartbeats 400000 in
theorem clonePtrs_any (v : Value) (n lo hi : Nat) (f g : Nat → Int) (w : World) (h1 : PtrsAt w lo hi v n f g) (hn : n ≤ 1048576) :
    Calls Tryz.prog 55 #[v] w fun e w' => (∃ v' kb, e = .returned v' ∧ PtrsOwn w' kb v' n f g ∧ (0 < n → w.heap.size ≤ kb ∧ kb < w'.heap.size)) ∧ Below w.heap.size w w' := by
  obtain ⟨m1, a, c, rfl, mc, g1⟩ := h1
  have G1 : Hid (0 < n → ∃ b off, a = some ⟨b, off, none⟩ ∧ lo ≤ b ∧ b < hi ∧ ∀ i, i < n → w.cell? ⟨b, off + i * 2, none⟩ = some (.int .i64 (f i)) ∧ w.cell? ⟨b, off + i * 2 + 1, none⟩ = some (.int .i64 (g i))) := g1
  have Hm : Hid (n ≤ maxLen) := m1
  clear g1 m1
  have heq := fun w => Lib.run_eql_slice_nil (P := Tryz.prog) w 44 43 a n c 0 0 (by kernel_rfl)
  cases a with
  | none =>
    have hn0 : n = 0 := by
      by_cases h : 0 < n
      · obtain ⟨b, off, ha, _⟩ := G1.out h; simp at ha
      · omega
    subst hn0
    go_enter Tryz.func55, Tryz.ntmps55
    go_wp2
    go_ret
    exact ⟨⟨_, 0, rfl, ⟨Nat.zero_le _, none, 0, rfl, Nat.le_refl _, fun h => absurd h (Nat.lt_irrefl _)⟩, fun h => absurd h (Nat.lt_irrefl _)⟩, Below.refl _ _⟩
  | some ad =>
    obtain ⟨i0, hi, hzz⟩ := Option.map_eq_some_iff.1 infoPtrT
    simp only [Prod.mk.injEq] at hzz
    obtain ⟨hz, hs, hby⟩ := hzz
    have hsrc : ∀ (w' : World), Below w.heap.size w w' → ∀ j u, (kc f g n)[j]? = some u → w'.cell? (ad.add j) = some u := fun w' hb j u hj => by
      by_cases h0 : 0 < n
      · obtain ⟨b, off, ha, _, _, hc⟩ := G1.out h0
        simp only [Option.some.injEq] at ha
        subst ha
        have := kc_cells hc j u hj
        have hadd : (⟨b, off, none⟩ : Addr).add j = ⟨b, off + j, none⟩ := by unfold Addr.add; split <;> simp_all
        rw [hadd] at this ⊢
        exact (hb.cell (lt_of_cell this)).trans this
      · obtain rfl : n = 0 := by omega
        simp [kc] at hj
    have Hsrc : Hid (∀ (w' : World), Below w.heap.size w w' → ∀ j u, (kc f g n)[j]? = some u → w'.cell? (ad.add j) = some u) := hsrc
    have HI : Hid (Tryz.prog.info? 43 = some i0 ∧ i0.zero = some (.agg #[.int .i64 0, .int .i64 0]) ∧ i0.size = 2 ∧ i0.bytes = 16) := ⟨hi, hz, hs, hby⟩
    have hown0 : (w.alloc (.cells #[] 43)).ownsRow w.heap.size 43 2 (.slice (some ⟨w.heap.size, 0, none⟩) 0 0) 0 [] := World.ownsRow_made w #[] 0 (Nat.le_refl _) (Nat.zero_le _) (by simp)
    have Hown0 : Hid ((w.alloc (.cells #[] 43)).ownsRow w.heap.size 43 2 (.slice (some ⟨w.heap.size, 0, none⟩) 0 0) 0 []) := hown0
    clear hi hz hs hby hsrc hown0
    go_enter Tryz.func55, Tryz.ntmps55
    go_wp2_with (first
      | (at_builtin; refine wpList_append_own _ rfl _ _ 44 rfl w.heap.size 43 i0 (.agg #[.int .i64 0, .int .i64 0]) 2 16 (by kernel_rfl) HI.out.1 HI.out.2.1 HI.out.2.2.1 HI.out.2.2.2 rfl (by decide) _ _ _ rfl Hown0.out ad n c (kc f g n) rfl (kc_len f g n) ?c1 (kc_one f g n) ?c3 ?c4 ?c5 ?_))
    case c1 => exact Hsrc.out _ ((Below.refl _ _).alloc (Nat.le_refl _) _)
    case c3 => unfold maxLen; omega
    case c4 => omega
    case c5 => simp
    intro v' w1 hown' hgrow hnil
    have hb1 : Below w.heap.size w w1 := ((Below.refl _ _).alloc (Nat.le_refl _) _).grown hgrow (by simp) (fun q hq => by have := Hown0.out.lt q hq; omega)
    have hown2 : w1.ownsRow w.heap.size 43 2 v' n (kc f g n) := by simpa using hown'
    obtain ⟨kb, hp, hk⟩ := ptrs_of_owns Hm.out hown2
    have Hp : Hid (PtrsOwn w1 kb v' n f g ∧ (0 < n → w.heap.size ≤ kb ∧ kb < w1.heap.size)) := ⟨hp, hk⟩
    clear hp hk hown' hown2 hgrow hnil
    go_wp2
    go_ret
    exact ⟨⟨v', kb, rfl, Hp.out.1, Hp.out.2⟩, hb1⟩

end Go.Proofs.YtnonjdkligkepaaGreat
