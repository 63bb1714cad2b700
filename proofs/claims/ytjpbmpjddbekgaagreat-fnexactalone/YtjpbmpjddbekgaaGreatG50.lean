/- What append of a list of snapshots, one of them left out, to an empty one leaves (no law is proved here). -/
import Derived.Test.YtjpbmpjddbekgaaGreatG29
import Derived.Test.YtjpbmpjddbekgaaGreatG26
import Derived.Test.YtjpbmpjddbekgaaGreatG11
import Derived.Deep.RegionLaw
import Derived.Test.YtjpbmpjddbekgaaGreatG38
import Derived.Test.YtjpbmpjddbekgaaGreatG37
namespace Go.Proofs.YtjpbmpjddbekgaaGreat
open Go.RowKit
set_option linter.unusedVariables false

theorem step_append_run {P : Program} {w w1 : World} {ops : Array Oper} {o : Oper} {a : Act} {K : Act → World → Prop} {Q : Exit → Act → World → Prop} {E : Prop} (hgd : o.guard = none) (s x : Operand) (t : TypeId)
    (ho : o.op = .call { callee := .builtin .append, args := #[s, x], argTypes := #[t, t] }) (vs vx v' : Value) (hs : a.eval s = vs) (hx : a.eval x = vx) (hrun : (Builtin.append_ #[t, t] o.type #[vs, vx]).run P w = .ok v' w1)
    (h : K (a.put o.dst v') w1) : if Region.wanted o (yielded ops a.tmps) = true then Oper.wp P o a w K Q else E := by
  have hw : Region.wanted o (yielded ops a.tmps) = true := by simp [Region.wanted, hgd]
  rw [if_pos hw]
  unfold Oper.wp
  simp [execOp, ho, resolve, invoke, builtin, hs, hx, hrun, Result.andThen]
  exact h

/-- Some cells in a row, from G(i) on. -/
def rowG (G : Nat → Value) (i n : Nat) : List Value := (List.range n).map (fun j => G (i + j))
theorem rowG_len (G : Nat → Value) (i n : Nat) : (rowG G i n).length = n := by simp [rowG]
theorem rowG_at {G : Nat → Value} {i n j : Nat} (h : j < n) : (rowG G i n)[j]? = some (G (i + j)) := by simp [rowG, h]
theorem snapT : Tryz.prog.underlying 36 = some (.slice 46) := by kernel_rfl

/-- Some snapshots more in a row of one's own. -/
theorem run_more8 (w : World) (base : Nat) (v : Value) (n : Nat) (xs : List Value) (hown : w.ownsRow base 46 8 v n xs) (hb : base ≤ w.heap.size) (ad : Option Addr) (b off i m c : Nat) (G : Nat → Value) (had : 0 < m → ad = some ⟨b, off + i, none⟩) (hG : ∀ j, j < m * 8 → w.cell? ⟨b, off + (i + j), none⟩ = some (G (i + j)) ∧ (G (i + j)).oneCell' = true) (hn : n + m ≤ 1000) (ty : TypeId) :
    ∃ v' w', (Builtin.append_ #[36, 36] ty #[v, .slice ad m c]).run Tryz.prog w = .ok v' w' ∧ w'.ownsRow base 46 8 v' (n + m) (xs ++ rowG G i (m * 8)) ∧ w.grownBy w' v.ownBlock := by
  obtain ⟨i0, hi0, hzz⟩ := Option.map_eq_some_iff.1 infoSnapT
  simp only [Prod.mk.injEq] at hzz
  obtain ⟨hz, hs, hby⟩ := hzz
  by_cases h0 : 0 < m
  · obtain rfl := had h0
    have hadd : ∀ j, (⟨b, off + i, none⟩ : Addr).add j = ⟨b, off + (i + j), none⟩ := fun j => by
      unfold Addr.add
      split
      · simp_all
      · simp [Nat.add_assoc]
    obtain ⟨v', w1, hr, r1, r2, _⟩ := run_append_own (P := Tryz.prog) w base 36 ty 46 i0 _ 8 96 snapT hi0 hz hs hby rfl (by decide) v n xs hown ⟨b, off + i, none⟩ m c (rowG G i (m * 8)) (rowG_len _ _ _) (fun j u hj => by
        have hlt : j < m * 8 := by
          have := (List.getElem?_eq_some_iff.1 hj).1
          rwa [rowG_len] at this
        rw [rowG_at hlt] at hj
        cases hj
        rw [hadd]
        exact (hG j hlt).1) (fun u hu => by
        unfold rowG at hu
        obtain ⟨j, hj, rfl⟩ := List.mem_map.1 hu
        exact (hG j (List.mem_range.1 hj)).2) (by unfold maxLen; omega) (by omega) hb
    exact ⟨v', w1, hr, r1, r2⟩
  · obtain rfl : m = 0 := by omega
    exact ⟨v, w, run_append_zero (P := Tryz.prog) (w := w) base 36 ty 46 i0 8 c ad snapT hi0 v n xs hown, by simpa [rowG] using hown, World.grownBy.refl _ _⟩

/-- What is left where the one in the place k is left out. -/
structure Dropped (w w2 : World) (v2 : Value) (n k : Nat) (G : Nat → Value) : Prop where
  form : ∃ a cap, v2 = .slice a (n - 1) cap ∧ n - 1 ≤ cap ∧ (0 < n - 1 → ∃ g, a = some ⟨g, 0, none⟩ ∧ w.heap.size ≤ g ∧ g < w2.heap.size ∧ ∀ j, j < (n - 1) * 8 → w2.cell? ⟨g, j, none⟩ = some (if j < k * 8 then G j else G (j + 8)))
  below : Below w.heap.size w w2
theorem run_drop8 (w : World) (b off n k c1 c2 : Nat) (A1 A2 : Option Addr) (G : Nat → Value) (hG : ∀ j, j < n * 8 → w.cell? ⟨b, off + j, none⟩ = some (G j) ∧ (G j).oneCell' = true) (hk : k < n) (hn : n ≤ 100) (h1 : 0 < k → A1 = some ⟨b, off, none⟩) (h2 : 0 < n - (k + 1) → A2 = some ⟨b, off + (k + 1) * 8, none⟩) (ty ty' : TypeId) :
    ∃ v1 w1 v2 w2, (Builtin.append_ #[36, 36] ty #[.slice (some ⟨w.heap.size, 0, none⟩) 0 0, .slice A1 k c1]).run Tryz.prog (w.alloc (.cells #[] 46)) = .ok v1 w1 ∧ (Builtin.append_ #[36, 36] ty' #[v1, .slice A2 (n - (k + 1)) c2]).run Tryz.prog w1 = .ok v2 w2 ∧ Below w.heap.size w w1 ∧ Dropped w w2 v2 n k G := by
  have hba := below_alloc w (.cells #[] 46)
  have hown0 : (w.alloc (.cells #[] 46)).ownsRow w.heap.size 46 8 (.slice (some ⟨w.heap.size, 0, none⟩) 0 0) 0 [] := World.ownsRow_made w #[] 0 (Nat.le_refl _) (Nat.zero_le _) (by simp)
  obtain ⟨v1, w1, hr1, ho1, hg1⟩ := run_more8 (w.alloc (.cells #[] 46)) w.heap.size _ 0 [] hown0 hba.size A1 b off 0 k c1 G (fun h => by rw [h1 h]; rfl) (fun j hj => by
    have := hG j (by omega)
    rw [Nat.zero_add]
    exact ⟨(hba.cell (lt_of_cell this.1)).trans this.1, this.2⟩) (by omega) ty
  have hb1 : Below w.heap.size w w1 := hba.grown hg1 hba.size (fun q hq => by have := hown0.lt q hq; omega)
  obtain ⟨v2, w2, hr2, ho2, hg2⟩ := run_more8 w1 w.heap.size v1 (0 + k) _ ho1 hb1.size A2 b off ((k + 1) * 8) (n - (k + 1)) c2 G h2 (fun j hj => by
    have := hG ((k + 1) * 8 + j) (by omega)
    exact ⟨(hb1.cell (lt_of_cell this.1)).trans this.1, this.2⟩) (by omega) ty'
  have hb2 : Below w.heap.size w w2 := hb1.grown hg2 hb1.size (fun q hq => by have := ho1.lt q hq; omega)
  refine ⟨v1, w1, v2, w2, hr1, hr2, hb1, ⟨?_, hb2⟩⟩
  have e : 0 + k + (n - (k + 1)) = n - 1 := by omega
  rw [e] at ho2
  by_cases h0 : 0 < n - 1
  · obtain ⟨g, cap, rfl, hc, hbg, hlt, hcell⟩ := owns_cell ho2 h0
    refine ⟨_, cap, rfl, hc, fun _ => ⟨g, rfl, hbg, hlt, fun j hj => (hcell j _ ?_).1⟩⟩
    by_cases hj1 : j < k * 8
    · rw [if_pos hj1, List.getElem?_append_left (by rw [List.nil_append, rowG_len]; exact hj1), List.nil_append, rowG_at hj1, Nat.zero_add]
    · rw [if_neg hj1, List.getElem?_append_right (by rw [List.nil_append, rowG_len]; omega), List.nil_append, rowG_len, rowG_at (by omega), show (k + 1) * 8 + (j - k * 8) = j + 8 by omega]
  · obtain ⟨a, cap, rfl, hc⟩ := owns_form ho2
    exact ⟨a, cap, rfl, hc, fun h => absurd h h0⟩

end Go.Proofs.YtjpbmpjddbekgaaGreat

namespace Go.Proofs.YtjpbmpjddbekgaaGreat
open Go.RowKit Go.Maps
set_option linter.unusedVariables false

/-- The roots of the first snapshots but those of an id; behind them those of the first sets. -/
noncomputable def othP (W : WorldD) (x : Int) : Nat → List (Int × Int)
  | 0 => []
  | k + 1 => if (W.snaps k).id = x then othP W x k else othP W x k ++ [((W.snaps k).rs, (W.snaps k).rb)]
noncomputable def othS (W : WorldD) (x : Int) : Nat → List (Int × Int)
  | 0 => othP W x W.pn
  | k + 1 => othS W x k ++ [((W.sets k).rs, (W.sets k).rb)]
theorem othP_same {W : WorldD} {x : Int} {k : Nat} (h : (W.snaps k).id = x) : othP W x (k + 1) = othP W x k := if_pos h
theorem othP_other {W : WorldD} {x : Int} {k : Nat} (h : ¬ (W.snaps k).id = x) : othP W x (k + 1) = othP W x k ++ [((W.snaps k).rs, (W.snaps k).rb)] := if_neg h
theorem othS_succ {W : WorldD} {x : Int} {k : Nat} : othS W x (k + 1) = othS W x k ++ [((W.sets k).rs, (W.sets k).rb)] := rfl
theorem othP_len (W : WorldD) (x : Int) : ∀ k, (othP W x k).length ≤ k
  | 0 => Nat.le_refl _
  | k + 1 => by
    have := othP_len W x k
    by_cases h : (W.snaps k).id = x
    · rw [othP_same h]; omega
    · rw [othP_other h, List.length_append]
      simp
      omega
theorem othS_len (W : WorldD) (x : Int) : ∀ k, (othS W x k).length ≤ W.pn + k
  | 0 => othP_len W x W.pn
  | k + 1 => by
    have := othS_len W x k
    rw [othS_succ, List.length_append]
    simp
    omega
theorem othP_mem {W : WorldD} {x : Int} {y : Int × Int} : ∀ k, y ∈ othP W x k ↔ ∃ i, i < k ∧ (W.snaps i).id ≠ x ∧ y = ((W.snaps i).rs, (W.snaps i).rb)
  | 0 => by simp [othP]
  | k + 1 => by
    have ih := othP_mem (W := W) (x := x) (y := y) k
    by_cases h : (W.snaps k).id = x
    · rw [othP_same h, ih]
      constructor
      · rintro ⟨i, hi, h1, h2⟩
        exact ⟨i, by omega, h1, h2⟩
      · rintro ⟨i, hi, h1, h2⟩
        by_cases e : i = k
        · subst e; exact absurd h h1
        · exact ⟨i, by omega, h1, h2⟩
    · rw [othP_other h, List.mem_append, ih, List.mem_singleton]
      constructor
      · rintro (⟨i, hi, h1, h2⟩ | h2)
        · exact ⟨i, by omega, h1, h2⟩
        · exact ⟨k, by omega, h, h2⟩
      · rintro ⟨i, hi, h1, h2⟩
        by_cases e : i = k
        · subst e; exact Or.inr h2
        · exact Or.inl ⟨i, by omega, h1, h2⟩
theorem othS_mem {W : WorldD} {x : Int} {y : Int × Int} : ∀ k, y ∈ othS W x k ↔ (∃ i, i < W.pn ∧ (W.snaps i).id ≠ x ∧ y = ((W.snaps i).rs, (W.snaps i).rb)) ∨ ∃ i, i < k ∧ y = ((W.sets i).rs, (W.sets i).rb)
  | 0 => by
    rw [show othS W x 0 = othP W x W.pn from rfl, othP_mem]
    constructor
    · exact Or.inl
    · rintro (h | ⟨i, hi, _⟩)
      · exact h
      · exact absurd hi (Nat.not_lt_zero _)
  | k + 1 => by
    rw [othS_succ, List.mem_append, othS_mem k, List.mem_singleton]
    constructor
    · rintro ((h | ⟨i, hi, h2⟩) | h)
      · exact Or.inl h
      · exact Or.inr ⟨i, by omega, h2⟩
      · exact Or.inr ⟨k, by omega, h⟩
    · rintro (h | ⟨i, hi, h2⟩)
      · exact Or.inl (Or.inl h)
      · by_cases e : i = k
        · subst e; exact Or.inr h2
        · exact Or.inl (Or.inr ⟨i, by omega, h2⟩)

set_option maxRecDepth 20000 in
set_option maxHeartbeats 2000000 in
theorem otherRoots_any (v0 v1 v2 v3 : Value) (lo hi : Nat) (W : WorldD) (x : Int) (w : World) (h : WorldAt w lo hi v0 v1 v2 v3 W) (hsn : W.sn ≤ 8) (hpn : W.pn ≤ 20) :
    Calls Tryz.prog 95 #[worldV v0 v1 v2 v3 W, .int .i64 x] w fun e w' => ∃ v, e = .returned v ∧ RowL w' (w.heap.size + 1) v (othS W x W.sn) ∧ Below w.heap.size w w' := by
  have Hp := hideW h
  obtain ⟨m1, a, c, rfl, mc, _⟩ := id h.snaps
  obtain ⟨m2, a', c', rfl, mc', _⟩ := id h.sets
  clear h
  obtain ⟨i0, hi0, hzz⟩ := Option.map_eq_some_iff.1 infoPtrL
  simp only [Prod.mk.injEq] at hzz
  have HI := hideW (And.intro hi0 hzz)
  clear hi0 hzz m1 m2
  have hsn' : (W.sn : Int) ≤ 8 := by omega
  have hpn' : (W.pn : Int) ≤ 20 := by omega
  have ha := below_alloc w (.cells #[v0, v1, .int .i64 W.time, .int .i64 W.next, .slice a' W.sn c', .slice a W.pn c] 38)
  have HX0 := hideW (Box6.new w v0 v1 (.int .i64 W.time) (.int .i64 W.next) (.slice a' W.sn c') (.slice a W.pn c) 38)
  obtain ⟨⟨x0, -⟩, ⟨x2, -⟩, ⟨x4, -⟩, ⟨x6, -⟩, ⟨x8, -⟩, ⟨x10, -⟩⟩ := HX0.out
  go_enter Tryz.func95, Tryz.ntmps95
  go_wp2
  clear x0 x2 x4 x6 x8 x10
  generalize w.alloc (.cells #[v0, v1, .int .i64 W.time, .int .i64 W.next, .slice a' W.sn c', .slice a W.pn c] 38) = W0 at ha HX0 ⊢
  go_loopw [5, 13] (fun vr i wr => ∃ k : Nat, k ≤ W.pn ∧ i = .int .i64 k ∧ RowL wr (w.heap.size + 1) vr (othP W x k) ∧ Box6 wr w.heap.size v0 v1 (.int .i64 W.time) (.int .i64 W.next) (.slice a' W.sn c') (.slice a W.pn c) ∧ Below w.heap.size w wr) (fun _ i _ => W.pn - (intOf i).toNat)
  case atStart => exact ⟨0, Nat.zero_le _, rfl, RowL.nil _ _, HX0.out, ha⟩
  case round =>
    clear HX0 ha
    obtain ⟨k, hk, rfl, hrow, hX, hb⟩ := hrel
    have Hrow := hideW hrow
    have HX := hideW hX
    clear hrow hX
    by_cases hlt : k < W.pn
    rotate_left
    · obtain rfl : k = W.pn := by omega
      obtain ⟨⟨x0, -⟩, ⟨x2, -⟩, ⟨x4, -⟩, ⟨x6, -⟩, ⟨x8, -⟩, ⟨x10, -⟩⟩ := HX.out
      go_wp2
      clear x0 x2 x4 x6 x8 x10
      go_loopw [5, 30] (fun vr i wr => ∃ k : Nat, k ≤ W.sn ∧ i = .int .i64 k ∧ RowL wr (w.heap.size + 1) vr (othS W x k) ∧ Box6 wr w.heap.size v0 v1 (.int .i64 W.time) (.int .i64 W.next) (.slice a' W.sn c') (.slice a W.pn c) ∧ Below w.heap.size w wr) (fun _ i _ => W.sn - (intOf i).toNat)
      case atStart => exact ⟨0, Nat.zero_le _, rfl, Hrow.out, HX.out, hb⟩
      case round =>
        clear Hrow HX hb
        obtain ⟨k, hk, rfl, hrow, hX, hb⟩ := hrel
        have Hrow := hideW hrow
        have HX := hideW hX
        clear hrow hX
        by_cases hlt : k < W.sn
        rotate_left
        · obtain rfl : k = W.sn := by omega
          go_wp2
          go_ret
          exact ⟨_, rfl, Hrow.out, hb⟩
        have hlt' : (k : Int) < (W.sn : Int) := by omega
        obtain ⟨b, off, vd, rfl, hs2⟩ := (Hp.out.sets.below hb).cells hlt
        obtain ⟨-, ad, cd, rfl, -, -⟩ := id hs2.dead
        have q0 := hs2.c0
        have q1 := hs2.c1
        have q2 := hs2.c2
        have q3 := hs2.c3
        have q4 := hs2.c4
        have q5 := hs2.c5
        clear hs2
        have hbs := below_alloc wr (.cells #[.string (W.sets k).name, .int .i64 (W.sets k).origin, .int .i64 (W.sets k).prev, .int .i64 (W.sets k).rs, .int .i64 (W.sets k).rb, .slice ad (W.sets k).dn cd] 53)
        have HV := hideW (Box6.new wr (.string (W.sets k).name) (.int .i64 (W.sets k).origin) (.int .i64 (W.sets k).prev) (.int .i64 (W.sets k).rs) (.int .i64 (W.sets k).rb) (.slice ad (W.sets k).dn cd) 53)
        have hz2 : (wr.alloc (.cells #[.string (W.sets k).name, .int .i64 (W.sets k).origin, .int .i64 (W.sets k).prev, .int .i64 (W.sets k).rs, .int .i64 (W.sets k).rb, .slice ad (W.sets k).dn cd] 53)).heap.size = wr.heap.size + 1 := World.size_alloc _ _
        have hba := below_alloc (wr.alloc (.cells #[.string (W.sets k).name, .int .i64 (W.sets k).origin, .int .i64 (W.sets k).prev, .int .i64 (W.sets k).rs, .int .i64 (W.sets k).rb, .slice ad (W.sets k).dn cd] 53)) (.cells #[.int .i64 (W.sets k).rs, .int .i64 (W.sets k).rb] 43)
        have hB2 := below_next hb hbs
        have hB3 := below_next hB2 hba
        have Hrow2 := hideW (Hrow.out.below hbs)
        have HX2 := hideW (HX.out.below hbs)
        have Hrow7 := hideW (Hrow2.out.below hba)
        have HX7 := hideW (HX2.out.below hba)
        have hnb := World.news_of_block (heap_alloc_last (wr.alloc (.cells #[.string (W.sets k).name, .int .i64 (W.sets k).origin, .int .i64 (W.sets k).prev, .int .i64 (W.sets k).rs, .int .i64 (W.sets k).rb, .slice ad (W.sets k).dn cd] 53)) (.cells #[.int .i64 (W.sets k).rs, .int .i64 (W.sets k).rb] 43))
        rw [hz2] at hnb
        have HN := hideW hnb
        have hz3 : ((wr.alloc (.cells #[.string (W.sets k).name, .int .i64 (W.sets k).origin, .int .i64 (W.sets k).prev, .int .i64 (W.sets k).rs, .int .i64 (W.sets k).rb, .slice ad (W.sets k).dn cd] 53)).alloc (.cells #[.int .i64 (W.sets k).rs, .int .i64 (W.sets k).rb] 43)).heap.size = wr.heap.size + 2 := by rw [World.size_alloc, hz2]
        have hlen := othS_len W x k
        have hzx := lt_of_cell HX.out.1.1
        obtain ⟨⟨y0, -⟩, ⟨y1, -⟩, ⟨y2, -⟩, ⟨y3, -⟩, ⟨y4, -⟩, ⟨y5, -⟩⟩ := HV.out
        clear hnb hbs hba Hrow HX
        go_wp2_with (first
            | (at_builtin; refine wpList_append_lies _ rfl _ _ 44 rfl (w.heap.size + 1) 43 i0 (.agg #[.int .i64 0, .int .i64 0]) 2 16 (by kernel_rfl) HI.out.1 HI.out.2.1 HI.out.2.2.1 HI.out.2.2.2 rfl (by decide) _ _ _ rfl Hrow7.out ⟨wr.heap.size + 1, 0, none⟩ 1 1 [.int .i64 (W.sets k).rs, .int .i64 (W.sets k).rb] rfl rfl HN.out (by simp [Value.oneCell']) (by decide) (by unfold maxLen; omega) (by omega) (by omega) _ rfl ?_; intro g' cap' w8 hown8 hgrow8 hat8 hlt8)
            | go_in)
        go_roundw
        case rel =>
          have hne : ∀ q, Value.ownBlock _ = some q → w.heap.size + 1 ≤ q := fun q hq => (Hrow7.out.lt hq).1
          refine ⟨k + 1, by omega, by go_num, ?_, HX7.out.grown hgrow8 (fun q hq => by have := hne q hq; omega), hB3.grown hgrow8 hB3.size (fun q hq => by have := hne q hq; omega)⟩
          rw [othS_succ]
          exact RowL.next hown8
        case measure => simp [intOf]; omega
    have hlt' : (k : Int) < (W.pn : Int) := by omega
    obtain ⟨b, off, vd, rfl, hs2⟩ := (Hp.out.snaps.below hb).cells hlt
    obtain ⟨-, ad, cd, rfl, -, -⟩ := id hs2.dead
    have q0 := hs2.c0
    have q1 := hs2.c1
    have q2 := hs2.c2
    have q3 := hs2.c3
    have q4 := hs2.c4
    have q5 := hs2.c5
    have q6 := hs2.c6
    have q7 := hs2.c7
    clear hs2
    have hbs := below_alloc wr (.cells #[.int .i64 (W.snaps k).id, .string (W.snaps k).name, .string (W.snaps k).set, .int .i64 (W.snaps k).prev, .int .i64 (W.snaps k).time, .int .i64 (W.snaps k).rs, .int .i64 (W.snaps k).rb, .slice ad (W.snaps k).dn cd] 46)
    have HV := hideW (Box8.new wr (.int .i64 (W.snaps k).id) (.string (W.snaps k).name) (.string (W.snaps k).set) (.int .i64 (W.snaps k).prev) (.int .i64 (W.snaps k).time) (.int .i64 (W.snaps k).rs) (.int .i64 (W.snaps k).rb) (.slice ad (W.snaps k).dn cd) 46)
    have hz2 : (wr.alloc (.cells #[.int .i64 (W.snaps k).id, .string (W.snaps k).name, .string (W.snaps k).set, .int .i64 (W.snaps k).prev, .int .i64 (W.snaps k).time, .int .i64 (W.snaps k).rs, .int .i64 (W.snaps k).rb, .slice ad (W.snaps k).dn cd] 46)).heap.size = wr.heap.size + 1 := World.size_alloc _ _
    have hba := below_alloc (wr.alloc (.cells #[.int .i64 (W.snaps k).id, .string (W.snaps k).name, .string (W.snaps k).set, .int .i64 (W.snaps k).prev, .int .i64 (W.snaps k).time, .int .i64 (W.snaps k).rs, .int .i64 (W.snaps k).rb, .slice ad (W.snaps k).dn cd] 46)) (.cells #[.int .i64 (W.snaps k).rs, .int .i64 (W.snaps k).rb] 43)
    have hB2 := below_next hb hbs
    have hB3 := below_next hB2 hba
    have Hrow2 := hideW (Hrow.out.below hbs)
    have HX2 := hideW (HX.out.below hbs)
    have Hrow7 := hideW (Hrow2.out.below hba)
    have HX7 := hideW (HX2.out.below hba)
    have hnb := World.news_of_block (heap_alloc_last (wr.alloc (.cells #[.int .i64 (W.snaps k).id, .string (W.snaps k).name, .string (W.snaps k).set, .int .i64 (W.snaps k).prev, .int .i64 (W.snaps k).time, .int .i64 (W.snaps k).rs, .int .i64 (W.snaps k).rb, .slice ad (W.snaps k).dn cd] 46)) (.cells #[.int .i64 (W.snaps k).rs, .int .i64 (W.snaps k).rb] 43))
    rw [hz2] at hnb
    have HN := hideW hnb
    have hz3 : ((wr.alloc (.cells #[.int .i64 (W.snaps k).id, .string (W.snaps k).name, .string (W.snaps k).set, .int .i64 (W.snaps k).prev, .int .i64 (W.snaps k).time, .int .i64 (W.snaps k).rs, .int .i64 (W.snaps k).rb, .slice ad (W.snaps k).dn cd] 46)).alloc (.cells #[.int .i64 (W.snaps k).rs, .int .i64 (W.snaps k).rb] 43)).heap.size = wr.heap.size + 2 := by rw [World.size_alloc, hz2]
    have hlen := othP_len W x k
    have hzx := lt_of_cell HX.out.1.1
    obtain ⟨⟨⟨y0, -⟩, ⟨y1, -⟩, ⟨y2, -⟩, ⟨y3, -⟩⟩, ⟨y4, -⟩, ⟨y5, -⟩, ⟨y6, -⟩, ⟨y7, -⟩⟩ := HV.out
    clear hnb hbs hba Hrow HX
    by_cases hid : (W.snaps k).id = x
    · have hne0 : ((W.snaps k).id != x) = false := by simp [hid]
      have Heq := hideW hid
      clear hid
      go_wp2
      go_roundw
      case rel => exact ⟨k + 1, by omega, by go_num, by rw [othP_same Heq.out]; exact Hrow2.out, HX2.out, hB2⟩
      case measure => simp [intOf]; omega
    · have hne0 : ((W.snaps k).id != x) = true := by simp [hid]
      go_wp2_with (first
          | (at_builtin; refine wpList_append_lies _ rfl _ _ 44 rfl (w.heap.size + 1) 43 i0 (.agg #[.int .i64 0, .int .i64 0]) 2 16 (by kernel_rfl) HI.out.1 HI.out.2.1 HI.out.2.2.1 HI.out.2.2.2 rfl (by decide) _ _ _ rfl Hrow7.out ⟨wr.heap.size + 1, 0, none⟩ 1 1 [.int .i64 (W.snaps k).rs, .int .i64 (W.snaps k).rb] rfl rfl HN.out (by simp [Value.oneCell']) (by decide) (by unfold maxLen; omega) (by omega) (by omega) _ rfl ?_; intro g' cap' w8 hown8 hgrow8 hat8 hlt8)
          | go_in)
      go_roundw
      case rel =>
        have hne : ∀ q, Value.ownBlock _ = some q → w.heap.size + 1 ≤ q := fun q hq => (Hrow7.out.lt hq).1
        refine ⟨k + 1, by omega, by go_num, ?_, HX7.out.grown hgrow8 (fun q hq => by have := hne q hq; omega), hB3.grown hgrow8 hB3.size (fun q hq => by have := hne q hq; omega)⟩
        rw [othP_other hid]
        exact RowL.next hown8
      case measure => simp [intOf]; omega

end Go.Proofs.YtjpbmpjddbekgaaGreat

namespace Go.Proofs.YtjpbmpjddbekgaaGreat
open Go.RowKit Go.Maps
set_option linter.unusedVariables false

/-- A set, or a snapshot of another id, has it in its tree. -/
def OthHas (W : WorldD) (x : Int) (y : Int × Int) : Prop := ∃ r, r ∈ othS W x W.sn ∧ y ∈ treeL W.pool r.1 r.2
open Classical in
noncomputable def aloneAns (W : WorldD) (x : Int) : Nat := if SpecW W then cntNot (OthHas W x) (treeL W.pool (aheadOf W x).rs (aheadOf W x).rb) else 0
theorem aloneAns_no {W : WorldD} {x : Int} (h : ¬ SpecW W) : aloneAns W x = 0 := if_neg h
theorem aloneAns_yes {W : WorldD} {x : Int} (h : SpecW W) : aloneAns W x = cntNot (OthHas W x) (treeL W.pool (aheadOf W x).rs (aheadOf W x).rb) := if_pos h
theorem aloneAns_none {W : WorldD} {x : Int} (h : ∀ k, k < W.pn → (W.snaps k).id ≠ x) : aloneAns W x = 0 := by
  by_cases hS : SpecW W
  · rw [aloneAns_yes hS, aheadOf_no h]
    show cntNot _ (treeL W.pool 0 0) = 0
    rw [treeL_zero]
    rfl
  · exact aloneAns_no hS
theorem someHas_list {W : WorldD} {l : List (Int × Int)} {y : Int × Int} : SomeHas W (fstL l) (sndL l) l.length y ↔ ∃ r, r ∈ l ∧ y ∈ treeL W.pool r.1 r.2 := by
  constructor
  · rintro ⟨i, hi, h⟩
    exact ⟨(fstL l i, sndL l i), pin_list.1 ⟨i, hi, rfl, rfl⟩, h⟩
  · rintro ⟨⟨a, b⟩, hr, h⟩
    obtain ⟨i, hi, e1, e2⟩ := pin_list.2 hr
    exact ⟨i, hi, by rw [e1, e2]; exact h⟩
theorem oth_ok {W : WorldD} (h : SpecW W) {x : Int} {r : Int × Int} (hr : r ∈ othS W x W.sn) : TreeOk W.pool r.1 r.2 := by
  rcases (othS_mem W.sn).1 hr with ⟨i, hi, -, rfl⟩ | ⟨i, hi, rfl⟩
  · exact h.snaps i hi
  · exact (h.sets i hi).1
set_option maxRecDepth 20000 in
set_option maxHeartbeats 1000000 in
theorem implAlone_any (v0 v1 v2 v3 : Value) (lo hi : Nat) (W : WorldD) (x : Int) (w : World) (h : WorldAt w lo hi v0 v1 v2 v3 W) (hh : hi ≤ w.heap.size) (hwf : PrevsWf W) (hx : (Lit.int .i64 x).wf = true) : Calls Tryz.prog 34 #[worldV v0 v1 v2 v3 W, .int .i64 x] w fun e w' => e = .returned (.int .i64 (aloneAns W x)) ∧ Below w.heap.size w w' := by
  have Hp := hideW h
  have Hwf := hideW hwf
  have Hx := hideW hx
  clear h hwf hx
  have hbw := below_alloc w (.cells #[v0, v1, .int .i64 W.time, .int .i64 W.next, v2, v3] 38)
  have HX := hideW (Box6.new w v0 v1 (.int .i64 W.time) (.int .i64 W.next) v2 v3 38)
  obtain ⟨⟨x0, -⟩, ⟨x1, -⟩, ⟨x2, -⟩, ⟨x3, -⟩, ⟨x4, -⟩, ⟨x5, -⟩⟩ := HX.out
  go_enter Tryz.func34, Tryz.ntmps34
  go_wp2_with fail
  generalize w.alloc (.cells #[v0, v1, .int .i64 W.time, .int .i64 W.next, v2, v3] 38) = W0 at HX hbw x0 x1 x2 x3 x4 x5 ⊢
  refine (implWorldRight_any v0 v1 v2 v3 lo hi W W0 (Hp.out.below hbw) Hwf.out).mono ?_
  rintro e w1 ⟨⟨t, rfl, ht⟩, hb1⟩
  have Ht := hideW (ht.trans (world_iff W))
  have hB1 := below_next hbw hb1
  have HX1 := hideW (HX.out.below hb1)
  clear x0 x1 x2 x3 x4 x5 hb1 hbw HX ht
  cases t
  · have HA := hideW (show aloneAns W x = 0 from aloneAns_no (fun h => absurd (Ht.out.2 h) (by simp)))
    go_wp2
    go_ret
    exact ⟨by rw [HA.out]; rfl, hB1⟩
  · have HW := hideW (Ht.out.1 rfl)
    have HI := hideW ((world_iff W).2 HW.out).names
    have HT := hideW (show ∀ y, TreeOk W.pool (aheadOf W y).rs (aheadOf W y).rb from old_ok HW.out.snaps)
    have hls := othS_len W x W.sn
    have hsn := HW.out.names.2.2.1
    have hpn := HW.out.names.2.2.2.1
    have hf1 := fieldRootS
    obtain ⟨⟨x0, -⟩, ⟨x1, -⟩, ⟨x2, -⟩, ⟨x3, -⟩, ⟨x4, -⟩, ⟨x5, -⟩⟩ := HX1.out
    go_wp2_with fail
    go_region_held3 (fun w' => w'.cell? ⟨w.heap.size, 0, none⟩ = some v0 ∧ w'.cell? ⟨w.heap.size, 1, none⟩ = some v1 ∧ w'.cell? ⟨w.heap.size, 2, none⟩ = some (.int .i64 W.time) ∧ w'.cell? ⟨w.heap.size, 3, none⟩ = some (.int .i64 W.next) ∧ w'.cell? ⟨w.heap.size, 4, none⟩ = some v2 ∧ w'.cell? ⟨w.heap.size, 5, none⟩ = some v3) (go_keep)
      (first
        | (go_at_call 78; refine (snapsById_any v0 v1 v2 v3 lo hi W _ ((Hp.out.below hB1).below (Below.refl _ _).drew) hpn HI.out.idsWf).mono ?_; rintro e w2 ⟨vd, rfl, hm, hd, hb2⟩; have hb2' := below_undrew hb2; obtain ⟨a, c, hat, hp⟩ := snaps_look HI.out.dist hd x; have hlk := snaps_run (M := w1.heap.size + 1) hm Hx.out hat; have Hmm := hideW hm; have Hat := hideW hat; obtain ⟨⟨z0, -⟩, ⟨z1, -⟩, ⟨z2, -⟩, ⟨z3, -⟩, ⟨z4, -⟩, ⟨z5, -⟩⟩ := HX1.out.below hb2')
        | (go_at_call 95; refine (otherRoots_any v0 v1 v2 v3 lo hi W x _ ((Hp.out.below hB1).below hb2') hsn hpn).mono ?_; rintro e w3 ⟨vo, rfl, hro, hb3⟩; have hb3' := below_next hb2' hb3; have hpt := hro.atW (by omega); obtain ⟨ao, co, rfl, -⟩ := owns_form hro; have hlk3 := snaps_run (M := w1.heap.size + 1) (Hmm.out.below hb3) Hx.out Hat.out; obtain ⟨⟨k0, -⟩, ⟨k1, -⟩, ⟨k2, -⟩, ⟨k3, -⟩, ⟨k4, -⟩, ⟨k5, -⟩⟩ := HX1.out.below hb3')
        | (go_at_call 94
           have HW3 := (Hp.out.below hB1).below hb3'
           have hz3 : hi ≤ w3.heap.size := (by have := hb3'.size; have := hB1.size; omega)
           refine (countOwn_any v0 v1 v2 v3 lo hi W _ _ _ (SomeHas W (fstL (othS W x W.sn)) (sndL (othS W x W.sn)) (othS W x W.sn).length) _ HW3 hz3 HW.out.right (HT.out x) (fun w' hb => whoHas_any v0 v1 v2 v3 lo hi W _ _ _ _ _ 0 w3.heap.size w' (HW3.below hb) (Nat.le_trans hz3 hb.size) HW.out.right (hpt.below hb) (by omega) (fun i hi => oth_ok HW.out (pin_list.1 ⟨i, hi, rfl, rfl⟩)))).mono ?_
           rintro e w4 ⟨rfl, hb4⟩
           have hb4' := below_next hb3' hb4
           obtain ⟨⟨m0, -⟩, ⟨m1, -⟩, ⟨m2, -⟩, ⟨m3, -⟩, ⟨m4, -⟩, ⟨m5, -⟩⟩ := HX1.out.below hb4'))
    all_goals
      go_wp2
      go_ret
      refine ⟨?_, below_next hB1 hb4'⟩
      rw [aloneAns_yes HW.out, cntNot_iff (P := OthHas W x) (Q := SomeHas W (fstL (othS W x W.sn)) (sndL (othS W x W.sn)) (othS W x W.sn).length) (fun y => someHas_list.symm)]
      rfl

end Go.Proofs.YtjpbmpjddbekgaaGreat

namespace Go.Proofs.YtjpbmpjddbekgaaGreat
open Go.RowKit Go.Maps
set_option linter.unusedVariables false

def dropSnap (W : WorldD) (k : Nat) : WorldD := { W with pn := W.pn - 1, snaps := fun i => if i < k then W.snaps i else W.snaps (i + 1) }
theorem dropSnap_at (W : WorldD) (k i : Nat) : ∃ j, (dropSnap W k).snaps i = W.snaps j ∧ j ≠ k ∧ (i < W.pn - 1 → k < W.pn → j < W.pn) := by
  by_cases h : i < k
  · exact ⟨i, if_pos h, by omega, fun _ _ => by omega⟩
  · exact ⟨i + 1, if_neg h, by omega, fun _ _ => by omega⟩
theorem dropSnap_of {W : WorldD} {k j : Nat} (hk : k < W.pn) (hj : j < W.pn) (hne : j ≠ k) : ∃ i, i < W.pn - 1 ∧ (dropSnap W k).snaps i = W.snaps j := by
  by_cases h : j < k
  · exact ⟨j, by omega, if_pos h⟩
  · refine ⟨j - 1, by omega, ?_⟩
    show (if j - 1 < k then W.snaps (j - 1) else W.snaps (j - 1 + 1)) = W.snaps j
    rw [if_neg (by omega), show j - 1 + 1 = j by omega]
theorem cells8 {w : World} {lo hi b off n c : Nat} {f : Nat → SnapD} (h : SnapsAt w lo hi (.slice (some ⟨b, off, none⟩) n c) n f) : ∃ G : Nat → Value, (∀ j, j < n * 8 → w.cell? ⟨b, off + j, none⟩ = some (G j) ∧ (G j).oneCell' = true) := by
  refine ⟨fun j => (w.cell? ⟨b, off + j, none⟩).getD undef, fun j hj => ?_⟩
  obtain ⟨b', off', vd, e, hs⟩ := h.cells (i := j / 8) (by omega)
  cases e
  obtain ⟨-, ad, cd, rfl, -, -⟩ := id hs.dead
  have hr : j = j / 8 * 8 + j % 8 := by omega
  have hm : j % 8 < 8 := Nat.mod_lt _ (by omega)
  generalize j / 8 = i at hs hr
  generalize j % 8 = r at hr hm
  subst hr
  show w.cell? ⟨b, off + (i * 8 + r), none⟩ = some ((w.cell? ⟨b, off + (i * 8 + r), none⟩).getD undef) ∧ ((w.cell? ⟨b, off + (i * 8 + r), none⟩).getD undef).oneCell' = true
  rw [show off + (i * 8 + r) = off + i * 8 + r by omega]
  obtain rfl | rfl | rfl | rfl | rfl | rfl | rfl | rfl : r = 0 ∨ r = 1 ∨ r = 2 ∨ r = 3 ∨ r = 4 ∨ r = 5 ∨ r = 6 ∨ r = 7 := by omega
  · have := hs.c0; rw [Nat.add_zero, this]; exact ⟨rfl, rfl⟩
  · rw [hs.c1]; exact ⟨rfl, rfl⟩
  · rw [hs.c2]; exact ⟨rfl, rfl⟩
  · rw [hs.c3]; exact ⟨rfl, rfl⟩
  · rw [hs.c4]; exact ⟨rfl, rfl⟩
  · rw [hs.c5]; exact ⟨rfl, rfl⟩
  · rw [hs.c6]; exact ⟨rfl, rfl⟩
  · rw [hs.c7]; exact ⟨rfl, rfl⟩
theorem Dropped.at {w w2 : World} {v2 : Value} {lo hi b off n k c : Nat} {f : Nat → SnapD} {G : Nat → Value} (h : Dropped w w2 v2 n k G) (hs : SnapsAt w lo hi (.slice (some ⟨b, off, none⟩) n c) n f) (hh : hi ≤ w.heap.size) (hG : ∀ j, j < n * 8 → w.cell? ⟨b, off + j, none⟩ = some (G j)) (hk : k < n) :
    SnapsAt w2 0 w2.heap.size v2 (n - 1) (fun i => if i < k then f i else f (i + 1)) := by
  obtain ⟨a, cap, rfl, hc, hx⟩ := h.form
  refine ⟨Nat.le_trans (Nat.sub_le _ _) hs.1, a, cap, rfl, hc, fun h0 => ?_⟩
  obtain ⟨g, rfl, hg1, hg2, hcell⟩ := hx h0
  refine ⟨g, 0, rfl, Nat.zero_le _, hg2, fun i hi' => ?_⟩
  -- the place where it lay
  obtain ⟨j, hj, hji, hjf⟩ : ∃ j, j < n ∧ (∀ r, r < 8 → w2.cell? ⟨g, 0 + i * 8 + r, none⟩ = w.cell? ⟨b, off + j * 8 + r, none⟩) ∧ (if i < k then f i else f (i + 1)) = f j := by
    by_cases h : i < k
    · refine ⟨i, by omega, fun r hr => ?_, if_pos h⟩
      rw [show 0 + i * 8 + r = i * 8 + r by omega, hcell (i * 8 + r) (by omega), if_pos (by omega), show off + i * 8 + r = off + (i * 8 + r) by omega, hG _ (by omega)]
    · refine ⟨i + 1, by omega, fun r hr => ?_, if_neg h⟩
      rw [show 0 + i * 8 + r = i * 8 + r by omega, hcell (i * 8 + r) (by omega), if_neg (by omega), show off + (i + 1) * 8 + r = off + (i * 8 + r + 8) by omega, hG _ (by omega)]
  obtain ⟨b', off', vd, e, hc⟩ := hs.cells hj
  cases e
  show ∃ vd, SnapCells w2 g (0 + i * 8) 0 w2.heap.size vd (if i < k then f i else f (i + 1))
  rw [hjf]
  have hz := h.below.size
  refine ⟨vd, ?_, (hji 1 (by omega)).trans hc.c1, (hji 2 (by omega)).trans hc.c2, (hji 3 (by omega)).trans hc.c3, (hji 4 (by omega)).trans hc.c4, (hji 5 (by omega)).trans hc.c5, (hji 6 (by omega)).trans hc.c6, (hji 7 (by omega)).trans hc.c7, (hc.dead.below h.below).wide (Nat.zero_le _) (by omega), hc.small⟩
  have := hji 0 (by omega)
  rw [Nat.add_zero, Nat.add_zero] at this
  exact this.trans hc.c0
theorem Dropped.set {w W3 w5 : World} {v2 u : Value} {n k V : Nat} {G : Nat → Value} (h : Dropped W3.drew w5 v2 n k G) (hb : Below w.heap.size w W3) (hV : w.heap.size ≤ V) (hV3 : V < W3.heap.size) : Dropped w (w5.setCell ⟨V, 5, none⟩ u) v2 n k G := by
  have hB : Below w.heap.size w w5 := hb.trans ((below_undrew h.below).mono hb.size)
  refine ⟨?_, hB.setCell (p := ⟨V, 5, none⟩) hV u⟩
  obtain ⟨a, cap, rfl, hc, hx⟩ := h.form
  refine ⟨a, cap, rfl, hc, fun h0 => ?_⟩
  obtain ⟨g, rfl, hg1, hg2, hcell⟩ := hx h0
  have hg : V < g := Nat.lt_of_lt_of_le hV3 hg1
  refine ⟨g, rfl, by omega, by rw [World.size_setCell]; exact hg2, fun j hj => ?_⟩
  have e : (w5.setCell ⟨V, 5, none⟩ u).heap[g]? = w5.heap[g]? := Below.heap_setCell w5 ⟨V, 5, none⟩ u g (by simp; omega)
  exact (World.cell?_of_block (a := ⟨g, j, none⟩) e).trans (hcell j hj)
theorem dropSnap_trees {W : WorldD} (h : Trees W) {k : Nat} (hk : k < W.pn) : Trees (dropSnap W k) where
  right := h.right
  ids := fun i hi => by
    obtain ⟨j, e, -, hj⟩ := dropSnap_at W k i
    rw [e]
    exact h.ids j (hj hi hk)
  tree := fun i hi => by
    by_cases hp : i < W.pn - 1
    · rw [memOf_snap (W := dropSnap W k) hp]
      obtain ⟨j, e, -, hj⟩ := dropSnap_at W k i
      have := h.snap (hj hp hk)
      show TreeOk W.pool ((dropSnap W k).snaps i).rs ((dropSnap W k).snaps i).rb
      rw [e]
      exact this
    · have e := memOf_set (dropSnap W k) (i - (W.pn - 1))
      rw [show (dropSnap W k).pn + (i - (W.pn - 1)) = i by show W.pn - 1 + (i - (W.pn - 1)) = i; omega] at e
      rw [e]
      have hi2 : i < W.pn - 1 + W.sn := hi
      exact h.set (by omega)
  time := fun i hi => by
    by_cases hp : i < W.pn - 1
    · rw [memOf_snap (W := dropSnap W k) hp]
      obtain ⟨j, e, -, hj⟩ := dropSnap_at W k i
      have := h.time j (by unfold memN; have := hj hp hk; omega)
      rw [memOf_snap (hj hp hk)] at this
      show 0 ≤ ((dropSnap W k).snaps i).time
      rw [e]
      exact this
    · have e := memOf_set (dropSnap W k) (i - (W.pn - 1))
      rw [show (dropSnap W k).pn + (i - (W.pn - 1)) = i by show W.pn - 1 + (i - (W.pn - 1)) = i; omega] at e
      rw [e]
      have hi2 : i < W.pn - 1 + W.sn := hi
      have := h.time (W.pn + (i - (W.pn - 1))) (by unfold memN; omega)
      rw [memOf_set] at this
      exact this
/-- A slot that the others reach is in one of their trees by the very same pointer. -/
theorem drop_reach {W : WorldD} (hT : Trees W) (hD : IdsDist W) {k : Nat} {x : Int} (hk : k < W.pn) (hx : (W.snaps k).id = x) {s : Nat} {b : Int} (hy : ((s : Int), b) ∈ treeL W.pool (W.snaps k).rs (W.snaps k).rb) : InSome (dropSnap W k) s ↔ OthHas W x ((s : Int), b) := by
  have hP := (tree_mem hT.right (hT.snap hk) hy).1
  have hsame : ∀ {rs rb b' : Int}, TreeOk W.pool rs rb → ((s : Int), b') ∈ treeL W.pool rs rb → b' = b := fun ht hm => by
    have h1 := (tree_mem hT.right ht hm).1.2.2.2
    have h2 := hP.2.2.2
    simp only at h1 h2
    omega
  have hne : ∀ j, j < W.pn → j ≠ k → (W.snaps j).id ≠ x := fun j hj hjk e => by
    rcases Nat.lt_or_ge j k with h | h
    · exact hD k hk j h (by rw [e, hx])
    · exact hD j hj k (by omega) (by rw [e, hx])
  rw [inSome_iff]
  constructor
  · rintro ⟨i, hi, b', hm⟩
    have hi2 : i < W.sn + (W.pn - 1) := hi
    by_cases hs : i < W.sn
    · rw [rootA_set (W := dropSnap W k) hs] at hm
      have e := hsame (hT.set hs) hm
      subst e
      exact ⟨((W.sets i).rs, (W.sets i).rb), (othS_mem W.sn).2 (Or.inr ⟨i, hs, rfl⟩), hm⟩
    · have e := rootA_snap (dropSnap W k) (i - W.sn)
      rw [show (dropSnap W k).sn + (i - W.sn) = i by show W.sn + (i - W.sn) = i; omega] at e
      rw [e] at hm
      obtain ⟨j, ej, hjk, hj⟩ := dropSnap_at W k (i - W.sn)
      rw [ej] at hm
      have hj' := hj (by omega) hk
      have e2 := hsame (hT.snap hj') hm
      subst e2
      exact ⟨((W.snaps j).rs, (W.snaps j).rb), (othS_mem W.sn).2 (Or.inl ⟨j, hj', hne j hj' hjk, rfl⟩), hm⟩
  · rintro ⟨r, hr, hm⟩
    rcases (othS_mem W.sn).1 hr with ⟨j, hj, hjx, rfl⟩ | ⟨i, hi, rfl⟩
    · obtain ⟨i, hi, e⟩ := dropSnap_of hk hj (fun e => hjx (by rw [e]; exact hx))
      refine ⟨W.sn + i, by show W.sn + i < W.sn + (W.pn - 1); omega, b, ?_⟩
      have e2 := rootA_snap (dropSnap W k) i
      rw [show (dropSnap W k).sn + i = W.sn + i from rfl] at e2
      rw [e2, e]
      exact hm
    · refine ⟨i, by show i < W.sn + (W.pn - 1); omega, b, ?_⟩
      rw [rootA_set (W := dropSnap W k) hi]
      exact hm

end Go.Proofs.YtjpbmpjddbekgaaGreat
