/- What impl.Used and spec.Used answer. -/
import Derived.Test.YtebegmdbpapfgaaGreatG31
import Derived.Test.YtebegmdbpapfgaaGreatG30
import Derived.Test.YtebegmdbpapfgaaGreatG17
import Derived.Test.YtebegmdbpapfgaaGreatG24
namespace Go.Proofs.YtebegmdbpapfgaaGreat
open Go.RowKit Go.Maps
set_option linter.unusedVariables false

theorem cntNot_all (l : List (Int × Int)) : cntNot (fun _ => False) l = l.length := by
  unfold cntNot
  simp
open Classical in
/-- How many slots the set of a name has. -/
noncomputable def usedAns (W : WorldD) (x : ByteArray) : Nat := if SpecW W then (treeL W.pool (setAt W x).rs (setAt W x).rb).length else 0
theorem treeL_zero (p : PoolD) : treeL p 0 0 = [] := by
  unfold treeL
  exact if_pos ⟨rfl, rfl⟩
theorem usedAns_no {W : WorldD} {x : ByteArray} (h : ¬ SpecW W) : usedAns W x = 0 := if_neg h
theorem usedAns_yes {W : WorldD} {x : ByteArray} (h : SpecW W) : usedAns W x = (treeL W.pool (setAt W x).rs (setAt W x).rb).length := if_pos h
theorem usedAns_zero {W : WorldD} {x : ByteArray} (h : SpecW W → setAt W x = zeroSetD) : usedAns W x = 0 := by
  by_cases hS : SpecW W
  · rw [usedAns_yes hS, h hS]
    show (treeL W.pool 0 0).length = 0
    rw [treeL_zero]; rfl
  · exact usedAns_no hS
theorem setAt_ok {W : WorldD} (h : SpecW W) (x : ByteArray) : TreeOk W.pool (setAt W x).rs (setAt W x).rb := by
  by_cases hx : ∃ k, SetNo W x k
  · obtain ⟨k, hk⟩ := hx
    rw [setAt_at hk]
    exact (h.sets k hk.1).1
  · have e : setAt W x = zeroSetD := by unfold setAt; rw [dif_neg hx]
    rw [e]
    exact Or.inl ⟨rfl, rfl⟩
theorem setAt_long {W : WorldD} {x : ByteArray} (h : 8000 < x.size) (hS : SpecW W) : setAt W x = zeroSetD := by
  refine setAt_no (fun k hk e => ?_)
  have := (hS.names.2.2.2.2.1 k hk).1.2.1
  rw [e] at this
  omega

set_option maxRecDepth 20000 in
set_option maxHeartbeats 400000 in
theorem whoHas_none (v0 v1 v2 v3 : Value) (W : WorldD) (w : World) : Calls Tryz.prog 79 #[worldV v0 v1 v2 v3 W, .slice none 0 0] w (HasPost (fun _ => False) w) := by
  have ha1 := below_alloc w (.cells #[v0, v1, .int .i64 W.time, .int .i64 W.next, v2, v3] 38)
  have hz1 : (w.alloc (.cells #[v0, v1, .int .i64 W.time, .int .i64 W.next, v2, v3] 38)).heap.size = w.heap.size + 1 := World.size_alloc _ _
  have hm := World.ownsMap_made (w.alloc (.cells #[v0, v1, .int .i64 W.time, .int .i64 W.next, v2, v3] 38)) Tryz.prog 58 rawE
  rw [hz1] at hm
  have ha2 := below_next ha1 (below_alloc _ (.map #[] 0))
  have hz2 : ((w.alloc (.cells #[v0, v1, .int .i64 W.time, .int .i64 W.next, v2, v3] 38)).alloc (.map #[] 0)).heap.size = w.heap.size + 2 := by rw [World.size_alloc, hz1]
  have ha3 := below_alloc ((w.alloc (.cells #[v0, v1, .int .i64 W.time, .int .i64 W.next, v2, v3] 38)).alloc (.map #[] 0)) (.cells #[.map (some (w.heap.size + 1))] 114)
  have hc : Cell (((w.alloc (.cells #[v0, v1, .int .i64 W.time, .int .i64 W.next, v2, v3] 38)).alloc (.map #[] 0)).alloc (.cells #[.map (some (w.heap.size + 1))] 114)) (w.heap.size + 2) 0 (.map (some (w.heap.size + 1))) := by
    have := cell_of_block (i := 0) (heap_alloc_new ((w.alloc (.cells #[v0, v1, .int .i64 W.time, .int .i64 W.next, v2, v3] 38)).alloc (.map #[] 0)) (.cells #[.map (some (w.heap.size + 1))] 114)) rfl
    rw [hz2] at this
    exact this
  have HC := hideW hc
  have HM := hideW (hm.kept (grown_of_below ha3 none) (by simp))
  have HB := hideW (below_next ha2 ha3)
  have HZ := hideW (show (((w.alloc (.cells #[v0, v1, .int .i64 W.time, .int .i64 W.next, v2, v3] 38)).alloc (.map #[] 0)).alloc (.cells #[.map (some (w.heap.size + 1))] 114)).heap.size = w.heap.size + 3 by rw [World.size_alloc, hz2])
  clear hm ha1 ha2 ha3 hc hz2
  have hmm := @run_makeMap Tryz.prog
  go_enter Tryz.func79, Tryz.ntmps79
  go_wp2
  generalize ((w.alloc (.cells #[v0, v1, .int .i64 W.time, .int .i64 W.next, v2, v3] 38)).alloc (.map #[] 0)).alloc (.cells #[.map (some (w.heap.size + 1))] 114) = W3 at HC HM HB HZ ⊢
  go_loopw [13] (fun i wr => i = .int .i64 0 ∧ wr = W3) (fun _ _ => 0)
  case atStart => exact ⟨rfl, rfl⟩
  case round =>
    obtain ⟨rfl, rfl⟩ := hrel
    obtain ⟨c0, -⟩ := HC.out
    go_wp2
    go_ret
    exact ⟨_, _, _, rfl, HM.out, by omega, by have := HZ.out; omega, fun s b kl _ => ⟨0, rfl, by simp⟩, HB.out⟩

end Go.Proofs.YtebegmdbpapfgaaGreat

namespace Go.Proofs.YtebegmdbpapfgaaGreat
open Go.RowKit Go.Maps
set_option linter.unusedVariables false

/-- A map that tells of a pointer how many have it, none of them more than K. -/
def HasN (P : Int × Int → Prop) (K : Nat) (D : DataW Value) : Prop := IsMap D ∧ ∀ s b kl, keyOf Tryz.prog 58 (.agg #[.int .i64 s, .int .i64 b]) = some kl → ∃ c : Int, D.atKey kl (.held (.int .i64 0)) = .held (.int .i64 c) ∧ 0 ≤ c ∧ c ≤ K ∧ (c = 0 ↔ ¬ P (s, b))
theorem HasN.has {P : Int × Int → Prop} {K : Nat} {D : DataW Value} (h : HasN P K D) : HasD P D := fun s b kl hk => by
  obtain ⟨c, h1, _, _, h4⟩ := h.2 s b kl hk
  exact ⟨c, h1, h4⟩
theorem HasN.iff {P Q : Int × Int → Prop} {K L : Nat} {D : DataW Value} (h : HasN P K D) (hKL : K ≤ L) (he : ∀ x, P x ↔ Q x) : HasN Q L D := ⟨h.1, fun s b kl hk => by
  obtain ⟨c, h1, h2, h3, h4⟩ := h.2 s b kl hk
  exact ⟨c, h1, h2, by omega, by rw [h4, he]⟩⟩
theorem HasN.none : HasN (fun _ => False) 0 (.map [] : DataW Value) := ⟨⟨_, rfl⟩, fun s b kl _ => ⟨0, rfl, Int.le_refl _, Int.le_refl _, by simp⟩⟩
theorem HasN.more {P : Int × Int → Prop} {K : Nat} {D : DataW Value} (h : HasN P K D) {xs xb c : Int} {kx : Lit} (hkx : keyOf Tryz.prog 58 (.agg #[.int .i64 xs, .int .i64 xb]) = some kx) (hc0 : 0 ≤ c) (hcK : c ≤ K) : HasN (fun y => P y ∨ y = (xs, xb)) (K + 1) (D.put kx (.held (.int .i64 (c + 1)))) := by
  obtain ⟨es, rfl⟩ := h.1
  refine ⟨⟨_, rfl⟩, fun s b kl hk => ?_⟩
  by_cases e : kl = kx
  · subst e
    have e2 := lawP.inj hk hkx
    simp only [Value.agg.injEq, Array.mk.injEq, List.cons.injEq, Value.int.injEq, true_and, and_true] at e2
    obtain ⟨rfl, rfl⟩ := e2
    exact ⟨c + 1, atKey_put_same ⟨_, rfl⟩ (lawP.key hkx) _ _, by omega, by omega, ⟨fun h0 => by omega, fun hn => absurd (Or.inr rfl) hn⟩⟩
  · obtain ⟨d, h1, h2, h3, h4⟩ := h.2 s b kl hk
    refine ⟨d, (atKey_put_other e _ _).trans h1, h2, by omega, ?_⟩
    rw [h4]
    constructor
    · rintro hn (hp | hp)
      · exact hn hp
      · injection hp with p1 p2
        subst p1 p2
        rw [hk] at hkx
        exact e (Option.some.inj hkx)
    · exact fun hn hp => hn (Or.inl hp)
theorem keepLoc_grown {n₀ B M : Nat} {X Y : World} (h : X.grownBy Y (some M)) (h1 : n₀ ≤ M) (h2 : M < B) (h3 : n₀ ≤ X.heap.size) : KeepLoc n₀ B X Y :=
  ⟨(Below.refl n₀ X).grown h h3 (fun k e => by cases e; exact h1), fun k o hk ho _ => (h.block k (Array.getElem?_eq_some_iff.1 ho).1 (fun e => by cases e; omega)).trans ho⟩

/-- The marks of loops that have ended, each of a block of its own, from n₀ on and ahead of B. -/
def Marks (n₀ B : Nat) : List Deferred → World → Prop
  | [], _ => True
  | d :: ds, w => (∃ r, d = { target := .collected r, args := #[] } ∧ n₀ ≤ r ∧ r < B ∧ w.heap[r]? = some (.deferred (some [])) ∧ ∀ q, ({ target := .collected q, args := #[] } : Deferred) ∈ ds → q ≠ r) ∧ Marks n₀ B ds w
theorem Marks.kept {n₀ B : Nat} {X Y : World} (h : ∀ r, n₀ ≤ r → r < B → X.heap[r]? = some (.deferred (some [])) → Y.heap[r]? = some (.deferred (some []))) : ∀ {ds : List Deferred}, Marks n₀ B ds X → Marks n₀ B ds Y
  | [], _ => trivial
  | d :: ds, ⟨⟨r, h1, h2, h3, h4, h5⟩, h6⟩ => ⟨⟨r, h1, h2, h3, h r h2 h3 h4, h5⟩, Marks.kept h h6⟩
theorem Marks.below {n₀ B : Nat} {X Y : World} {ds : List Deferred} (h : Marks n₀ B ds X) (hb : Below X.heap.size X Y) : Marks n₀ B ds Y := h.kept (fun r _ _ hr => (hb.block r (Array.getElem?_eq_some_iff.1 hr).1).trans hr)
theorem Marks.mono {n₀ B C : Nat} {X : World} (hc : B ≤ C) : ∀ {ds : List Deferred}, Marks n₀ B ds X → Marks n₀ C ds X
  | [], _ => trivial
  | d :: ds, ⟨⟨r, h1, h2, h3, h4, h5⟩, h6⟩ => ⟨⟨r, h1, h2, by omega, h4, h5⟩, Marks.mono hc h6⟩
theorem Marks.lt {n₀ B : Nat} {X : World} : ∀ {ds : List Deferred}, Marks n₀ B ds X → ∀ q, ({ target := .collected q, args := #[] } : Deferred) ∈ ds → q < B
  | d :: ds, ⟨⟨r, h1, h2, h3, h4, h5⟩, h6⟩, q, hq => by
    rcases List.mem_cons.1 hq with e | e
    · rw [h1] at e
      simp only [Deferred.mk.injEq, Target.collected.injEq, and_true] at e
      omega
    · exact Marks.lt h6 q e
theorem Marks.more {n₀ B r : Nat} {X : World} {ds : List Deferred} (h : Marks n₀ B ds X) (hB : B ≤ r) (hn : n₀ ≤ r) (hr : X.heap[r]? = some (.deferred (some []))) : Marks n₀ (r + 1) ({ target := .collected r, args := #[] } :: ds) X :=
  ⟨⟨r, rfl, hn, by omega, hr, fun q hq => by have := h.lt q hq; omega⟩, h.mono (by omega)⟩
theorem Marks.put {n₀ B r : Nat} {X : World} {o : Obj} : ∀ {ds : List Deferred}, Marks n₀ B ds X → (∀ q, ({ target := .collected q, args := #[] } : Deferred) ∈ ds → q ≠ r) → Marks n₀ B ds (X.putObj r o)
  | [], _, _ => trivial
  | d :: ds, ⟨⟨q, h1, h2, h3, h4, h5⟩, h6⟩, hne => ⟨⟨q, h1, h2, h3, (World.putObj_heap_other (hne q (by rw [h1]; exact List.mem_cons_self))).trans h4, h5⟩, Marks.put h6 (fun q hq => hne q (List.mem_cons_of_mem _ hq))⟩
/-- On its way out a function comes by its marks, one by one. -/
theorem leaves_marks {n₀ B n : Nat} {F : Fence} {P : Program} {fn : Func} {tmps : Array Value} {R : Ending → World → Prop} (J : World → Prop) (hJ : ∀ X r, J X → n₀ ≤ r → X.heap[r]? = some (.deferred (some [])) → J (X.putObj r (.deferred none)))
    (hend : ∀ X, J X → LeavesInM F n P fn tmps R [] .returning X) : ∀ (ds : List Deferred) (X : World), Marks n₀ B ds X → J X → LeavesInM F n P fn tmps R ds .returning X
  | [], X, _, h => hend X h
  | d :: ds, X, ⟨⟨r, h1, h2, h3, h4, h5⟩, h6⟩, h => ⟨by simp, .inl ⟨r, _, by rw [h1], run_takeDeferred h4, leaves_marks J hJ hend ds _ (Marks.put h6 h5) (hJ X r h h2 h4)⟩⟩

end Go.Proofs.YtebegmdbpapfgaaGreat

namespace Go.Proofs.YtebegmdbpapfgaaGreat
open Go.RowKit Go.Shelf Go.Maps
set_option linter.unusedVariables false
attribute [local go_sem] Oper.semAt_some

/-- Some of the first k trees has it. -/
def SomeHas (W : WorldD) (qs qb : Nat → Int) (k : Nat) (y : Int × Int) : Prop := ∃ i, i < k ∧ y ∈ treeL W.pool (qs i) (qb i)
theorem cell_grown {X Y : World} {M b o : Nat} {v : Value} (h : Cell X b o v) (hg : X.grownBy Y (some M)) (hne : b ≠ M) : Cell Y b o v :=
  ⟨(hg.cell_far _ (lt_of_cell h.1) (fun e => hne (Option.some.inj e))).trans h.1, (hg.frozen_far _ (lt_of_cell h.1) (fun e => hne (Option.some.inj e))).trans h.2⟩

/-- Between two rounds: the first k trees have been told. -/
def RelH (w : World) (v0 v1 v2 v3 : Value) (W : WorldD) (qs qb : Nat → Int) (k : Nat) (ds : List Deferred) (wr : World) : Prop :=
  Cell wr (w.heap.size + 1 + 1) 0 (.map (some (w.heap.size + 1))) ∧ Box6 wr w.heap.size v0 v1 (.int .i64 W.time) (.int .i64 W.next) v2 v3 ∧ (∃ nm D, wr.ownsMap Tryz.prog 58 rawE (w.heap.size + 1) nm D ∧ nm ≤ 73 * k ∧ HasN (SomeHas W qs qb k) (73 * k) D) ∧ (∃ B, Marks (w.heap.size + 3) B ds wr ∧ B ≤ wr.heap.size) ∧ Below w.heap.size w wr ∧ w.heap.size + 3 ≤ wr.heap.size

set_option maxRecDepth 20000 in
set_option maxHeartbeats 2000000 in
theorem whoHas_any (v0 v1 v2 v3 : Value) (lo hi : Nat) (W : WorldD) (oa : Option Addr) (nr oc : Nat) (qs qb : Nat → Int) (lo2 hi2 : Nat) (w : World) (h : WorldAt w lo hi v0 v1 v2 v3 W) (hh : hi ≤ w.heap.size) (hR : Right W.pool) (hO : PtrsAt w lo2 hi2 (.slice oa nr oc) nr qs qb) (hnr : nr ≤ 100) (hT : ∀ i, i < nr → TreeOk W.pool (qs i) (qb i)) :
    Calls Tryz.prog 79 #[worldV v0 v1 v2 v3 W, .slice oa nr oc] w (HasPost (SomeHas W qs qb nr) w) := by
  have Hp := hideQ h
  have HO := hideQ hO
  have HT := hideQ hT
  clear h hO hT
  have hnr' : (nr : Int) ≤ 100 := by omega
  have ha1 := below_alloc w (.cells #[v0, v1, .int .i64 W.time, .int .i64 W.next, v2, v3] 38)
  have hz1 : (w.alloc (.cells #[v0, v1, .int .i64 W.time, .int .i64 W.next, v2, v3] 38)).heap.size = w.heap.size + 1 := World.size_alloc _ _
  have hm := World.ownsMap_made (w.alloc (.cells #[v0, v1, .int .i64 W.time, .int .i64 W.next, v2, v3] 38)) Tryz.prog 58 rawE
  rw [hz1] at hm
  have hc2 := below_alloc (w.alloc (.cells #[v0, v1, .int .i64 W.time, .int .i64 W.next, v2, v3] 38)) (.map #[] 0)
  have ha2 := below_next ha1 hc2
  have hz2 : ((w.alloc (.cells #[v0, v1, .int .i64 W.time, .int .i64 W.next, v2, v3] 38)).alloc (.map #[] 0)).heap.size = w.heap.size + 2 := by rw [World.size_alloc, hz1]
  have ha3 := below_alloc ((w.alloc (.cells #[v0, v1, .int .i64 W.time, .int .i64 W.next, v2, v3] 38)).alloc (.map #[] 0)) (.cells #[.map (some (w.heap.size + 1))] 114)
  have hc : Cell (((w.alloc (.cells #[v0, v1, .int .i64 W.time, .int .i64 W.next, v2, v3] 38)).alloc (.map #[] 0)).alloc (.cells #[.map (some (w.heap.size + 1))] 114)) (w.heap.size + 2) 0 (.map (some (w.heap.size + 1))) := by
    have := cell_of_block (i := 0) (heap_alloc_new ((w.alloc (.cells #[v0, v1, .int .i64 W.time, .int .i64 W.next, v2, v3] 38)).alloc (.map #[] 0)) (.cells #[.map (some (w.heap.size + 1))] 114)) rfl
    rw [hz2] at this
    exact this
  have HC := hideQ hc
  have HX := hideQ (((Box6.new w v0 v1 (.int .i64 W.time) (.int .i64 W.next) v2 v3 38).below hc2).below ha3)
  have HM := hideQ (hm.kept (grown_of_below ha3 none) (by simp))
  have HB := hideQ (below_next ha2 ha3)
  have HZ := hideQ (show (((w.alloc (.cells #[v0, v1, .int .i64 W.time, .int .i64 W.next, v2, v3] 38)).alloc (.map #[] 0)).alloc (.cells #[.map (some (w.heap.size + 1))] 114)).heap.size = w.heap.size + 3 by rw [World.size_alloc, hz2])
  clear hm ha1 ha2 ha3 hc hz2 hc2
  have hmm := @run_makeMap Tryz.prog
  refine (callsIn_wide (n := 3)).1 ?_
  refine callsIn_of_wp_marks Tryz.func79 rfl trivial ?_ rfl
  simp only [Tryz.ntmps79, List.size_toArray, List.length_cons, List.length_nil, Nat.reduceAdd, Nat.reduceSub, Array.replicate_succ, Array.replicate_zero, List.push_toArray, List.append_toArray, List.nil_append, List.cons_append]
  gi_wp2
  generalize ((w.alloc (.cells #[v0, v1, .int .i64 W.time, .int .i64 W.next, v2, v3] 38)).alloc (.map #[] 0)).alloc (.cells #[.map (some (w.heap.size + 1))] 114) = W3 at HC HX HM HB HZ ⊢
  have HC' := hideQ (show Cell W3 (w.heap.size + 1 + 1) 0 (.map (some (w.heap.size + 1))) from HC.out)
  clear HC hz1 hmm
  refine wpIn_loop (fun a' wr => ∃ (u7 u14 u15 u16 u17 u18 u19 u28 : Value) (ds : List Deferred) (k : Nat), k ≤ nr ∧ RelH w v0 v1 v2 v3 W qs qb k ds wr ∧ a' = { tmps := #[worldV v0 v1 v2 v3 W, .slice oa nr oc, .pointer (some ⟨w.heap.size, 0, none⟩), undef, .map none, .pointer (some ⟨w.heap.size + 1 + 1, 0, none⟩), undef, u7, undef, undef, .map (some (w.heap.size + 1)), .slice oa nr oc, .int .i64 nr, .int .i64 k, u14, u15, u16, u17, u18, u19, undef, undef, undef, undef, undef, undef, undef, undef, u28, undef], defers := ds }) (fun a' _ => nr - (intOf (a'.tmps.getD 13 undef)).toNat) ?_ ?_
  · exact ⟨_, _, _, _, _, _, _, _, [], 0, Nat.zero_le _, ⟨HC'.out, HX.out, ⟨0, .map [], HM.out, Nat.zero_le _, HasN.none.iff (Nat.le_refl _) (fun x => ⟨False.elim, fun ⟨i, hi, _⟩ => absurd hi (Nat.not_lt_zero _)⟩)⟩, ⟨w.heap.size + 3, trivial, by have := HZ.out; omega⟩, HB.out, by have := HZ.out; omega⟩, rfl⟩
  clear HC' HX HM HB HZ
  clear W3
  rintro _ wr ⟨u7, u14, u15, u16, u17, u18, u19, u28, ds, k, hk, ⟨hc, hx, ⟨nm, D, hm, hnm, hd⟩, ⟨B0, hmk, hB0⟩, hb, hz⟩, rfl⟩
  have Hm := hideQ hm
  have Hd := hideQ hd
  have Hmk := hideQ hmk
  have Hc := hideQ hc
  have Hx := hideQ hx
  clear hm hd hmk hc hx
  by_cases hlt : k < nr
  rotate_left
  · obtain rfl : k = nr := by omega
    obtain ⟨c0, -⟩ := Hc.out
    gi_wp2
    refine leaves_marks (n₀ := w.heap.size + 3) (B := B0) (fun X => (X.ownsMap Tryz.prog 58 rawE (w.heap.size + 1) nm D ∧ Below w.heap.size w X) ∧ w.heap.size + 1 < X.heap.size) ?_ ?_ ds wr Hmk.out ⟨⟨Hm.out, hb⟩, by omega⟩
    · rintro X r ⟨⟨h1, h2⟩, h3⟩ hr hX
      exact ⟨⟨h1.kept (grownBy_putObj' X r _) (by simp; omega), h2.trans (belowK_b (w := w) (Nat.le_refl _) X r _ _ (by omega) hX rfl rfl)⟩, by simp; omega⟩
    · rintro X ⟨⟨h1, h2⟩, h3⟩
      exact ⟨_, results_tmp rfl _ _ _, ⟨_, _, _, rfl, h1, by omega, h3, Hd.out.has, h2⟩⟩
  have hlt' : (k : Int) < (nr : Int) := by omega
  obtain ⟨b, off, rfl, q0, q1⟩ := (HO.out.below hb).cellsD hlt
  have ha := below_alloc wr (.cells #[.int .i64 (qs k), .int .i64 (qb k)] 58)
  have HY := hideQ (Box2.new wr (.int .i64 (qs k)) (.int .i64 (qb k)) 58)
  have HX1 := hideQ (Hx.out.below ha)
  have HZ1 := hideQ (show (wr.alloc (.cells #[.int .i64 (qs k), .int .i64 (qb k)] 58)).heap.size = wr.heap.size + 1 from World.size_alloc _ _)
  have HB1 := hideQ (below_next hb ha)
  have Hm1 := hideQ (Hm.out.kept (grown_of_below ha none) (by simp))
  have Hmk1 := hideQ (Hmk.out.below ha)
  have Hc1 := hideQ (Hc.out.below ha)
  obtain ⟨⟨x0, -⟩, ⟨x1, -⟩, ⟨x2, -⟩, ⟨x3, -⟩, ⟨x4, -⟩, ⟨x5, -⟩⟩ := HX1.out
  obtain ⟨⟨y0, -⟩, ⟨y1, -⟩⟩ := HY.out
  clear ha Hm Hmk Hc Hx
  gi_wp2
  clear x0 x1 x2 x3 x4 x5 y0 y1 q0 q1
  generalize wr.alloc (.cells #[.int .i64 (qs k), .int .i64 (qb k)] 58) = W4 at HY HX1 HZ1 HB1 Hm1 Hmk1 Hc1 ⊢
  refine ⟨trivial, (callsIn_wide.2 (slotsOf_any v0 v1 v2 v3 W (qs k) (qb k) W4)).mono ?_⟩
  rintro e w5 ⟨rfl, hbw, hbt, hb5, hz5⟩
  have HX5 := hideQ (HX1.out.below hb5)
  have HB5 := hideQ (below_next HB1.out hb5)
  have Hm5 := hideQ (Hm1.out.kept (grown_of_below hb5 none) (by simp))
  have Hmk5 := hideQ (Hmk1.out.below hb5)
  have Hc5 := hideQ (Hc1.out.below hb5)
  have hz6 : w.heap.size + 3 ≤ w5.heap.size ∧ B0 ≤ w5.heap.size := by have := HZ1.out; omega
  have hseq := slots_stops w.heap.size w5.heap.size 2 W4.heap.size (W4.heap.size + 1) lo hi W.pool v0 v1 v2 v3 W.time W.next (qs k) (qb k) w5 (by omega) (Nat.le_refl _) hh hR (HT.out k hlt) hbw hbt (Hp.out.pool.1.below HB5.out)
  clear hb5 hbw hbt hz5 HX1 HB1 Hm1 Hmk1 Hc1 HZ1 HY
  gi_wp2
  have hN := treeQ_len W.pool (qs k) (qb k)
  refine wpIn_rangeFunc_ownH rfl (by omega) (gf := 114) (lb := #[.pointer (some ⟨W4.heap.size, 0, none⟩), .pointer (some ⟨W4.heap.size + 1, 0, none⟩)]) rfl trivial (enters_of Tryz.func114 (by kernel_rfl) rfl) hseq keepLoc_t (keepLoc_b (by omega)) (Below.refl _ _) (fun _ => rfl)
    (fun pre X => ((Cell X (w.heap.size + 1 + 1) 0 (.map (some (w.heap.size + 1))) ∧ Box6 X w.heap.size v0 v1 (.int .i64 W.time) (.int .i64 W.next) v2 v3) ∧ (∃ nm D, X.ownsMap Tryz.prog 58 rawE (w.heap.size + 1) nm D ∧ nm ≤ 73 * k + pre.length ∧ HasN (fun y => SomeHas W qs qb k y ∨ y ∈ pre.map (·.1.2)) (73 * k + pre.length) D)) ∧ Marks (w.heap.size + 3) B0 ds X ∧ Below w.heap.size w X)
    (fun _ _ _ => False)
    (fun s X Y row hs hg hr => by
      obtain ⟨⟨⟨i1, i2⟩, nm, D, i3, i4, i5⟩, i6, i7⟩ := hs
      exact ⟨⟨⟨cell_own i1 hg hr, cell_own i2.1 hg hr, cell_own i2.2.1 hg hr, cell_own i2.2.2.1 hg hr, cell_own i2.2.2.2.1 hg hr, cell_own i2.2.2.2.2.1 hg hr, cell_own i2.2.2.2.2.2 hg hr⟩, nm, D, i3.kept hg (fun e => by have := (hr _ e.symm).1; omega), i4, i5⟩, i6.kept (fun r h1 h2 h3 => (hg.block r (Array.getElem?_eq_some_iff.1 h3).1 (fun e => by have := (hr _ e.symm).1; omega)).trans h3), ownFrom_below (β := Unit) (Nat.le_refl _) (by omega) () X Y row i7 hg hr⟩)
    (fun _ _ _ _ _ hs _ _ => hs)
    ⟨⟨⟨Hc5.out, HX5.out⟩, nm, D, Hm5.out, hnm, Hd.out.iff (Nat.le_refl _) (fun y => by simp)⟩, Hmk5.out, HB5.out⟩
    (fun x a' X => ∃ Bx, w.heap.size + 3 ≤ Bx ∧ Box2 X Bx (.int .i64 x.1.2.1) (.int .i64 x.1.2.2) ∧ a' = { tmps := #[worldV v0 v1 v2 v3 W, .slice (some ⟨b, off, none⟩) nr oc, .pointer (some ⟨w.heap.size, 0, none⟩), undef, .map none, .pointer (some ⟨w.heap.size + 1 + 1, 0, none⟩), undef, .pointer (some ⟨wr.heap.size, 0, none⟩), undef, .pointer (some ⟨Bx, 0, none⟩), .map (some (w.heap.size + 1)), .slice (some ⟨b, off, none⟩) nr oc, .int .i64 nr, .int .i64 k, .bool true, .pointer (some ⟨b, off + k * 2, none⟩), .agg #[.int .i64 (qs k), .int .i64 (qb k)], .agg #[v0, v1, .int .i64 W.time, .int .i64 W.next, v2, v3], .agg #[.int .i64 (qs k), .int .i64 (qb k)], .func (.func 114) #[] #[.pointer (some ⟨W4.heap.size, 0, none⟩), .pointer (some ⟨W4.heap.size + 1, 0, none⟩)], .agg #[.int .i64 x.1.1.1, .int .i64 x.1.1.2], .agg #[.int .i64 x.1.2.1, .int .i64 x.1.2.2], undef, undef, undef, undef, undef, undef, u28, undef], defers := [] })
    (fun x a' _ X Y row hs hg hr => by obtain ⟨Bx, h1, h2, h3⟩ := hs; exact ⟨Bx, h1, ⟨cell_own h2.1 hg hr, cell_own h2.2 hg hr⟩, h3⟩)
    ?assign ?body ?done ?stop
  case assign =>
    rintro l pre x X K ⟨⟨⟨i1, i2⟩, nm, D, i3, i4, i5⟩, i6, i7⟩ hK
    have ha := below_alloc X (.cells #[.int .i64 x.1.2.1, .int .i64 x.1.2.2] 58)
    have hy := Box2.new X (.int .i64 x.1.2.1) (.int .i64 x.1.2.2) 58
    have HK := hideQ (hK _ _ ((KeepsOthers.alloc _ _).from _) (KeepLoc.of_below ha i7.size) ⟨⟨⟨i1.below ha, i2.below ha⟩, nm, D, i3.kept (grown_of_below ha none) (by simp), i4, i5⟩, i6.below ha, below_next i7 ha⟩ ⟨X.heap.size, by have := i1.lt; omega, hy, rfl⟩)
    clear ha hy hK i1 i2 i3 i4 i5 i6 i7
    gi_wp2
    exact HK.out
  case body =>
    rintro l pre x a' X hl - ⟨⟨⟨i1, i2⟩, nm, D, i3, i4, i5⟩, i6, i7⟩ ⟨Bx, hBx, hbx, rfl⟩ hlt2
    obtain ⟨kl, hkl⟩ := keyP_of x.2.1 x.2.2
    obtain ⟨c, hc1, hc2, hc3, hc4⟩ := i5.2 _ _ kl hkl
    have hdr : Below X.heap.size X X.drew := (Below.refl _ X).drew
    have hown := i3.kept (grown_of_below hdr none) (by simp)
    have hl0 := has_look hown hkl hc1
    obtain ⟨ev, st, wa, wb, he, hl1, hst, hownb, hga, hgb⟩ := entry_own hown lawP0 homesT (by unfold maxLen; omega) zeroI hkl hc1 (val := .int .i64 (IntKind.i64.wrap (c + 1)))
    have hc5 : c ≤ 10000 := by omega
    rw [wrap_small (n := c + 1) (by omega) (by omega)] at hownb
    have hg := grown_next (grown_of_below hdr (some (w.heap.size + 1))) hgb
    have HI := hideQ (show KeepsFrom w5.heap.size X wb ∧ KeepLoc w.heap.size w5.heap.size X wb ∧ ((Cell wb (w.heap.size + 1 + 1) 0 (.map (some (w.heap.size + 1))) ∧ Box6 wb w.heap.size v0 v1 (.int .i64 W.time) (.int .i64 W.next) v2 v3) ∧ (∃ nm D, wb.ownsMap Tryz.prog 58 rawE (w.heap.size + 1) nm D ∧ nm ≤ 73 * k + (pre ++ [x]).length ∧ HasN (fun y => SomeHas W qs qb k y ∨ y ∈ (pre ++ [x]).map (·.1.2)) (73 * k + (pre ++ [x]).length) D)) ∧ Marks (w.heap.size + 3) B0 ds wb ∧ Below w.heap.size w wb from by
      refine ⟨KeepsFrom.of_grownBy hg (fun j e => by cases e; omega), keepLoc_grown hg (by omega) (by omega) i7.size, ⟨⟨cell_grown i1 hg (by omega), i2.side hg (by omega)⟩, nm + 1, _, hownb, by rw [List.length_append]; simp; omega, ?_⟩, i6.kept (fun r h1 h2 h3 => (hg.block r (Array.getElem?_eq_some_iff.1 h3).1 (fun e => by cases e; omega)).trans h3), i7.grown hg i7.size (fun j e => by cases e; omega)⟩
      refine (i5.more hkl hc2 hc3).iff (by rw [List.length_append]; simp; omega) (fun y => ?_)
      rw [List.map_append, List.mem_append]
      simp [or_assoc])
    obtain ⟨⟨y0, -⟩, ⟨y1, -⟩⟩ := hbx.below hdr
    obtain ⟨c0, -⟩ := i1.below hdr
    clear hownb hga hgb hg hown i1 i2 i3 i5 i6 i7 hc1 hc4 hkl hbx hdr hseq
    unfold goInt at he hst
    gi_wp2
    gi_region
    all_goals exact HI.out
  case done =>
    rintro Dd ys X hD hys ⟨⟨⟨i1, i2⟩, nm, D, i3, i4, i5⟩, i6, i7⟩ hK
    have hv : ys.map (·.1.2) = treeL W.pool (qs k) (qb k) := by
      rw [← treeQ_snd, ← hys, List.map_map]
      rfl
    have hyl : ys.length ≤ 73 := by
      have := congrArg List.length hys
      rw [List.length_map] at this
      omega
    have hDl := (Array.getElem?_eq_some_iff.1 hK).1
    have HR := hideQ (show RelH w v0 v1 v2 v3 W qs qb (k + 1) ({ target := .collected Dd, args := #[] } :: ds) X from ⟨i1, i2, ⟨nm, D, i3, by omega, i5.iff (by omega) (fun y => by
      rw [hv]
      constructor
      · rintro (⟨i, hi, hy⟩ | hy)
        · exact ⟨i, by omega, hy⟩
        · exact ⟨k, by omega, hy⟩
      · rintro ⟨i, hi, hy⟩
        by_cases e : i = k
        · subst e; exact Or.inr hy
        · exact Or.inl ⟨i, by omega, hy⟩)⟩, ⟨Dd + 1, i6.more (by omega) (by omega) hK, by omega⟩, i7, by omega⟩)
    clear i1 i2 i3 i4 i5 i6 i7 hv hys
    gi_wp2
    exact ⟨⟨_, _, _, _, _, _, _, _, _, k + 1, by omega, HR.out, rfl⟩, by simp [intOf]; omega⟩
  case stop =>
    rintro Dd c pre X _ _ h _
    exact h.elim

end Go.Proofs.YtebegmdbpapfgaaGreat

namespace Go.Proofs.YtebegmdbpapfgaaGreat
open Go.RowKit Go.Maps
set_option linter.unusedVariables false

/-- The tree of the snapshot ahead has it. -/
def OldHas (W : WorldD) (x : Int) (y : Int × Int) : Prop := y ∈ treeL W.pool (aheadOf W (aheadOf W x).prev).rs (aheadOf W (aheadOf W x).prev).rb
open Classical in
noncomputable def writtenAns (W : WorldD) (x : Int) : Nat := if SpecW W then cntNot (OldHas W x) (treeL W.pool (aheadOf W x).rs (aheadOf W x).rb) else 0
theorem writtenAns_no {W : WorldD} {x : Int} (h : ¬ SpecW W) : writtenAns W x = 0 := if_neg h
theorem writtenAns_yes {W : WorldD} {x : Int} (h : SpecW W) : writtenAns W x = cntNot (OldHas W x) (treeL W.pool (aheadOf W x).rs (aheadOf W x).rb) := if_pos h
theorem writtenAns_none {W : WorldD} {x : Int} (h : ∀ k, k < W.pn → (W.snaps k).id ≠ x) : writtenAns W x = 0 := by
  by_cases hS : SpecW W
  · rw [writtenAns_yes hS, aheadOf_no h]
    show cntNot _ (treeL W.pool 0 0) = 0
    rw [treeL_zero]
    rfl
  · exact writtenAns_no hS
theorem cntNot_iff {P Q : Int × Int → Prop} (h : ∀ x, P x ↔ Q x) (l : List (Int × Int)) : cntNot P l = cntNot Q l := by
  have : P = Q := funext fun x => propext (h x)
  rw [this]
theorem take_next {l : List (Int × Int)} {k : Nat} (h : k < l.length) : l.take (k + 1) = l.take k ++ [(fstL l k, sndL l k)] := by
  rw [List.take_succ_eq_append_getElem h]
  unfold fstL sndL
  rw [List.getD_eq_getElem?_getD, List.getElem?_eq_getElem h]
  rfl

end Go.Proofs.YtebegmdbpapfgaaGreat

namespace Go.Proofs.YtebegmdbpapfgaaGreat
open Go.RowKit Go.Maps
set_option linter.unusedVariables false

set_option maxRecDepth 20000 in
set_option maxHeartbeats 1000000 in
theorem specWritten_any (v0 v1 v2 v3 : Value) (lo hi : Nat) (W : WorldD) (x : Int) (w : World) (h : WorldAt w lo hi v0 v1 v2 v3 W) : Calls Tryz.prog 15 #[worldV v0 v1 v2 v3 W, .int .i64 x] w fun e w' => e = .returned (.int .i64 (writtenAns W x)) ∧ Below w.heap.size w w' := by
  have Hp := hideW h
  obtain ⟨m1, al, cl, rfl, ml, -⟩ := id h.snaps
  clear h
  unfold maxLen at m1
  have hbw := below_alloc w (.cells #[v0, v1, .int .i64 W.time, .int .i64 W.next, v2, .slice al W.pn cl] 38)
  have HX := hideW (Box6.new w v0 v1 (.int .i64 W.time) (.int .i64 W.next) v2 (.slice al W.pn cl) 38)
  obtain ⟨⟨x0, -⟩, ⟨x1, -⟩, ⟨x2, -⟩, ⟨x3, -⟩, ⟨x4, -⟩, ⟨x5, -⟩⟩ := HX.out
  go_enter Tryz.func15, Tryz.ntmps15
  go_wp2_with fail
  generalize w.alloc (.cells #[v0, v1, .int .i64 W.time, .int .i64 W.next, v2, .slice al W.pn cl] 38) = W0 at HX hbw x0 x1 x2 x3 x4 x5 ⊢
  refine (l04Snap_any _ _ _ _ lo hi W x W0 (Hp.out.below hbw)).mono ?_
  rintro e w1 ⟨r, rfl, hr, hb1⟩
  have hB1 := below_next hbw hb1
  have HX1 := hideW (HX.out.below hb1)
  clear x0 x1 x2 x3 x4 x5 hb1 hbw HX
  rcases hr with ⟨k, hk, hke, hkl, rfl⟩ | ⟨hno, rfl⟩
  rotate_left
  · have HA := hideW (show writtenAns W x = 0 from writtenAns_none hno)
    clear hno
    go_wp2
    go_ret
    exact ⟨by rw [HA.out]; rfl, hB1⟩
  · have Hno := hideW (show SnapNo W x k from ⟨hk, hke, hkl⟩)
    have hk' : (k : Int) < (W.pn : Int) := by omega
    clear hke hkl
    obtain ⟨⟨x0, -⟩, ⟨x1, -⟩, ⟨x2, -⟩, ⟨x3, -⟩, ⟨x4, -⟩, ⟨x5, -⟩⟩ := HX1.out
    go_wp2_with fail
    refine (specWorldRight_any _ _ _ _ lo hi W w1 (Hp.out.below hB1)).mono ?_
    rintro e w2 ⟨⟨t, rfl, ht⟩, hb2⟩
    have Ht := hideW ht
    have hB2 := below_next hB1 hb2
    have HX2 := hideW (HX1.out.below hb2)
    clear ht x0 x1 x2 x3 x4 x5 hb2 hB1 HX1
    cases t
    · have HA := hideW (show writtenAns W x = 0 from writtenAns_no (fun h => absurd (Ht.out.2 h) (by simp)))
      go_wp2
      go_ret
      exact ⟨by rw [HA.out]; rfl, hB2⟩
    · have HS := hideW (Ht.out.1 rfl)
      have HT := hideW (show ∀ y, TreeOk W.pool (aheadOf W y).rs (aheadOf W y).rb from old_ok HS.out.snaps)
      have HA := hideW (show aheadOf W x = W.snaps k from aheadOf_at Hno.out)
      obtain ⟨b, off, vd, rfl, hs⟩ := (Hp.out.snaps.below hB2).cells hk
      have q3 := hs.c3
      have q5 := hs.c5
      have q6 := hs.c6
      have Hs := hideW hs
      clear hs
      have hT2 := hideW (show TreeOk W.pool (W.snaps k).rs (W.snaps k).rb from HS.out.snaps k hk)
      obtain ⟨⟨x0, -⟩, ⟨x1, -⟩, ⟨x2, -⟩, ⟨x3, -⟩, ⟨x4, -⟩, ⟨x5, -⟩⟩ := HX2.out
      have e1 := Nat.ne_of_lt (lt_of_cell x0)
      have e2 := Nat.ne_of_lt (lt_of_cell q3)
      have e1' := e1.symm
      have e2' := e2.symm
      have ha2 := below_alloc w2 (.cells #[.int .i64 0, .int .i64 0] 58)
      have HY2 := hideW (Box2.new w2 (.int .i64 0) (.int .i64 0) 58)
      go_wp2_with fail
      go_region_held3 (fun w' => w'.cell? ⟨w.heap.size, 0, none⟩ = some v0 ∧ w'.cell? ⟨w.heap.size, 1, none⟩ = some v1 ∧ w'.cell? ⟨w.heap.size, 2, none⟩ = some (.int .i64 W.time) ∧ w'.cell? ⟨w.heap.size, 3, none⟩ = some (.int .i64 W.next) ∧ w'.cell? ⟨w.heap.size, 4, none⟩ = some v2 ∧ w'.cell? ⟨w.heap.size, 5, none⟩ = some (.slice (some ⟨b, off, none⟩) W.pn cl) ∧ w'.cell? ⟨b, off + k * 8 + 3, none⟩ = some (.int .i64 (W.snaps k).prev)) (go_keep)
        (first
          | (go_at_call 44; refine (l04Ahead_any _ _ _ _ lo hi W _ _ ((Hp.out.below hB2).below (Below.refl _ _).drew)).mono ?_; rintro e w3 ⟨s, sb, t', rfl, hF, hb3⟩; have hb3' := below_undrew hb3; have brA := hideW (trivial : True); have HX3 := hideW (HX2.out.below hb3'); have Hs3 := hideW (Hs.out.below hb3'); obtain ⟨⟨z0, -⟩, ⟨z1, -⟩, ⟨z2, -⟩, ⟨z3, -⟩, ⟨z4, -⟩, ⟨z5, -⟩⟩ := HX2.out.below hb3'; have p3 := (Hs.out.below hb3').c3; have n1 := Nat.ne_of_lt (lt_of_cell z0); have n2 := Nat.ne_of_lt (lt_of_cell p3); have n1' := n1.symm; have n2' := n2.symm)
          | (go_at_call 44; refine (l04Ahead_any _ _ _ _ lo hi W _ _ ((Hp.out.below hB2).below ha2.drew)).mono ?_; rintro e w3 ⟨s, sb, t', rfl, hF, hb3⟩; have brB := below_undrew hb3; have hb3' := below_next ha2 brB; obtain ⟨⟨y0, y0'⟩, ⟨y1, y1'⟩⟩ := HY2.out.below brB; have HX3 := hideW (HX2.out.below hb3'); have Hs3 := hideW (Hs.out.below hb3'); obtain ⟨⟨z0, -⟩, ⟨z1, -⟩, ⟨z2, -⟩, ⟨z3, -⟩, ⟨z4, -⟩, ⟨z5, -⟩⟩ := HX2.out.below hb3'; have p3 := (Hs.out.below hb3').c3))
      all_goals
        have hq := ahead_of HS.out.names.prevOk.pos hF
        have HO := hideW (show OldHas W x = fun y => y ∈ treeL W.pool s sb by unfold OldHas; rw [HA.out, hq.1, hq.2.1])
        have hTo := hideW (show TreeOk W.pool s sb by rw [hq.1, hq.2.1]; exact HT.out _)
        have hB3 := below_next hB2 hb3'
        clear hq hF x0 x1 x2 x3 x4 x5 z0 z1 z2 z3 z4 z5 q3 q5 q6 p3
        first
          | (have bA := brA
             have ha4 := below_alloc w3 (.cells #[.int .i64 s, .int .i64 sb] 58)
             have HY4 := hideW (Box2.new w3 (.int .i64 s) (.int .i64 sb) 58)
             have HX4 := hideW (HX3.out.below ha4)
             have r5 := (Hs3.out.below ha4).c5
             have r6 := (Hs3.out.below ha4).c6
             have hB4 := below_next hB3 ha4
             clear ha4 bA brA
             generalize w3.alloc (.cells #[.int .i64 s, .int .i64 sb] 58) = W4 at HY4 HX4 r5 r6 hB4 ⊢
             generalize w3.heap.size = V at HY4 ⊢)
          | (have T := (Turned.put w3 w2.heap.size 0 (.int .i64 s)).trans (Turned.put (w3.setCell ⟨w2.heap.size, 0, none⟩ (.int .i64 s)) w2.heap.size 1 (.int .i64 sb))
             have HY4 := hideW ((HY2.out.below brB).put (.int .i64 s) (.int .i64 sb))
             have HX4 := hideW (HX3.out.turned T (by omega))
             have r5 := (World.cell?_of_block (a := ⟨b, off + k * 8 + 5, none⟩) (T.block b (lt_of_cell Hs3.out.c5) (by omega))).trans Hs3.out.c5
             have r6 := (World.cell?_of_block (a := ⟨b, off + k * 8 + 6, none⟩) (T.block b (lt_of_cell Hs3.out.c6) (by omega))).trans Hs3.out.c6
             have hB4 := hB3.trans (T.below (B := w.heap.size) hB3.size (fun q e => by have := hB2.size; omega))
             clear T brB
             generalize (w3.setCell ⟨w2.heap.size, 0, none⟩ (.int .i64 s)).setCell ⟨w2.heap.size, 1, none⟩ (.int .i64 sb) = W4 at HY4 HX4 r5 r6 hB4 ⊢
             generalize w2.heap.size = V at HY4 ⊢)
        have R5 := hideW r5
        have R6 := hideW r6
        clear r5 r6
        obtain ⟨⟨y0, -⟩, ⟨y1, -⟩⟩ := HY4.out
        obtain ⟨⟨x0, -⟩, ⟨x1, -⟩, ⟨x2, -⟩, ⟨x3, -⟩, ⟨x4, -⟩, ⟨x5, -⟩⟩ := HX4.out
        go_wp2_with fail
        refine (l02Ptrs_any v0 v1 lo hi W.pool s sb W4 ((Hp.out.below hB4).pool) HS.out.right hTo.out).mono ?_
        rintro e w5 ⟨vo, rfl, hro, hb5⟩
        have Hro := hideW hro
        have hB5 := below_next hB4 hb5
        have HX5 := hideW (HX4.out.below hb5)
        have q5 := (hb5.cell (p := ⟨b, off + k * 8 + 5, none⟩) (lt_of_cell R5.out)).trans R5.out
        have q6 := (hb5.cell (p := ⟨b, off + k * 8 + 6, none⟩) (lt_of_cell R6.out)).trans R6.out
        obtain ⟨ao, co, rfl, -⟩ := owns_form hro
        clear y0 y1 x0 x1 x2 x3 x4 x5 hro hb5 HX4 R5 R6 HY4 hB4 HX3 Hs3 hB3 HY2 ha2 hb3 hb3'
        obtain ⟨⟨x0, -⟩, ⟨x1, -⟩, ⟨x2, -⟩, ⟨x3, -⟩, ⟨x4, -⟩, ⟨x5, -⟩⟩ := HX5.out
        go_wp2_with fail
        go_region_held3 (fun w' => w'.cell? ⟨w.heap.size, 0, none⟩ = some v0 ∧ w'.cell? ⟨w.heap.size, 1, none⟩ = some v1 ∧ w'.cell? ⟨w.heap.size, 5, none⟩ = some (.slice (some ⟨b, off, none⟩) W.pn cl) ∧ w'.cell? ⟨b, off + k * 8 + 5, none⟩ = some (.int .i64 (W.snaps k).rs) ∧ w'.cell? ⟨b, off + k * 8 + 5 + 1, none⟩ = some (.int .i64 (W.snaps k).rb)) (go_keep)
          (first
            | (go_at_call 30; refine (l02Ptrs_any _ _ lo hi W.pool _ _ _ (((Hp.out.below hB5).pool).below (Below.refl _ _).drew) HS.out.right hT2.out).mono ?_; rintro e w6 ⟨vn, rfl, hrn, hb6⟩; have hb6' := below_undrew hb6; obtain ⟨an, cn, rfl, -⟩ := owns_form hrn; obtain ⟨⟨z0, -⟩, ⟨z1, -⟩, ⟨z2, -⟩, ⟨z3, -⟩, ⟨z4, -⟩, ⟨z5, -⟩⟩ := HX5.out.below hb6'; have p5 := (hb6'.cell (p := ⟨b, off + k * 8 + 5, none⟩) (lt_of_cell q5)).trans q5; have p6 := (hb6'.cell (p := ⟨b, off + k * 8 + 6, none⟩) (lt_of_cell q6)).trans q6))
        have hn := hrn.atW (by have := treeL_len W.pool (W.snaps k).rs (W.snaps k).rb; omega)
        have ho := (Hro.out.atW (by have := treeL_len W.pool s sb; omega)).below hb6'
        have hB6 := below_next hB5 hb6'
        have HF := hideW (show writtenAns W x = cntNot (fun y => y ∈ treeL W.pool s sb) (treeL W.pool (W.snaps k).rs (W.snaps k).rb) by rw [writtenAns_yes HS.out, HO.out, HA.out])
        have hlen := treeL_len W.pool (W.snaps k).rs (W.snaps k).rb
        clear hrn hb6 hb6' z0 z1 z2 z3 z4 z5 p5 p6 q5 q6 x0 x1 x2 x3 x4 x5 HX5 Hro hB5 HO hTo hT2 HT
        generalize treeL W.pool (W.snaps k).rs (W.snaps k).rb = now at *
        generalize treeL W.pool s sb = old at *
        have Hn := hideW hn
        have Ho := hideW ho
        clear hn ho
        go_wp2
        go_loopw [10, 11] (fun c i wr => ∃ j : Nat, j ≤ now.length ∧ c = .int .i64 (cntNot (fun y => y ∈ old) (now.take j)) ∧ i = .int .i64 j ∧ Below w6.heap.size w6 wr) (fun _ i _ => now.length - (intOf i).toNat)
        case atStart => exact ⟨0, Nat.zero_le _, rfl, rfl, Below.refl _ _⟩
        case round =>
          obtain ⟨j, hj, rfl, rfl, hb⟩ := hrel
          by_cases hlt : j < now.length
          · have hlt' : (j : Int) < (now.length : Int) := by omega
            have hcl := cntNot_le (fun y => y ∈ old) (now.take j)
            rw [List.length_take] at hcl
            obtain ⟨b1, off1, rfl, q0, q1⟩ := (Hn.out.below hb).cellsD hlt
            have Hy := hideW (fun (h : ¬ (fstL now j, sndL now j) ∈ old) => (congrArg (cntNot (fun y => y ∈ old)) (take_next hlt)).trans (cntNot_yes h))
            have Hz := hideW (fun (h : (fstL now j, sndL now j) ∈ old) => (congrArg (cntNot (fun y => y ∈ old)) (take_next hlt)).trans (cntNot_no h))
            have hc0 : cntNot (fun y => y ∈ old) (now.take j) ≤ 1000 := by omega
            generalize cntNot (fun y => y ∈ old) (now.take j) = c at *
            go_wp2_with fail
            refine (l03In_any _ old.length _ _ (fstL old) (sndL old) (fstL now j) (sndL now j) wr (Ho.out.below hb)).mono ?_
            rintro e w7 ⟨⟨t7, rfl, ht7⟩, hb7⟩
            have hb8 := below_next hb hb7
            have Hin := hideW (ht7.trans pin_list)
            clear ht7 hb7 q0 q1
            cases t7
            · have Hc := hideW (Hy.out (fun h => absurd (Hin.out.2 h) (by simp)))
              go_wp2
              go_roundw
              case rel => exact ⟨j + 1, by omega, by rw [Hc.out]; go_num, by go_num, hb8⟩
              case measure => simp [intOf]; omega
            · have Hc := hideW (Hz.out (Hin.out.1 rfl))
              go_wp2
              go_roundw
              case rel => exact ⟨j + 1, by omega, by rw [Hc.out], by go_num, hb8⟩
              case measure => simp [intOf]; omega
          · obtain rfl : j = now.length := by omega
            go_wp2
            go_ret
            exact ⟨by rw [HF.out, List.take_length]; rfl, below_next hB6 hb⟩

end Go.Proofs.YtebegmdbpapfgaaGreat
