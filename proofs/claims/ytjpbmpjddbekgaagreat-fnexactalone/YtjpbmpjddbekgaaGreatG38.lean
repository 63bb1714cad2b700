/- A map that counts pointers, one told more; the marks that loops over functions leave (no law is proved here). -/
import Derived.Test.YtjpbmpjddbekgaaGreatG33
import Derived.Test.YtjpbmpjddbekgaaGreatG23
import Derived.Test.YtjpbmpjddbekgaaGreatG34
namespace Go.Proofs.YtjpbmpjddbekgaaGreat
open Go.RowKit Go.Maps
set_option linter.unusedVariables false

/-- A map that tells of a pointer how many have it, none of them more than K. -/
def HasN (P : Int × Int → Prop) (K : Nat) (D : DataW Value) : Prop := IsMap D ∧ ∀ s b kl, keyOf Tryz.prog 43 (.agg #[.int .i64 s, .int .i64 b]) = some kl → ∃ c : Int, D.atKey kl (.held (.int .i64 0)) = .held (.int .i64 c) ∧ 0 ≤ c ∧ c ≤ K ∧ (c = 0 ↔ ¬ P (s, b))
theorem HasN.has {P : Int × Int → Prop} {K : Nat} {D : DataW Value} (h : HasN P K D) : HasD P D := fun s b kl hk => by
  obtain ⟨c, h1, _, _, h4⟩ := h.2 s b kl hk
  exact ⟨c, h1, h4⟩
theorem HasN.iff {P Q : Int × Int → Prop} {K L : Nat} {D : DataW Value} (h : HasN P K D) (hKL : K ≤ L) (he : ∀ x, P x ↔ Q x) : HasN Q L D := ⟨h.1, fun s b kl hk => by
  obtain ⟨c, h1, h2, h3, h4⟩ := h.2 s b kl hk
  exact ⟨c, h1, h2, by omega, by rw [h4, he]⟩⟩
theorem HasN.none : HasN (fun _ => False) 0 (.map [] : DataW Value) := ⟨⟨_, rfl⟩, fun s b kl _ => ⟨0, rfl, Int.le_refl _, Int.le_refl _, by simp⟩⟩
theorem HasN.more {P : Int × Int → Prop} {K : Nat} {D : DataW Value} (h : HasN P K D) {xs xb c : Int} {kx : Lit} (hkx : keyOf Tryz.prog 43 (.agg #[.int .i64 xs, .int .i64 xb]) = some kx) (hc0 : 0 ≤ c) (hcK : c ≤ K) : HasN (fun y => P y ∨ y = (xs, xb)) (K + 1) (D.put kx (.held (.int .i64 (c + 1)))) := by
  obtain ⟨es, rfl⟩ := h.1
  refine ⟨⟨_, rfl⟩, fun s b kl hk => ?_⟩
  by_cases e : kl = kx
  · subst e
    have e2 := lawP.inj hk hkx
    simp only [Value.agg.injEq, Array.mk.injEq, List.cons.injEq, Value.int.injEq, true_and, and_true] at e2
    obtain ⟨rfl, rfl⟩ := e2
    exact ⟨c + 1, atKey_put_same ⟨_, rfl⟩ (lawP.key hkx) _ _, by omega, by omega, ⟨fun h0 => by omega, fun hn => absurd (Or.inr rfl) hn⟩⟩
  · obtain ⟨d, h1, h2, h3, h4⟩ := h.2 s b kl hk
    refine ⟨d, (atKey_put_other e _ _).trans h1, h2, by omega, ?_⟩
    rw [h4]
    constructor
    · rintro hn (hp | hp)
      · exact hn hp
      · injection hp with p1 p2
        subst p1 p2
        rw [hk] at hkx
        exact e (Option.some.inj hkx)
    · exact fun hn hp => hn (Or.inl hp)
theorem keepLoc_grown {n₀ B M : Nat} {X Y : World} (h : X.grownBy Y (some M)) (h1 : n₀ ≤ M) (h2 : M < B) (h3 : n₀ ≤ X.heap.size) : KeepLoc n₀ B X Y :=
  ⟨(Below.refl n₀ X).grown h h3 (fun k e => by cases e; exact h1), fun k o hk ho _ => (h.block k (Array.getElem?_eq_some_iff.1 ho).1 (fun e => by cases e; omega)).trans ho⟩

/-- The marks of loops that have ended, each of a block of its own, from n₀ on and ahead of B. -/
def Marks (n₀ B : Nat) : List Deferred → World → Prop
  | [], _ => True
  | d :: ds, w => (∃ r, d = { target := .collected r, args := #[] } ∧ n₀ ≤ r ∧ r < B ∧ w.heap[r]? = some (.deferred (some [])) ∧ ∀ q, ({ target := .collected q, args := #[] } : Deferred) ∈ ds → q ≠ r) ∧ Marks n₀ B ds w
theorem Marks.kept {n₀ B : Nat} {X Y : World} (h : ∀ r, n₀ ≤ r → r < B → X.heap[r]? = some (.deferred (some [])) → Y.heap[r]? = some (.deferred (some []))) : ∀ {ds : List Deferred}, Marks n₀ B ds X → Marks n₀ B ds Y
  | [], _ => trivial
  | d :: ds, ⟨⟨r, h1, h2, h3, h4, h5⟩, h6⟩ => ⟨⟨r, h1, h2, h3, h r h2 h3 h4, h5⟩, Marks.kept h h6⟩
theorem Marks.below {n₀ B : Nat} {X Y : World} {ds : List Deferred} (h : Marks n₀ B ds X) (hb : Below X.heap.size X Y) : Marks n₀ B ds Y := h.kept (fun r _ _ hr => (hb.block r (Array.getElem?_eq_some_iff.1 hr).1).trans hr)
theorem Marks.mono {n₀ B C : Nat} {X : World} (hc : B ≤ C) : ∀ {ds : List Deferred}, Marks n₀ B ds X → Marks n₀ C ds X
  | [], _ => trivial
  | d :: ds, ⟨⟨r, h1, h2, h3, h4, h5⟩, h6⟩ => ⟨⟨r, h1, h2, by omega, h4, h5⟩, Marks.mono hc h6⟩
theorem Marks.lt {n₀ B : Nat} {X : World} : ∀ {ds : List Deferred}, Marks n₀ B ds X → ∀ q, ({ target := .collected q, args := #[] } : Deferred) ∈ ds → q < B
  | d :: ds, ⟨⟨r, h1, h2, h3, h4, h5⟩, h6⟩, q, hq => by
    rcases List.mem_cons.1 hq with e | e
    · rw [h1] at e
      simp only [Deferred.mk.injEq, Target.collected.injEq, and_true] at e
      omega
    · exact Marks.lt h6 q e
theorem Marks.more {n₀ B r : Nat} {X : World} {ds : List Deferred} (h : Marks n₀ B ds X) (hB : B ≤ r) (hn : n₀ ≤ r) (hr : X.heap[r]? = some (.deferred (some []))) : Marks n₀ (r + 1) ({ target := .collected r, args := #[] } :: ds) X :=
  ⟨⟨r, rfl, hn, by omega, hr, fun q hq => by have := h.lt q hq; omega⟩, h.mono (by omega)⟩
theorem Marks.put {n₀ B r : Nat} {X : World} {o : Obj} : ∀ {ds : List Deferred}, Marks n₀ B ds X → (∀ q, ({ target := .collected q, args := #[] } : Deferred) ∈ ds → q ≠ r) → Marks n₀ B ds (X.putObj r o)
  | [], _, _ => trivial
  | d :: ds, ⟨⟨q, h1, h2, h3, h4, h5⟩, h6⟩, hne => ⟨⟨q, h1, h2, h3, (World.putObj_heap_other (hne q (by rw [h1]; exact List.mem_cons_self))).trans h4, h5⟩, Marks.put h6 (fun q hq => hne q (List.mem_cons_of_mem _ hq))⟩
/-- On its way out a function comes by its marks, one by one. -/
theorem leaves_marks {n₀ B n : Nat} {F : Fence} {P : Program} {fn : Func} {tmps : Array Value} {R : Ending → World → Prop} (J : World → Prop) (hJ : ∀ X r, J X → n₀ ≤ r → X.heap[r]? = some (.deferred (some [])) → J (X.putObj r (.deferred none)))
    (hend : ∀ X, J X → LeavesInM F n P fn tmps R [] .returning X) : ∀ (ds : List Deferred) (X : World), Marks n₀ B ds X → J X → LeavesInM F n P fn tmps R ds .returning X
  | [], X, _, h => hend X h
  | d :: ds, X, ⟨⟨r, h1, h2, h3, h4, h5⟩, h6⟩, h => ⟨by simp, .inl ⟨r, _, by rw [h1], run_takeDeferred h4, leaves_marks J hJ hend ds _ (Marks.put h6 h5) (hJ X r h h2 h4)⟩⟩

end Go.Proofs.YtjpbmpjddbekgaaGreat

namespace Go.Proofs.YtjpbmpjddbekgaaGreat
open Go.RowKit Go.Shelf Go.Maps
set_option linter.unusedVariables false
attribute [local go_sem] Oper.semAt_some

/-- Some of the first k trees has it. -/
def SomeHas (W : WorldD) (qs qb : Nat → Int) (k : Nat) (y : Int × Int) : Prop := ∃ i, i < k ∧ y ∈ treeL W.pool (qs i) (qb i)
theorem cell_grown {X Y : World} {M b o : Nat} {v : Value} (h : Cell X b o v) (hg : X.grownBy Y (some M)) (hne : b ≠ M) : Cell Y b o v :=
  ⟨(hg.cell_far _ (lt_of_cell h.1) (fun e => hne (Option.some.inj e))).trans h.1, (hg.frozen_far _ (lt_of_cell h.1) (fun e => hne (Option.some.inj e))).trans h.2⟩

/-- Between two rounds: the first k trees have been told. -/
def RelH (w : World) (v0 v1 v2 v3 : Value) (W : WorldD) (qs qb : Nat → Int) (k : Nat) (ds : List Deferred) (wr : World) : Prop :=
  Cell wr (w.heap.size + 1 + 1) 0 (.map (some (w.heap.size + 1))) ∧ Box6 wr w.heap.size v0 v1 (.int .i64 W.time) (.int .i64 W.next) v2 v3 ∧ (∃ nm D, wr.ownsMap Tryz.prog 43 rawE (w.heap.size + 1) nm D ∧ nm ≤ 73 * k ∧ HasN (SomeHas W qs qb k) (73 * k) D) ∧ (∃ B, Marks (w.heap.size + 3) B ds wr ∧ B ≤ wr.heap.size) ∧ Below w.heap.size w wr ∧ w.heap.size + 3 ≤ wr.heap.size

set_option maxRecDepth 20000 in
set_option maxHeartbeats 2000000 in
theorem whoHas_any (v0 v1 v2 v3 : Value) (lo hi : Nat) (W : WorldD) (oa : Option Addr) (nr oc : Nat) (qs qb : Nat → Int) (lo2 hi2 : Nat) (w : World) (h : WorldAt w lo hi v0 v1 v2 v3 W) (hh : hi ≤ w.heap.size) (hR : Right W.pool) (hO : PtrsAt w lo2 hi2 (.slice oa nr oc) nr qs qb) (hnr : nr ≤ 100) (hT : ∀ i, i < nr → TreeOk W.pool (qs i) (qb i)) :
    Calls Tryz.prog 135 #[worldV v0 v1 v2 v3 W, .slice oa nr oc] w (HasPost (SomeHas W qs qb nr) w) := by
  have Hp := hideQ h
  have HO := hideQ hO
  have HT := hideQ hT
  clear h hO hT
  have hnr' : (nr : Int) ≤ 100 := by omega
  have ha1 := below_alloc w (.cells #[v0, v1, .int .i64 W.time, .int .i64 W.next, v2, v3] 38)
  have hz1 : (w.alloc (.cells #[v0, v1, .int .i64 W.time, .int .i64 W.next, v2, v3] 38)).heap.size = w.heap.size + 1 := World.size_alloc _ _
  have hm := World.ownsMap_made (w.alloc (.cells #[v0, v1, .int .i64 W.time, .int .i64 W.next, v2, v3] 38)) Tryz.prog 43 rawE
  rw [hz1] at hm
  have hc2 := below_alloc (w.alloc (.cells #[v0, v1, .int .i64 W.time, .int .i64 W.next, v2, v3] 38)) (.map #[] 0)
  have ha2 := below_next ha1 hc2
  have hz2 : ((w.alloc (.cells #[v0, v1, .int .i64 W.time, .int .i64 W.next, v2, v3] 38)).alloc (.map #[] 0)).heap.size = w.heap.size + 2 := by rw [World.size_alloc, hz1]
  have ha3 := below_alloc ((w.alloc (.cells #[v0, v1, .int .i64 W.time, .int .i64 W.next, v2, v3] 38)).alloc (.map #[] 0)) (.cells #[.map (some (w.heap.size + 1))] 158)
  have hc : Cell (((w.alloc (.cells #[v0, v1, .int .i64 W.time, .int .i64 W.next, v2, v3] 38)).alloc (.map #[] 0)).alloc (.cells #[.map (some (w.heap.size + 1))] 158)) (w.heap.size + 2) 0 (.map (some (w.heap.size + 1))) := by
    have := cell_of_block (i := 0) (heap_alloc_new ((w.alloc (.cells #[v0, v1, .int .i64 W.time, .int .i64 W.next, v2, v3] 38)).alloc (.map #[] 0)) (.cells #[.map (some (w.heap.size + 1))] 158)) rfl
    rw [hz2] at this
    exact this
  have HC := hideQ hc
  have HX := hideQ (((Box6.new w v0 v1 (.int .i64 W.time) (.int .i64 W.next) v2 v3 38).below hc2).below ha3)
  have HM := hideQ (hm.kept (grown_of_below ha3 none) (by simp))
  have HB := hideQ (below_next ha2 ha3)
  have HZ := hideQ (show (((w.alloc (.cells #[v0, v1, .int .i64 W.time, .int .i64 W.next, v2, v3] 38)).alloc (.map #[] 0)).alloc (.cells #[.map (some (w.heap.size + 1))] 158)).heap.size = w.heap.size + 3 by rw [World.size_alloc, hz2])
  clear hm ha1 ha2 ha3 hc hz2 hc2
  have hmm := @run_makeMap Tryz.prog
  refine (callsIn_wide (n := 3)).1 ?_
  refine callsIn_of_wp_marks Tryz.func135 rfl trivial ?_ rfl
  simp only [Tryz.ntmps135, List.size_toArray, List.length_cons, List.length_nil, Nat.reduceAdd, Nat.reduceSub, Array.replicate_succ, Array.replicate_zero, List.push_toArray, List.append_toArray, List.nil_append, List.cons_append]
  gi_wp2
  generalize ((w.alloc (.cells #[v0, v1, .int .i64 W.time, .int .i64 W.next, v2, v3] 38)).alloc (.map #[] 0)).alloc (.cells #[.map (some (w.heap.size + 1))] 158) = W3 at HC HX HM HB HZ ⊢
  have HC' := hideQ (show Cell W3 (w.heap.size + 1 + 1) 0 (.map (some (w.heap.size + 1))) from HC.out)
  clear HC hz1 hmm
  refine wpIn_loop (fun a' wr => ∃ (u7 u14 u15 u16 u17 u18 u19 u28 : Value) (ds : List Deferred) (k : Nat), k ≤ nr ∧ RelH w v0 v1 v2 v3 W qs qb k ds wr ∧ a' = { tmps := #[worldV v0 v1 v2 v3 W, .slice oa nr oc, .pointer (some ⟨w.heap.size, 0, none⟩), undef, .map none, .pointer (some ⟨w.heap.size + 1 + 1, 0, none⟩), undef, u7, undef, undef, .map (some (w.heap.size + 1)), .slice oa nr oc, .int .i64 nr, .int .i64 k, u14, u15, u16, u17, u18, u19, undef, undef, undef, undef, undef, undef, undef, undef, u28, undef], defers := ds }) (fun a' _ => nr - (intOf (a'.tmps.getD 13 undef)).toNat) ?_ ?_
  · exact ⟨_, _, _, _, _, _, _, _, [], 0, Nat.zero_le _, ⟨HC'.out, HX.out, ⟨0, .map [], HM.out, Nat.zero_le _, HasN.none.iff (Nat.le_refl _) (fun x => ⟨False.elim, fun ⟨i, hi, _⟩ => absurd hi (Nat.not_lt_zero _)⟩)⟩, ⟨w.heap.size + 3, trivial, by have := HZ.out; omega⟩, HB.out, by have := HZ.out; omega⟩, rfl⟩
  clear HC' HX HM HB HZ
  clear W3
  rintro _ wr ⟨u7, u14, u15, u16, u17, u18, u19, u28, ds, k, hk, ⟨hc, hx, ⟨nm, D, hm, hnm, hd⟩, ⟨B0, hmk, hB0⟩, hb, hz⟩, rfl⟩
  have Hm := hideQ hm
  have Hd := hideQ hd
  have Hmk := hideQ hmk
  have Hc := hideQ hc
  have Hx := hideQ hx
  clear hm hd hmk hc hx
  by_cases hlt : k < nr
  rotate_left
  · obtain rfl : k = nr := by omega
    obtain ⟨c0, -⟩ := Hc.out
    gi_wp2
    refine leaves_marks (n₀ := w.heap.size + 3) (B := B0) (fun X => (X.ownsMap Tryz.prog 43 rawE (w.heap.size + 1) nm D ∧ Below w.heap.size w X) ∧ w.heap.size + 1 < X.heap.size) ?_ ?_ ds wr Hmk.out ⟨⟨Hm.out, hb⟩, by omega⟩
    · rintro X r ⟨⟨h1, h2⟩, h3⟩ hr hX
      exact ⟨⟨h1.kept (grownBy_putObj' X r _) (by simp; omega), h2.trans (belowK_b (w := w) (Nat.le_refl _) X r _ _ (by omega) hX rfl rfl)⟩, by simp; omega⟩
    · rintro X ⟨⟨h1, h2⟩, h3⟩
      exact ⟨_, results_tmp rfl _ _ _, ⟨_, _, _, rfl, h1, by omega, h3, Hd.out.has, h2⟩⟩
  have hlt' : (k : Int) < (nr : Int) := by omega
  obtain ⟨b, off, rfl, q0, q1⟩ := (HO.out.below hb).cellsD hlt
  have ha := below_alloc wr (.cells #[.int .i64 (qs k), .int .i64 (qb k)] 43)
  have HY := hideQ (Box2.new wr (.int .i64 (qs k)) (.int .i64 (qb k)) 43)
  have HX1 := hideQ (Hx.out.below ha)
  have HZ1 := hideQ (show (wr.alloc (.cells #[.int .i64 (qs k), .int .i64 (qb k)] 43)).heap.size = wr.heap.size + 1 from World.size_alloc _ _)
  have HB1 := hideQ (below_next hb ha)
  have Hm1 := hideQ (Hm.out.kept (grown_of_below ha none) (by simp))
  have Hmk1 := hideQ (Hmk.out.below ha)
  have Hc1 := hideQ (Hc.out.below ha)
  obtain ⟨⟨x0, -⟩, ⟨x1, -⟩, ⟨x2, -⟩, ⟨x3, -⟩, ⟨x4, -⟩, ⟨x5, -⟩⟩ := HX1.out
  obtain ⟨⟨y0, -⟩, ⟨y1, -⟩⟩ := HY.out
  clear ha Hm Hmk Hc Hx
  gi_wp2
  clear x0 x1 x2 x3 x4 x5 y0 y1 q0 q1
  generalize wr.alloc (.cells #[.int .i64 (qs k), .int .i64 (qb k)] 43) = W4 at HY HX1 HZ1 HB1 Hm1 Hmk1 Hc1 ⊢
  refine ⟨trivial, (callsIn_wide.2 (slotsOf_any v0 v1 v2 v3 W (qs k) (qb k) W4)).mono ?_⟩
  rintro e w5 ⟨rfl, hbw, hbt, hb5, hz5⟩
  have HX5 := hideQ (HX1.out.below hb5)
  have HB5 := hideQ (below_next HB1.out hb5)
  have Hm5 := hideQ (Hm1.out.kept (grown_of_below hb5 none) (by simp))
  have Hmk5 := hideQ (Hmk1.out.below hb5)
  have Hc5 := hideQ (Hc1.out.below hb5)
  have hz6 : w.heap.size + 3 ≤ w5.heap.size ∧ B0 ≤ w5.heap.size := by have := HZ1.out; omega
  have hseq := slots_stops w.heap.size w5.heap.size 2 W4.heap.size (W4.heap.size + 1) lo hi W.pool v0 v1 v2 v3 W.time W.next (qs k) (qb k) w5 (by omega) (Nat.le_refl _) hh hR (HT.out k hlt) hbw hbt (Hp.out.pool.1.below HB5.out)
  clear hb5 hbw hbt hz5 HX1 HB1 Hm1 Hmk1 Hc1 HZ1 HY
  gi_wp2
  have hN := treeQ_len W.pool (qs k) (qb k)
  refine wpIn_rangeFunc_ownH rfl (by omega) (gf := 173) (lb := #[.pointer (some ⟨W4.heap.size, 0, none⟩), .pointer (some ⟨W4.heap.size + 1, 0, none⟩)]) rfl trivial (enters_of Tryz.func173 (by kernel_rfl) rfl) hseq keepLoc_t (keepLoc_b (by omega)) (Below.refl _ _) (fun _ => rfl)
    (fun pre X => ((Cell X (w.heap.size + 1 + 1) 0 (.map (some (w.heap.size + 1))) ∧ Box6 X w.heap.size v0 v1 (.int .i64 W.time) (.int .i64 W.next) v2 v3) ∧ (∃ nm D, X.ownsMap Tryz.prog 43 rawE (w.heap.size + 1) nm D ∧ nm ≤ 73 * k + pre.length ∧ HasN (fun y => SomeHas W qs qb k y ∨ y ∈ pre.map (·.1.2)) (73 * k + pre.length) D)) ∧ Marks (w.heap.size + 3) B0 ds X ∧ Below w.heap.size w X)
    (fun _ _ _ => False)
    (fun s X Y row hs hg hr => by
      obtain ⟨⟨⟨i1, i2⟩, nm, D, i3, i4, i5⟩, i6, i7⟩ := hs
      exact ⟨⟨⟨cell_own i1 hg hr, cell_own i2.1 hg hr, cell_own i2.2.1 hg hr, cell_own i2.2.2.1 hg hr, cell_own i2.2.2.2.1 hg hr, cell_own i2.2.2.2.2.1 hg hr, cell_own i2.2.2.2.2.2 hg hr⟩, nm, D, i3.kept hg (fun e => by have := (hr _ e.symm).1; omega), i4, i5⟩, i6.kept (fun r h1 h2 h3 => (hg.block r (Array.getElem?_eq_some_iff.1 h3).1 (fun e => by have := (hr _ e.symm).1; omega)).trans h3), ownFrom_below (β := Unit) (Nat.le_refl _) (by omega) () X Y row i7 hg hr⟩)
    (fun _ _ _ _ _ hs _ _ => hs)
    ⟨⟨⟨Hc5.out, HX5.out⟩, nm, D, Hm5.out, hnm, Hd.out.iff (Nat.le_refl _) (fun y => by simp)⟩, Hmk5.out, HB5.out⟩
    (fun x a' X => ∃ Bx, w.heap.size + 3 ≤ Bx ∧ Box2 X Bx (.int .i64 x.1.2.1) (.int .i64 x.1.2.2) ∧ a' = { tmps := #[worldV v0 v1 v2 v3 W, .slice (some ⟨b, off, none⟩) nr oc, .pointer (some ⟨w.heap.size, 0, none⟩), undef, .map none, .pointer (some ⟨w.heap.size + 1 + 1, 0, none⟩), undef, .pointer (some ⟨wr.heap.size, 0, none⟩), undef, .pointer (some ⟨Bx, 0, none⟩), .map (some (w.heap.size + 1)), .slice (some ⟨b, off, none⟩) nr oc, .int .i64 nr, .int .i64 k, .bool true, .pointer (some ⟨b, off + k * 2, none⟩), .agg #[.int .i64 (qs k), .int .i64 (qb k)], .agg #[v0, v1, .int .i64 W.time, .int .i64 W.next, v2, v3], .agg #[.int .i64 (qs k), .int .i64 (qb k)], .func (.func 173) #[] #[.pointer (some ⟨W4.heap.size, 0, none⟩), .pointer (some ⟨W4.heap.size + 1, 0, none⟩)], .agg #[.int .i64 x.1.1.1, .int .i64 x.1.1.2], .agg #[.int .i64 x.1.2.1, .int .i64 x.1.2.2], undef, undef, undef, undef, undef, undef, u28, undef], defers := [] })
    (fun x a' _ X Y row hs hg hr => by obtain ⟨Bx, h1, h2, h3⟩ := hs; exact ⟨Bx, h1, ⟨cell_own h2.1 hg hr, cell_own h2.2 hg hr⟩, h3⟩)
    ?assign ?body ?done ?stop
  case assign =>
    rintro l pre x X K ⟨⟨⟨i1, i2⟩, nm, D, i3, i4, i5⟩, i6, i7⟩ hK
    have ha := below_alloc X (.cells #[.int .i64 x.1.2.1, .int .i64 x.1.2.2] 43)
    have hy := Box2.new X (.int .i64 x.1.2.1) (.int .i64 x.1.2.2) 43
    have HK := hideQ (hK _ _ ((KeepsOthers.alloc _ _).from _) (KeepLoc.of_below ha i7.size) ⟨⟨⟨i1.below ha, i2.below ha⟩, nm, D, i3.kept (grown_of_below ha none) (by simp), i4, i5⟩, i6.below ha, below_next i7 ha⟩ ⟨X.heap.size, by have := i1.lt; omega, hy, rfl⟩)
    clear ha hy hK i1 i2 i3 i4 i5 i6 i7
    gi_wp2
    exact HK.out
  case body =>
    rintro l pre x a' X hl - ⟨⟨⟨i1, i2⟩, nm, D, i3, i4, i5⟩, i6, i7⟩ ⟨Bx, hBx, hbx, rfl⟩ hlt2
    obtain ⟨kl, hkl⟩ := keyP_of x.2.1 x.2.2.1
    obtain ⟨c, hc1, hc2, hc3, hc4⟩ := i5.2 _ _ kl hkl
    have hdr : Below X.heap.size X X.drew := (Below.refl _ X).drew
    have hown := i3.kept (grown_of_below hdr none) (by simp)
    have hl0 := has_look hown hkl hc1
    obtain ⟨ev, st, wa, wb, he, hl1, hst, hownb, hga, hgb⟩ := entry_own hown lawP0 homesT (by unfold maxLen; omega) zeroI hkl hc1 (val := .int .i64 (IntKind.i64.wrap (c + 1)))
    have hc5 : c ≤ 10000 := by omega
    rw [wrap_small (n := c + 1) (by omega) (by omega)] at hownb
    have hg := grown_next (grown_of_below hdr (some (w.heap.size + 1))) hgb
    have HI := hideQ (show KeepsFrom w5.heap.size X wb ∧ KeepLoc w.heap.size w5.heap.size X wb ∧ ((Cell wb (w.heap.size + 1 + 1) 0 (.map (some (w.heap.size + 1))) ∧ Box6 wb w.heap.size v0 v1 (.int .i64 W.time) (.int .i64 W.next) v2 v3) ∧ (∃ nm D, wb.ownsMap Tryz.prog 43 rawE (w.heap.size + 1) nm D ∧ nm ≤ 73 * k + (pre ++ [x]).length ∧ HasN (fun y => SomeHas W qs qb k y ∨ y ∈ (pre ++ [x]).map (·.1.2)) (73 * k + (pre ++ [x]).length) D)) ∧ Marks (w.heap.size + 3) B0 ds wb ∧ Below w.heap.size w wb from by
      refine ⟨KeepsFrom.of_grownBy hg (fun j e => by cases e; omega), keepLoc_grown hg (by omega) (by omega) i7.size, ⟨⟨cell_grown i1 hg (by omega), i2.side hg (by omega)⟩, nm + 1, _, hownb, by rw [List.length_append]; simp; omega, ?_⟩, i6.kept (fun r h1 h2 h3 => (hg.block r (Array.getElem?_eq_some_iff.1 h3).1 (fun e => by cases e; omega)).trans h3), i7.grown hg i7.size (fun j e => by cases e; omega)⟩
      refine (i5.more hkl hc2 hc3).iff (by rw [List.length_append]; simp; omega) (fun y => ?_)
      rw [List.map_append, List.mem_append]
      simp [or_assoc])
    obtain ⟨⟨y0, -⟩, ⟨y1, -⟩⟩ := hbx.below hdr
    obtain ⟨c0, -⟩ := i1.below hdr
    clear hownb hga hgb hg hown i1 i2 i3 i5 i6 i7 hc1 hc4 hkl hbx hdr hseq
    unfold goInt at he hst
    gi_wp2
    gi_region
    all_goals exact HI.out
  case done =>
    rintro Dd ys X hD hys ⟨⟨⟨i1, i2⟩, nm, D, i3, i4, i5⟩, i6, i7⟩ hK
    have hv : ys.map (·.1.2) = treeL W.pool (qs k) (qb k) := by
      rw [← treeQ_snd, ← hys, List.map_map]
      rfl
    have hyl : ys.length ≤ 73 := by
      have := congrArg List.length hys
      rw [List.length_map] at this
      omega
    have hDl := (Array.getElem?_eq_some_iff.1 hK).1
    have HR := hideQ (show RelH w v0 v1 v2 v3 W qs qb (k + 1) ({ target := .collected Dd, args := #[] } :: ds) X from ⟨i1, i2, ⟨nm, D, i3, by omega, i5.iff (by omega) (fun y => by
      rw [hv]
      constructor
      · rintro (⟨i, hi, hy⟩ | hy)
        · exact ⟨i, by omega, hy⟩
        · exact ⟨k, by omega, hy⟩
      · rintro ⟨i, hi, hy⟩
        by_cases e : i = k
        · subst e; exact Or.inr hy
        · exact Or.inl ⟨i, by omega, hy⟩)⟩, ⟨Dd + 1, i6.more (by omega) (by omega) hK, by omega⟩, i7, by omega⟩)
    clear i1 i2 i3 i4 i5 i6 i7 hv hys
    gi_wp2
    exact ⟨⟨_, _, _, _, _, _, _, _, _, k + 1, by omega, HR.out, rfl⟩, by simp [intOf]; omega⟩
  case stop =>
    rintro Dd c pre X _ _ h _
    exact h.elim

end Go.Proofs.YtjpbmpjddbekgaaGreat

namespace Go.Proofs.YtjpbmpjddbekgaaGreat
open Go.RowKit Go.Maps
set_option linter.unusedVariables false

/-- The tree of the snapshot ahead has it. -/
def OldHas (W : WorldD) (x : Int) (y : Int × Int) : Prop := y ∈ treeL W.pool (aheadOf W (aheadOf W x).prev).rs (aheadOf W (aheadOf W x).prev).rb
open Classical in
noncomputable def writtenAns (W : WorldD) (x : Int) : Nat := if SpecW W then cntNot (OldHas W x) (treeL W.pool (aheadOf W x).rs (aheadOf W x).rb) else 0
theorem writtenAns_no {W : WorldD} {x : Int} (h : ¬ SpecW W) : writtenAns W x = 0 := if_neg h
theorem writtenAns_yes {W : WorldD} {x : Int} (h : SpecW W) : writtenAns W x = cntNot (OldHas W x) (treeL W.pool (aheadOf W x).rs (aheadOf W x).rb) := if_pos h
theorem writtenAns_none {W : WorldD} {x : Int} (h : ∀ k, k < W.pn → (W.snaps k).id ≠ x) : writtenAns W x = 0 := by
  by_cases hS : SpecW W
  · rw [writtenAns_yes hS, aheadOf_no h]
    show cntNot _ (treeL W.pool 0 0) = 0
    rw [treeL_zero]
    rfl
  · exact writtenAns_no hS
theorem cntNot_iff {P Q : Int × Int → Prop} (h : ∀ x, P x ↔ Q x) (l : List (Int × Int)) : cntNot P l = cntNot Q l := by
  have : P = Q := funext fun x => propext (h x)
  rw [this]
theorem take_next {l : List (Int × Int)} {k : Nat} (h : k < l.length) : l.take (k + 1) = l.take k ++ [(fstL l k, sndL l k)] := by
  rw [List.take_succ_eq_append_getElem h]
  unfold fstL sndL
  rw [List.getD_eq_getElem?_getD, List.getElem?_eq_getElem h]
  rfl

end Go.Proofs.YtjpbmpjddbekgaaGreat

namespace Go.Proofs.YtjpbmpjddbekgaaGreat
open Go.RowKit Go.Maps
set_option linter.unusedVariables false

theorem fieldPrevS (v : Value) (s : SnapD) (w : World) : (Instr.field 46 (snapV v s) 3).run Tryz.prog w = .ok (.int .i64 s.prev) w := by kernel_rfl
theorem buildOne (a b : Int) (w : World) : (Instr.buildSlice 44 1 #[(0, .agg #[.int .i64 a, .int .i64 b])]).run Tryz.prog w = .ok (.slice (some ⟨w.heap.size, 0, none⟩) 1 1) (w.alloc (.cells #[.int .i64 a, .int .i64 b] 43)) := by kernel_rfl
theorem one_at (a b : Int) (w : World) : PtrsAt (w.alloc (.cells #[.int .i64 a, .int .i64 b] 43)) 0 (w.heap.size + 1) (.slice (some ⟨w.heap.size, 0, none⟩) 1 1) 1 (fun _ => a) (fun _ => b) := by
  have h := Box2.new w (.int .i64 a) (.int .i64 b) 43
  refine ⟨by unfold maxLen; omega, _, _, rfl, Nat.le_refl _, fun _ => ⟨_, _, rfl, Nat.zero_le _, by omega, fun i hi => ?_⟩⟩
  obtain rfl : i = 0 := by omega
  exact ⟨h.1.1, h.2.1⟩

theorem aheadOf_prev_wf {W : WorldD} (h : PrevsWf W) (x : Int) : (Lit.int .i64 (aheadOf W x).prev).wf = true := by
  by_cases hx : ∃ k, SnapNo W x k
  · obtain ⟨k, hk⟩ := hx
    rw [aheadOf_at hk]
    have := h k (by unfold memN; have := hk.1; omega)
    rw [memOf_snap hk.1] at this
    exact this
  · have e : aheadOf W x = zeroSnap := by unfold aheadOf; rw [dif_neg hx]
    rw [e]
    rfl

set_option maxRecDepth 20000 in
set_option maxHeartbeats 1000000 in
theorem implWritten_any (v0 v1 v2 v3 : Value) (lo hi : Nat) (W : WorldD) (x : Int) (w : World) (h : WorldAt w lo hi v0 v1 v2 v3 W) (hh : hi ≤ w.heap.size) (hwf : PrevsWf W) (hx : (Lit.int .i64 x).wf = true) : Calls Tryz.prog 36 #[worldV v0 v1 v2 v3 W, .int .i64 x] w fun e w' => e = .returned (.int .i64 (writtenAns W x)) ∧ Below w.heap.size w w' := by
  have Hp := hideW h
  have Hwf := hideW hwf
  have Hx := hideW hx
  clear h hwf hx
  have hbw := below_alloc w (.cells #[v0, v1, .int .i64 W.time, .int .i64 W.next, v2, v3] 38)
  have HX := hideW (Box6.new w v0 v1 (.int .i64 W.time) (.int .i64 W.next) v2 v3 38)
  obtain ⟨⟨x0, -⟩, ⟨x1, -⟩, ⟨x2, -⟩, ⟨x3, -⟩, ⟨x4, -⟩, ⟨x5, -⟩⟩ := HX.out
  go_enter Tryz.func36, Tryz.ntmps36
  go_wp2_with fail
  generalize w.alloc (.cells #[v0, v1, .int .i64 W.time, .int .i64 W.next, v2, v3] 38) = W0 at HX hbw x0 x1 x2 x3 x4 x5 ⊢
  refine (implWorldRight_any v0 v1 v2 v3 lo hi W W0 (Hp.out.below hbw) Hwf.out).mono ?_
  rintro e w1 ⟨⟨t, rfl, ht⟩, hb1⟩
  have Ht := hideW (ht.trans (world_iff W))
  have hB1 := below_next hbw hb1
  have HX1 := hideW (HX.out.below hb1)
  clear x0 x1 x2 x3 x4 x5 hb1 hbw HX ht
  cases t
  · have HA := hideW (show writtenAns W x = 0 from writtenAns_no (fun h => absurd (Ht.out.2 h) (by simp)))
    go_wp2
    go_ret
    exact ⟨by rw [HA.out]; rfl, hB1⟩
  · have HW := hideW (Ht.out.1 rfl)
    have HI := hideW ((world_iff W).2 HW.out).names
    have HT := hideW (show ∀ y, TreeOk W.pool (aheadOf W y).rs (aheadOf W y).rb from old_ok HW.out.snaps)
    obtain ⟨⟨x0, -⟩, ⟨x1, -⟩, ⟨x2, -⟩, ⟨x3, -⟩, ⟨x4, -⟩, ⟨x5, -⟩⟩ := HX1.out
    go_wp2_with fail
    refine (aheadIn_any v0 v1 v2 v3 lo hi W w1 (Hp.out.below hB1) HW.out.names.2.2.2.1 HI.out.idsWf).mono ?_
    rintro e w2 ⟨A, rfl, hA, hb2⟩
    have HA := hideW hA
    have hB2 := below_next hB1 hb2
    have HX2 := hideW (HX1.out.below hb2)
    have HQ := hideW (show (Lit.int .i64 (aheadOf W x).prev).wf = true from aheadOf_prev_wf Hwf.out x)
    clear x0 x1 x2 x3 x4 x5 hA hb2 hB1 HX1
    have hf1 := fieldRootS
    have hf2 := fieldPrevS
    have hbo := buildOne
    obtain ⟨⟨x0, -⟩, ⟨x1, -⟩, ⟨x2, -⟩, ⟨x3, -⟩, ⟨x4, -⟩, ⟨x5, -⟩⟩ := HX2.out
    go_wp2_with fail
    go_region_held3 (fun w' => w'.cell? ⟨w.heap.size, 0, none⟩ = some v0 ∧ w'.cell? ⟨w.heap.size, 1, none⟩ = some v1 ∧ w'.cell? ⟨w.heap.size, 2, none⟩ = some (.int .i64 W.time) ∧ w'.cell? ⟨w.heap.size, 3, none⟩ = some (.int .i64 W.next) ∧ w'.cell? ⟨w.heap.size, 4, none⟩ = some v2 ∧ w'.cell? ⟨w.heap.size, 5, none⟩ = some v3) (go_keep)
      (first
        | (go_at_call 125; refine (ahead_any lo hi W A x _ (HA.out.below (Below.refl _ _).drew) HI.out.dist Hx.out HW.out.names.2.2.2.1).mono ?_; rintro e w3 ⟨a3, c3, rfl, -, hb3⟩; have hb3' := below_undrew hb3; obtain ⟨⟨z0, -⟩, ⟨z1, -⟩, ⟨z2, -⟩, ⟨z3, -⟩, ⟨z4, -⟩, ⟨z5, -⟩⟩ := HX2.out.below hb3')
        | (go_at_call 125; refine (ahead_any lo hi W A x _ (HA.out.below hb3') HI.out.dist Hx.out HW.out.names.2.2.2.1).mono ?_; rintro e w4 ⟨a4, c4, rfl, -, hb4⟩; have hb4' := below_next hb3' hb4; obtain ⟨⟨k0, -⟩, ⟨k1, -⟩, ⟨k2, -⟩, ⟨k3, -⟩, ⟨k4, -⟩, ⟨k5, -⟩⟩ := HX2.out.below hb4')
        | (go_at_call 125; refine (ahead_any lo hi W A (aheadOf W x).prev _ (HA.out.below hb4') HI.out.dist HQ.out HW.out.names.2.2.2.1).mono ?_; rintro e w5 ⟨a5, c5, rfl, -, hb5⟩; have hb5' := below_next hb4' hb5; obtain ⟨⟨l0, -⟩, ⟨l1, -⟩, ⟨l2, -⟩, ⟨l3, -⟩, ⟨l4, -⟩, ⟨l5, -⟩⟩ := HX2.out.below hb5')
        | (go_at_call 94
           have ha5 := below_alloc w5 (.cells #[.int .i64 (aheadOf W (aheadOf W x).prev).rs, .int .i64 (aheadOf W (aheadOf W x).prev).rb] 43)
           have hb5a := below_next hb5' ha5
           have HW5 := (Hp.out.below hB2).below hb5a
           have hz5 : hi ≤ (w5.alloc (.cells #[.int .i64 (aheadOf W (aheadOf W x).prev).rs, .int .i64 (aheadOf W (aheadOf W x).prev).rb] 43)).heap.size := (by have := hb5a.size; have := hB2.size; omega)
           refine (countOwn_any v0 v1 v2 v3 lo hi W _ _ _ (SomeHas W (fun _ => (aheadOf W (aheadOf W x).prev).rs) (fun _ => (aheadOf W (aheadOf W x).prev).rb) 1) _ HW5 hz5 HW.out.right (HT.out x) (fun w' hb => whoHas_any v0 v1 v2 v3 lo hi W _ 1 1 (fun _ => (aheadOf W (aheadOf W x).prev).rs) (fun _ => (aheadOf W (aheadOf W x).prev).rb) 0 (w5.heap.size + 1) w' (HW5.below hb) (Nat.le_trans hz5 hb.size) HW.out.right ((one_at _ _ w5).below hb) (by omega) (fun _ _ => HT.out _))).mono ?_
           rintro e w6 ⟨rfl, hb6⟩
           have hb6' := below_next hb5a hb6
           obtain ⟨⟨m0, -⟩, ⟨m1, -⟩, ⟨m2, -⟩, ⟨m3, -⟩, ⟨m4, -⟩, ⟨m5, -⟩⟩ := HX2.out.below hb6'))
    go_wp2
    go_ret
    refine ⟨?_, below_next hB2 hb6'⟩
    rw [writtenAns_yes HW.out, cntNot_iff (P := OldHas W x) (Q := SomeHas W (fun _ => (aheadOf W (aheadOf W x).prev).rs) (fun _ => (aheadOf W (aheadOf W x).prev).rb) 1) (fun y => ⟨fun h => ⟨0, by omega, h⟩, fun ⟨_, _, h⟩ => h⟩)]
    rfl

end Go.Proofs.YtjpbmpjddbekgaaGreat
