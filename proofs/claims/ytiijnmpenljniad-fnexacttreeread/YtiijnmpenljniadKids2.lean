/- What impl.kidsThere answers. -/
import Derived.Test.YtiijnmpenljniadKids
namespace Go.Proofs.Ytiijnmpenljniad
open Go.RowKit
set_option linter.unusedVariables false

def KidsThere (n : Nat) (f : Nat → SlotD) (s : SlotD) : Prop := ∀ i, i < 8 → KidFound n f s.birth (s.ks i) (s.kb i) (s.ks i) (s.kb i)

theorem PtrOf.uniq {n : Nat} {f : Nat → SlotD} {x ps pb ps' pb' : Int} (h : PtrOf n f x ps pb) (h' : PtrOf n f x ps' pb') : ps = ps' ∧ pb = pb' := by
  rcases h with ⟨a, b, c, rfl, rfl⟩ | ⟨a, rfl, rfl⟩ <;> rcases h' with ⟨a', b', c', rfl, rfl⟩ | ⟨a', rfl, rfl⟩
  · exact ⟨rfl, rfl⟩
  · exact absurd ⟨a, b, c⟩ a'
  · exact absurd ⟨a', b', c'⟩ a
  · exact ⟨rfl, rfl⟩

theorem KidFound.uniq {n : Nat} {f : Nat → SlotD} {b ks kb rs rb rs' rb' : Int} (h : KidFound n f b ks kb rs rb) (h' : KidFound n f b ks kb rs' rb') : rs = rs' ∧ rb = rb' := by
  obtain ⟨ps, pb, hp, h⟩ := h
  obtain ⟨ps', pb', hp', h'⟩ := h'
  obtain ⟨rfl, rfl⟩ := hp.uniq hp'
  rcases h with ⟨a, rfl, rfl⟩ | ⟨a, rfl, rfl⟩ <;> rcases h' with ⟨a', rfl, rfl⟩ | ⟨a', rfl, rfl⟩
  · exact ⟨rfl, rfl⟩
  · exact absurd a a'
  · exact absurd a' a
  · exact ⟨rfl, rfl⟩

theorem arr16_set (g : Nat → Int) (k : Nat) (hk : k < 8) (x y : Int) : ((arr16 g).setIfInBounds (k * 2) (.int .i64 x)).setIfInBounds (k * 2 + 1) (.int .i64 y) = arr16 (fun j => if j = k * 2 then x else if j = k * 2 + 1 then y else g j) := by
  apply Array.ext_getElem?
  intro i
  rw [Array.getElem?_setIfInBounds, Array.getElem?_setIfInBounds]
  simp only [Array.size_setIfInBounds, arr16_size]
  by_cases h16 : i < 16
  · rw [arr16_at _ h16, arr16_at _ h16]
    by_cases e1 : k * 2 + 1 = i
    · subst e1
      rw [if_pos rfl, if_pos (by omega), if_neg (by omega), if_pos rfl]
    · rw [if_neg e1]
      by_cases e0 : k * 2 = i
      · subst e0
        rw [if_pos rfl, if_pos (by omega), if_pos rfl]
      · rw [if_neg e0, if_neg (by omega), if_neg (by omega)]
  · have n1 : (arr16 g)[i]? = none := Array.getElem?_eq_none (by rw [arr16_size]; omega)
    have n2 : (arr16 (fun j => if j = k * 2 then x else if j = k * 2 + 1 then y else g j))[i]? = none := Array.getElem?_eq_none (by rw [arr16_size]; omega)
    rw [n1, n2, if_neg (by omega), if_neg (by omega)]

theorem index_arr (g : Nat → Int) (k : Nat) (hk : k < 8) (w : World) : (Instr.index 92 (.agg (arr16 g)) (.int .i64 (k : Int))).run Try.prog w = .ok (.agg #[.int .i64 (g (k * 2)), .int .i64 (g (k * 2 + 1))]) w := by
  rcases (by omega : k = 0 ∨ k = 1 ∨ k = 2 ∨ k = 3 ∨ k = 4 ∨ k = 5 ∨ k = 6 ∨ k = 7) with rfl | rfl | rfl | rfl | rfl | rfl | rfl | rfl
  all_goals kernel_rfl
theorem part_arr (g : Nat → Int) (k : Nat) (hk : k < 8) (w : World) : (part 35 (arr16 g) (k * 2)).run Try.prog w = .ok (.agg #[.int .i64 (g (k * 2)), .int .i64 (g (k * 2 + 1))]) w := by
  rcases (by omega : k = 0 ∨ k = 1 ∨ k = 2 ∨ k = 3 ∨ k = 4 ∨ k = 5 ∨ k = 6 ∨ k = 7) with rfl | rfl | rfl | rfl | rfl | rfl | rfl | rfl
  all_goals kernel_rfl
theorem eqPtrIn (d : Nat) (a b c e : Int) (w : World) : (Op.equalIn (d + 2) 35 (.agg #[.int .i64 a, .int .i64 b]) (.agg #[.int .i64 c, .int .i64 e])).run Try.prog w = .ok (a == c && b == e) w := by
  by_cases h1 : a = c <;> by_cases h2 : b = e
  all_goals simp [go_sem, h1, h2]
theorem sizePtr (w : World) : (sizeOf 35).run Try.prog w = .ok 2 w := by kernel_rfl
theorem forIn_all {P : Program} (b : Nat → Bool) (F : Nat → Option Bool × Unit → Sem (ForInStep (Option Bool × Unit))) : ∀ (L : List Nat) (w : World), (∀ i ∈ L, ∀ s w, (F i s).run P w = .ok (if b i then .yield (none, ()) else .done (some false, ())) w) →
    (forIn L (none, ()) F).run P w = .ok (if L.all b then (none, ()) else (some false, ())) w
  | [], w, _ => by simp [Sem.run_pure]
  | i :: L, w, hF => by
    simp only [List.forIn_cons, Sem.run_bind, hF i (by simp), Result.andThen_ok, List.all_cons]
    by_cases hb : b i = true
    · simp only [hb, if_true, Bool.true_and]
      exact forIn_all b F L w (fun j hj => hF j (by simp [hj]))
    · simp [hb, Sem.run_pure]
/-- Two arrays of eight pointers hold the same. -/
def eq16 (g h : Nat → Int) : Bool := (List.range 8).all fun i => g (i * 2) == h (i * 2) && g (i * 2 + 1) == h (i * 2 + 1)
theorem eq16_iff (g h : Nat → Int) : eq16 g h = true ↔ ∀ i, i < 8 → g (i * 2) = h (i * 2) ∧ g (i * 2 + 1) = h (i * 2 + 1) := by
  simp [eq16, List.all_eq_true]
theorem eqlIn_arr (g h : Nat → Int) (d : Nat) (w : World) : (Op.equalIn (d + 3) 92 (.agg (arr16 g)) (.agg (arr16 h))).run Try.prog w = .ok (eq16 g h) w := by
  rw [Op.equalIn]
  simp only [Sem.run_bind, run_underlying arrU, Result.andThen_ok, sizePtr]
  rw [Std.Legacy.Range.forIn_eq_forIn_range']
  have e := forIn_all (P := Try.prog) (fun i => g (i * 2) == h (i * 2) && g (i * 2 + 1) == h (i * 2 + 1)) (fun i (__s : Option Bool × Unit) => do
            let __do_lift ← part 35 (arr16 g) (i * 2)
            let __do_lift_1 ← part 35 (arr16 h) (i * 2)
            let __do_lift ← Op.equalIn (d + 2) 35 __do_lift __do_lift_1
            if (!__do_lift) = true then pure (ForInStep.done (some false, ())) else pure (ForInStep.yield (none, ()))) (List.range 8) w (fun i hi s w => by
      have hi8 : i < 8 := by simpa using hi
      simp only [Sem.run_bind, part_arr _ i hi8, Result.andThen_ok, eqPtrIn]
      cases (g (i * 2) == h (i * 2) && g (i * 2 + 1) == h (i * 2 + 1)) <;> simp [Sem.run_pure])
  have e2 : List.range' 0 (([:8] : Std.Legacy.Range).size) ([:8] : Std.Legacy.Range).step = List.range 8 := by rfl
  rw [e2, e]
  simp only [Result.andThen_ok]
  unfold eq16
  cases ((List.range 8).all fun i => g (i * 2) == h (i * 2) && g (i * 2 + 1) == h (i * 2 + 1)) <;> simp [Sem.run_pure]
theorem eql_arr (g h : Nat → Int) (w : World) : (binOp .eql 92 (.agg (arr16 g)) (.agg (arr16 h))).run Try.prog w = .ok (.bool (eq16 g h)) w := by
  rw [run_eql_struct, eqlIn_arr g h 9997]
  rfl
theorem neq_arr (g h : Nat → Int) (w : World) : (binOp .neq 92 (.agg (arr16 g)) (.agg (arr16 h))).run Try.prog w = .ok (.bool (!eq16 g h)) w := by
  rw [run_neq_struct, eqlIn_arr g h 9997]
  rfl

set_option maxRecDepth 20000 in
set_option maxHeartbeats 1000000 in
theorem kidsThere_any (v v0 v1 v2 : Value) (n lo hi lo' hi' : Nat) (f : Nat → SlotD) (s : SlotD) (w : World) (h1 : SlotsAt w lo hi v n f) (h2 : SlotAt w lo' hi' v0 v1 v2 s) (hk : s.kn = 8) :
    Calls Try.prog 79 #[v, .agg #[v0, v1, v2]] w fun e w' => BoolIs (KidsThere n f s) e ∧ Below w.heap.size w w' := by
  have Hv : Hid (SlotsAt w lo hi v n f) := h1
  obtain ⟨m1, a, c, rfl, mc, g1⟩ := h1
  have Hs : Hid (SlotAt w lo' hi' v0 v1 v2 s) := h2
  obtain ⟨rfl, ⟨m2, ka, kc, rfl, mc2, g2⟩, rfl, m3⟩ := h2
  have Hk : Hid (s.kn = 8) := hk
  clear g1 g2 hk
  go_enter Try.func79, Try.ntmps79
  go_wp2_with fail
  have ha1 := below_alloc w (.cells #[.int .i64 s.birth, .slice ka s.kn kc, .string s.data] 42)
  refine (kidsOf_any _ _ _ lo' hi' s _ (Hs.out.below ha1) (Or.inr Hk.out)).mono ?_
  rintro e w1 ⟨rfl, hb1⟩
  have Hx : Hid (Box3 w1 w.heap.size (.int .i64 s.birth) (.slice ka s.kn kc) (.string s.data)) := (Box3.new w _ _ _ _).below hb1
  have hb2 := below_next ha1 hb1
  have Hi16 : Hid ((Try.prog.info? 92).map (·.size) = some (kidsA s).size) := by
    show _ = _
    rw [kidsA, arr16_size]; exact infoArr
  clear ha1 hb1
  have z16 : (#[Value.int .i64 0, Value.int .i64 0, Value.int .i64 0, Value.int .i64 0, Value.int .i64 0, Value.int .i64 0, Value.int .i64 0, Value.int .i64 0, Value.int .i64 0, Value.int .i64 0, Value.int .i64 0, Value.int .i64 0, Value.int .i64 0, Value.int .i64 0, Value.int .i64 0, Value.int .i64 0] : Array Value) = arr16 (fun _ => 0) := rfl
  have Hz16 : Hid ((#[Value.int .i64 0, Value.int .i64 0, Value.int .i64 0, Value.int .i64 0, Value.int .i64 0, Value.int .i64 0, Value.int .i64 0, Value.int .i64 0, Value.int .i64 0, Value.int .i64 0, Value.int .i64 0, Value.int .i64 0, Value.int .i64 0, Value.int .i64 0, Value.int .i64 0, Value.int .i64 0] : Array Value) = arr16 (fun _ => 0)) := z16
  clear z16
  go_wp2_with (first
    | (refine wpList_store_row rfl 92 (.tmp 5) (.tmp 10) rfl w1.heap.size (kidsA s) rfl rfl 92 #[Value.int .i64 0, Value.int .i64 0, Value.int .i64 0, Value.int .i64 0, Value.int .i64 0, Value.int .i64 0, Value.int .i64 0, Value.int .i64 0, Value.int .i64 0, Value.int .i64 0, Value.int .i64 0, Value.int .i64 0, Value.int .i64 0, Value.int .i64 0, Value.int .i64 0, Value.int .i64 0] (heap_alloc_last _ _) Hi16.out (by rw [kidsA, arr16_size]; rfl) (arr16_one _) ?_; rw [World.setRow_alloc_new])
    | (refine wpList_load_row rfl 92 (.tmp 5) rfl w1.heap.size rfl 92 (kidsA s) (0, 0) _ ?hh arrU rfl Hi16.out ?_; (exact (Below.heap_alloc _ _ _ (by simp)).trans (heap_alloc_last _ _))))
  have hsz1 : w.heap.size < w1.heap.size := Hx.out.1.lt
  go_loopw [12] (fun i wr => ∃ (k : Nat) (g : Nat → Int), k ≤ 8 ∧ i = .int .i64 k ∧ (∀ j, j < k → KidFound n f s.birth (s.ks j) (s.kb j) (g (j * 2)) (g (j * 2 + 1))) ∧ Box3 wr w.heap.size (.int .i64 s.birth) (.slice ka s.kn kc) (.string s.data) ∧
      wr.heap[w1.heap.size]? = some (.cells (kidsA s) 92 (0, 0)) ∧ wr.heap[w1.heap.size + 1]? = some (.cells (arr16 g) 92 (0, 0)) ∧ Below w.heap.size w wr) (fun i _ => 8 - (intOf i).toNat)
  case atStart =>
    refine ⟨0, fun _ => 0, Nat.zero_le _, rfl, fun j hj => absurd hj (Nat.not_lt_zero _), (Hx.out.below (below_alloc _ _)).below (below_alloc _ _), ?_, ?_, below_next (below_next hb2 (below_alloc _ _)) (below_alloc _ _)⟩
    · exact (Below.heap_alloc _ _ _ (by simp)).trans (heap_alloc_last _ _)
    · have := heap_alloc_last (w1.alloc (.cells (kidsA s) 92)) (.cells #[Value.int .i64 0, Value.int .i64 0, Value.int .i64 0, Value.int .i64 0, Value.int .i64 0, Value.int .i64 0, Value.int .i64 0, Value.int .i64 0, Value.int .i64 0, Value.int .i64 0, Value.int .i64 0, Value.int .i64 0, Value.int .i64 0, Value.int .i64 0, Value.int .i64 0, Value.int .i64 0] 92)
      rw [World.size_alloc] at this
      rw [this, Hz16.out]
  case round =>
    obtain ⟨k, g, hk, rfl, hall, hx, hK, hF, hb⟩ := hrel
    have Hall : Hid (∀ j, j < k → KidFound n f s.birth (s.ks j) (s.kb j) (g (j * 2)) (g (j * 2 + 1))) := hall
    have HX : Hid (Box3 wr w.heap.size (.int .i64 s.birth) (.slice ka s.kn kc) (.string s.data)) := hx
    have HK : Hid (wr.heap[w1.heap.size]? = some (.cells (kidsA s) 92 (0, 0))) := hK
    have HF : Hid (wr.heap[w1.heap.size + 1]? = some (.cells (arr16 g) 92 (0, 0))) := hF
    clear hall hx hK hF
    have hszF : w1.heap.size + 1 < wr.heap.size := (Array.getElem?_eq_some_iff.1 HF.out).1
    by_cases hlt : k < 8
    · have hlt' : (k : Int) < 8 := by omega
      have hidx : ∀ w, (Instr.index 92 (.agg (kidsA s)) (.int .i64 (k : Int))).run Try.prog w = .ok (.agg #[.int .i64 (s.ks k), .int .i64 (s.kb k)]) w := fun w => by
        have e := index_arr (kidCell s) k hlt w
        have e0 : kidCell s (k * 2) = s.ks k := by unfold kidCell; rw [if_pos (by have := Hk.out; omega), if_pos (by omega), show k * 2 / 2 = k by omega]
        have e1 : kidCell s (k * 2 + 1) = s.kb k := by unfold kidCell; rw [if_pos (by have := Hk.out; omega), if_neg (by omega), show (k * 2 + 1) / 2 = k by omega]
        rw [e0, e1] at e
        exact e
      obtain ⟨⟨x0, x1⟩, ⟨x2, x3⟩, ⟨x4, x5⟩⟩ := HX.out
      have hszB : w.heap.size < wr.heap.size := by omega
      go_wp2_with fail
      have hal := below_alloc wr (.cells #[.int .i64 (s.ks k), .int .i64 (s.kb k)] 35)
      refine (kidFound_any _ n lo hi f _ _ _ _ (Hv.out.below (below_next hb hal))).mono ?_
      rintro e w2 ⟨⟨rs, rb, rfl, hkf⟩, hb3⟩
      have Hkf : Hid (KidFound n f s.birth (s.ks k) (s.kb k) rs rb) := hkf
      have hbb := below_next hal hb3
      have HF2 : Hid (w2.heap[w1.heap.size + 1]? = some (.cells (arr16 g) 92 (0, 0))) := (hbb.block _ hszF).trans HF.out
      have HK2 : Hid (w2.heap[w1.heap.size]? = some (.cells (kidsA s) 92 (0, 0))) := (hbb.block _ (by omega)).trans HK.out
      have HX2 : Hid (Box3 w2 w.heap.size (.int .i64 s.birth) (.slice ka s.kn kc) (.string s.data)) := HX.out.below hbb
      have hbn := below_next hb hbb
      clear hkf hb3 hal hbb x0 x1 x2 x3 x4 x5 hidx HF HK HX hb
      obtain ⟨y0, y1⟩ := cell_of_block (i := k * 2) HF2.out (arr16_at g (by omega))
      obtain ⟨y2, y3⟩ := cell_of_block (i := k * 2 + 1) HF2.out (arr16_at g (by omega))
      go_wp2
      go_roundw
      case rel =>
        refine ⟨k + 1, fun j => if j = k * 2 then rs else if j = k * 2 + 1 then rb else g j, by omega, by go_num, fun j hj => ?_, (HX2.out.other _ (by omega)).other _ (by omega), ?_, ?_, (hbn.setCell (by show _ ≤ w1.heap.size + 1; omega) _).setCell (by show _ ≤ w1.heap.size + 1; omega) _⟩
        · by_cases e : j = k
          · subst e
            simp only [if_true]
            rw [if_neg (by omega)]
            exact Hkf.out
          · simp only
            rw [if_neg (by omega), if_neg (by omega), if_neg (by omega), if_neg (by omega)]
            exact Hall.out j (by omega)
        · rw [Below.heap_setCell _ _ _ _ (by show w1.heap.size ≠ w1.heap.size + 1; omega), Below.heap_setCell _ _ _ _ (by show w1.heap.size ≠ w1.heap.size + 1; omega)]
          exact HK2.out
        · have := heap_setCell_at (o := k * 2 + 1) (.int .i64 rb) (heap_setCell_at (o := k * 2) (.int .i64 rs) HF2.out)
          rw [arr16_set g k hlt] at this
          exact this
      case measure => simp [intOf]; omega
    · obtain rfl : k = 8 := by omega
      have heql : ∀ w, (binOp .eql 92 (.agg (arr16 g)) (.agg (kidsA s))).run Try.prog w = .ok (.bool (eq16 g (kidCell s))) w := fun w => eql_arr g (kidCell s) w
      have Hg16 : Hid ((Try.prog.info? 92).map (·.size) = some (arr16 g).size) := by
        show _ = _
        rw [arr16_size]; exact infoArr
      go_wp2_with (first
        | (refine wpList_load_row rfl 92 (.tmp 6) rfl (w1.heap.size + 1) rfl 92 (arr16 g) (0, 0) _ HF.out arrU rfl Hg16.out ?_)
        | (refine wpList_load_row rfl 92 (.tmp 5) rfl w1.heap.size rfl 92 (kidsA s) (0, 0) _ HK.out arrU rfl Hi16.out ?_))
      go_ret
      refine ⟨⟨_, rfl, ?_⟩, hb⟩
      rw [eq16_iff]
      have e0 : ∀ i, i < 8 → kidCell s (i * 2) = s.ks i ∧ kidCell s (i * 2 + 1) = s.kb i := fun i hi => by
        have := Hk.out
        refine ⟨?_, ?_⟩
        · unfold kidCell; rw [if_pos (by omega), if_pos (by omega), show i * 2 / 2 = i by omega]
        · unfold kidCell; rw [if_pos (by omega), if_neg (by omega), show (i * 2 + 1) / 2 = i by omega]
      constructor
      · intro h i hi
        have := Hall.out i hi
        rw [(h i hi).1, (h i hi).2, (e0 i hi).1, (e0 i hi).2] at this
        exact this
      · intro h i hi
        rw [(e0 i hi).1, (e0 i hi).2]
        exact (Hall.out i hi).uniq (h i hi)

end Go.Proofs.Ytiijnmpenljniad
