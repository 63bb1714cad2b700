/- The pointers of a tree with the places where they stand, in the order in which impl.tellBelow tells them; what a round of a loop over them keeps (no law is proved here). -/
import Derived.RangeFuncNested
import Derived.RangeFuncBound
import Derived.RangeFuncCalls
import Derived.RangeFuncLeaves
import Derived.Shelf.Abstract
import Derived.Shelf.RegionOpen
import Derived.OwnWalkIn
import Derived.TacticsInMore
import Derived.LoopNIn
import Derived.LoopIn
import Derived.Test.YtjpbmpjddbekgaaGreatG7
import Derived.Stop.RegionWithIn
import Derived.Test.YtjpbmpjddbekgaaGreatG1
import Derived.Test.YtjpbmpjddbekgaaGreatG29
import Derived.Test.YtjpbmpjddbekgaaGreatG16
import Derived.Test.YtjpbmpjddbekgaaGreatG23
namespace Go.Proofs.YtjpbmpjddbekgaaGreat
open Go.RowKit Go.Shelf
set_option linter.unusedVariables false

/-- Where a slot stands, and its pointer: level, number, slot, birth. -/
abbrev Quad := (Int × Int) × (Int × Int)
/-- One whose numbers are of sixty-four bits, a page's number less than 64. -/
abbrev Spot := { x : Quad // (Lit.int .i64 x.2.1).wf = true ∧ (Lit.int .i64 x.2.2).wf = true ∧ (x.1.1 = 2 → 0 ≤ x.1.2 ∧ x.1.2 < 64) }
abbrev spotA (x : Spot) : Array Value := #[.agg #[.int .i64 x.1.1.1, .int .i64 x.1.1.2], .agg #[.int .i64 x.1.2.1, .int .i64 x.1.2.2]]

def catQ (f : Nat → List Quad) : Nat → List Quad
  | 0 => []
  | k + 1 => catQ f k ++ f k
/-- What is told of a pointer at a level, where G tells what is told of its Kids. -/
def stepQ (p : PoolD) (L : Int) (G : Int → Int → Int → List Quad) (num xs xb : Int) : List Quad := if Nil xs xb then [] else ((L, num), (xs, xb)) :: catQ (fun i => G (num * 8 + i) (kidS (p.s xs.toNat) i) (kidB (p.s xs.toNat) i)) 8
def pageQ (p : PoolD) : Int → Int → Int → List Quad := stepQ p 2 (fun _ _ _ => [])
def nodeQ (p : PoolD) : Int → Int → Int → List Quad := stepQ p 1 (pageQ p)
/-- What is told of a tree. -/
def treeQ (p : PoolD) (rs rb : Int) : List Quad := stepQ p 0 (nodeQ p) 0 rs rb

theorem catQ_nil : ∀ k, catQ (fun _ => []) k = []
  | 0 => rfl
  | k + 1 => by rw [catQ, catQ_nil k]; rfl
theorem catQ_len {f : Nat → List Quad} {m : Nat} (h : ∀ i, (f i).length ≤ m) : ∀ k, (catQ f k).length ≤ m * k
  | 0 => Nat.le_refl _
  | k + 1 => by
    have := catQ_len h k
    have := h k
    rw [catQ, List.length_append]
    have : m * (k + 1) = m * k + m := Nat.mul_succ _ _
    omega
theorem pageQ_eq (p : PoolD) (num xs xb : Int) : pageQ p num xs xb = if Nil xs xb then [] else [((2, num), (xs, xb))] := by
  unfold pageQ stepQ
  rw [catQ_nil]
theorem catQ_snd {f : Nat → List Quad} {g : Nat → List (Int × Int)} (h : ∀ i, (f i).map (·.2) = g i) : ∀ k, (catQ f k).map (·.2) = (List.range k).flatMap g
  | 0 => rfl
  | k + 1 => by rw [catQ, List.map_append, catQ_snd h k, h k, List.range_succ, List.flatMap_append]; simp
theorem catUp_flat (F : Int → Int → List (Int × Int)) (s : SlotD) : ∀ k, catUp F s k = (List.range k).flatMap (fun i => F (kidS s i) (kidB s i))
  | 0 => rfl
  | k + 1 => by rw [catUp, catUp_flat F s k, List.range_succ, List.flatMap_append]; simp
theorem stepQ_snd {p : PoolD} {L : Int} {G : Int → Int → Int → List Quad} {F : Int → Int → List (Int × Int)} (h : ∀ num xs xb, (G num xs xb).map (·.2) = F xs xb) (num xs xb : Int) : (stepQ p L G num xs xb).map (·.2) = stepL p F xs xb := by
  unfold stepQ stepL
  by_cases hn : Nil xs xb
  · rw [if_pos hn, if_pos hn]; rfl
  · rw [if_neg hn, if_neg hn, List.map_cons, catQ_snd (g := fun i => F (kidS (p.s xs.toNat) i) (kidB (p.s xs.toNat) i)) (fun i => h _ _ _), catUp_flat]
/-- The pointers that are told are those of the tree, in its order. -/
theorem treeQ_snd (p : PoolD) (rs rb : Int) : (treeQ p rs rb).map (·.2) = treeL p rs rb := by
  have h2 : ∀ num xs xb, (pageQ p num xs xb).map (·.2) = one xs xb := fun num xs xb => by
    rw [pageQ_eq]
    unfold one
    by_cases hn : Nil xs xb
    · rw [if_pos hn, if_pos hn]; rfl
    · rw [if_neg hn, if_neg hn]; rfl
  have h1 : ∀ num xs xb, (nodeQ p num xs xb).map (·.2) = midL p xs xb := fun num xs xb => by
    unfold nodeQ
    rw [stepQ_snd h2]
    unfold stepL midL lowL
    rw [catUp_one]
  unfold treeQ
  rw [stepQ_snd h1]
  unfold stepL treeL
  rw [catUp_mid]

/-- What a round keeps: what lay below n₀, and whatever cells lie from B on. -/
def KeepLoc (n₀ B : Nat) (W W' : World) : Prop := Below n₀ W W' ∧ ∀ k o, B ≤ k → W.heap[k]? = some o → o.isCells = true → W'.heap[k]? = some o
theorem KeepLoc.refl (n₀ B : Nat) (W : World) : KeepLoc n₀ B W W := ⟨Below.refl _ _, fun _ _ _ h _ => h⟩
theorem keepLoc_t {n₀ B : Nat} {X Y Z : World} (h : KeepLoc n₀ B X Y) (k : KeepLoc n₀ B Y Z) : KeepLoc n₀ B X Z := ⟨h.1.trans k.1, fun i o hi ho hc => k.2 i o hi (h.2 i o hi ho hc) hc⟩
theorem keepLoc_b {n₀ B : Nat} {w : World} (hn : n₀ ≤ w.heap.size) (W : World) (l : Nat) (o o' : Obj) (hl : w.heap.size ≤ l) (h : W.heap[l]? = some o) (hc : o.isCells = false) (hw : o.isWalk = false) : KeepLoc n₀ B W (W.putObj l o') := by
  refine ⟨belowK_b hn W l o o' hl h hc hw, fun k ok hk hok hkc => ?_⟩
  by_cases e : k = l
  · subst e
    rw [h] at hok
    cases hok
    rw [hc] at hkc
    exact absurd hkc (by simp)
  · exact (World.putObj_heap_other e).trans hok
theorem KeepLoc.of_below {n₀ B : Nat} {W W' : World} (h : Below W.heap.size W W') (hn : n₀ ≤ W.heap.size) : KeepLoc n₀ B W W' :=
  ⟨h.mono hn, fun k o _ hk _ => (h.block k (Array.getElem?_eq_some_iff.1 hk).1).trans hk⟩
theorem isCells_of_cell {W : World} {b o : Nat} {v : Value} (h : W.cell? ⟨b, o, none⟩ = some v) : ∃ ob : Obj, W.heap[b]? = some ob ∧ ob.isCells = true := by
  simp only [World.cell?] at h
  cases hb : W.heap[b]? with
  | none => rw [hb] at h; simp at h
  | some ob =>
    refine ⟨ob, rfl, ?_⟩
    rw [hb] at h
    cases ob <;> first | rfl | (simp at h)
theorem KeepLoc.cell {n₀ B : Nat} {W W' : World} (h : KeepLoc n₀ B W W') {b o : Nat} {v : Value} (hb : B ≤ b) (hc : Cell W b o v) : Cell W' b o v := by
  obtain ⟨ob, h1, h2⟩ := isCells_of_cell hc.1
  have e : W'.heap[b]? = W.heap[b]? := (h.2 b ob hb h1 h2).trans h1.symm
  exact ⟨(World.cell?_of_block (a := ⟨b, o, none⟩) e).trans hc.1, (World.frozen?_of_block (a := ⟨b, o, none⟩) e).trans hc.2⟩
theorem KeepLoc.size {n₀ B : Nat} {W W' : World} (h : KeepLoc n₀ B W W') : W.heap.size ≤ W'.heap.size := h.1.size

end Go.Proofs.YtjpbmpjddbekgaaGreat

namespace Go.Proofs.YtjpbmpjddbekgaaGreat
open Go.RowKit Go.Shelf
set_option linter.unusedVariables false
attribute [local go_sem] Oper.semAt_some

theorem room_none {F : Fence} (hd : F.depth = none) (k : Nat) : F.room k := fun d h => by rw [hd] at h; cases h
/-- Where no depth is asked the figures are all one. -/
theorem yield_any {m : Nat} (m' : Nat) {P : Program} {l : Nat} {args : Array Value} {W : World} {R : Ending → World → Prop} (h : YieldAt Fence.wide m P l args W R) : YieldAt Fence.wide m' P l args W R := by
  obtain ⟨fn, tmps, assign, body, hy, hR⟩ := h
  exact ⟨fn, tmps, assign, body, hy, ⟨hR.1, fun c cs _ => hR.2 c cs (room_none rfl _)⟩⟩
theorem hideQ {P : Prop} (h : P) : Hid P := h

set_option maxRecDepth 20000 in
set_option maxHeartbeats 400000 in
theorem spotBelow_any (L num : Int) (i : Nat) (hL : 0 ≤ L ∧ L ≤ 2) (hn : 0 ≤ num ∧ num ≤ 1000) (hi : i < 8) (w : World) :
    Calls Tryz.prog 183 #[.agg #[.int .i64 L, .int .i64 num], .int .i64 (i : Int)] w fun e w' => e = .returned (.agg #[.int .i64 (L + 1), .int .i64 (num * 8 + i)]) ∧ Below w.heap.size w w' := by
  have ha := below_alloc w (.cells #[.int .i64 L, .int .i64 num] 172)
  have hb := below_alloc (w.alloc (.cells #[.int .i64 L, .int .i64 num] 172)) (.cells #[.int .i64 (L + 1), .int .i64 (num * 8 + i)] 172)
  obtain ⟨⟨x0, -⟩, ⟨x1, -⟩⟩ := (Box2.new w (.int .i64 L) (.int .i64 num) 172)
  go_enter Tryz.func183, Tryz.ntmps183
  go_wp2
  refine bodyPost_ret (v := .agg #[.int .i64 (L + 1), .int .i64 (num * 8 + i)]) (by simp [results, Tryz.results183, go_sem]) rfl ⟨rfl, ?_⟩
  exact below_next ha hb

/-- A pointer of a level, and those below it. -/
def CStep (p : PoolD) (C : Int → Int → Prop) (xs xb : Int) : Prop := Nil xs xb ∨ (Points p xs xb ∧ ∀ i, i < 8 → C (kidS (p.s xs.toNat) i) (kidB (p.s xs.toNat) i))

section
variable (n₀ B N l : Nat) (p : PoolD) (sv : Value) (lo hi : Nat) (J Jx : List Spot → World → Prop)

/-- All of these have been told, or whoever asks wants no more. -/
def TellPost (pre : List Spot) (out : List Quad) (W : World) (e : Ending) (W' : World) : Prop :=
  ∃ t : Bool, e = .returned (.bool t) ∧ (t = true → (∃ ys : List Spot, ys.map (·.1) = out ∧ J (pre ++ ys) W') ∧ KeepLoc n₀ B W W') ∧ (t = false → ∃ q, Jx q W')

def TellAt (L : Int) (G : Int → Int → Int → List Quad) (C : Int → Int → Prop) (M : Int) : Prop :=
  ∀ (n : Nat) (num xs xb : Int) (pre : List Spot) (W : World), C xs xb → 0 ≤ num → num ≤ M → B ≤ W.heap.size → J pre W → pre.length + (G num xs xb).length ≤ N →
    CallsIn Fence.wide n Tryz.prog 174 #[sv, .agg #[.int .i64 L, .int .i64 num], .agg #[.int .i64 xs, .int .i64 xb], .func (.yield l) #[] #[]] W (TellPost n₀ B J Jx pre (G num xs xb) W)
end

set_option maxRecDepth 20000 in
set_option maxHeartbeats 1000000 in
/-- Below the pages there is nothing. -/
theorem tell_none (n₀ B N l : Nat) (p : PoolD) (sv : Value) (J Jx : List Spot → World → Prop) (hn : n₀ ≤ B) (hJ : ∀ s W W', J s W → Below W.heap.size W W' → J s W') (L M : Int) (hs : ∃ a n c, sv = .slice a n c) : TellAt n₀ B N l sv J Jx L (fun _ _ _ => []) Nil M := by
  intro n num xs xb pre W hC h0 hM hB hj hN
  obtain ⟨rfl, rfl⟩ := hC
  obtain ⟨a, k, c, rfl⟩ := hs
  have ha := below_alloc W (.cells #[.int .i64 L, .int .i64 num] 172)
  have hb := below_alloc (W.alloc (.cells #[.int .i64 L, .int .i64 num] 172)) (.cells #[.int .i64 0, .int .i64 0] 43)
  have hA := below_next ha hb
  have HJ := hideQ (hJ _ _ _ hj hA)
  have hy := Box2.new (W.alloc (.cells #[.int .i64 L, .int .i64 num] 172)) (.int .i64 0) (.int .i64 0) 43
  rw [World.size_alloc] at hy
  obtain ⟨⟨y0, -⟩, ⟨y1, -⟩⟩ := hy
  refine callsIn_of_wp Tryz.func174 rfl trivial ?_ rfl
  simp only [Tryz.ntmps174, List.size_toArray, List.length_cons, List.length_nil, Nat.reduceAdd, Nat.reduceSub, Array.replicate_succ, Array.replicate_zero, List.push_toArray, List.append_toArray, List.nil_append, List.cons_append]
  gi_wp2
  go_ret
  exact ⟨true, rfl, fun _ => ⟨⟨[], rfl, by rw [List.append_nil]; exact HJ.out⟩, KeepLoc.of_below hA (by omega)⟩, fun h => (by cases h)⟩

end Go.Proofs.YtjpbmpjddbekgaaGreat

namespace Go.Proofs.YtjpbmpjddbekgaaGreat
open Go.RowKit Go.Shelf
set_option linter.unusedVariables false
attribute [local go_sem] Oper.semAt_some

/-- There is room for what is below one more Kid. -/
theorem step_len {p : PoolD} {N k j : Nat} {L num xb : Int} {G : Int → Int → Int → List Quad} {pre ys : List Spot} (hN : pre.length + (((L, num), ((k : Int), xb)) :: catQ (fun i => G (num * 8 + i) (kidS (p.s k) i) (kidB (p.s k) i)) 8).length ≤ N) (hys : ys.map (·.1) = ((L, num), ((k : Int), xb)) :: catQ (fun i => G (num * 8 + i) (kidS (p.s k) i) (kidB (p.s k) i)) j) (hj : j < 8) :
    (pre ++ ys).length + (G (num * 8 + j) (kidS (p.s k) j) (kidB (p.s k) j)).length ≤ N := by
  have hl := congrArg List.length hys
  rw [List.length_map] at hl
  have hc : ∀ (f : Nat → List Quad) (a b : Nat), a ≤ b → (catQ f a).length ≤ (catQ f b).length := fun f a b h => by
    induction b with
    | zero =>
      obtain rfl : a = 0 := by omega
      exact Nat.le_refl _
    | succ b ih =>
      by_cases e : a = b + 1
      · subst e; exact Nat.le_refl _
      · have := ih (by omega)
        rw [catQ, List.length_append]
        omega
  have h1 := hc (fun i => G (num * 8 + i) (kidS (p.s k) i) (kidB (p.s k) i)) (j + 1) 8 (by omega)
  rw [catQ, List.length_append] at h1
  rw [List.length_append]
  rw [List.length_cons] at hl hN
  omega
theorem kids_index (s : SlotD) {j : Nat} (h : j < 8) : ∀ w : World, (Instr.index 201 (.agg (kidsA s)) (.int .i64 (j : Int))).run Tryz.prog w = .ok (.agg #[.int .i64 (kidS s j), .int .i64 (kidB s j)]) w := by
  intro w
  obtain rfl | rfl | rfl | rfl | rfl | rfl | rfl | rfl : j = 0 ∨ j = 1 ∨ j = 2 ∨ j = 3 ∨ j = 4 ∨ j = 5 ∨ j = 6 ∨ j = 7 := by omega
  all_goals kernel_rfl

set_option maxRecDepth 20000 in
set_option maxHeartbeats 2000000 in
theorem tell_step (n₀ B N l : Nat) (p : PoolD) (sv : Value) (lo hi : Nat) (J Jx : List Spot → World → Prop) (hn : n₀ ≤ B) (hR : Right p) (hJ : ∀ s W W', J s W → Below W.heap.size W W' → J s W') (hS : ∀ s W, J s W → SlotsAt W lo hi sv p.n p.s)
    (hY : ∀ m pre x W, J pre W → pre.length < N → B ≤ W.heap.size → YieldAt Fence.wide m Tryz.prog l (spotA x) W fun e W' => (e = .returned (.bool true) ∧ J (pre ++ [x]) W' ∧ KeepLoc n₀ B W W') ∨ (e = .returned (.bool false) ∧ Jx (pre ++ [x]) W'))
    (L M : Int) (hL : 0 ≤ L ∧ L ≤ 2) (hM : 0 ≤ M ∧ M ≤ 100) (hLM : L = 2 → M < 64) (G : Int → Int → Int → List Quad) (C : Int → Int → Prop) (hlow : TellAt n₀ B N l sv J Jx (L + 1) G C (M * 8 + 7)) : TellAt n₀ B N l sv J Jx L (stepQ p L G) (CStep p C) M := by
  intro n num xs xb pre W hC h0 hM1 hB hj hN
  obtain ⟨a, c, rfl⟩ : ∃ a c, sv = .slice a p.n c := by obtain ⟨_, a, c, h, _⟩ := hS _ _ hj; exact ⟨a, c, h⟩
  have ha := below_alloc W (.cells #[.int .i64 L, .int .i64 num] 172)
  have hb := below_alloc (W.alloc (.cells #[.int .i64 L, .int .i64 num] 172)) (.cells #[.int .i64 xs, .int .i64 xb] 43)
  have hA := below_next ha hb
  have HX := hideQ ((Box2.new W (.int .i64 L) (.int .i64 num) 172).below hb)
  have hy := Box2.new (W.alloc (.cells #[.int .i64 L, .int .i64 num] 172)) (.int .i64 xs) (.int .i64 xb) 43
  rw [World.size_alloc] at hy
  have HY := hideQ hy
  have hj1 := hJ _ _ _ hj hA
  have hz1 : ((W.alloc (.cells #[.int .i64 L, .int .i64 num] 172)).alloc (.cells #[.int .i64 xs, .int .i64 xb] 43)).heap.size = W.heap.size + 1 + 1 := by rw [World.size_alloc, World.size_alloc]
  have HZ := hideQ hz1
  clear ha hb hy hj
  obtain ⟨⟨x0, -⟩, ⟨x1, -⟩⟩ := HX.out
  obtain ⟨⟨y0, -⟩, ⟨y1, -⟩⟩ := HY.out
  by_cases hnil : Nil xs xb
  · have HN := hideQ hnil
    have HJ1 := hideQ hj1
    obtain ⟨rfl, rfl⟩ := hnil
    clear hj1 hz1
    refine callsIn_of_wp Tryz.func174 rfl trivial ?_ rfl
    simp only [Tryz.ntmps174, List.size_toArray, List.length_cons, List.length_nil, Nat.reduceAdd, Nat.reduceSub, Array.replicate_succ, Array.replicate_zero, List.push_toArray, List.append_toArray, List.nil_append, List.cons_append]
    gi_wp2
    go_ret
    exact ⟨true, rfl, fun _ => ⟨⟨[], by rw [show stepQ p L G num 0 0 = [] from if_pos HN.out]; rfl, by rw [List.append_nil]; exact HJ1.out⟩, KeepLoc.of_below hA (by omega)⟩, fun h => (by cases h)⟩
  have hstep : stepQ p L G num xs xb = ((L, num), (xs, xb)) :: catQ (fun i => G (num * 8 + i) (kidS (p.s xs.toNat) i) (kidB (p.s xs.toNat) i)) 8 := if_neg hnil
  have e0 := not_nil_bool hnil
  obtain ⟨hPt, hkid⟩ := hC.resolve_left hnil
  have Hf := hideQ (points_fits hR hPt)
  rw [hstep] at hN ⊢
  have hwx : (Lit.int .i64 xs).wf = true ∧ (Lit.int .i64 xb).wf = true ∧ (L = 2 → 0 ≤ num ∧ num < 64) := by
    have h1 := hPt.2.2.1
    have h2 := hPt.2.1
    have h3 := hPt.1
    have h4 := hR.1
    have h5 := Hf.out.1.2
    have h6 := hPt.2.2.2
    exact ⟨WalkArith.wf_i64 (by omega), WalkArith.wf_i64 (by omega), fun e => ⟨h0, by have := hLM e; omega⟩⟩
  obtain ⟨k, rfl⟩ := Int.eq_ofNat_of_zero_le hPt.2.1
  rw [Int.toNat_natCast] at Hf hkid hN ⊢
  have hk : k < p.n := by have := hPt.2.2.1; omega
  have hk' : (k : Int) < (p.n : Int) := by omega
  have HNl := hideQ hN
  have Hkid := hideQ hkid
  have Hlow := hideQ hlow
  have HYd := hideQ hY
  rw [List.length_cons] at hN
  have hY1 := hY (n - 1) pre ⟨((L, num), ((k : Int), xb)), hwx⟩ _ hj1 (by omega) (by rw [HZ.out]; omega)
  clear hnil hC hPt hstep hj1 hz1 hlow hkid hN hY
  obtain ⟨fn, tmps, assign, body, hy, hRd⟩ := hY1
  unfold spotA at hy
  dsimp only at hy
  have hdd : ∀ k : Nat, (Fence.wide.depth.isSome = true → 1 ≤ k) := fun k h => by simp [Fence.wide] at h
  rcases e0 with e0 | ⟨e0, e1⟩
  all_goals
    refine callsIn_of_wp Tryz.func174 rfl trivial ?_ rfl
    simp only [Tryz.ntmps174, List.size_toArray, List.length_cons, List.length_nil, Nat.reduceAdd, Nat.reduceSub, Array.replicate_succ, Array.replicate_zero, List.push_toArray, List.append_toArray, List.nil_append, List.cons_append]
    gi_wp2
    refine ⟨hdd _, hRd.mono ?_⟩
    rintro e W2 (⟨rfl, hJ2, hk2⟩ | ⟨rfl, hx2⟩)
    rotate_left
    · have Hx2 := hideQ hx2
      clear hx2 hRd hy x0 x1 y0 y1
      gi_wp2
      go_ret
      exact ⟨false, rfl, fun h => (by cases h), fun _ => ⟨_, Hx2.out⟩⟩
    have HJ2 := hideQ hJ2
    have hz := HZ.out
    have HK2 := hideQ (keepLoc_t (KeepLoc.of_below (n₀ := n₀) (B := B) hA (by omega)) hk2)
    have HX2 := hideQ (show Box2 W2 W.heap.size (.int .i64 L) (.int .i64 num) from ⟨hk2.cell hB HX.out.1, hk2.cell hB HX.out.2⟩)
    have HY2 := hideQ (show Box2 W2 (W.heap.size + 1) (.int .i64 (k : Int)) (.int .i64 xb) from ⟨hk2.cell (by omega) HY.out.1, hk2.cell (by omega) HY.out.2⟩)
    have HZ2 := hideQ (show W.heap.size + 1 + 1 ≤ W2.heap.size by have := hk2.size; omega)
    obtain ⟨b, off, ka, kc, rfl, hsc⟩ := (hS _ _ hJ2).cells hk
    have HC := hideQ hsc.slot
    obtain ⟨q0, q1, q2, -⟩ := hsc
    clear hJ2 hk2 hRd hy x0 x1 y0 y1 HX HY hA hz
    obtain ⟨⟨x0, -⟩, ⟨x1, -⟩⟩ := HX2.out
    obtain ⟨⟨y0, -⟩, ⟨y1, -⟩⟩ := HY2.out
    gi_wp2
    refine ⟨trivial, hdd _, (callsIn_wide.2 (kidsOf_any _ _ _ lo hi (p.s k) _ HC.out (fits_kn Hf.out))).mono ?_⟩
    rintro e W3 ⟨rfl, hb3⟩
    have HJ3 := hideQ (hJ _ _ _ HJ2.out hb3)
    have HK3 := hideQ (keepLoc_t HK2.out (KeepLoc.of_below hb3 (by have := HZ2.out; omega)))
    have HX3 := hideQ (HX2.out.below hb3)
    have HZ3 := hideQ (show W.heap.size + 1 + 1 ≤ W3.heap.size by have := HZ2.out; have := hb3.size; omega)
    clear hb3 q0 q1 q2 x0 x1 y0 y1 HJ2 HK2 HX2 HY2 HZ2 HC
    gi_wp2
    gi_loopw [25] (fun i wr => ∃ (j : Nat) (ys : List Spot), j ≤ 8 ∧ i = .int .i64 j ∧ ys.map (·.1) = ((L, num), ((k : Int), xb)) :: catQ (fun i => G (num * 8 + i) (kidS (p.s k) i) (kidB (p.s k) i)) j ∧ J (pre ++ ys) wr ∧ KeepLoc n₀ B W wr ∧ Box2 wr W.heap.size (.int .i64 L) (.int .i64 num) ∧ W.heap.size + 1 + 1 ≤ wr.heap.size) (fun i _ => 8 - (intOf i).toNat)
    case atStart => exact ⟨0, [⟨((L, num), ((k : Int), xb)), hwx⟩], by omega, rfl, rfl, HJ3.out, HK3.out, HX3.out, HZ3.out⟩
    case round =>
      obtain ⟨j, ys, hj8, rfl, hys, hJr, hKr, hXr, hZr⟩ := hrel
      have Hys := hideQ hys
      have HJr := hideQ hJr
      have HKr := hideQ hKr
      have HXr := hideQ hXr
      have HZr := hideQ hZr
      clear hys hJr hKr hXr hZr HJ3 HK3 HX3 HZ3
      by_cases hlt : j < 8
      · have hlt' : (j : Int) < 8 := by omega
        have hix := kids_index (p.s k) hlt
        have ha4 := below_alloc wr (.cells #[.int .i64 (kidS (p.s k) j), .int .i64 (kidB (p.s k) j)] 43)
        have HY4 := hideQ (Box2.new wr (.int .i64 (kidS (p.s k) j)) (.int .i64 (kidB (p.s k) j)) 43)
        have HX4 := hideQ (HXr.out.below ha4)
        have HJ4 := hideQ (hJ _ _ _ HJr.out ha4)
        have HZ4 := hideQ (show W.heap.size + 1 + 1 ≤ wr.heap.size ∧ (wr.alloc (.cells #[.int .i64 (kidS (p.s k) j), .int .i64 (kidB (p.s k) j)] 43)).heap.size = wr.heap.size + 1 from ⟨HZr.out, World.size_alloc _ _⟩)
        have HK4 := hideQ (keepLoc_t HKr.out (KeepLoc.of_below ha4 (by have := HZr.out; omega)))
        have HL4 := hideQ (step_len HNl.out Hys.out hlt)
        clear ha4 HJr HKr HXr HZr
        gi_wp2
        clear hix
        generalize wr.alloc (.cells #[.int .i64 (kidS (p.s k) j), .int .i64 (kidB (p.s k) j)] 43) = W4 at HY4 HX4 HJ4 HZ4 HK4 ⊢
        generalize wr.heap.size = V at HY4 HZ4 ⊢
        obtain ⟨⟨x0, -⟩, ⟨x1, -⟩⟩ := HX4.out
        obtain ⟨⟨y0, -⟩, ⟨y1, -⟩⟩ := HY4.out
        gi_region_with (first
          | (refine ⟨trivial, hdd _, ?_⟩; gi_at_call 183; refine (callsIn_wide.2 (spotBelow_any L num j hL ⟨h0, by omega⟩ hlt _)).mono ?_; rintro e W5 ⟨rfl, hb5⟩; have hb5' := below_undrew hb5; obtain ⟨⟨z0, -⟩, ⟨z1, -⟩⟩ := HY4.out.below hb5'; obtain ⟨⟨m0, -⟩, ⟨m1, -⟩⟩ := HX4.out.below hb5')
          | (refine ⟨trivial, hdd _, ?_⟩; gi_at_call 174; refine (Hlow.out (n - 1) (num * 8 + j) _ _ (pre ++ ys) _ (Hkid.out j hlt) (by omega) (by omega) (by have := hb5'.size; have := HZ4.out; omega) (hJ _ _ _ HJ4.out hb5') HL4.out).mono ?_; rintro e W6 ⟨t, rfl, ht1, ht2⟩))
        all_goals
          have HT1 := hideQ ht1
          have HT2 := hideQ ht2
          clear ht1 ht2
          cases t
        all_goals first
          | (have HQ := hideQ (HT2.out rfl)
             clear HT1 HT2
             gi_wp2
             go_ret
             exact ⟨false, rfl, fun h => (by cases h), fun _ => HQ.out⟩)
          | (obtain ⟨⟨zs, hzs, hJ6⟩, hK6⟩ := HT1.out rfl
             have Hzs := hideQ hzs
             have HJ6 := hideQ hJ6
             have HK56 := hideQ hK6
             have HX5 := hideQ (HX4.out.below hb5')
             have HZ5 := hideQ (show W.heap.size + 1 + 1 ≤ W5.heap.size by have := HZ4.out; have := hb5'.size; omega)
             have HK5 := hideQ (keepLoc_t HK4.out (KeepLoc.of_below hb5' (by have := HZ4.out; omega)))
             clear HT1 HT2 hzs hJ6 hK6 hb5 hb5' x0 x1 y0 y1 z0 z1 m0 m1
             gi_wp2
             go_roundw
             case rel => exact ⟨j + 1, ys ++ zs, by omega, by go_num, by rw [List.map_append, Hys.out, Hzs.out]; rfl, by rw [← List.append_assoc]; exact HJ6.out, keepLoc_t HK5.out HK56.out, ⟨HK56.out.cell hB HX5.out.1, HK56.out.cell hB HX5.out.2⟩, by have := HK56.out.size; have := HZ5.out; omega⟩
             case measure => simp [intOf]; omega)
      · obtain rfl : j = 8 := by omega
        gi_wp2
        go_ret
        exact ⟨true, rfl, fun _ => ⟨⟨ys, Hys.out, HJr.out⟩, HKr.out⟩, fun h => (by cases h)⟩

end Go.Proofs.YtjpbmpjddbekgaaGreat

namespace Go.Proofs.YtjpbmpjddbekgaaGreat
open Go.RowKit Go.Shelf
set_option linter.unusedVariables false
attribute [local go_sem] Oper.semAt_some

theorem low_kids {p : PoolD} {xs xb : Int} (h : Nil xs xb ∨ PageAt p xs xb) : CStep p Nil xs xb := by
  rcases h with h | h
  · exact Or.inl h
  · refine Or.inr ⟨h.1, fun i hi => ?_⟩
    have hk := h.2.1
    exact ⟨by unfold kidS kidCell; rw [if_neg (by omega)], by unfold kidB kidCell; rw [if_neg (by omega)]⟩
theorem tree_kids {p : PoolD} {rs rb : Int} (h : TreeOk p rs rb) : CStep p (CStep p (CStep p Nil)) rs rb := by
  rcases h with h | ⟨h, ht, _⟩
  · exact Or.inl h
  · refine Or.inr ⟨h.1, fun i hi => ?_⟩
    rcases ht.1 i hi with h | ⟨h, hl⟩
    · exact Or.inl h
    · exact Or.inr ⟨h.1, fun j hj => low_kids (hl.1 j hj)⟩

theorem abides_below {β : Type} {W0 : Nat} {J : β → World → Prop} (h : AbidesFrom W0 J) : ∀ s W W', J s W → Below W.heap.size W W' → J s W' := fun s W W' hs hb =>
  h s W W' none hs (grown_of_below hb none) (fun r e => by cases e)
theorem SlotsAt.keep {w w' : World} {lo hi n₀ : Nat} {v : Value} {n : Nat} {f : Nat → SlotD} (h : SlotsAt w lo hi v n f) (hb : Below n₀ w w') (hh : hi ≤ n₀) : SlotsAt w' lo hi v n f :=
  h.same (fun k _ h2 => hb.block k (by omega))

set_option maxRecDepth 20000 in
set_option maxHeartbeats 1000000 in
theorem slots1_in (n₀ B n l Bw Bt lo hi : Nat) (p : PoolD) (sv v1 v4 v5 : Value) (t1 t2 : Int) (rs rb : Int) (J Jx : List Spot → World → Prop) (hn : n₀ ≤ B) (hh : hi ≤ n₀) (hR : Right p) (hT : TreeOk p rs rb)
    (hJ : ∀ s W W', J s W → Below W.heap.size W W' → J s W')
    (hY : ∀ pre x W, J pre W → pre.length < (treeQ p rs rb).length → YieldAt Fence.wide (n - 1) Tryz.prog l (spotA x) W fun e W' => (e = .returned (.bool true) ∧ J (pre ++ [x]) W' ∧ KeepLoc n₀ B W W') ∨ (e = .returned (.bool false) ∧ Jx (pre ++ [x]) W'))
    (W : World) (hB : B ≤ W.heap.size) (hw : Box6 W Bw sv v1 (.int .i64 t1) (.int .i64 t2) v4 v5) (ht : Box2 W Bt (.int .i64 rs) (.int .i64 rb)) (hS : SlotsAt W lo hi sv p.n p.s) (h0 : J [] W) :
    CallsIn Fence.wide n Tryz.prog 173 #[.func (.yield l) #[] #[], .pointer (some ⟨Bw, 0, none⟩), .pointer (some ⟨Bt, 0, none⟩)] W fun e W' => (∃ v, e = .returned v) ∧ ((∃ ys : List Spot, ys.map (·.1) = treeQ p rs rb ∧ J ys W') ∨ (∃ q, True ∧ Jx q W')) := by
  have hdd : ∀ k : Nat, (Fence.wide.depth.isSome = true → 1 ≤ k) := fun k h => by simp [Fence.wide] at h
  obtain ⟨a, c, rfl⟩ : ∃ a c, sv = .slice a p.n c := by obtain ⟨_, a, c, h, _⟩ := hS; exact ⟨a, c, h⟩
  have hT3 := tell_none n₀ B (treeQ p rs rb).length l p (.slice a p.n c) (fun s W => J s W ∧ SlotsAt W lo hi (.slice a p.n c) p.n p.s) Jx hn (fun s W W' h hb => ⟨hJ s W W' h.1 hb, h.2.below hb⟩) 3 511 ⟨a, p.n, c, rfl⟩
  have hJ' : ∀ s W W', (J s W ∧ SlotsAt W lo hi (.slice a p.n c) p.n p.s) → Below W.heap.size W W' → (J s W' ∧ SlotsAt W' lo hi (.slice a p.n c) p.n p.s) := fun s W W' h hb => ⟨hJ s W W' h.1 hb, h.2.below hb⟩
  have hY' : ∀ m pre x W, (J pre W ∧ SlotsAt W lo hi (.slice a p.n c) p.n p.s) → pre.length < (treeQ p rs rb).length → B ≤ W.heap.size → YieldAt Fence.wide m Tryz.prog l (spotA x) W fun e W' => (e = .returned (.bool true) ∧ (J (pre ++ [x]) W' ∧ SlotsAt W' lo hi (.slice a p.n c) p.n p.s) ∧ KeepLoc n₀ B W W') ∨ (e = .returned (.bool false) ∧ Jx (pre ++ [x]) W') := fun m pre x W hj hl _ =>
    yield_any m (YieldAt.mono (hY pre x W hj.1 hl) fun e W' h => h.elim (fun ⟨he, h1, h2⟩ => .inl ⟨he, ⟨h1, hj.2.keep h2.1 hh⟩, h2⟩) .inr)
  have hT2 := tell_step n₀ B (treeQ p rs rb).length l p (.slice a p.n c) lo hi _ Jx hn hR hJ' (fun s W h => h.2) hY' 2 63 (by omega) (by omega) (by omega) _ _ hT3
  have hT1 := tell_step n₀ B (treeQ p rs rb).length l p (.slice a p.n c) lo hi _ Jx hn hR hJ' (fun s W h => h.2) hY' 1 7 (by omega) (by omega) (by omega) _ _ hT2
  have hT0 := tell_step n₀ B (treeQ p rs rb).length l p (.slice a p.n c) lo hi _ Jx hn hR hJ' (fun s W h => h.2) hY' 0 0 (by omega) (by omega) (by omega) _ _ hT1
  have hgo := hT0 (n - 1) 0 rs rb [] W (tree_kids hT) (by omega) (by omega) hB ⟨h0, hS⟩ (by rw [List.length_nil, Nat.zero_add]; exact Nat.le_refl _)
  clear hT3 hT2 hT1 hT0 hY hY' hJ'
  obtain ⟨⟨x0, -⟩, ⟨x1, -⟩, ⟨x2, -⟩, ⟨x3, -⟩, ⟨x4, -⟩, ⟨x5, -⟩⟩ := hw
  obtain ⟨⟨y0, -⟩, ⟨y1, -⟩⟩ := ht
  refine callsIn_of_wp Tryz.func173 rfl trivial ?_ rfl
  simp only [Tryz.ntmps173, List.size_toArray, List.length_cons, List.length_nil, Nat.reduceAdd, Nat.reduceSub, Array.replicate_succ, Array.replicate_zero, List.push_toArray, List.append_toArray, List.nil_append, List.cons_append]
  gi_wp2
  refine ⟨trivial, hdd _, hgo.mono ?_⟩
  rintro e W1 ⟨t, rfl, ht1, ht2⟩
  have HT1 := hideQ ht1
  have HT2 := hideQ ht2
  clear ht1 ht2 hgo
  gi_wp2
  go_end0
  refine ⟨⟨_, rfl⟩, ?_⟩
  cases t
  · obtain ⟨q, hq⟩ := HT2.out rfl
    exact .inr ⟨q, trivial, hq⟩
  · obtain ⟨⟨ys, hys, hj⟩, _⟩ := HT1.out rfl
    exact .inl ⟨ys, hys, by simpa using hj.1⟩

end Go.Proofs.YtjpbmpjddbekgaaGreat

namespace Go.Proofs.YtjpbmpjddbekgaaGreat
open Go.RowKit Go.Shelf Go.Maps
set_option linter.unusedVariables false
attribute [local go_sem] Oper.semAt_some

set_option maxRecDepth 20000 in
set_option maxHeartbeats 400000 in
theorem slotsOf_any (v0 v1 v2 v3 : Value) (W : WorldD) (rs rb : Int) (w : World) :
    Calls Tryz.prog 136 #[worldV v0 v1 v2 v3 W, .agg #[.int .i64 rs, .int .i64 rb]] w fun e w' => e = .returned (.func (.func 173) #[] #[.pointer (some ⟨w.heap.size, 0, none⟩), .pointer (some ⟨w.heap.size + 1, 0, none⟩)]) ∧ Box6 w' w.heap.size v0 v1 (.int .i64 W.time) (.int .i64 W.next) v2 v3 ∧ Box2 w' (w.heap.size + 1) (.int .i64 rs) (.int .i64 rb) ∧ Below w.heap.size w w' ∧ w'.heap.size = w.heap.size + 2 := by
  have ha := below_alloc w (.cells #[v0, v1, .int .i64 W.time, .int .i64 W.next, v2, v3] 38)
  have hb := below_alloc (w.alloc (.cells #[v0, v1, .int .i64 W.time, .int .i64 W.next, v2, v3] 38)) (.cells #[.int .i64 rs, .int .i64 rb] 43)
  have H1 := hideQ ((Box6.new w v0 v1 (.int .i64 W.time) (.int .i64 W.next) v2 v3 38).below hb)
  have hy := Box2.new (w.alloc (.cells #[v0, v1, .int .i64 W.time, .int .i64 W.next, v2, v3] 38)) (.int .i64 rs) (.int .i64 rb) 43
  rw [World.size_alloc] at hy
  have H2 := hideQ hy
  have H3 := hideQ (show ((w.alloc (.cells #[v0, v1, .int .i64 W.time, .int .i64 W.next, v2, v3] 38)).alloc (.cells #[.int .i64 rs, .int .i64 rb] 43)).heap.size = w.heap.size + 2 by rw [World.size_alloc, World.size_alloc])
  clear hy
  have hmf : ∀ (fn : Fn) (first cap : Array Value) (w : World), (Instr.makeFunc fn first cap).run Tryz.prog w = .ok (.func fn first cap) w := fun _ _ _ _ => rfl
  go_enter Tryz.func136, Tryz.ntmps136
  go_wp2
  go_ret
  exact ⟨rfl, H1.out, H2.out, below_next ha hb, H3.out⟩

/-- What it hands back tells of a tree's slots, one by one. -/
theorem slots_stops (n₀ B n Bw Bt lo hi : Nat) (p : PoolD) (sv v1 v4 v5 : Value) (t1 t2 rs rb : Int) (w : World) (hn : n₀ ≤ B) (hB : B ≤ w.heap.size) (hh : hi ≤ n₀) (hR : Right p) (hT : TreeOk p rs rb) (hw : Box6 w Bw sv v1 (.int .i64 t1) (.int .i64 t2) v4 v5) (ht : Box2 w Bt (.int .i64 rs) (.int .i64 rb)) (hS : SlotsAt w lo hi sv p.n p.s) :
    SeqStopsK Fence.wide n Tryz.prog 173 #[.pointer (some ⟨Bw, 0, none⟩), .pointer (some ⟨Bt, 0, none⟩)] spotA (KeepLoc n₀ B) (fun ys => ys.map (·.1) = treeQ p rs rb) (fun _ => True) (treeQ p rs rb).length w := fun l J Jx W hW hJ _ hY h0 =>
  slots1_in n₀ B n l Bw Bt lo hi p sv v1 v4 v5 t1 t2 rs rb J Jx hn hh hR hT (abides_below hJ) hY W (by have := hW.size; omega) (hw.below hW) (ht.below hW) (hS.below hW) h0

/-- A cell from ahead of a loop abides what the loop's own book-keeping turns. -/
theorem cell_own {B : Nat} {X Y : World} {row : Option Nat} {b o : Nat} {v : Value} (h : Cell X b o v) (hg : X.grownBy Y row) (hr : ∀ r, row = some r → B ≤ r ∧ ∃ ob : Obj, X.heap[r]? = some ob ∧ ob.isCells = false) : Cell Y b o v := by
  obtain ⟨ob, h1, h2⟩ := isCells_of_cell h.1
  have hne : some b ≠ row := fun e => by
    obtain ⟨_, ob', h3, h4⟩ := hr b e.symm
    rw [h1] at h3
    cases h3
    rw [h2] at h4
    exact absurd h4 (by simp)
  have e := hg.block b h.lt hne
  exact ⟨(World.cell?_of_block (a := ⟨b, o, none⟩) e).trans h.1, (World.frozen?_of_block (a := ⟨b, o, none⟩) e).trans h.2⟩

theorem keepLoc_set {n₀ B : Nat} {W : World} {b o : Nat} (h1 : n₀ ≤ b) (h2 : b < B) (v : Value) : KeepLoc n₀ B W (W.setCell ⟨b, o, none⟩ v) :=
  ⟨(Below.refl n₀ W).setCell (p := ⟨b, o, none⟩) h1 v, fun k ob hk ho _ => (Below.heap_setCell W ⟨b, o, none⟩ v k (by simp; omega)).trans ho⟩
theorem stepQ_len {p : PoolD} {L : Int} {G : Int → Int → Int → List Quad} {m : Nat} (h : ∀ num xs xb, (G num xs xb).length ≤ m) (num xs xb : Int) : (stepQ p L G num xs xb).length ≤ 1 + m * 8 := by
  unfold stepQ
  by_cases hn : Nil xs xb
  · rw [if_pos hn]; simp
  · rw [if_neg hn, List.length_cons]
    have := catQ_len (f := fun i => G (num * 8 + i) (kidS (p.s xs.toNat) i) (kidB (p.s xs.toNat) i)) (fun i => h _ _ _) 8
    omega
theorem treeQ_len (p : PoolD) (rs rb : Int) : (treeQ p rs rb).length ≤ 73 := by
  have h2 : ∀ num xs xb, (pageQ p num xs xb).length ≤ 1 := fun num xs xb => by
    rw [pageQ_eq]
    by_cases hn : Nil xs xb
    · rw [if_pos hn]; simp
    · rw [if_neg hn]; simp
  have h1 : ∀ num xs xb, (nodeQ p num xs xb).length ≤ 9 := fun num xs xb => stepQ_len h2 num xs xb
  exact stepQ_len h1 0 rs rb

end Go.Proofs.YtjpbmpjddbekgaaGreat

namespace Go.Proofs.YtjpbmpjddbekgaaGreat
open Go.RowKit Go.Maps
set_option linter.unusedVariables false

theorem treeL_zero (p : PoolD) : treeL p 0 0 = [] := by
  unfold treeL
  exact if_pos ⟨rfl, rfl⟩
theorem setAt_ok {W : WorldD} (h : SpecW W) (x : ByteArray) : TreeOk W.pool (setAt W x).rs (setAt W x).rb := by
  by_cases hx : ∃ k, SetNo W x k
  · obtain ⟨k, hk⟩ := hx
    rw [setAt_at hk]
    exact (h.sets k hk.1).1
  · have e : setAt W x = zeroSetD := by unfold setAt; rw [dif_neg hx]
    rw [e]
    exact Or.inl ⟨rfl, rfl⟩
theorem setAt_long {W : WorldD} {x : ByteArray} (h : 8000 < x.size) (hS : SpecW W) : setAt W x = zeroSetD := by
  refine setAt_no (fun k hk e => ?_)
  have := (hS.names.2.2.2.2.1 k hk).1.2.1
  rw [e] at this
  omega

theorem fieldRoot (v : Value) (s : SetD) (w : World) : (Instr.field 53 (setV v s) 3).run Tryz.prog w = .ok (.agg #[.int .i64 s.rs, .int .i64 s.rb]) w := by kernel_rfl
theorem sets_run {w : World} {W : WorldD} {M : Nat} {vd : Nat → Value} (h : SetsMap w W M W.sn vd) {x : ByteArray} (hx : x.size ≤ maxLen) {v : Value} (hat : (putD (fun i => keyS (W.sets i).name) (fun i => setV (vd i) (W.sets i)) W.sn).atKey (keyS x) (.held (.agg #[.string ⟨#[]⟩, .int .i64 0, .int .i64 0, .int .i64 0, .int .i64 0, .slice none 0 0])) = .held v) :
    (Instr.lookup 108 (.map (some M)) (.string x) false).run Tryz.prog w = .ok v w := by
  obtain ⟨v', ps, hrun, hv⟩ := World.ownsMap.lookup h lawS setsT (zeroSetV w) (rawE_mk _) (keyS_of hx)
  have e1 := rawE_inv hv
  rw [hat] at e1
  have e2 := DataW.held.inj e1
  rw [e2]
  exact hrun

theorem fieldRootS (v : Value) (s : SnapD) (w : World) : (Instr.field 46 (snapV v s) 5).run Tryz.prog w = .ok (.agg #[.int .i64 s.rs, .int .i64 s.rb]) w := by kernel_rfl
theorem snaps_run {w : World} {W : WorldD} {M : Nat} {vd : Nat → Value} (h : SnapsMap w W M W.pn vd) {x : Int} (hx : (Lit.int .i64 x).wf = true) {v : Value} (hat : (putD (fun i => keyN (W.snaps i).id) (fun i => snapV (vd i) (W.snaps i)) W.pn).atKey (keyN x) (.held (.agg #[.int .i64 0, .string ⟨#[]⟩, .string ⟨#[]⟩, .int .i64 0, .int .i64 0, .int .i64 0, .int .i64 0, .slice none 0 0])) = .held v) :
    (Instr.lookup 98 (.map (some M)) (.int .i64 x) false).run Tryz.prog w = .ok v w := by
  obtain ⟨v', ps, hrun, hv⟩ := World.ownsMap.lookup h lawI snapsT (zeroSnapV w) (rawE_mk _) (keyN_of hx)
  have e1 := rawE_inv hv
  rw [hat] at e1
  have e2 := DataW.held.inj e1
  rw [e2]
  exact hrun

theorem join_ways {A B : Prop} (f : A → B) (h : A) : B := f h

end Go.Proofs.YtjpbmpjddbekgaaGreat
