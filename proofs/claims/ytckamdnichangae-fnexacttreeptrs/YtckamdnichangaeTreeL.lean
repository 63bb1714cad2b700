/- What spec.TreePtrs and impl.TreePtrs leave: a new row of the tree's pointers, or an empty one. -/
import Derived.Test.YtckamdnichangaeTreeJ
import Derived.Test.YtckamdnichangaeTreeK
namespace Go.Proofs.Ytckamdnichangae
open Go.RowKit
set_option linter.unusedVariables false

/-- What TreePtrs answers. -/
def TreeList (p : PoolD) (xs xb : Int) (l : List (Int × Int)) : Prop := (TreeR p xs xb → l = treeL p xs xb) ∧ (¬ TreeR p xs xb → l = [])
theorem treeList_one {p : PoolD} {xs xb : Int} {l m : List (Int × Int)} (h : TreeList p xs xb l) (h' : TreeList p xs xb m) : l = m := by
  by_cases hx : TreeR p xs xb
  · rw [h.1 hx, h'.1 hx]
  · rw [h.2 hx, h'.2 hx]
theorem treeList_len {p : PoolD} {xs xb : Int} {l : List (Int × Int)} (h : TreeList p xs xb l) : l.length ≤ 73 := by
  by_cases hx : TreeR p xs xb
  · rw [h.1 hx]; exact treeL_len p xs xb
  · rw [h.2 hx]; simp
def NewPtrs (p : PoolD) (xs xb : Int) (w : World) (e : Ending) (w' : World) : Prop := ∃ v l, e = .returned v ∧ TreeList p xs xb l ∧ RowL w' w.heap.size v l ∧ Below w.heap.size w w'

set_option maxRecDepth 20000 in
set_option maxHeartbeats 1000000 in
theorem specTreePtrs_any (v0 v1 : Value) (lo hi : Nat) (p : PoolD) (xs xb : Int) (w : World) (h1 : PoolAt w lo hi v0 v1 p) :
    Calls Try.prog 21 #[.agg #[v0, v1], .agg #[.int .i64 xs, .int .i64 xb]] w (NewPtrs p xs xb w) := by
  have Hp := hideT h1
  obtain ⟨a, c, a', c', rfl, rfl⟩ : ∃ a c a' c', v0 = .slice a p.n c ∧ v1 = .slice a' p.hn c' := by
    obtain ⟨⟨_, a, c, h1, _⟩, ⟨_, a', c', h3, _⟩⟩ := h1
    exact ⟨a, c, a', c', h1, h3⟩
  clear h1
  have hst := start22 w (.slice a p.n c) (.slice a' p.hn c') (.int .i64 xs) (.int .i64 xb) 31 32
  go_enter Try.func21, Try.ntmps21
  go_wp2_with fail
  generalize (w.alloc (.cells #[.slice a p.n c, .slice a' p.hn c'] 31)).alloc (.cells #[.int .i64 xs, .int .i64 xb] 32) = W at hst ⊢
  obtain ⟨hB, hX, hba, hz⟩ := hst
  refine (specTreeRight_any _ _ lo hi p xs xb W (Hp.out.below hba)).mono ?_
  rintro e w1 ⟨⟨t, rfl, ht⟩, hb1⟩
  have HB1 := hideT (hB.below hb1)
  have HX1 := hideT (hX.below hb1)
  have hB1 := below_next hba hb1
  clear hB hX hba hb1 hz
  by_cases hR : TreeR p xs xb
  · have HR := hideT hR
    obtain rfl : t = true := ht.2 hR
    clear ht hR
    obtain ⟨⟨x0, x1⟩, ⟨x2, x3⟩⟩ := HB1.out
    obtain ⟨⟨y0, y1⟩, ⟨y2, y3⟩⟩ := HX1.out
    go_wp2_with fail
    refine (l02Ptrs_any _ _ lo hi p xs xb _ (Hp.out.below hB1) HR.out.1 HR.out.2).mono ?_
    rintro e w2 ⟨v, rfl, hr, hb2⟩
    obtain ⟨va, vc, rfl, _⟩ := owns_form hr
    have Hr := hideT hr
    have hB2 := below_next hB1 hb2
    have hz1 := hB1.size
    clear hb2 hr
    go_wp2
    go_ret
    exact ⟨_, treeL p xs xb, rfl, ⟨fun _ => rfl, fun h => absurd HR.out h⟩, Hr.out.mono hz1, hB2⟩
  · have HR := hideT hR
    obtain rfl : t = false := bool_no ht hR
    clear ht hR
    have hal := below_alloc w1 (.cells #[] 32)
    have Hr := hideT (show RowL (w1.alloc (.cells #[] 32)) w.heap.size (.slice (some ⟨w1.heap.size, 0, none⟩) 0 0) [] from World.ownsRow_lit (e := 32) (size := 2) w1 #[] 0 hB1.size (by unfold maxLen; omega) rfl)
    have hB2 := below_next hB1 hal
    clear hal
    go_wp2
    go_ret
    exact ⟨_, [], rfl, ⟨fun h => absurd h HR.out, fun _ => rfl⟩, Hr.out, hB2⟩

set_option maxRecDepth 20000 in
set_option maxHeartbeats 1000000 in
theorem implTreePtrs_any (v0 v1 : Value) (lo hi : Nat) (p : PoolD) (xs xb : Int) (w : World) (h1 : PoolAt w lo hi v0 v1 p) :
    Calls Try.prog 22 #[.agg #[v0, v1], .agg #[.int .i64 xs, .int .i64 xb]] w (NewPtrs p xs xb w) := by
  have Hp := hideT h1
  obtain ⟨a, c, a', c', rfl, rfl⟩ : ∃ a c a' c', v0 = .slice a p.n c ∧ v1 = .slice a' p.hn c' := by
    obtain ⟨⟨_, a, c, h1, _⟩, ⟨_, a', c', h3, _⟩⟩ := h1
    exact ⟨a, c, a', c', h1, h3⟩
  clear h1
  have hst := start22 w (.slice a p.n c) (.slice a' p.hn c') (.int .i64 xs) (.int .i64 xb) 31 32
  go_enter Try.func22, Try.ntmps22
  go_wp2_with fail
  generalize (w.alloc (.cells #[.slice a p.n c, .slice a' p.hn c'] 31)).alloc (.cells #[.int .i64 xs, .int .i64 xb] 32) = W at hst ⊢
  obtain ⟨hB, hX, hba, hz⟩ := hst
  refine (implTreeRight_any _ _ lo hi p xs xb W (Hp.out.below hba)).mono ?_
  rintro e w1 ⟨⟨t, rfl, ht⟩, hb1⟩
  have HB1 := hideT (hB.below hb1)
  have HX1 := hideT (hX.below hb1)
  have hB1 := below_next hba hb1
  clear hB hX hba hb1 hz
  by_cases hR : TreeR p xs xb
  · have HR := hideT hR
    obtain rfl : t = true := ht.2 hR
    clear ht hR
    have HP := hideT (show Nil xs xb ∨ Points p xs xb from HR.out.2.imp id (fun h => h.1.1))
    obtain ⟨⟨x0, x1⟩, ⟨x2, x3⟩⟩ := HB1.out
    obtain ⟨⟨y0, y1⟩, ⟨y2, y3⟩⟩ := HX1.out
    go_wp2_with fail
    refine (ptrs0_any p HR.out.1 _ lo hi xs xb _ (Hp.out.1.below hB1) HP.out).mono ?_
    rintro e w2 ⟨v, rfl, hr, hb2⟩
    obtain ⟨va, vc, rfl, _⟩ := owns_form hr
    have Hr := hideT (show RowL w2 w1.heap.size (.slice va (treeL p xs xb).length vc) (treeL p xs xb) from hr)
    have hB2 := below_next hB1 hb2
    have hz1 := hB1.size
    clear hb2 hr
    go_wp2
    go_ret
    exact ⟨_, treeL p xs xb, rfl, ⟨fun _ => rfl, fun h => absurd HR.out h⟩, Hr.out.mono hz1, hB2⟩
  · have HR := hideT hR
    obtain rfl : t = false := bool_no ht hR
    clear ht hR
    go_wp2
    go_ret
    exact ⟨_, [], rfl, ⟨fun h => absurd h HR.out, fun _ => rfl⟩, RowL.nil _ _, hB1⟩

/-- A row of pointers in the block b, from lo to hi. -/
structure RowV (w : World) (lo hi : Nat) (v : Value) (n : Nat) (f g : Nat → Int) (b : Nat) : Prop where
  own : PtrsOwn w b v n f g
  place : 0 < n → lo ≤ b ∧ b < hi
theorem RowV.below {w w' : World} {lo hi : Nat} {v : Value} {n : Nat} {f g : Nat → Int} {b : Nat} (h : RowV w lo hi v n f g b) (t : Below w.heap.size w w') : RowV w' lo hi v n f g b := ⟨h.own.below t, h.place⟩
theorem RowV.turned {S : Nat → Prop} {w w' : World} {lo hi : Nat} {v : Value} {n : Nat} {f g : Nat → Int} {b : Nat} (h : RowV w lo hi v n f g b) (t : Turned S w w') (hs : ∀ k, S k → k < lo ∨ hi ≤ k) : RowV w' lo hi v n f g b :=
  ⟨h.own.turned t (fun h0 hx => by have := h.place h0; have := hs _ hx; omega), h.place⟩
theorem RowV.at' {w : World} {lo hi : Nat} {v : Value} {n : Nat} {f g : Nat → Int} {b : Nat} (h : RowV w lo hi v n f g b) : PtrsAt w lo hi v n f g := h.own.at h.place

/-- A new row that TreePtrs has answered since w1. -/
def NewList (p : PoolD) (xs xb : Int) (w1 : World) (t : Value) (wx : World) : Prop :=
  ∃ l b a c, t = .slice a l.length c ∧ TreeList p xs xb l ∧ RowV wx w1.heap.size wx.heap.size (.slice a l.length c) l.length (fstL l) (sndL l) b ∧ Below w1.heap.size w1 wx
theorem newList_of {p : PoolD} {xs xb : Int} {w1 wa w2 : World} {v : Value} {l : List (Int × Int)} (hl : TreeList p xs xb l) (hr : RowL w2 wa.heap.size v l) (hz : w1.heap.size ≤ wa.heap.size) (hb : Below w1.heap.size w1 w2) : NewList p xs xb w1 v w2 := by
  have hn := treeList_len hl
  obtain ⟨a, c, rfl, _⟩ := owns_form hr
  obtain ⟨b, h1, h2⟩ := hr.own (by unfold maxLen; omega)
  exact ⟨l, b, a, c, rfl, hl, ⟨h1, fun h0 => ⟨by have := (h2 h0).2.1; omega, (h2 h0).2.2⟩⟩, hb⟩

end Go.Proofs.Ytckamdnichangae
