/- What is in a tree behind TreeWrite and TreeTrim, and what is in it no more (no law is proved here). -/
import Derived.Test.YtikhipekmlhibaaG30
import Derived.Test.YtikhipekmlhibaaG27
namespace Go.Proofs.Ytikhipekmlhibaa
open Go Go.RowKit
set_option linter.unusedVariables false

/-- Nothing but free slots has changed. -/
structure Ext (p q : PoolD) : Prop where
  n : q.n = p.n
  hn : q.hn = p.hn
  h : q.h = p.h
  s : ∀ j, ¬ Free (p.s j) → q.s j = p.s j
theorem Ext.refl (p : PoolD) : Ext p p := ⟨rfl, rfl, rfl, fun _ _ => rfl⟩
theorem Ext.trans {p q r : PoolD} (h : Ext p q) (k : Ext q r) : Ext p r := ⟨k.n.trans h.n, k.hn.trans h.hn, k.h.trans h.h, fun j hj => (k.s j (by rw [h.s j hj]; exact hj)).trans (h.s j hj)⟩
theorem Ext.set {p : PoolD} {i : Nat} (hi : Free (p.s i)) (s : SlotD) : Ext p (setS p i s) := ⟨rfl, rfl, rfl, fun j hj => set_there p s (fun e => hj (e ▸ hi))⟩
theorem points_not_free {p : PoolD} {xs xb : Int} (h : Points p xs xb) : ¬ Free (p.s xs.toNat) := fun hf => by
  have := hf.1
  have := h.1
  have := h.2.2.2
  omega
theorem Ext.at {p q : PoolD} (h : Ext p q) {xs xb : Int} (hp : Points p xs xb) : q.s xs.toNat = p.s xs.toNat := h.s _ (points_not_free hp)
theorem Ext.points {p q : PoolD} (h : Ext p q) {xs xb : Int} (hp : Points p xs xb) : Points q xs xb := ⟨hp.1, hp.2.1, by rw [h.n]; exact hp.2.2.1, by rw [h.at hp]; exact hp.2.2.2⟩
theorem Ext.has {p q : PoolD} (h : Ext p q) (x : Int) : Has q.hn q.h x ↔ Has p.hn p.h x := by rw [h.hn, h.h]
theorem Ext.node {p q : PoolD} (h : Ext p q) {xs xb : Int} (hp : NodeAt p xs xb) : NodeAt q xs xb := ⟨h.points hp.1, by rw [h.at hp.1]; exact hp.2.1, fun e => hp.2.2 ((h.has xs).1 e)⟩
theorem Ext.page {p q : PoolD} (h : Ext p q) {xs xb : Int} (hp : PageAt p xs xb) : PageAt q xs xb := ⟨h.points hp.1, by rw [h.at hp.1]; exact hp.2.1, fun e => hp.2.2 ((h.has xs).1 e)⟩
theorem Ext.low {p q : PoolD} (h : Ext p q) {s : SlotD} (hl : LowOk p s) : LowOk q s := ⟨fun i hi => (hl.1 i hi).imp id h.page, hl.2⟩
theorem Ext.mid {p q : PoolD} (h : Ext p q) {s : SlotD} {i : Nat} (hm : MidOk p s i) : MidOk q s i := hm.imp id (fun hh => ⟨h.node hh.1, by rw [h.at hh.1.1]; exact h.low hh.2⟩)
theorem subUp_ext {p q : PoolD} (h : Ext p q) {s : SlotD} : ∀ {k : Nat}, (∀ i, i < k → MidOk p s i) → subUp q s k = subUp p s k
  | 0, _ => rfl
  | k + 1, hm => by
    unfold subUp
    rw [subUp_ext h (fun i hi => hm i (by omega))]
    congr 1
    unfold midL
    by_cases hz : Nil (kidS s k) (kidB s k)
    · rw [if_pos hz, if_pos hz]
    · rw [if_neg hz, if_neg hz, h.at ((hm k (Nat.lt_succ_self k)).resolve_left hz).1.1]
theorem Ext.tree {p q : PoolD} (h : Ext p q) {xs xb : Int} (ht : TreeOk p xs xb) : treeL q xs xb = treeL p xs xb := by
  unfold treeL
  by_cases hz : Nil xs xb
  · rw [if_pos hz, if_pos hz]
  · obtain ⟨h1, h2, h3⟩ := ht.resolve_left hz
    rw [if_neg hz, if_neg hz, h.at h1.1, subUp_ext h h2.1]
theorem Ext.ok {p q : PoolD} (h : Ext p q) {xs xb : Int} (ht : TreeOk p xs xb) : TreeOk q xs xb := by
  refine ht.imp id (fun hh => ⟨h.node hh.1, ?_, ?_⟩)
  · rw [h.at hh.1.1]
    exact ⟨fun i hi => h.mid (hh.2.1.1 i hi), hh.2.1.2⟩
  · rw [h.tree (Or.inr hh)]
    exact hh.2.2
/-- The pages of the elder tree are as ahead. -/
theorem Ext.kid {p q : PoolD} (h : Ext p q) {xs xb : Int} (ht : Nil xs xb ∨ Points p xs xb) (i : Nat) : kidSF q xs xb i = kidSF p xs xb i ∧ kidBF q xs xb i = kidBF p xs xb i := by
  unfold kidSF kidBF
  by_cases hz : Nil xs xb
  · simp only [if_pos hz]; exact ⟨trivial, trivial⟩
  · simp only [if_neg hz]
    rw [h.at (ht.resolve_left hz)]
    exact ⟨rfl, rfl⟩
theorem root_nil_or {p : PoolD} {xs xb : Int} (ht : TreeOk p xs xb) : Nil xs xb ∨ Points p xs xb := ht.imp id (fun hh => hh.1.1)
theorem nodes_nil_or {p : PoolD} {xs xb : Int} (hT : TreeR p xs xb) {i : Nat} (hi : i < 8) : Nil (kidSF p xs xb i) (kidBF p xs xb i) ∨ Points p (kidSF p xs xb i) (kidBF p xs xb i) := (node_ok hT hi).imp id And.left
theorem Ext.pages {p q : PoolD} (h : Ext p q) {xs xb : Int} (hT : TreeR p xs xb) {k : Nat} (hk : k < 64) : pageS q xs xb k = pageS p xs xb k ∧ pageB q xs xb k = pageB p xs xb k := by
  unfold pageS pageB nodeS nodeB
  rw [(h.kid (root_nil_or hT.2) (k / 8)).1, (h.kid (root_nil_or hT.2) (k / 8)).2]
  exact h.kid (nodes_nil_or hT (by omega)) (k % 8)

/-- A pointer to what was free ahead. -/
def Fresh (p : PoolD) (x : Int) : Prop := Free (p.s x.toNat)
/-- What TreeWrite or TreeTrim leaves: the page, the node over it and the root, new ones or none. -/
structure New (p : PoolD) (xs xb : Int) (n : Nat) (b : Int) (q : PoolD) (ys yb ms mb gs gb : Int) : Prop where
  ext : Ext p q
  right : Right q
  page : Nil gs gb ∨ (PageAt q gs gb ∧ Fresh p gs)
  node : (Nil ms mb ∧ AllNil (kidX p xs xb n 1 gs) (kidY p xs xb n 1 gb)) ∨ (NodeAt q ms mb ∧ Fresh p ms ∧ q.s ms.toNat = slotK (kidX p xs xb n 1 gs) (kidY p xs xb n 1 gb) b ∧ ¬ AllNil (kidX p xs xb n 1 gs) (kidY p xs xb n 1 gb))
  root : (Nil ys yb ∧ AllNil (kidX p xs xb n 0 ms) (kidY p xs xb n 0 mb)) ∨ (NodeAt q ys yb ∧ Fresh p ys ∧ q.s ys.toNat = slotK (kidX p xs xb n 0 ms) (kidY p xs xb n 0 mb) b ∧ ¬ AllNil (kidX p xs xb n 0 ms) (kidY p xs xb n 0 mb))

theorem slotK_kid (f g : Nat → Int) (b : Int) {i : Nat} (hi : i < 8) : kidS (slotK f g b) i = f i ∧ kidB (slotK f g b) i = g i := ⟨kidS_at rfl hi, kidB_at rfl hi⟩
/-- The new root's nodes; the new node's pages. -/
theorem New.nodes {p q : PoolD} {xs xb b ys yb ms mb gs gb : Int} {n : Nat} (h : New p xs xb n b q ys yb ms mb gs gb) {i : Nat} (hi : i < 8) : kidSF q ys yb i = kidX p xs xb n 0 ms i ∧ kidBF q ys yb i = kidY p xs xb n 0 mb i := by
  unfold kidSF kidBF
  rcases h.root with ⟨h1, h2⟩ | ⟨h1, h2, h3, h4⟩
  · simp only [if_pos h1]
    exact ⟨(h2 i hi).1.symm, (h2 i hi).2.symm⟩
  · simp only [if_neg (node_not_nil h1)]
    rw [h3]
    exact slotK_kid _ _ _ hi
theorem New.lows {p q : PoolD} {xs xb b ys yb ms mb gs gb : Int} {n : Nat} (h : New p xs xb n b q ys yb ms mb gs gb) {i : Nat} (hi : i < 8) : kidSF q ms mb i = kidX p xs xb n 1 gs i ∧ kidBF q ms mb i = kidY p xs xb n 1 gb i := by
  unfold kidSF kidBF
  rcases h.node with ⟨h1, h2⟩ | ⟨h1, h2, h3, h4⟩
  · simp only [if_pos h1]
    exact ⟨(h2 i hi).1.symm, (h2 i hi).2.symm⟩
  · simp only [if_neg (node_not_nil h1)]
    rw [h3]
    exact slotK_kid _ _ _ hi
theorem kidX_top {p : PoolD} {xs xb x : Int} {n i : Nat} (hi : i ≠ n / 8) : kidX p xs xb n 0 x i = kidSF p xs xb i ∧ kidY p xs xb n 0 x i = kidBF p xs xb i := ⟨if_neg hi, if_neg hi⟩
theorem kidX_low {p : PoolD} {xs xb x : Int} {n i : Nat} (hi : i ≠ n % 8) : kidX p xs xb n 1 x i = kidSF p (nodeS p xs xb n) (nodeB p xs xb n) i ∧ kidY p xs xb n 1 x i = kidBF p (nodeS p xs xb n) (nodeB p xs xb n) i := ⟨if_neg hi, if_neg hi⟩
/-- The new tree's pages: one is new, all others are the elder ones. -/
theorem New.pages {p q : PoolD} {xs xb b ys yb ms mb gs gb : Int} {n : Nat} (h : New p xs xb n b q ys yb ms mb gs gb) (hT : TreeR p xs xb) {k : Nat} (hk : k < 64) : pageS q ys yb k = (if k = n then gs else pageS p xs xb k) ∧ pageB q ys yb k = (if k = n then gb else pageB p xs xb k) := by
  obtain ⟨n1, n2⟩ := h.nodes (i := k / 8) (by omega)
  unfold pageS pageB
  rw [show nodeS q ys yb k = kidX p xs xb n 0 ms (k / 8) from n1, show nodeB q ys yb k = kidY p xs xb n 0 mb (k / 8) from n2]
  by_cases e : k / 8 = n / 8
  · rw [show kidX p xs xb n 0 ms (k / 8) = ms from if_pos e, show kidY p xs xb n 0 mb (k / 8) = mb from if_pos e]
    obtain ⟨l1, l2⟩ := h.lows (i := k % 8) (by omega)
    rw [l1, l2]
    by_cases e2 : k % 8 = n % 8
    · have ek : k = n := by omega
      rw [if_pos ek, if_pos ek]
      exact ⟨if_pos e2, if_pos e2⟩
    · have ek : k ≠ n := fun h => e2 (by rw [h])
      rw [if_neg ek, if_neg ek, (kidX_low e2).1, (kidX_low e2).2]
      unfold nodeS nodeB
      rw [e]
      exact ⟨rfl, rfl⟩
  · have ek : k ≠ n := fun h => e (by rw [h])
    rw [if_neg ek, if_neg ek, (kidX_top e).1, (kidX_top e).2]
    exact h.ext.kid (nodes_nil_or hT (by omega)) (k % 8)

/-- What is in a right tree: by its place. -/
theorem mem_tree {p : PoolD} {xs xb : Int} (hT : TreeR p xs xb) {z : Int × Int} : z ∈ treeL p xs xb ↔ (z = (xs, xb) ∧ ¬ Nil xs xb) ∨ (∃ i, i < 8 ∧ z = (kidSF p xs xb i, kidBF p xs xb i) ∧ ¬ Nil (kidSF p xs xb i) (kidBF p xs xb i)) ∨ ∃ k, k < 64 ∧ z = (pageS p xs xb k, pageB p xs xb k) ∧ ¬ Nil (pageS p xs xb k) (pageB p xs xb k) := by
  by_cases hz : Nil xs xb
  · have e0 : ∀ i, kidSF p xs xb i = 0 ∧ kidBF p xs xb i = 0 := fun i => ⟨if_pos hz, if_pos hz⟩
    have e1 : ∀ k, Nil (pageS p xs xb k) (pageB p xs xb k) := fun k => by
      have hn : Nil (nodeS p xs xb k) (nodeB p xs xb k) := e0 (k / 8)
      exact ⟨if_pos hn, if_pos hn⟩
    unfold treeL
    rw [if_pos hz]
    constructor
    · intro h; simp at h
    · rintro (⟨_, h⟩ | ⟨i, _, _, h⟩ | ⟨k, _, _, h⟩)
      · exact absurd hz h
      · exact absurd (e0 i) h
      · exact absurd (e1 k) h
  · have e0 : ∀ i, kidSF p xs xb i = kidS (p.s xs.toNat) i ∧ kidBF p xs xb i = kidB (p.s xs.toNat) i := fun i => ⟨if_neg hz, if_neg hz⟩
    unfold treeL
    rw [if_neg hz, List.mem_cons, mem_subUp]
    constructor
    · rintro (h | ⟨i, hi, h⟩)
      · exact Or.inl ⟨h, hz⟩
      · obtain ⟨hn, h⟩ := mem_midL.1 h
        rw [← (e0 i).1, ← (e0 i).2] at hn
        rcases h with h | h
        · exact Or.inr (Or.inl ⟨i, hi, by rw [(e0 i).1, (e0 i).2]; exact h, hn⟩)
        · obtain ⟨a, ha, h, na⟩ := mem_kidsUp.1 h
          have q1 : (i * 8 + a) / 8 = i := by omega
          have q2 : (i * 8 + a) % 8 = a := by omega
          have e1 : pageS p xs xb (i * 8 + a) = kidS (p.s (kidS (p.s xs.toNat) i).toNat) a := by
            unfold pageS nodeS nodeB
            rw [q1, q2]
            unfold kidSF at hn ⊢
            rw [if_neg hz] at hn ⊢
            rw [if_neg hn]
          have e2 : pageB p xs xb (i * 8 + a) = kidB (p.s (kidS (p.s xs.toNat) i).toNat) a := by
            have hn' := hn
            rw [(e0 i).1, (e0 i).2] at hn'
            unfold pageB nodeS nodeB
            rw [q1, q2, (e0 i).1, (e0 i).2]
            exact if_neg hn'
          exact Or.inr (Or.inr ⟨i * 8 + a, by omega, by rw [e1, e2]; exact h, by rw [e1, e2]; exact na⟩)
    · rintro (⟨h, _⟩ | ⟨i, hi, h, hn⟩ | ⟨k, hk, h, hn⟩)
      · exact Or.inl h
      · rw [(e0 i).1, (e0 i).2] at h hn
        exact Or.inr ⟨i, hi, mem_midL.2 ⟨hn, Or.inl h⟩⟩
      · have hnn : ¬ Nil (nodeS p xs xb k) (nodeB p xs xb k) := fun hx => hn ⟨if_pos hx, if_pos hx⟩
        have e1 : pageS p xs xb k = kidS (p.s (nodeS p xs xb k).toNat) (k % 8) := if_neg hnn
        have e2 : pageB p xs xb k = kidB (p.s (nodeS p xs xb k).toNat) (k % 8) := if_neg hnn
        rw [e1, e2] at h hn
        have e3 : nodeS p xs xb k = kidS (p.s xs.toNat) (k / 8) := (e0 (k / 8)).1
        have e4 : nodeB p xs xb k = kidB (p.s xs.toNat) (k / 8) := (e0 (k / 8)).2
        rw [e3] at h hn
        rw [e3, e4] at hnn
        exact Or.inr ⟨k / 8, by omega, mem_midL.2 ⟨hnn, Or.inr (mem_kidsUp.2 ⟨k % 8, by omega, h, hn⟩)⟩⟩

end Go.Proofs.Ytikhipekmlhibaa

namespace Go.Proofs.Ytikhipekmlhibaa
open Go Go.RowKit
set_option linter.unusedVariables false

theorem kid_idx {p : PoolD} {xs xb : Int} (hz : ¬ Nil xs xb) (i : Nat) : kidSF p xs xb i = kidS (p.s xs.toNat) i ∧ kidBF p xs xb i = kidB (p.s xs.toNat) i := ⟨if_neg hz, if_neg hz⟩
theorem page_idx {p : PoolD} {xs xb : Int} (hz : ¬ Nil xs xb) {i a : Nat} (ha : a < 8) (hn : ¬ Nil (kidS (p.s xs.toNat) i) (kidB (p.s xs.toNat) i)) : pageS p xs xb (i * 8 + a) = kidS (p.s (kidS (p.s xs.toNat) i).toNat) a ∧ pageB p xs xb (i * 8 + a) = kidB (p.s (kidS (p.s xs.toNat) i).toNat) a := by
  have q1 : (i * 8 + a) / 8 = i := by omega
  have q2 : (i * 8 + a) % 8 = a := by omega
  unfold pageS pageB nodeS nodeB
  rw [q1, q2, (kid_idx hz i).1, (kid_idx hz i).2]
  exact ⟨if_neg hn, if_neg hn⟩
/-- No two nodes, no two pages are one. -/
def NodesInj (p : PoolD) (xs xb : Int) : Prop := ∀ i, i < 8 → ∀ j, j < 8 → ¬ Nil (kidSF p xs xb i) (kidBF p xs xb i) → ¬ Nil (kidSF p xs xb j) (kidBF p xs xb j) → kidSF p xs xb j = kidSF p xs xb i → j = i
def PagesInj (p : PoolD) (xs xb : Int) : Prop := ∀ k, k < 64 → ∀ l, l < 64 → ¬ Nil (pageS p xs xb k) (pageB p xs xb k) → ¬ Nil (pageS p xs xb l) (pageB p xs xb l) → pageS p xs xb l = pageS p xs xb k → l = k
theorem page_has_node {p : PoolD} {xs xb : Int} {k : Nat} (h : ¬ Nil (pageS p xs xb k) (pageB p xs xb k)) : ¬ Nil (nodeS p xs xb k) (nodeB p xs xb k) := fun hx => h ⟨if_pos hx, if_pos hx⟩
theorem node_has_root {p : PoolD} {xs xb : Int} {i : Nat} (h : ¬ Nil (kidSF p xs xb i) (kidBF p xs xb i)) : ¬ Nil xs xb := fun hx => h ⟨if_pos hx, if_pos hx⟩
theorem apos_inj {p : PoolD} {xs xb : Int} (hz : ¬ Nil xs xb) (h : Apos p (p.s xs.toNat)) : NodesInj p xs xb ∧ PagesInj p xs xb := by
  refine ⟨fun i hi j hj ni nj e => ?_, fun k hk l hl nk nl e => ?_⟩
  · rw [(kid_idx hz i).1, (kid_idx hz i).2] at ni
    rw [(kid_idx hz j).1, (kid_idx hz j).2] at nj
    rw [(kid_idx hz i).1, (kid_idx hz j).1] at e
    exact h.1 i hi j hj ni nj e
  · have mk := page_has_node nk
    have ml := page_has_node nl
    rw [show nodeS p xs xb k = kidS (p.s xs.toNat) (k / 8) from (kid_idx hz _).1, show nodeB p xs xb k = kidB (p.s xs.toNat) (k / 8) from (kid_idx hz _).2] at mk
    rw [show nodeS p xs xb l = kidS (p.s xs.toNat) (l / 8) from (kid_idx hz _).1, show nodeB p xs xb l = kidB (p.s xs.toNat) (l / 8) from (kid_idx hz _).2] at ml
    have ek := page_idx hz (a := k % 8) (by omega) mk
    have el := page_idx hz (a := l % 8) (by omega) ml
    rw [show k / 8 * 8 + k % 8 = k by omega] at ek
    rw [show l / 8 * 8 + l % 8 = l by omega] at el
    rw [ek.1, ek.2] at nk
    rw [el.1, el.2] at nl
    rw [ek.1, el.1] at e
    have := h.2 (k / 8) (by omega) (l / 8) (by omega) (k % 8) (by omega) (l % 8) (by omega) mk ml nk nl e
    omega
theorem inj_apos {p : PoolD} {xs xb : Int} (hz : ¬ Nil xs xb) (h1 : NodesInj p xs xb) (h2 : PagesInj p xs xb) : Apos p (p.s xs.toNat) := by
  refine ⟨fun i hi j hj ni nj e => ?_, fun i hi j hj a ha c hc ni nj na nc e => ?_⟩
  · rw [← (kid_idx hz i).1, ← (kid_idx hz i).2] at ni
    rw [← (kid_idx hz j).1, ← (kid_idx hz j).2] at nj
    rw [← (kid_idx hz i).1, ← (kid_idx hz j).1] at e
    exact h1 i hi j hj ni nj e
  · have ea := page_idx hz ha ni
    have ec := page_idx hz hc nj
    rw [← ea.1, ← ea.2] at na
    rw [← ec.1, ← ec.2] at nc
    rw [← ea.1, ← ec.1] at e
    have := h2 (i * 8 + a) (by omega) (j * 8 + c) (by omega) na nc e
    omega
theorem tree_inj {p : PoolD} {xs xb : Int} (hT : TreeR p xs xb) : NodesInj p xs xb ∧ PagesInj p xs xb := by
  by_cases hz : Nil xs xb
  · exact ⟨fun i hi j hj ni => absurd hz (node_has_root ni), fun k hk l hl nk => absurd hz (node_has_root (page_has_node nk))⟩
  · obtain ⟨h1, h2, h3⟩ := hT.2.resolve_left hz
    exact apos_inj hz ((tree_nodup h1 h2).1 h3)
theorem node_at {p : PoolD} {xs xb : Int} (hT : TreeR p xs xb) {i : Nat} (hi : i < 8) (h : ¬ Nil (kidSF p xs xb i) (kidBF p xs xb i)) : NodeAt p (kidSF p xs xb i) (kidBF p xs xb i) ∧ LowOk p (p.s (kidSF p xs xb i).toNat) := by
  have hz := node_has_root h
  obtain ⟨h1, h2, h3⟩ := hT.2.resolve_left hz
  rw [(kid_idx hz i).1, (kid_idx hz i).2] at h ⊢
  exact (h2.1 i hi).resolve_left h
theorem root_at {p : PoolD} {xs xb : Int} (hT : TreeR p xs xb) (h : ¬ Nil xs xb) : NodeAt p xs xb := (hT.2.resolve_left h).1
theorem root_no_node {p : PoolD} {xs xb : Int} (hT : TreeR p xs xb) {i : Nat} (hi : i < 8) (h : ¬ Nil (kidSF p xs xb i) (kidBF p xs xb i)) : kidSF p xs xb i ≠ xs := by
  have hz := node_has_root h
  obtain ⟨h1, h2, h3⟩ := hT.2.resolve_left hz
  rw [(kid_idx hz i).1] at h ⊢
  rw [(kid_idx hz i).2] at h
  exact root_node h2 hi h
theorem fresh_ne {p : PoolD} {x y yb : Int} (h : Fresh p x) (h' : Points p y yb) : x ≠ y := fun e => points_not_free h' (e ▸ h)
theorem Ext.free {p q : PoolD} (h : Ext p q) {j : Nat} (hf : Free (q.s j)) : Free (p.s j) := Classical.byContradiction fun hn => hn (by rw [h.s j hn] at hf; exact hf)
theorem not_all {f g : Nat → Int} (h : ¬ AllNil f g) : ∃ i, i < 8 ∧ ¬ Nil (f i) (g i) := some_ex h
where
  some_ex {f g : Nat → Int} (h : ¬ AllNil f g) : ∃ i, i < 8 ∧ ¬ Nil (f i) (g i) := Classical.byContradiction fun hx => h fun i hi => Classical.byContradiction fun hn => hx ⟨i, hi, hn⟩

/-- The new tree is right. -/
theorem New.ok {p q : PoolD} {xs xb b ys yb ms mb gs gb : Int} {n : Nat} (h : New p xs xb n b q ys yb ms mb gs gb) (hT : TreeR p xs xb) (hn : n < 64) : TreeR q ys yb := by
  refine ⟨h.right, ?_⟩
  rcases id h.root with ⟨h1, _⟩ | ⟨r1, r2, r3, r4⟩
  · exact Or.inl h1
  · right
    have hz := node_not_nil r1
    have fm : ¬ Nil ms mb → NodeAt q ms mb ∧ Fresh p ms ∧ q.s ms.toNat = slotK (kidX p xs xb n 1 gs) (kidY p xs xb n 1 gb) b ∧ ¬ AllNil (kidX p xs xb n 1 gs) (kidY p xs xb n 1 gb) := fun hm => h.node.resolve_left (fun hx => hm hx.1)
    have fg : ¬ Nil gs gb → PageAt q gs gb ∧ Fresh p gs := fun hg => h.page.resolve_left hg
    have top : TopOk q (q.s ys.toNat) := by
      refine ⟨fun i hi => ?_, ?_⟩
      · rw [r3]
        unfold MidOk
        rw [(slotK_kid (kidX p xs xb n 0 ms) (kidY p xs xb n 0 mb) b hi).1, (slotK_kid (kidX p xs xb n 0 ms) (kidY p xs xb n 0 mb) b hi).2]
        by_cases e : i = n / 8
        · rw [show kidX p xs xb n 0 ms i = ms from if_pos e, show kidY p xs xb n 0 mb i = mb from if_pos e]
          by_cases hm : Nil ms mb
          · exact Or.inl hm
          · obtain ⟨m1, m2, m3, m4⟩ := fm hm
            refine Or.inr ⟨m1, ?_⟩
            rw [m3]
            refine ⟨fun a ha => ?_, ?_⟩
            · rw [(slotK_kid (kidX p xs xb n 1 gs) (kidY p xs xb n 1 gb) b ha).1, (slotK_kid (kidX p xs xb n 1 gs) (kidY p xs xb n 1 gb) b ha).2]
              by_cases ea : a = n % 8
              · rw [show kidX p xs xb n 1 gs a = gs from if_pos ea, show kidY p xs xb n 1 gb a = gb from if_pos ea]
                exact h.page.imp id And.left
              · rw [(kidX_low ea).1, (kidX_low ea).2]
                have hp := page_ok hT (n := n / 8 * 8 + a) (by omega)
                have e1 : pageS p xs xb (n / 8 * 8 + a) = kidSF p (nodeS p xs xb n) (nodeB p xs xb n) a := by
                  unfold pageS nodeS nodeB
                  rw [show (n / 8 * 8 + a) / 8 = n / 8 by omega, show (n / 8 * 8 + a) % 8 = a by omega]
                have e2 : pageB p xs xb (n / 8 * 8 + a) = kidBF p (nodeS p xs xb n) (nodeB p xs xb n) a := by
                  unfold pageB nodeS nodeB
                  rw [show (n / 8 * 8 + a) / 8 = n / 8 by omega, show (n / 8 * 8 + a) % 8 = a by omega]
                rw [e1, e2] at hp
                exact hp.imp id h.ext.page
            · obtain ⟨a, ha, na⟩ := not_all m4
              exact ⟨a, ha, by rw [(slotK_kid _ _ b ha).1, (slotK_kid _ _ b ha).2]; exact na⟩
        · rw [(kidX_top e).1, (kidX_top e).2]
          by_cases hk : Nil (kidSF p xs xb i) (kidBF p xs xb i)
          · exact Or.inl hk
          · obtain ⟨k1, k2⟩ := node_at hT hi hk
            exact Or.inr ⟨h.ext.node k1, by rw [h.ext.at k1.1]; exact h.ext.low k2⟩
      · obtain ⟨a, ha, na⟩ := not_all r4
        exact ⟨a, ha, by rw [r3, (slotK_kid _ _ b ha).1, (slotK_kid _ _ b ha).2]; exact na⟩
    refine ⟨r1, top, (tree_nodup r1 top).2 (inj_apos hz ?_ ?_)⟩
    · intro i hi j hj ni nj e
      rw [(h.nodes hi).1, (h.nodes hi).2] at ni
      rw [(h.nodes hj).1, (h.nodes hj).2] at nj
      rw [(h.nodes hi).1, (h.nodes hj).1] at e
      by_cases ei : i = n / 8
      · by_cases ej : j = n / 8
        · omega
        · rw [show kidX p xs xb n 0 ms i = ms from if_pos ei] at ni e
          rw [show kidY p xs xb n 0 mb i = mb from if_pos ei] at ni
          rw [(kidX_top ej).1] at nj e
          rw [(kidX_top ej).2] at nj
          exact absurd e.symm (fresh_ne (fm ni).2.1 (node_at hT hj nj).1.1)
      · rw [(kidX_top ei).1] at ni e
        rw [(kidX_top ei).2] at ni
        by_cases ej : j = n / 8
        · rw [show kidX p xs xb n 0 ms j = ms from if_pos ej] at nj e
          rw [show kidY p xs xb n 0 mb j = mb from if_pos ej] at nj
          exact absurd e (fresh_ne (fm nj).2.1 (node_at hT hi ni).1.1)
        · rw [(kidX_top ej).1] at nj e
          rw [(kidX_top ej).2] at nj
          exact (tree_inj hT).1 i hi j hj ni nj e
    · intro k hk l hl nk nl e
      rw [(h.pages hT hk).1, (h.pages hT hk).2] at nk
      rw [(h.pages hT hl).1, (h.pages hT hl).2] at nl
      rw [(h.pages hT hk).1, (h.pages hT hl).1] at e
      by_cases ek : k = n
      · by_cases el : l = n
        · omega
        · rw [if_pos ek] at nk e
          rw [if_pos ek] at nk
          rw [if_neg el] at nl e
          rw [if_neg el] at nl
          exact absurd e.symm (fresh_ne (fg nk).2 ((page_ok hT hl).resolve_left nl).1)
      · rw [if_neg ek] at nk e
        rw [if_neg ek] at nk
        by_cases el : l = n
        · rw [if_pos el] at nl e
          rw [if_pos el] at nl
          exact absurd e (fresh_ne (fg nl).2 ((page_ok hT hk).resolve_left nk).1)
        · rw [if_neg el] at nl e
          rw [if_neg el] at nl
          exact (tree_inj hT).2 k hk l hl nk nl e

/-- The three that were met. -/
theorem mem_old {p : PoolD} {xs xb : Int} {n : Nat} {z : Int × Int} : z ∈ oldW p xs xb n 3 ↔ (z = (pageS p xs xb n, pageB p xs xb n) ∧ ¬ Nil (pageS p xs xb n) (pageB p xs xb n)) ∨ (z = (nodeS p xs xb n, nodeB p xs xb n) ∧ ¬ Nil (nodeS p xs xb n) (nodeB p xs xb n)) ∨ (z = (xs, xb) ∧ ¬ Nil xs xb) := by
  unfold oldW
  rw [mem_kidsUp]
  constructor
  · rintro ⟨i, hi, h⟩
    rcases i with _ | _ | _ | i
    · exact Or.inl h
    · exact Or.inr (Or.inl h)
    · exact Or.inr (Or.inr h)
    · omega
  · rintro (h | h | h)
    · exact ⟨0, by omega, h⟩
    · exact ⟨1, by omega, h⟩
    · exact ⟨2, by omega, h⟩
theorem old_in {p : PoolD} {xs xb : Int} {n : Nat} (hT : TreeR p xs xb) (hn : n < 64) {z : Int × Int} (h : z ∈ oldW p xs xb n 3) : z ∈ treeL p xs xb := by
  rw [mem_tree hT]
  rcases mem_old.1 h with h | h | h
  · exact Or.inr (Or.inr ⟨n, hn, h⟩)
  · exact Or.inr (Or.inl ⟨n / 8, by omega, h⟩)
  · exact Or.inl h
theorem tree_pt {p : PoolD} {xs xb : Int} (hT : TreeR p xs xb) {z : Int × Int} (h : z ∈ treeL p xs xb) : Points p z.1 z.2 := by
  by_cases hz : Nil xs xb
  · unfold treeL at h
    rw [if_pos hz] at h
    simp at h
  · exact (tree_points hT.1 (root_at hT hz).1 z h).1
/-- What is told to be old is in the tree no more, and all else of it is. -/
theorem New.gone {p q : PoolD} {xs xb b ys yb ms mb gs gb : Int} {n : Nat} (h : New p xs xb n b q ys yb ms mb gs gb) (hT : TreeR p xs xb) (hn : n < 64) {z : Int × Int} (hz : z ∈ treeL p xs xb) : z ∉ treeL q ys yb ↔ z ∈ oldW p xs xb n 3 := by
  have hq := h.ok hT hn
  have hpt := tree_pt hT hz
  constructor
  · intro hx
    rcases (mem_tree hT).1 hz with h1 | ⟨i, hi, h1, h2⟩ | ⟨k, hk, h1, h2⟩
    · exact mem_old.2 (Or.inr (Or.inr h1))
    · by_cases e : i = n / 8
      · subst e
        exact mem_old.2 (Or.inr (Or.inl ⟨h1, h2⟩))
      · refine absurd ((mem_tree hq).2 (Or.inr (Or.inl ⟨i, hi, ?_, ?_⟩))) hx
        · rw [(h.nodes hi).1, (h.nodes hi).2, (kidX_top e).1, (kidX_top e).2]; exact h1
        · rw [(h.nodes hi).1, (h.nodes hi).2, (kidX_top e).1, (kidX_top e).2]; exact h2
    · by_cases e : k = n
      · subst e
        exact mem_old.2 (Or.inl ⟨h1, h2⟩)
      · refine absurd ((mem_tree hq).2 (Or.inr (Or.inr ⟨k, hk, ?_, ?_⟩))) hx
        · rw [(h.pages hT hk).1, (h.pages hT hk).2, if_neg e, if_neg e]; exact h1
        · rw [(h.pages hT hk).1, (h.pages hT hk).2, if_neg e, if_neg e]; exact h2
  · intro ho hx
    have fm : ¬ Nil ms mb → Fresh p ms := fun hm => (h.node.resolve_left (fun hx => hm hx.1)).2.1
    have fg : ¬ Nil gs gb → Fresh p gs := fun hg => (h.page.resolve_left hg).2
    rcases (mem_tree hq).1 hx with ⟨h1, h2⟩ | ⟨i, hi, h1, h2⟩ | ⟨k, hk, h1, h2⟩
    · have hr := h.root.resolve_left (fun hh => h2 hh.1)
      exact fresh_ne hr.2.1 hpt (by rw [h1])
    · rw [(h.nodes hi).1, (h.nodes hi).2] at h1 h2
      by_cases e : i = n / 8
      · rw [show kidX p xs xb n 0 ms i = ms from if_pos e, show kidY p xs xb n 0 mb i = mb from if_pos e] at h1 h2
        exact fresh_ne (fm h2) hpt (by rw [h1])
      · rw [(kidX_top e).1, (kidX_top e).2] at h1 h2
        rcases mem_old.1 ho with ⟨o1, o2⟩ | ⟨o1, o2⟩ | ⟨o1, o2⟩
        · rw [h1] at o1
          simp only [Prod.mk.injEq] at o1
          exact node_page (node_at hT hi h2).1 ((page_ok hT hn).resolve_left o2) o1.1
        · rw [h1] at o1
          simp only [Prod.mk.injEq] at o1
          exact e ((tree_inj hT).1 (n / 8) (by omega) i hi o2 h2 o1.1)
        · rw [h1] at o1
          simp only [Prod.mk.injEq] at o1
          exact root_no_node hT hi h2 o1.1
    · rw [(h.pages hT hk).1, (h.pages hT hk).2] at h1 h2
      by_cases e : k = n
      · rw [if_pos e, if_pos e] at h1 h2
        exact fresh_ne (fg h2) hpt (by rw [h1])
      · rw [if_neg e, if_neg e] at h1 h2
        have hpg := (page_ok hT hk).resolve_left h2
        rcases mem_old.1 ho with ⟨o1, o2⟩ | ⟨o1, o2⟩ | ⟨o1, o2⟩
        · rw [h1] at o1
          simp only [Prod.mk.injEq] at o1
          exact e ((tree_inj hT).2 n hn k hk o2 h2 o1.1)
        · rw [h1] at o1
          simp only [Prod.mk.injEq] at o1
          exact node_page (node_at hT (i := n / 8) (by omega) o2).1 hpg o1.1.symm
        · rw [h1] at o1
          simp only [Prod.mk.injEq] at o1
          exact node_page (root_at hT o2) hpg o1.1.symm
theorem nodup_of_slots {l : List (Int × Int)} (h : (slotsL l).Nodup) : l.Nodup := by
  unfold slotsL List.Nodup at *
  rw [List.pairwise_map] at h
  exact h.imp (fun hne e => hne (by rw [e]))
theorem old_nodup {p : PoolD} {xs xb : Int} {n : Nat} (hT : TreeR p xs xb) (hn : n < 64) : (oldW p xs xb n 3).Nodup := by
  apply nodup_of_slots
  unfold oldW
  rw [kidsUp_nodup]
  intro i hi j hj ni nj
  rcases i with _ | _ | _ | i
  · omega
  · obtain rfl : j = 0 := by omega
    exact fun e => node_page (node_at hT (i := n / 8) (by omega) ni).1 ((page_ok hT hn).resolve_left nj) e.symm
  · rcases j with _ | _ | j
    · exact fun e => node_page (root_at hT ni) ((page_ok hT hn).resolve_left nj) e.symm
    · exact root_no_node hT (i := n / 8) (by omega) nj
    · omega
  · omega
theorem tree_nodup' {p : PoolD} {xs xb : Int} (hT : TreeR p xs xb) : (treeL p xs xb).Nodup := by
  by_cases hz : Nil xs xb
  · unfold treeL
    rw [if_pos hz]
    simp
  · exact nodup_of_slots (hT.2.resolve_left hz).2.2
theorem sub_len {α : Type} [DecidableEq α] : ∀ {l m : List α}, l.Nodup → (∀ x, x ∈ l → x ∈ m) → l.length ≤ m.length
  | [], m, _, _ => Nat.zero_le _
  | x :: l, m, hl, hs => by
    have hx : x ∈ m := hs x (by simp)
    obtain ⟨h1, h2⟩ := List.nodup_cons.1 hl
    have ih := sub_len (l := l) (m := m.erase x) h2 (fun y hy => by
      have hne : y ≠ x := fun e => h1 (e ▸ hy)
      exact (List.mem_erase_of_ne hne).2 (hs y (by simp [hy])))
    have := List.length_erase_of_mem hx
    have hpos : 0 < m.length := List.length_pos_of_mem hx
    show l.length + 1 ≤ m.length
    omega
/-- So many are gone as are told to be old. -/
theorem New.count {p q : PoolD} {xs xb b ys yb ms mb gs gb : Int} {n : Nat} (h : New p xs xb n b q ys yb ms mb gs gb) (hT : TreeR p xs xb) (hn : n < 64) : ((treeL p xs xb).filter (fun z => decide (z ∉ treeL q ys yb))).length = (oldW p xs xb n 3).length := by
  apply Nat.le_antisymm
  · refine sub_len ((tree_nodup' hT).filter _) (fun x hx => ?_)
    obtain ⟨h1, h2⟩ := List.mem_filter.1 hx
    exact (h.gone hT hn h1).1 (of_decide_eq_true h2)
  · refine sub_len (old_nodup hT hn) (fun x hx => ?_)
    exact List.mem_filter.2 ⟨old_in hT hn hx, decide_eq_true ((h.gone hT hn (old_in hT hn hx)).2 hx)⟩

end Go.Proofs.Ytikhipekmlhibaa

namespace Go.Proofs.Ytikhipekmlhibaa
open Go Go.RowKit
set_option linter.unusedVariables false

theorem first_not_held {p : PoolD} (hR : Right p) {i : Nat} (h : First p.n p.s i) : ¬ Has p.hn p.h (i : Int) := by
  rintro ⟨j, hj, e⟩
  have h3 := (hR.2.2 j hj).2.2.1
  rw [e, Int.toNat_natCast] at h3
  exact h3 h.2.1
theorem take_page {p : PoolD} {i : Nat} {s : SlotD} (hR : Right p) (h : First p.n p.s i) (hs : Fits p s) (hk : s.kn = 0) : PageAt (setS p i s) (i : Int) s.birth :=
  ⟨new_points h hs.1.1, by rw [Int.toNat_natCast, set_here]; exact hk, first_not_held hR h⟩
theorem take_node {p : PoolD} {i : Nat} {s : SlotD} (hR : Right p) (h : First p.n p.s i) (hs : Fits p s) (hk : 0 < s.kn) : NodeAt (setS p i s) (i : Int) s.birth :=
  ⟨new_points h hs.1.1, by rw [Int.toNat_natCast, set_here]; exact hk, first_not_held hR h⟩
theorem fresh_of {p q : PoolD} (h : Ext p q) {i : Nat} (hi : First q.n q.s i) : Fresh p (i : Int) := by
  unfold Fresh
  rw [Int.toNat_natCast]
  exact h.free hi.2.1

theorem new_write {p : PoolD} {xs xb b : Int} {n : Nat} {d : ByteArray} {i0 i1 i2 : Nat} (hT : TreeR p xs xb) (hn : n < 64) (hB : BornOk xb b) (hd : d.size = 16) (h0 : First p.n p.s i0) (h1 : First p.n (page1 p b d i0).s i1) (h2 : First p.n (node2 p xs xb n b d i0 i1).s i2) :
    New p xs xb n b (root3 p xs xb n b d i0 i1 i2) (i2 : Int) b (i1 : Int) b (i0 : Int) b := by
  have e1 : Ext p (page1 p b d i0) := Ext.set h0.2.1 _
  have e2 : Ext (page1 p b d i0) (node2 p xs xb n b d i0 i1) := Ext.set h1.2.1 _
  have e3 : Ext (node2 p xs xb n b d i0 i1) (root3 p xs xb n b d i0 i1 i2) := Ext.set h2.2.1 _
  have r1 := page_right (d := d) hT hB hd h0
  have r2 := node_right (n := n) hT hn hB hd h0 h1
  have f0 : Fits p (slotG b d) := fits_page hB.1 hd
  have f1 := low_fits (n := n) (d := d) hT hn hB h0
  have f2 := top_fits (d := d) hT hn hB h0 h1
  have pg : PageAt (page1 p b d i0) (i0 : Int) b := take_page hT.1 h0 f0 rfl
  have nd : NodeAt (node2 p xs xb n b d i0 i1) (i1 : Int) b := take_node (p := page1 p b d i0) r1 h1 f1 (by show 0 < 8; omega)
  have rt : NodeAt (root3 p xs xb n b d i0 i1 i2) (i2 : Int) b := take_node (p := node2 p xs xb n b d i0 i1) r2 h2 f2 (by show 0 < 8; omega)
  have ns : (node2 p xs xb n b d i0 i1).s (i1 : Int).toNat = slotK (kidX p xs xb n 1 (i0 : Int)) (kidY p xs xb n 1 b) b := by rw [Int.toNat_natCast]; exact set_here _ _ _
  refine ⟨(e1.trans e2).trans e3, right_set (p := node2 p xs xb n b d i0 i1) r2 h2 f2, Or.inr ⟨e3.page (e2.page pg), fresh_of (Ext.refl p) h0⟩, Or.inr ⟨e3.node nd, fresh_of e1 h1, ?_, not_allNil hn hB.1.1⟩, Or.inr ⟨rt, fresh_of (e1.trans e2) h2, ?_, not_allNil hn hB.1.1⟩⟩
  · rw [e3.at nd.1]; exact ns
  · rw [Int.toNat_natCast]; exact set_here _ _ _
/-- The page that was written. -/
theorem write_page {p : PoolD} {xs xb b : Int} {n : Nat} {d : ByteArray} {i0 i1 i2 : Nat} (hT : TreeR p xs xb) (hn : n < 64) (hB : BornOk xb b) (hd : d.size = 16) (h0 : First p.n p.s i0) (h1 : First p.n (page1 p b d i0).s i1) (h2 : First p.n (node2 p xs xb n b d i0 i1).s i2) :
    ((root3 p xs xb n b d i0 i1 i2).s (i0 : Int).toNat).data = d := by
  have e2 : Ext (page1 p b d i0) (node2 p xs xb n b d i0 i1) := Ext.set h1.2.1 _
  have e3 : Ext (node2 p xs xb n b d i0 i1) (root3 p xs xb n b d i0 i1 i2) := Ext.set h2.2.1 _
  have f0 : Fits p (slotG b d) := fits_page hB.1 hd
  have pg : PageAt (page1 p b d i0) (i0 : Int) b := take_page hT.1 h0 f0 rfl
  rw [(e2.trans e3).at pg.1, Int.toNat_natCast, show (page1 p b d i0).s i0 = slotG b d from set_here _ _ _]
  rfl

theorem new_trim {p q : PoolD} {xs xb x y b : Int} {n : Nat} (hT : TreeR p xs xb) (hn : n < 64) (hB : BornOk xb b)
    (hl : (AllNil (kidX p xs xb n 1 0) (kidY p xs xb n 1 0) ∧ q = p ∧ x = 0 ∧ y = 0) ∨ (¬ AllNil (kidX p xs xb n 1 0) (kidY p xs xb n 1 0) ∧ ∃ i : Nat, First p.n p.s i ∧ q = setS p i (slotK (kidX p xs xb n 1 0) (kidY p xs xb n 1 0) b) ∧ x = (i : Int) ∧ y = b)) :
    (AllNil (kidX p xs xb n 0 x) (kidY p xs xb n 0 y) → New p xs xb n b q 0 0 x y 0 0) ∧
    (¬ AllNil (kidX p xs xb n 0 x) (kidY p xs xb n 0 y) → ∀ i, First q.n q.s i → New p xs xb n b (setS q i (slotK (kidX p xs xb n 0 x) (kidY p xs xb n 0 y) b)) (i : Int) b x y 0 0) := by
  have fl : Fits p (slotK (kidX p xs xb n 1 0) (kidY p xs xb n 1 0) b) := fits_kid hT hn (by omega) hB (fun s t h => h) (Or.inl ⟨rfl, rfl⟩)
  have mid : Ext p q ∧ Right q ∧ ((Nil x y ∧ AllNil (kidX p xs xb n 1 0) (kidY p xs xb n 1 0)) ∨ (NodeAt q x y ∧ Fresh p x ∧ q.s x.toNat = slotK (kidX p xs xb n 1 0) (kidY p xs xb n 1 0) b ∧ ¬ AllNil (kidX p xs xb n 1 0) (kidY p xs xb n 1 0))) ∧ Fits q (slotK (kidX p xs xb n 0 x) (kidY p xs xb n 0 y) b) := by
    rcases hl with ⟨h1, rfl, rfl, rfl⟩ | ⟨h1, i, hi, rfl, rfl, rfl⟩
    · exact ⟨Ext.refl _, hT.1, Or.inl ⟨⟨rfl, rfl⟩, h1⟩, fits_kid hT hn (by omega) hB (fun s t h => h) (Or.inl ⟨rfl, rfl⟩)⟩
    · have e1 : Ext p (setS p i (slotK (kidX p xs xb n 1 0) (kidY p xs xb n 1 0) y)) := Ext.set hi.2.1 _
      have nd := take_node (s := slotK (kidX p xs xb n 1 0) (kidY p xs xb n 1 0) y) hT.1 hi fl (by show 0 < 8; omega)
      refine ⟨e1, right_set hT.1 hi fl, Or.inr ⟨nd, fresh_of (Ext.refl p) hi, ?_, h1⟩, fits_kid hT hn (by omega) hB (fun s t h => e1.points h) (Or.inr ⟨nd.1, Int.le_refl _⟩)⟩
      rw [Int.toNat_natCast]
      exact set_here _ _ _
  obtain ⟨e1, r1, m1, f1⟩ := mid
  refine ⟨fun hA => ⟨e1, r1, Or.inl ⟨rfl, rfl⟩, m1, Or.inl ⟨⟨rfl, rfl⟩, hA⟩⟩, fun hA i hi => ?_⟩
  have e2 : Ext q (setS q i (slotK (kidX p xs xb n 0 x) (kidY p xs xb n 0 y) b)) := Ext.set hi.2.1 _
  have rt := take_node (s := slotK (kidX p xs xb n 0 x) (kidY p xs xb n 0 y) b) r1 hi f1 (by show 0 < 8; omega)
  refine ⟨e1.trans e2, right_set r1 hi f1, Or.inl ⟨rfl, rfl⟩, m1.imp id (fun h => ⟨e2.node h.1, h.2.1, by rw [e2.at h.1.1]; exact h.2.2.1, h.2.2.2⟩), Or.inr ⟨rt, fresh_of e1 hi, ?_, hA⟩⟩
  rw [Int.toNat_natCast]
  exact set_here _ _ _

/-- What an answer with the code 0 is. -/
theorem write_new {p : PoolD} {xs xb page b : Int} {d : ByteArray} (hc : (writeT p xs xb page d b).code = 0) :
    TreeR p xs xb ∧ ∃ n : Nat, n < 64 ∧ page = (n : Int) ∧ d.size = 16 ∧ (writeT p xs xb page d b).old = oldW p xs xb n 3 ∧ ∃ ms mb gs gb, New p xs xb n b (writeT p xs xb page d b).pool (writeT p xs xb page d b).rs (writeT p xs xb page d b).rb ms mb gs gb ∧ ¬ Nil gs gb ∧ ((writeT p xs xb page d b).pool.s gs.toNat).data = d := by
  by_cases h0 : 8000 < d.size
  · rw [write_size h0] at hc; exact absurd hc (by decide)
  by_cases h1 : TreeR p xs xb ∧ BornOk xb b
  · by_cases h2 : PageNo page ∧ d.size = 16
    · obtain ⟨n, rfl⟩ := Int.eq_ofNat_of_zero_le h2.1.1
      have hn : n < 64 := by have := h2.1.2; omega
      by_cases hr : roomN p.s p.n < 3
      · rw [write_full h1.1 hn h1.2 h2.2 hr] at hc; exact absurd hc (by decide)
      · obtain ⟨i0, q0⟩ := room_first (f := p.s) (n := p.n) (by omega)
        have l0 : roomN (page1 p b d i0).s p.n + 1 = roomN p.s p.n := room_less (s := slotG b d) q0 (fits_page h1.2.1 h2.2)
        obtain ⟨i1, q1⟩ := room_first (f := (page1 p b d i0).s) (n := p.n) (by omega)
        have l1 : roomN (node2 p xs xb n b d i0 i1).s p.n + 1 = roomN (page1 p b d i0).s p.n := room_less (p := page1 p b d i0) q1 (low_fits h1.1 hn h1.2 q0)
        obtain ⟨i2, q2⟩ := room_first (f := (node2 p xs xb n b d i0 i1).s) (n := p.n) (by omega)
        rw [write_ok h1.1 hn h1.2 h2.2 q0 q1 q2]
        refine ⟨h1.1, n, hn, rfl, h2.2, rfl, (i1 : Int), b, (i0 : Int), b, new_write h1.1 hn h1.2 h2.2 q0 q1 q2, fun hx => ?_, write_page h1.1 hn h1.2 h2.2 q0 q1 q2⟩
        have := h1.2.1.1
        have := hx.2
        omega
    · rw [write_range h0 h1 h2] at hc; exact absurd hc (by decide)
  · rw [write_form h0 h1] at hc; exact absurd hc (by decide)
theorem trim_new {p : PoolD} {xs xb page b : Int} (hc : (trimT p xs xb page b).code = 0) :
    TreeR p xs xb ∧ ∃ n : Nat, n < 64 ∧ page = (n : Int) ∧ (trimT p xs xb page b).old = oldW p xs xb n 3 ∧ ∃ ms mb, New p xs xb n b (trimT p xs xb page b).pool (trimT p xs xb page b).rs (trimT p xs xb page b).rb ms mb 0 0 := by
  by_cases h1 : TreeR p xs xb ∧ BornOk xb b
  · by_cases h2 : PageNo page
    · obtain ⟨n, rfl⟩ := Int.eq_ofNat_of_zero_le h2.1
      have hn : n < 64 := by have := h2.2; omega
      by_cases h3 : Nil (pageS p xs xb n) (pageB p xs xb n)
      · rw [trim_none h1 h2 h3] at hc; exact absurd hc (by decide)
      · have eL : trimT p xs xb (n : Int) b = layP p xs xb n b ⟨p, 0, 0, 0⟩ := trim_lay h1 h2 h3
        refine ⟨h1.1, n, hn, rfl, ?_⟩
        rw [eL] at hc ⊢
        have rest : ∀ (q : PoolD) (x y : Int), layS p xs xb n b ⟨p, 0, 0, 0⟩ 1 = ⟨q, x, y, 0⟩ → Right q → Fits q (slotK (kidX p xs xb n 0 x) (kidY p xs xb n 0 y) b) → ((AllNil (kidX p xs xb n 0 x) (kidY p xs xb n 0 y) → New p xs xb n b q 0 0 x y 0 0) ∧ (¬ AllNil (kidX p xs xb n 0 x) (kidY p xs xb n 0 y) → ∀ i, First q.n q.s i → New p xs xb n b (setS q i (slotK (kidX p xs xb n 0 x) (kidY p xs xb n 0 y) b)) (i : Int) b x y 0 0)) →
            (layP p xs xb n b ⟨p, 0, 0, 0⟩).old = oldW p xs xb n 3 ∧ ∃ ms mb, New p xs xb n b (layP p xs xb n b ⟨p, 0, 0, 0⟩).pool (layP p xs xb n b ⟨p, 0, 0, 0⟩).rs (layP p xs xb n b ⟨p, 0, 0, 0⟩).rb ms mb 0 0 := fun q x y hL hR hF hN => by
          by_cases hA : AllNil (kidX p xs xb n 0 x) (kidY p xs xb n 0 y)
          · rw [trim_end hL hA]
            exact ⟨rfl, x, y, hN.1 hA⟩
          · by_cases r0 : roomN q.s q.n = 0
            · rw [trim_full hL hA hR hF (room_none r0)] at hc
              exact absurd hc (by decide)
            · obtain ⟨i, hi⟩ := room_first (f := q.s) (n := q.n) (by omega)
              rw [trim_top hL hA hR hF hi]
              exact ⟨rfl, x, y, hN.2 hA i hi⟩
        have fl : Fits p (slotK (kidX p xs xb n 1 0) (kidY p xs xb n 1 0) b) := fits_kid h1.1 hn (by omega) h1.2 (fun s t h => h) (Or.inl ⟨rfl, rfl⟩)
        by_cases hA : AllNil (kidX p xs xb n 1 0) (kidY p xs xb n 1 0)
        · exact rest p 0 0 (low0 hA) h1.1.1 (fits_kid h1.1 hn (by omega) h1.2 (fun s t h => h) (Or.inl ⟨rfl, rfl⟩)) (new_trim h1.1 hn h1.2 (Or.inl ⟨hA, rfl, rfl, rfl⟩))
        · by_cases r0 : roomN p.s p.n = 0
          · rw [low_full h1.1 hn h1.2 hA (room_none r0)] at hc
            exact absurd hc (by decide)
          · obtain ⟨i, hi⟩ := room_first (f := p.s) (n := p.n) (by omega)
            exact rest _ (i : Int) b (low1 h1.1 hn h1.2 hA hi) (right_set h1.1.1 hi fl) (fits_kid h1.1 hn (by omega) h1.2 (fun s t h => points_set hi.2.1 h) (Or.inr ⟨new_points (s := slotK (kidX p xs xb n 1 0) (kidY p xs xb n 1 0) b) hi h1.2.1.1, Int.le_refl _⟩)) (new_trim h1.1 hn h1.2 (Or.inr ⟨hA, i, hi, rfl, rfl, rfl⟩))
    · rw [trim_range h1 h2] at hc; exact absurd hc (by decide)
  · rw [trim_form h1] at hc; exact absurd hc (by decide)

end Go.Proofs.Ytikhipekmlhibaa
