/- What impl.PoolAt leaves. -/
import Derived.Test.YtjbcjlednedboaaIsPtr
import Derived.Test.YtjbcjlednedboaaClone
import Derived.Deep.RegionWith
namespace Go.Proofs.Ytjbcjlednedboaa
open Go.RowKit
set_option linter.unusedVariables false

def zeroSl : SlotD := { birth := 0, kn := 0, ks := fun _ => 0, kb := fun _ => 0, data := ⟨#[]⟩ }

open Classical in
/-- What PoolAt tells. -/
noncomputable def atP (p : PoolD) (xs xb : Int) : SlotD := if Right p ∧ Points p xs xb then p.s xs.toNat else zeroSl

theorem atP_yes {p : PoolD} {xs xb : Int} (h : Right p) (h' : Points p xs xb) : atP p xs xb = p.s xs.toNat := if_pos ⟨h, h'⟩
theorem atP_no {p : PoolD} {xs xb : Int} (h : ¬ (Right p ∧ Points p xs xb)) : atP p xs xb = zeroSl := if_neg h

theorem zero_new {w w' : World} (h : Below w.heap.size w w') : NewSlot zeroSl w (.returned (.agg #[.int .i64 0, .slice none 0 0, .string ⟨#[]⟩])) w' :=
  ⟨_, 0, rfl, ⟨Nat.zero_le _, none, 0, rfl, Nat.le_refl _, fun h => absurd h (Nat.lt_irrefl _)⟩, fun h => absurd h (Nat.lt_irrefl _), h⟩

/-- A new slot in the result's own variable. -/
theorem new_put {s : SlotD} {w w1 w2 : World} {kv : Value} {kb b : Nat} (h1 : Below w.heap.size w w1) (hb : w.heap.size ≤ b) (hb2 : b < w1.heap.size) (hp : PtrsOwn w2 kb kv s.kn s.ks s.kb) (hk : 0 < s.kn → w1.heap.size ≤ kb ∧ kb < w2.heap.size) (h2 : Below w1.heap.size w1 w2) :
    NewSlot s w (.returned (.agg #[.int .i64 s.birth, kv, .string s.data])) (((w2.setCell ⟨b, 0, none⟩ (.int .i64 s.birth)).setCell ⟨b, 1, none⟩ kv).setCell ⟨b, 2, none⟩ (.string s.data)) := by
  refine ⟨kv, kb, rfl, ?_, ?_, ?_⟩
  · refine ((hp.turned (Turned.put _ _ _ _) ?_).turned (Turned.put _ _ _ _) ?_).turned (Turned.put _ _ _ _) ?_
    all_goals exact fun h0 e => by have := hk h0; omega
  · intro h0
    have := hk h0
    have := h1.size
    simp only [World.size_setCell]
    omega
  · exact (((below_next h1 h2).setCell hb _).setCell hb _).setCell hb _

set_option maxRecDepth 20000 in
set_option maxHeartbeats 1000000 in
theorem implPoolAt_any (v0 v1 : Value) (lo hi : Nat) (p : PoolD) (xs xb : Int) (w : World) (h1 : PoolAt w lo hi v0 v1 p) : Calls Try.prog 12 #[.agg #[v0, v1], .agg #[.int .i64 xs, .int .i64 xb]] w (NewSlot (atP p xs xb) w) := by
  have Hp : Hid (PoolAt w lo hi v0 v1 p) := h1
  obtain ⟨⟨m1, a, c, rfl, mc, g1⟩, ⟨m2, a', c', rfl, mc', g2⟩⟩ := h1
  clear g1 g2
  have ha1 := below_alloc w (.cells #[.slice a p.n c, .slice a' p.hn c'] 26)
  have ha2 := below_next ha1 (below_alloc _ (.cells #[.int .i64 xs, .int .i64 xb] 33))
  have ha3 := below_next ha2 (below_alloc _ (.cells #[.int .i64 0, .slice none 0 0, .string ⟨#[]⟩] 29))
  go_enter Try.func12, Try.ntmps12
  go_wp2_with fail
  refine (implPoolRight_any _ _ lo hi p _ (Hp.out.below ha3)).mono ?_
  rintro e w1 ⟨⟨t, rfl, ht⟩, hb1⟩
  have HA : Hid (Box2 w1 w.heap.size (.slice a p.n c) (.slice a' p.hn c')) := (((Box2.new w _ _ _).below (below_alloc _ _)).below (below_alloc _ _)).below hb1
  have HX : Hid (Box2 w1 (w.heap.size + 1) (.int .i64 xs) (.int .i64 xb)) := by
    have := ((Box2.new (w.alloc (.cells #[.slice a p.n c, .slice a' p.hn c'] 26)) (.int .i64 xs) (.int .i64 xb) 33).below (below_alloc _ (.cells #[.int .i64 0, .slice none 0 0, .string ⟨#[]⟩] 29))).below hb1
    rw [World.size_alloc] at this
    exact this
  have HR : Hid (Box3 w1 (w.heap.size + 1 + 1) (.int .i64 0) (.slice none 0 0) (.string ⟨#[]⟩)) := by
    have := (Box3.new ((w.alloc (.cells #[.slice a p.n c, .slice a' p.hn c'] 26)).alloc (.cells #[.int .i64 xs, .int .i64 xb] 33)) (.int .i64 0) (.slice none 0 0) (.string ⟨#[]⟩) 29).below hb1
    rw [World.size_alloc, World.size_alloc] at this
    exact this
  have hbn := below_next ha3 hb1
  clear ha1 ha2 ha3 hb1
  by_cases hR : Right p
  · obtain rfl : t = true := ht.2 hR
    have HRt : Hid (Right p) := hR
    clear ht hR
    obtain ⟨⟨x0, x1⟩, ⟨x2, x3⟩⟩ := HA.out
    obtain ⟨⟨y0, y1⟩, ⟨y2, y3⟩⟩ := HX.out
    go_wp2_with fail
    refine (isPtr_any _ p.n lo hi p.s _ _ _ (Hp.out.1.below hbn)).mono ?_
    rintro e w2 ⟨⟨t, rfl, ht⟩, hb2⟩
    have ht' := ht.trans (isPtr_iff HRt.out)
    have HA2 : Hid (Box2 w2 w.heap.size (.slice a p.n c) (.slice a' p.hn c')) := HA.out.below hb2
    have HX2 : Hid (Box2 w2 (w.heap.size + 1) (.int .i64 xs) (.int .i64 xb)) := HX.out.below hb2
    have HR2 : Hid (Box3 w2 (w.heap.size + 1 + 1) (.int .i64 0) (.slice none 0 0) (.string ⟨#[]⟩)) := HR.out.below hb2
    have hbm := below_next hbn hb2
    clear ht hb2 hbn HA HX HR x0 x1 x2 x3 y0 y1 y2 y3
    by_cases hP : Points p xs xb
    · obtain rfl : t = true := ht'.2 hP
      have HP : Hid (atP p xs xb = p.s xs.toNat) := atP_yes HRt.out hP
      obtain ⟨h1, h2, h3, h4⟩ := hP
      obtain ⟨x, rfl⟩ := Int.eq_ofNat_of_zero_le h2
      have hxn : x < p.n := by omega
      have hkn : (p.s x).kn ≤ 1048576 := by
        rcases HRt.out.2.1 x hxn with h | h
        · have := h.2.1; omega
        · rcases h.2 with h | h
          · omega
          · omega
      rw [Int.toNat_natCast] at HP
      clear ht' h1 h2 h4
      obtain ⟨b, off, ka, kc', rfl, hs⟩ := (Hp.out.1.below hbm).cells hxn
      have Hs : Hid (SlotCells w2 b (off + x * 3) lo hi ka kc' (p.s x)) := hs
      obtain ⟨q0, q1, q2, _⟩ := hs
      obtain ⟨⟨x0, x1⟩, ⟨x2, x3⟩⟩ := HA2.out
      obtain ⟨⟨y0, y1⟩, ⟨y2, y3⟩⟩ := HX2.out
      go_wp2_with fail
      refine (cloneSlot_any _ _ _ lo hi (p.s x) _ Hs.out.slot hkn).mono ?_
      rintro e w3 ⟨kv, kb, rfl, hp, hk, hb3⟩
      have HR3 : Hid (Box3 w3 (w.heap.size + 1 + 1) (.int .i64 0) (.slice none 0 0) (.string ⟨#[]⟩)) := HR2.out.below hb3
      have Hnew : Hid (NewSlot (p.s x) w (.returned (.agg #[.int .i64 (p.s x).birth, kv, .string (p.s x).data])) (((w3.setCell ⟨w.heap.size + 1 + 1, 0, none⟩ (.int .i64 (p.s x).birth)).setCell ⟨w.heap.size + 1 + 1, 1, none⟩ kv).setCell ⟨w.heap.size + 1 + 1, 2, none⟩ (.string (p.s x).data))) :=
        new_put hbm (by omega) HR2.out.1.lt hp hk hb3
      obtain ⟨_, na, nc, rfl, _⟩ := hp
      clear hk hb3 x0 x1 x2 x3 y0 y1 y2 y3 q0 q1 q2
      obtain ⟨⟨y0, y1⟩, ⟨y2, y3⟩, ⟨y4, y5⟩⟩ := HR3.out
      go_wp2
      have HY := HR3.out.put (.int .i64 (p.s x).birth) (.slice na (p.s x).kn nc) (.string (p.s x).data)
      refine bodyPost_ret (v := .agg #[.int .i64 (p.s x).birth, .slice na (p.s x).kn nc, .string (p.s x).data]) (by simp [results, Try.results12, go_sem, HY.1.1, HY.2.1.1, HY.2.2.1]) rfl ?_
      rw [HP.out]
      exact Hnew.out
    · obtain rfl : t = false := bool_no ht' hP
      have HP : Hid (atP p xs xb = zeroSl) := atP_no fun h => hP h.2
      clear ht' hP
      obtain ⟨⟨y0, y1⟩, ⟨y2, y3⟩, ⟨y4, y5⟩⟩ := HR2.out
      go_wp2
      have HY := HR2.out.put (.int .i64 0) (.slice none 0 0) (.string ⟨#[]⟩)
      refine bodyPost_ret (v := .agg #[.int .i64 0, .slice none 0 0, .string ⟨#[]⟩]) (by simp [results, Try.results12, go_sem, HY.1.1, HY.2.1.1, HY.2.2.1]) rfl ?_
      rw [HP.out]
      exact zero_new (((hbm.setCell (by show _ ≤ w.heap.size + 1 + 1; omega) _).setCell (by show _ ≤ w.heap.size + 1 + 1; omega) _).setCell (by show _ ≤ w.heap.size + 1 + 1; omega) _)
  · obtain rfl : t = false := bool_no ht hR
    have HP : Hid (atP p xs xb = zeroSl) := atP_no fun h => hR h.1
    clear ht hR
    obtain ⟨⟨y0, y1⟩, ⟨y2, y3⟩, ⟨y4, y5⟩⟩ := HR.out
    go_wp2
    have HY := HR.out.put (.int .i64 0) (.slice none 0 0) (.string ⟨#[]⟩)
    refine bodyPost_ret (v := .agg #[.int .i64 0, .slice none 0 0, .string ⟨#[]⟩]) (by simp [results, Try.results12, go_sem, HY.1.1, HY.2.1.1, HY.2.2.1]) rfl ?_
    rw [HP.out]
    exact zero_new (((hbn.setCell (by show _ ≤ w.heap.size + 1 + 1; omega) _).setCell (by show _ ≤ w.heap.size + 1 + 1; omega) _).setCell (by show _ ≤ w.heap.size + 1 + 1; omega) _)

end Go.Proofs.Ytjbcjlednedboaa
