/- How many marks there are in a world, in a snapshot, in a set; what the laws' marking and looking for marks of one leaves (no law is proved here). -/
import Derived.Test.YtjpbmpjddbekgaaGreatG32
import Derived.Test.YtjpbmpjddbekgaaGreatG35
import Derived.Test.YtjpbmpjddbekgaaGreatG26
import Derived.Test.YtjpbmpjddbekgaaGreatG29
import Derived.Test.YtjpbmpjddbekgaaGreatG28
namespace Go.Proofs.YtjpbmpjddbekgaaGreat
open Go.RowKit
set_option linter.unusedVariables false

set_option maxRecDepth 20000 in
set_option maxHeartbeats 400000 in
theorem markSnap_any (b : Nat) (v : Value) (s : SnapD) (k0 : Int) (w : World) (h : PtrsOwn w b v s.dn s.ds s.db) (hk0 : 0 ≤ k0) (hk1 : k0 + 2 * s.dn ≤ 1000000000000) :
    Calls Tryz.prog 22 #[snapV v s, .int .i64 k0] w fun e w' => e = .returned (.int .i64 (k0 + 2 * s.dn)) ∧ PtrsOwn w' b v s.dn (fun i => k0 + 2 * i) (fun i => k0 + 2 * i + 1) ∧ Turned (fun k => 0 < s.dn ∧ k = b) w w' := by
  unfold snapV
  have H := hideW h
  obtain ⟨-, a, c, rfl, -⟩ := id h
  clear h
  have ha := below_alloc w (.cells #[.int .i64 s.id, .string s.name, .string s.set, .int .i64 s.prev, .int .i64 s.time, .int .i64 s.rs, .int .i64 s.rb, .slice a s.dn c] 46)
  obtain ⟨⟨y0, -⟩, ⟨y1, -⟩, ⟨y2, -⟩, ⟨y3, -⟩, ⟨y4, -⟩, ⟨y5, -⟩, ⟨y6, -⟩, ⟨y7, -⟩⟩ := Row8.new w (.int .i64 s.id) (.string s.name) (.string s.set) (.int .i64 s.prev) (.int .i64 s.time) (.int .i64 s.rs) (.int .i64 s.rb) (.slice a s.dn c) 46
  go_enter Tryz.func22, Tryz.ntmps22
  go_wp2_with fail
  refine (markPtrS_any b _ s.dn s.ds s.db k0 _ (H.out.below ha) hk0 hk1).mono ?_
  rintro e w1 ⟨rfl, hp, ht⟩
  have HP := hideW hp
  clear y0 y1 y2 y3 y4 y5 y6 y7 hp
  go_wp2
  go_ret
  exact ⟨rfl, HP.out, (Turned.of_below ha).trans ht⟩

set_option maxRecDepth 20000 in
set_option maxHeartbeats 400000 in
theorem heldSnap_any (lo hi : Nat) (v : Value) (s : SnapD) (k0 : Int) (w : World) (h : PtrsAt w lo hi v s.dn (fun i => k0 + 2 * i) (fun i => k0 + 2 * i + 1)) (hk0 : 0 ≤ k0) (hk1 : k0 + 2 * s.dn ≤ 1000000000000) :
    Calls Tryz.prog 23 #[snapV v s, .int .i64 k0] w fun e w' => e = .returned (.int .i64 (k0 + 2 * s.dn)) ∧ Below w.heap.size w w' := by
  unfold snapV
  have H := hideW h
  obtain ⟨-, a, c, rfl, -⟩ := id h
  clear h
  have ha := below_alloc w (.cells #[.int .i64 s.id, .string s.name, .string s.set, .int .i64 s.prev, .int .i64 s.time, .int .i64 s.rs, .int .i64 s.rb, .slice a s.dn c] 46)
  obtain ⟨⟨y0, -⟩, ⟨y1, -⟩, ⟨y2, -⟩, ⟨y3, -⟩, ⟨y4, -⟩, ⟨y5, -⟩, ⟨y6, -⟩, ⟨y7, -⟩⟩ := Row8.new w (.int .i64 s.id) (.string s.name) (.string s.set) (.int .i64 s.prev) (.int .i64 s.time) (.int .i64 s.rs) (.int .i64 s.rb) (.slice a s.dn c) 46
  have hn : ¬ k0 + 2 * (s.dn : Int) < 0 := by omega
  go_enter Tryz.func23, Tryz.ntmps23
  go_wp2_with fail
  refine (heldPtrS_any _ s.dn lo hi _ _ k0 _ (H.out.below ha) hk0 hk1 (fun i hi => ⟨rfl, rfl⟩)).mono ?_
  rintro e w1 ⟨rfl, hb⟩
  have hB := below_next ha hb
  clear y0 y1 y2 y3 y4 y5 y6 y7 hb ha
  go_wp2
  go_ret
  exact ⟨rfl, hB⟩

set_option maxRecDepth 20000 in
set_option maxHeartbeats 400000 in
theorem markSet_any (b : Nat) (v : Value) (s : SetD) (k0 : Int) (w : World) (h : PtrsOwn w b v s.dn s.ds s.db) (hk0 : 0 ≤ k0) (hk1 : k0 + 2 * s.dn ≤ 1000000000000) :
    Calls Tryz.prog 27 #[setV v s, .int .i64 k0] w fun e w' => e = .returned (.int .i64 (k0 + 2 * s.dn)) ∧ PtrsOwn w' b v s.dn (fun i => k0 + 2 * i) (fun i => k0 + 2 * i + 1) ∧ Turned (fun k => 0 < s.dn ∧ k = b) w w' := by
  unfold setV
  have H := hideW h
  obtain ⟨-, a, c, rfl, -⟩ := id h
  clear h
  have ha := below_alloc w (.cells #[.string s.name, .int .i64 s.origin, .int .i64 s.prev, .int .i64 s.rs, .int .i64 s.rb, .slice a s.dn c] 53)
  obtain ⟨⟨y0, -⟩, ⟨y1, -⟩, ⟨y2, -⟩, ⟨y3, -⟩, ⟨y4, -⟩, ⟨y5, -⟩⟩ := Box6.new w (.string s.name) (.int .i64 s.origin) (.int .i64 s.prev) (.int .i64 s.rs) (.int .i64 s.rb) (.slice a s.dn c) 53
  go_enter Tryz.func27, Tryz.ntmps27
  go_wp2_with fail
  refine (markPtrS_any b _ s.dn s.ds s.db k0 _ (H.out.below ha) hk0 hk1).mono ?_
  rintro e w1 ⟨rfl, hp, ht⟩
  have HP := hideW hp
  clear y0 y1 y2 y3 y4 y5 hp
  go_wp2
  go_ret
  exact ⟨rfl, HP.out, (Turned.of_below ha).trans ht⟩

set_option maxRecDepth 20000 in
set_option maxHeartbeats 400000 in
theorem heldSet_any (lo hi : Nat) (v : Value) (s : SetD) (k0 : Int) (w : World) (h : PtrsAt w lo hi v s.dn (fun i => k0 + 2 * i) (fun i => k0 + 2 * i + 1)) (hk0 : 0 ≤ k0) (hk1 : k0 + 2 * s.dn ≤ 1000000000000) :
    Calls Tryz.prog 28 #[setV v s, .int .i64 k0] w fun e w' => e = .returned (.int .i64 (k0 + 2 * s.dn)) ∧ Below w.heap.size w w' := by
  unfold setV
  have H := hideW h
  obtain ⟨-, a, c, rfl, -⟩ := id h
  clear h
  have ha := below_alloc w (.cells #[.string s.name, .int .i64 s.origin, .int .i64 s.prev, .int .i64 s.rs, .int .i64 s.rb, .slice a s.dn c] 53)
  obtain ⟨⟨y0, -⟩, ⟨y1, -⟩, ⟨y2, -⟩, ⟨y3, -⟩, ⟨y4, -⟩, ⟨y5, -⟩⟩ := Box6.new w (.string s.name) (.int .i64 s.origin) (.int .i64 s.prev) (.int .i64 s.rs) (.int .i64 s.rb) (.slice a s.dn c) 53
  have hn : ¬ k0 + 2 * (s.dn : Int) < 0 := by omega
  go_enter Tryz.func28, Tryz.ntmps28
  go_wp2_with fail
  refine (heldPtrS_any _ s.dn lo hi _ _ k0 _ (H.out.below ha) hk0 hk1 (fun i hi => ⟨rfl, rfl⟩)).mono ?_
  rintro e w1 ⟨rfl, hb⟩
  have hB := below_next ha hb
  clear y0 y1 y2 y3 y4 y5 hb ha
  go_wp2
  go_ret
  exact ⟨rfl, hB⟩

end Go.Proofs.YtjpbmpjddbekgaaGreat

namespace Go.Proofs.YtjpbmpjddbekgaaGreat
open Go.RowKit Go.Maps
set_option linter.unusedVariables false

/-- A value that stands for S, what was dropped in blocks from lo to hi that the call owns; to be read alone. -/
def SnapOwnA (w : World) (lo hi : Nat) (v : Value) (S : SnapD) : Prop := ∃ vd b, v = snapV vd S ∧ PtrsOwn w b vd S.dn S.ds S.db ∧ (0 < S.dn → lo ≤ b ∧ b < hi)
def SnapAtA (w : World) (lo hi : Nat) (v : Value) (S : SnapD) : Prop := ∃ vd, v = snapV vd S ∧ PtrsAt w lo hi vd S.dn S.ds S.db
theorem SnapOwnA.at {w : World} {lo hi : Nat} {v : Value} {S : SnapD} (h : SnapOwnA w lo hi v S) : SnapAtA w lo hi v S := by
  obtain ⟨vd, b, hv, hp, hb⟩ := h
  exact ⟨vd, hv, hp.at hb⟩
theorem SnapAtA.below {w w' : World} {lo hi : Nat} {v : Value} {S : SnapD} (h : SnapAtA w lo hi v S) (t : Below w.heap.size w w') : SnapAtA w' lo hi v S := by
  obtain ⟨vd, hv, hp⟩ := h
  exact ⟨vd, hv, hp.below t⟩
theorem SnapOwnA.below {w w' : World} {lo hi : Nat} {v : Value} {S : SnapD} (h : SnapOwnA w lo hi v S) (t : Below w.heap.size w w') : SnapOwnA w' lo hi v S := by
  obtain ⟨vd, b, hv, hp, hb⟩ := h
  exact ⟨vd, b, hv, hp.below t, hb⟩
theorem SnapOwnA.turned {T : Nat → Prop} {w w' : World} {lo hi : Nat} {v : Value} {S : SnapD} (h : SnapOwnA w lo hi v S) (t : Turned T w w') (hs : ∀ k, T k → k < lo ∨ hi ≤ k) : SnapOwnA w' lo hi v S := by
  obtain ⟨vd, b, hv, hp, hb⟩ := h
  exact ⟨vd, b, hv, hp.turned t (fun h0 hx => by have := hb h0; have := hs _ hx; omega), hb⟩
theorem SnapOwnA.form {w : World} {lo hi : Nat} {v : Value} {S : SnapD} (h : SnapOwnA w lo hi v S) : ∃ a c, v = .agg #[.int .i64 S.id, .string S.name, .string S.set, .int .i64 S.prev, .int .i64 S.time, .int .i64 S.rs, .int .i64 S.rb, .slice a S.dn c] := by
  obtain ⟨vd, b, hv, ⟨_, a, c, rfl, _⟩, hb⟩ := h
  exact ⟨a, c, hv⟩
theorem NewSnap.ans {S : SnapD} {w w' : World} {e : Ending} (h : NewSnap S w e w') : ∃ v, e = .returned v ∧ SnapOwnA w' w.heap.size w'.heap.size v S ∧ Below w.heap.size w w' := by
  obtain ⟨v, b, he, hp, hb, hw⟩ := h
  exact ⟨snapV v S, he, ⟨v, b, rfl, hp, hb⟩, hw⟩
theorem eqSnap_ans (v u : Value) (lo hi lo' hi' : Nat) (S : SnapD) (w : World) (h1 : SnapAtA w lo hi v S) (h2 : SnapAtA w lo' hi' u S) : Calls Tryz.prog 20 #[v, u] w fun e w' => e = .returned (.bool true) ∧ Below w.heap.size w w' := by
  obtain ⟨vd, rfl, hp⟩ := h1
  obtain ⟨ud, rfl, hq⟩ := h2
  exact eqSnap_same vd ud lo hi lo' hi' S w hp hq
/-- It with its marks. -/
def markSnapM (S : SnapD) (k0 : Int) : SnapD := { S with ds := fun i => k0 + 2 * i, db := fun i => k0 + 2 * i + 1 }
def endSnap (S : SnapD) (k0 : Int) : Int := k0 + 2 * S.dn
theorem markSnap_ans (lo hi : Nat) (v : Value) (S : SnapD) (k0 : Int) (w : World) (h : SnapOwnA w lo hi v S) (hk0 : 0 ≤ k0) (hk1 : endSnap S k0 ≤ 1000000000000) : Calls Tryz.prog 22 #[v, .int .i64 k0] w fun e w' => e = .returned (.int .i64 (endSnap S k0)) ∧ SnapOwnA w' lo hi v (markSnapM S k0) ∧ Turned (fun k => lo ≤ k ∧ k < hi) w w' := by
  obtain ⟨vd, b, rfl, hp, hb⟩ := h
  refine (markSnap_any b vd S k0 w hp hk0 hk1).mono ?_
  rintro e w' ⟨rfl, hp', ht⟩
  exact ⟨rfl, ⟨vd, b, rfl, hp', hb⟩, ht.mono (fun k hk => by obtain ⟨h0, rfl⟩ := hk; exact hb h0)⟩
theorem heldSnap_ans (lo hi : Nat) (v : Value) (S : SnapD) (k0 : Int) (w : World) (h : SnapAtA w lo hi v (markSnapM S k0)) (hk0 : 0 ≤ k0) (hk1 : endSnap S k0 ≤ 1000000000000) : Calls Tryz.prog 23 #[v, .int .i64 k0] w fun e w' => e = .returned (.int .i64 (endSnap S k0)) ∧ Below w.heap.size w w' := by
  obtain ⟨vd, rfl, hp⟩ := h
  exact heldSnap_any lo hi vd S k0 w hp hk0 hk1
theorem snapAns_small {W : WorldD} {x : Int} (h : DeadsN W) : endSnap (snapAns W x) 1 ≤ 1000000000000 ∧ 0 ≤ endSnap (snapAns W x) 1 := by
  have hd : (snapAns W x).dn ≤ 1048576 := by
    by_cases hS : SpecW W
    · rw [snapAns_yes hS]; exact aheadOf_dn h x
    · rw [snapAns_no hS]; exact Nat.zero_le _
  unfold endSnap
  omega

/-- A value that stands for S, what was dropped in blocks from lo to hi that the call owns; to be read alone. -/
def SetOwnA (w : World) (lo hi : Nat) (v : Value) (S : SetD) : Prop := ∃ vd b, v = setV vd S ∧ PtrsOwn w b vd S.dn S.ds S.db ∧ (0 < S.dn → lo ≤ b ∧ b < hi)
def SetAtA (w : World) (lo hi : Nat) (v : Value) (S : SetD) : Prop := ∃ vd, v = setV vd S ∧ PtrsAt w lo hi vd S.dn S.ds S.db
theorem SetOwnA.at {w : World} {lo hi : Nat} {v : Value} {S : SetD} (h : SetOwnA w lo hi v S) : SetAtA w lo hi v S := by
  obtain ⟨vd, b, hv, hp, hb⟩ := h
  exact ⟨vd, hv, hp.at hb⟩
theorem SetAtA.below {w w' : World} {lo hi : Nat} {v : Value} {S : SetD} (h : SetAtA w lo hi v S) (t : Below w.heap.size w w') : SetAtA w' lo hi v S := by
  obtain ⟨vd, hv, hp⟩ := h
  exact ⟨vd, hv, hp.below t⟩
theorem SetOwnA.below {w w' : World} {lo hi : Nat} {v : Value} {S : SetD} (h : SetOwnA w lo hi v S) (t : Below w.heap.size w w') : SetOwnA w' lo hi v S := by
  obtain ⟨vd, b, hv, hp, hb⟩ := h
  exact ⟨vd, b, hv, hp.below t, hb⟩
theorem SetOwnA.turned {T : Nat → Prop} {w w' : World} {lo hi : Nat} {v : Value} {S : SetD} (h : SetOwnA w lo hi v S) (t : Turned T w w') (hs : ∀ k, T k → k < lo ∨ hi ≤ k) : SetOwnA w' lo hi v S := by
  obtain ⟨vd, b, hv, hp, hb⟩ := h
  exact ⟨vd, b, hv, hp.turned t (fun h0 hx => by have := hb h0; have := hs _ hx; omega), hb⟩
theorem SetOwnA.form {w : World} {lo hi : Nat} {v : Value} {S : SetD} (h : SetOwnA w lo hi v S) : ∃ a c, v = .agg #[.string S.name, .int .i64 S.origin, .int .i64 S.prev, .int .i64 S.rs, .int .i64 S.rb, .slice a S.dn c] := by
  obtain ⟨vd, b, hv, ⟨_, a, c, rfl, _⟩, hb⟩ := h
  exact ⟨a, c, hv⟩
theorem NewSet.ans {S : SetD} {w w' : World} {e : Ending} (h : NewSet S w e w') : ∃ v, e = .returned v ∧ SetOwnA w' w.heap.size w'.heap.size v S ∧ Below w.heap.size w w' := by
  obtain ⟨v, b, he, hp, hb, hw⟩ := h
  exact ⟨setV v S, he, ⟨v, b, rfl, hp, hb⟩, hw⟩
theorem eqSet_ans (v u : Value) (lo hi lo' hi' : Nat) (S : SetD) (w : World) (h1 : SetAtA w lo hi v S) (h2 : SetAtA w lo' hi' u S) : Calls Tryz.prog 26 #[v, u] w fun e w' => e = .returned (.bool true) ∧ Below w.heap.size w w' := by
  obtain ⟨vd, rfl, hp⟩ := h1
  obtain ⟨ud, rfl, hq⟩ := h2
  exact eqSet_same vd ud lo hi lo' hi' S w hp hq
/-- It with its marks. -/
def markSetM (S : SetD) (k0 : Int) : SetD := { S with ds := fun i => k0 + 2 * i, db := fun i => k0 + 2 * i + 1 }
def endSet (S : SetD) (k0 : Int) : Int := k0 + 2 * S.dn
theorem markSet_ans (lo hi : Nat) (v : Value) (S : SetD) (k0 : Int) (w : World) (h : SetOwnA w lo hi v S) (hk0 : 0 ≤ k0) (hk1 : endSet S k0 ≤ 1000000000000) : Calls Tryz.prog 27 #[v, .int .i64 k0] w fun e w' => e = .returned (.int .i64 (endSet S k0)) ∧ SetOwnA w' lo hi v (markSetM S k0) ∧ Turned (fun k => lo ≤ k ∧ k < hi) w w' := by
  obtain ⟨vd, b, rfl, hp, hb⟩ := h
  refine (markSet_any b vd S k0 w hp hk0 hk1).mono ?_
  rintro e w' ⟨rfl, hp', ht⟩
  exact ⟨rfl, ⟨vd, b, rfl, hp', hb⟩, ht.mono (fun k hk => by obtain ⟨h0, rfl⟩ := hk; exact hb h0)⟩
theorem heldSet_ans (lo hi : Nat) (v : Value) (S : SetD) (k0 : Int) (w : World) (h : SetAtA w lo hi v (markSetM S k0)) (hk0 : 0 ≤ k0) (hk1 : endSet S k0 ≤ 1000000000000) : Calls Tryz.prog 28 #[v, .int .i64 k0] w fun e w' => e = .returned (.int .i64 (endSet S k0)) ∧ Below w.heap.size w w' := by
  obtain ⟨vd, rfl, hp⟩ := h
  exact heldSet_any lo hi vd S k0 w hp hk0 hk1
theorem setAns_small {W : WorldD} {x : ByteArray} (h : DeadsN W) : endSet (setAns W x) 1 ≤ 1000000000000 ∧ 0 ≤ endSet (setAns W x) 1 := by
  have hd : (setAns W x).dn ≤ 1048576 := by
    by_cases hS : SpecW W
    · rw [setAns_yes hS]; exact setAt_dn h x
    · rw [setAns_no hS]; exact Nat.zero_le _
  unfold endSet
  omega

end Go.Proofs.YtjpbmpjddbekgaaGreat
