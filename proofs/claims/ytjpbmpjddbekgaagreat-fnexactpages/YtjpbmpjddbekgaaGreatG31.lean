/- One of a row of sets or snapshots is turned (no law is proved here). -/
import Derived.Test.YtjpbmpjddbekgaaGreatG26
import Derived.Test.YtjpbmpjddbekgaaGreatRows
import Derived.Test.YtjpbmpjddbekgaaGreatG6
import Derived.Deep.RegionHeld3
import Derived.Deep.QuietTactic
import Derived.BigQuiet
namespace Go.Proofs.YtjpbmpjddbekgaaGreat
open Go.RowKit
set_option linter.unusedVariables false

/-- Of the blocks that were there, none but bs has turned, and of it nothing but n cells from o on. -/
structure RowTurned (bs o n : Nat) (w w' : World) : Prop where
  turned : Turned (fun b => b = bs) w w'
  kept : ∀ x v, (x < o ∨ o + n ≤ x) → Cell w bs x v → Cell w' bs x v
theorem RowTurned.refl (bs o n : Nat) (w : World) : RowTurned bs o n w w := ⟨Turned.refl _ _, fun _ _ _ h => h⟩
theorem RowTurned.set {bs o n : Nat} {w w' : World} (h : RowTurned bs o n w w') (x : Nat) (u : Value) (h1 : o ≤ x) (h2 : x < o + n) : RowTurned bs o n w (w'.setCell ⟨bs, x, none⟩ u) :=
  ⟨h.turned.setCell (p := ⟨bs, x, none⟩) rfl u, fun y v hy hc => (h.kept y v hy hc).other u (Or.inr (by omega))⟩
theorem RowTurned.below {bs o n : Nat} {w w' w2 : World} (h : RowTurned bs o n w w') (t : Below w'.heap.size w' w2) : RowTurned bs o n w w2 :=
  ⟨h.turned.trans (Turned.of_below t), fun y v hy hc => (h.kept y v hy hc).below t⟩

/-- One of a row has been written: its cells in the row's block, then what it has dropped. -/
theorem Set_step {w w1 w2 : World} {bs off n k : Nat} {kb : Nat → Nat} {kv : Nat → Value} {f : Nat → SetD} {s : SetD} (h : ∀ j, j < n → SetOwn w bs (off + j * 6) (kb j) (kv j) (f j)) (hap : SetsApart kb n f) (hk : k < n)
    (r : RowTurned bs (off + k * 6) 6 w w1) (t : Turned (fun b => 0 < (f k).dn ∧ b = kb k) w1 w2) (c0 : Cell w1 bs (off + k * 6) (.string s.name)) (c1 : Cell w1 bs ((off + k * 6) + 1) (.int .i64 s.origin)) (c2 : Cell w1 bs ((off + k * 6) + 2) (.int .i64 s.prev)) (c3 : Cell w1 bs ((off + k * 6) + 3) (.int .i64 s.rs)) (c4 : Cell w1 bs ((off + k * 6) + 4) (.int .i64 s.rb)) (c5 : Cell w1 bs (off + k * 6 + 5) (kv k)) (hdn : s.dn = (f k).dn) (hp : PtrsOwn w2 (kb k) (kv k) s.dn s.ds s.db) (hs : s.name.size ≤ maxLen) :
    ∀ j, j < n → SetOwn w2 bs (off + j * 6) (kb j) (kv j) (if j = k then s else f j) := by
  intro j hj
  have nb : ¬ (0 < (f k).dn ∧ bs = kb k) := fun hx => (h k hk).apart hx.1 hx.2.symm
  by_cases e : j = k
  · subst e
    rw [if_pos rfl]
    exact ⟨c0.turned t nb, c1.turned t nb, c2.turned t nb, c3.turned t nb, c4.turned t nb, c5.turned t nb, hp, hs, by rw [hdn]; exact (h j hj).apart⟩
  · rw [if_neg e]
    have hj' := h j hj
    refine ⟨(r.kept _ _ (by omega) hj'.c0).turned t nb, (r.kept _ _ (by omega) hj'.c1).turned t nb, (r.kept _ _ (by omega) hj'.c2).turned t nb, (r.kept _ _ (by omega) hj'.c3).turned t nb, (r.kept _ _ (by omega) hj'.c4).turned t nb, (r.kept _ _ (by omega) hj'.c5).turned t nb, ?_, hj'.small, hj'.apart⟩
    exact (hj'.dead.turned r.turned (fun h0 hx => hj'.apart h0 hx)).turned t (fun h0 hx => hap j k hj hk e h0 hx.1 hx.2)

/-- One of a row has been written: its cells in the row's block, then what it has dropped. -/
theorem Snap_step {w w1 w2 : World} {bs off n k : Nat} {kb : Nat → Nat} {kv : Nat → Value} {f : Nat → SnapD} {s : SnapD} (h : ∀ j, j < n → SnapOwn w bs (off + j * 8) (kb j) (kv j) (f j)) (hap : SnapsApart kb n f) (hk : k < n)
    (r : RowTurned bs (off + k * 8) 8 w w1) (t : Turned (fun b => 0 < (f k).dn ∧ b = kb k) w1 w2) (c0 : Cell w1 bs (off + k * 8) (.int .i64 s.id)) (c1 : Cell w1 bs ((off + k * 8) + 1) (.string s.name)) (c2 : Cell w1 bs ((off + k * 8) + 2) (.string s.set)) (c3 : Cell w1 bs ((off + k * 8) + 3) (.int .i64 s.prev)) (c4 : Cell w1 bs ((off + k * 8) + 4) (.int .i64 s.time)) (c5 : Cell w1 bs ((off + k * 8) + 5) (.int .i64 s.rs)) (c6 : Cell w1 bs ((off + k * 8) + 6) (.int .i64 s.rb)) (c7 : Cell w1 bs (off + k * 8 + 7) (kv k)) (hdn : s.dn = (f k).dn) (hp : PtrsOwn w2 (kb k) (kv k) s.dn s.ds s.db) (hs : s.name.size ≤ maxLen ∧ s.set.size ≤ maxLen) :
    ∀ j, j < n → SnapOwn w2 bs (off + j * 8) (kb j) (kv j) (if j = k then s else f j) := by
  intro j hj
  have nb : ¬ (0 < (f k).dn ∧ bs = kb k) := fun hx => (h k hk).apart hx.1 hx.2.symm
  by_cases e : j = k
  · subst e
    rw [if_pos rfl]
    exact ⟨c0.turned t nb, c1.turned t nb, c2.turned t nb, c3.turned t nb, c4.turned t nb, c5.turned t nb, c6.turned t nb, c7.turned t nb, hp, hs, by rw [hdn]; exact (h j hj).apart⟩
  · rw [if_neg e]
    have hj' := h j hj
    refine ⟨(r.kept _ _ (by omega) hj'.c0).turned t nb, (r.kept _ _ (by omega) hj'.c1).turned t nb, (r.kept _ _ (by omega) hj'.c2).turned t nb, (r.kept _ _ (by omega) hj'.c3).turned t nb, (r.kept _ _ (by omega) hj'.c4).turned t nb, (r.kept _ _ (by omega) hj'.c5).turned t nb, (r.kept _ _ (by omega) hj'.c6).turned t nb, (r.kept _ _ (by omega) hj'.c7).turned t nb, ?_, hj'.small, hj'.apart⟩
    exact (hj'.dead.turned r.turned (fun h0 hx => hj'.apart h0 hx)).turned t (fun h0 hx => hap j k hj hk e h0 hx.1 hx.2)

end Go.Proofs.YtjpbmpjddbekgaaGreat

namespace Go.Proofs.YtjpbmpjddbekgaaGreat
open Go.RowKit
set_option linter.unusedVariables false

/-- The digits of k ahead of out. -/
def mtLoop (k : Nat) (out : ByteArray) : ByteArray :=
  if h : k = 0 then out else mtLoop (k / 10) (⟨#[48 + UInt8.ofNat (k % 10)]⟩ ++ out)
termination_by k
decreasing_by omega

def mtF (k : Int) : ByteArray := if k ≤ 0 then ⟨#[109, 48]⟩ else ⟨#[109]⟩ ++ mtLoop k.toNat ⟨#[]⟩

theorem mt_start {n : Nat} (h : (n : Int) ≤ 1000000000000) : n < 10 ^ (13 - (⟨#[]⟩ : ByteArray).size) := by
  show n < 10 ^ 13
  omega

theorem size_one (x : UInt8) (out : ByteArray) : ((⟨#[x]⟩ : ByteArray) ++ out).size = out.size + 1 := by
  rw [ByteArray.size_append]
  show 1 + out.size = _
  omega

theorem mt_bound {m : Nat} {out : ByteArray} (h : m < 10 ^ (13 - out.size)) : m ≤ 10000000000000 := by
  have h2 : 10 ^ (13 - out.size) ≤ 10 ^ 13 := Nat.pow_le_pow_right (by omega) (by omega)
  omega

theorem mt_next {m : Nat} {out : ByteArray} (x : UInt8) (h0 : ¬ m = 0) (h : m < 10 ^ (13 - out.size)) (h2 : out.size ≤ 13) :
    m / 10 < 10 ^ (13 - ((⟨#[x]⟩ : ByteArray) ++ out).size) ∧ ((⟨#[x]⟩ : ByteArray) ++ out).size ≤ 13 := by
  rw [size_one]
  by_cases e : out.size = 13
  · rw [e] at h; simp at h; omega
  · obtain ⟨j, hj⟩ : ∃ j, 13 - out.size = j + 1 := ⟨12 - out.size, by omega⟩
    rw [hj, Nat.pow_succ] at h
    have : 13 - (out.size + 1) = j := by omega
    rw [this]
    exact ⟨by omega, by omega⟩

theorem mt_step {m : Nat} {out : ByteArray} (h0 : ¬ m = 0) : mtLoop (m / 10) (⟨#[48 + UInt8.ofNat (m % 10)]⟩ ++ out) = mtLoop m out := by
  conv => rhs; rw [mtLoop]
  rw [dif_neg h0]

theorem mt_size (m : Nat) : ∀ (out : ByteArray), m < 10 ^ (13 - out.size) → out.size ≤ 13 → (mtLoop m out).size ≤ 13 := by
  induction m using Nat.strongRecOn with
  | _ m ih =>
    intro out h h2
    by_cases h0 : m = 0
    · rw [mtLoop, dif_pos h0]; exact h2
    · rw [mtLoop, dif_neg h0]
      have := mt_next (48 + UInt8.ofNat (m % 10)) h0 h h2
      exact ih (m / 10) (by omega) _ this.1 this.2

theorem mtF_size {k : Int} (hk : k ≤ 1000000000000) : (mtF k).size ≤ maxLen := by
  unfold mtF maxLen
  split
  · decide
  · have h : (mtLoop k.toNat ⟨#[]⟩).size ≤ 13 := mt_size _ _ (mt_start (by omega)) (Nat.zero_le _)
    rw [size_one]
    omega

theorem conv_one (w : World) (n : Int) : (convert 198 9 (.slice (some ⟨w.heap.size, 0, none⟩) 1 1)).run Tryz.prog (w.alloc (.cells #[.int .u8 n] 5)) = .ok (.string ⟨#[UInt8.ofNat n.toNat]⟩) (w.alloc (.cells #[.int .u8 n] 5)) :=
  run_convert_bytes_arg (P := Tryz.prog) (w.alloc (.cells #[.int .u8 n] 5)) 198 5 (by kernel_rfl) (by kernel_rfl) w.heap.size 0 1 1 [n] rfl (fun i hi => by
    obtain rfl : i = 0 := by omega
    simp) 9 (by kernel_rfl)

set_option maxRecDepth 20000 in
set_option maxHeartbeats 400000 in
theorem markText_any (k : Int) (w : World) (hk : k ≤ 1000000000000) :
    Calls Tryz.prog 134 #[.int .i64 k] w fun e w' => e = .returned (.string (mtF k)) ∧ Below w.heap.size w w' := by
  by_cases h0 : k ≤ 0
  · have hm : Hid (mtF k = ⟨#[109, 48]⟩) := if_pos h0
    go_enter Tryz.func134, Tryz.ntmps134
    go_wp2
    go_ret
    exact ⟨by rw [hm.out]; rfl, Below.refl _ _⟩
  · obtain ⟨n, rfl⟩ := Int.eq_ofNat_of_zero_le (by omega : 0 ≤ k)
    have hm : Hid (mtF (n : Int) = ⟨#[109]⟩ ++ mtLoop n ⟨#[]⟩) := if_neg h0
    have hst : Hid (n < 10 ^ (13 - (⟨#[]⟩ : ByteArray).size)) := mt_start hk
    have hcv := conv_one
    go_enter Tryz.func134, Tryz.ntmps134
    go_wp2
    go_loopw [0, 3] (fun v s wr => ∃ (m : Nat) (out : ByteArray), v = .int .i64 m ∧ s = .string out ∧ m < 10 ^ (13 - out.size) ∧ out.size ≤ 13 ∧ mtLoop m out = mtLoop n ⟨#[]⟩ ∧ Below w.heap.size w wr) (fun v _ _ => (intOf v).toNat)
    case atStart => exact ⟨n, ⟨#[]⟩, rfl, rfl, hst.out, Nat.zero_le _, rfl, Below.refl _ _⟩
    case round =>
      obtain ⟨m, out, rfl, rfl, hm1, hm2, hm3, hb⟩ := hrel
      have Hm3 : Hid (m < 10 ^ (13 - out.size) ∧ mtLoop m out = mtLoop n ⟨#[]⟩) := ⟨hm1, hm3⟩
      have hmb := mt_bound hm1
      clear hm1 hm3
      by_cases hz : m = 0
      · subst hz
        go_wp2
        go_ret
        refine ⟨?_, hb⟩
        have e1 := Hm3.out.2
        rw [mtLoop, dif_pos rfl] at e1
        rw [hm.out, ← e1]
        rfl
      · have hz' : (0 : Int) < (m : Int) := by omega
        have Hz : Hid (¬ m = 0) := hz
        clear hz
        go_wp2
        go_roundw
        case rel =>
          have hn := mt_next (48 + UInt8.ofNat (m % 10)) Hz.out Hm3.out.1 hm2
          exact ⟨m / 10, _, by go_num, rfl, hn.1, hn.2, (mt_step Hz.out).trans Hm3.out.2, hb.alloc hb.size _⟩
        case measure => simp [intOf]; omega

theorem hideM {P : Prop} (h : P) : Hid P := h

/-- A block of numbers stays one, as great as it was. -/
def SameShape (b : Nat) (w w' : World) : Prop := ∀ cur, w.heap[b]? = some (.cells cur 2 (0, 0)) → ∃ cur', w'.heap[b]? = some (.cells cur' 2 (0, 0)) ∧ cur'.size = cur.size
theorem SameShape.refl (b : Nat) (w : World) : SameShape b w w := fun cur h => ⟨cur, h, rfl⟩
theorem SameShape.set {b : Nat} {w w' : World} (h : SameShape b w w') (o : Nat) (u : Value) : SameShape b w (w'.setCell ⟨b, o, none⟩ u) := fun cur hc => by
  obtain ⟨cur', h1, h2⟩ := h cur hc
  exact ⟨cur'.setIfInBounds o u, heap_setCell_at u h1, by simpa using h2⟩
theorem SameShape.room {b : Nat} {w w' : World} {a : Option Addr} {n c : Nat} (h : SameShape b w w') (hr : Room w b a n c) : Room w' b a n c := fun hlt => by
  obtain ⟨r0, r1, r2, cur, r3, r4⟩ := hr hlt
  obtain ⟨cur', h1, h2⟩ := h cur r3
  exact ⟨r0, r1, r2, cur', h1, by omega⟩

set_option maxRecDepth 20000 in
set_option maxHeartbeats 400000 in
theorem markInt64S_any (b : Nat) (v : Value) (n : Nat) (f : Nat → Int) (k0 : Int) (w : World) (h1 : IntsOwn w b v n f) (hk0 : 0 ≤ k0) (hk1 : k0 + n ≤ 1000000000000) :
    Calls Tryz.prog 40 #[v, .int .i64 k0] w fun e w' => e = .returned (.int .i64 (k0 + n)) ∧ IntsOwn w' b v n (fun i => k0 + i) ∧ Turned (fun k => 0 < n ∧ k = b) w w' := by
  have h1' := h1
  obtain ⟨m1, a, c, rfl, mc, g1, hroom⟩ := h1
  have Hroom := hideM hroom
  clear hroom
  by_cases hn0 : n = 0
  · subst hn0
    go_enter Tryz.func40, Tryz.ntmps40
    go_wp2
    refine wp_loop_rounds 1 ?_
    rw [rounds_succ]
    go_wp2
    go_ret
    exact ⟨by simp, ⟨m1, a, c, rfl, mc, fun h => absurd h (by omega), Hroom.out⟩, Turned.refl _ _⟩
  · obtain ⟨off, rfl, g2⟩ := g1 (by omega)
    clear g1
    have hm1 := m1
    unfold maxLen at m1
    have G2 : Hid (∀ i, i < n → Cell w b (off + i) (.int .i64 (f i))) := g2
    clear g2 h1'
    go_enter Tryz.func40, Tryz.ntmps40
    go_wp2
    go_loopw [1, 5] (fun m i wr => ∃ k : Nat, k ≤ n ∧ i = .int .i64 k ∧ m = .int .i64 (k0 + k) ∧ (∀ j, j < n → Cell wr b (off + j) (.int .i64 (if j < k then k0 + j else f j))) ∧ Turned (fun k => 0 < n ∧ k = b) w wr ∧ SameShape b w wr) (fun _ i _ => n - (intOf i).toNat)
    case atStart => exact ⟨0, Nat.zero_le _, rfl, by simp, fun j hj => by simpa using G2.out j hj, Turned.refl _ _, SameShape.refl _ _⟩
    case round =>
      obtain ⟨k, hk, rfl, rfl, hall, ht, hsh⟩ := hrel
      have Hsh := hideM hsh
      clear hsh
      have Hall : Hid (∀ j, j < n → Cell wr b (off + j) (.int .i64 (if j < k then k0 + j else f j))) := hall
      clear hall
      by_cases hlt : k < n
      · have hlt' : (k : Int) < (n : Int) := by omega
        obtain ⟨hc, hf⟩ := Hall.out k hlt
        go_wp2
        go_roundw
        case rel =>
          refine ⟨k + 1, by omega, by go_num, by go_num, fun j hj => ?_, ht.setCell ⟨by omega, rfl⟩ _, Hsh.out.set _ _⟩
          by_cases e : j = k
          · subst e
            rw [if_pos (by omega)]
            exact (Hall.out j hj).set _
          · have := (Hall.out j hj).other (b' := b) (o' := off + k) (.int .i64 (k0 + k)) (Or.inr (by omega))
            by_cases e2 : j < k
            · rw [if_pos (by omega)]; rw [if_pos e2] at this; exact this
            · rw [if_neg (by omega)]; rw [if_neg e2] at this; exact this
        case measure => simp [intOf]; omega
      · obtain rfl : k = n := by omega
        go_wp2
        go_ret
        refine ⟨rfl, ⟨hm1, _, c, rfl, mc, fun _ => ⟨off, rfl, fun i hi => ?_⟩, Hsh.out.room Hroom.out⟩, ht⟩
        have := Hall.out i hi
        rw [if_pos hi] at this
        exact this

set_option maxRecDepth 20000 in
set_option maxHeartbeats 400000 in
theorem markPtrS_any (b : Nat) (v : Value) (n : Nat) (f g : Nat → Int) (k0 : Int) (w : World) (h1 : PtrsOwn w b v n f g) (hk0 : 0 ≤ k0) (hk1 : k0 + 2 * n ≤ 1000000000000) :
    Calls Tryz.prog 85 #[v, .int .i64 k0] w fun e w' => e = .returned (.int .i64 (k0 + 2 * n)) ∧ PtrsOwn w' b v n (fun i => k0 + 2 * i) (fun i => k0 + 2 * i + 1) ∧ Turned (fun k => 0 < n ∧ k = b) w w' := by
  have h1' := h1
  obtain ⟨m1, a, c, rfl, mc, g1⟩ := h1
  by_cases hn0 : n = 0
  · subst hn0
    go_enter Tryz.func85, Tryz.ntmps85
    go_wp2
    refine wp_loop_rounds 1 ?_
    rw [rounds_succ]
    go_wp2
    go_ret
    exact ⟨by simp, ⟨m1, a, c, rfl, mc, fun h => absurd h (by omega)⟩, Turned.refl _ _⟩
  · obtain ⟨off, rfl, g2⟩ := g1 (by omega)
    clear g1
    have hm1 := m1
    unfold maxLen at m1
    have G2 : Hid (∀ i, i < n → Cell w b (off + i * 2) (.int .i64 (f i)) ∧ Cell w b (off + i * 2 + 1) (.int .i64 (g i))) := g2
    clear g2 h1'
    go_enter Tryz.func85, Tryz.ntmps85
    go_wp2
    go_loopw [1, 5] (fun m i wr => ∃ k : Nat, k ≤ n ∧ i = .int .i64 k ∧ m = .int .i64 (k0 + 2 * k) ∧ (∀ j, j < n → Cell wr b (off + j * 2) (.int .i64 (if j < k then k0 + 2 * j else f j)) ∧ Cell wr b (off + j * 2 + 1) (.int .i64 (if j < k then k0 + 2 * j + 1 else g j))) ∧ Turned (fun k => 0 < n ∧ k = b) w wr) (fun _ i _ => n - (intOf i).toNat)
    case atStart => exact ⟨0, Nat.zero_le _, rfl, by simp, fun j hj => by simpa using G2.out j hj, Turned.refl _ _⟩
    case round =>
      obtain ⟨k, hk, rfl, rfl, hall, ht⟩ := hrel
      have Hall : Hid (∀ j, j < n → Cell wr b (off + j * 2) (.int .i64 (if j < k then k0 + 2 * j else f j)) ∧ Cell wr b (off + j * 2 + 1) (.int .i64 (if j < k then k0 + 2 * j + 1 else g j))) := hall
      clear hall
      by_cases hlt : k < n
      · have hlt' : (k : Int) < (n : Int) := by omega
        obtain ⟨⟨hc, hf⟩, ⟨hc2, hf2⟩⟩ := Hall.out k hlt
        go_wp2
        go_roundw
        case rel =>
          refine ⟨k + 1, by omega, by go_num, by go_num, fun j hj => ?_, (ht.setCell ⟨by omega, rfl⟩ _).setCell ⟨by omega, rfl⟩ _⟩
          by_cases e : j = k
          · subst e
            rw [if_pos (by omega), if_pos (by omega)]
            exact ⟨((Hall.out j hj).1.set _).other _ (Or.inr (by omega)), ((Hall.out j hj).2.other _ (Or.inr (by omega))).set _⟩
          · have t1 := ((Hall.out j hj).1.other (b' := b) (o' := off + k * 2) (.int .i64 (k0 + 2 * k)) (Or.inr (by omega))).other (b' := b) (o' := off + k * 2 + 1) (.int .i64 (k0 + 2 * k + 1)) (Or.inr (by omega))
            have t2 := ((Hall.out j hj).2.other (b' := b) (o' := off + k * 2) (.int .i64 (k0 + 2 * k)) (Or.inr (by omega))).other (b' := b) (o' := off + k * 2 + 1) (.int .i64 (k0 + 2 * k + 1)) (Or.inr (by omega))
            by_cases e2 : j < k
            · rw [if_pos (by omega), if_pos (by omega)]; rw [if_pos e2] at t1 t2; exact ⟨t1, t2⟩
            · rw [if_neg (by omega), if_neg (by omega)]; rw [if_neg e2] at t1 t2; exact ⟨t1, t2⟩
        case measure => simp [intOf]; omega
      · obtain rfl : k = n := by omega
        go_wp2
        go_ret
        refine ⟨rfl, ⟨hm1, _, c, rfl, mc, fun _ => ⟨off, rfl, fun i hi => ?_⟩⟩, ht⟩
        have := Hall.out i hi
        rw [if_pos hi, if_pos hi] at this
        exact this

/-- Where the marks of the slot j begin. -/
def cntSl (f : Nat → SlotD) (k0 : Int) : Nat → Int
  | 0 => k0
  | j + 1 => cntSl f k0 j + 2 + 2 * (f j).kn

/-- A slot with its marks from c on. -/
def marked (s : SlotD) (c : Int) : SlotD := { birth := c, kn := s.kn, ks := fun i => c + 1 + 2 * i, kb := fun i => c + 1 + 2 * i + 1, data := mtF (c + 1 + 2 * s.kn) }

theorem cntSl_mono (f : Nat → SlotD) (k0 : Int) (j : Nat) : ∀ m, cntSl f k0 j ≤ cntSl f k0 (j + m)
  | 0 => Int.le_refl _
  | m + 1 => by
    have := cntSl_mono f k0 j m
    show _ ≤ cntSl f k0 (j + m) + 2 + 2 * ((f (j + m)).kn : Int)
    omega

theorem cntSl_le (f : Nat → SlotD) (k0 : Int) {j n : Nat} (h : j ≤ n) : cntSl f k0 j ≤ cntSl f k0 n := by
  obtain ⟨m, rfl⟩ := Nat.exists_eq_add_of_le h
  exact cntSl_mono f k0 j m

def markS (f : Nat → SlotD) (k0 : Int) (j : Nat) : SlotD := marked (f j) (cntSl f k0 j)

theorem slots_step {w w1 w2 : World} {bs off : Nat} {kb : Nat → Nat} {kv : Nat → Value} {n k : Nat} {f : Nat → SlotD} {s' : SlotD}
    (h : ∀ j, j < n → SlotOwn w bs (off + j * 3) (kb j) (kv j) (f j)) (hap : KidsApart kb n f) (hk : k < n)
    (t1 : Turned (fun b => 0 < (f k).kn ∧ b = kb k) (w.setCell ⟨bs, off + k * 3, none⟩ (.int .i64 s'.birth)) w1) (t2 : Below w1.heap.size w1 w2)
    (hkn : s'.kn = (f k).kn) (hp : PtrsOwn w1 (kb k) (kv k) s'.kn s'.ks s'.kb) (hs : s'.data.size ≤ maxLen) :
    ∀ j, j < n → SlotOwn (w2.setCell ⟨bs, off + k * 3 + 2, none⟩ (.string s'.data)) bs (off + j * 3) (kb j) (kv j) (if j = k then s' else f j) := by
  intro j hj
  have nb : ¬ (0 < (f k).kn ∧ bs = kb k) := fun hx => (h k hk).apart hx.1 hx.2.symm
  by_cases e : j = k
  · subst e
    rw [if_pos rfl]
    have hj' := h j hj
    refine ⟨?_, ?_, ?_, ?_, hs, ?_⟩
    · exact (((hj'.birth.set _).turned t1 nb).below t2).other _ (Or.inr (by omega))
    · exact (((hj'.kidsv.other _ (Or.inr (by omega))).turned t1 nb).below t2).other _ (Or.inr (by omega))
    · exact (((hj'.data.other _ (Or.inr (by omega))).turned t1 nb).below t2).set _
    · refine (hp.below t2).turned (Turned.put _ _ _ _) (fun h0 hx => ?_)
      exact hj'.apart (hkn ▸ h0) hx
    · rw [hkn]; exact hj'.apart
  · rw [if_neg e]
    have hj' := h j hj
    have c0 := hj'.birth.other (b' := bs) (o' := off + k * 3) (.int .i64 s'.birth) (Or.inr (by omega))
    have c1 := hj'.kidsv.other (b' := bs) (o' := off + k * 3) (.int .i64 s'.birth) (Or.inr (by omega))
    have c2 := hj'.data.other (b' := bs) (o' := off + k * 3) (.int .i64 s'.birth) (Or.inr (by omega))
    have c3 := hj'.kids.turned (Turned.put w bs (off + k * 3) (.int .i64 s'.birth)) (fun h0 hx => hj'.apart h0 hx)
    refine ⟨?_, ?_, ?_, ?_, hj'.small, hj'.apart⟩
    · exact ((c0.turned t1 nb).below t2).other _ (Or.inr (by omega))
    · exact ((c1.turned t1 nb).below t2).other _ (Or.inr (by omega))
    · exact ((c2.turned t1 nb).below t2).other _ (Or.inr (by omega))
    · refine ((c3.turned t1 (fun h0 hx => hap j k hj hk e h0 hx.1 hx.2)).below t2).turned (Turned.put _ _ _ _) (fun h0 hx => hj'.apart h0 hx)

theorem stS_start (f : Nat → SlotD) (k0 : Int) (j : Nat) : (if j < 0 then markS f k0 j else f j) = f j := if_neg (by omega)
theorem stS_kn (f : Nat → SlotD) (k0 : Int) (k j : Nat) : (if j < k then markS f k0 j else f j).kn = (f j).kn := by split <;> rfl

set_option maxRecDepth 20000 in
set_option maxHeartbeats 1000000 in
theorem markSlotS_any (bs : Nat) (kb : Nat → Nat) (kv : Nat → Value) (v : Value) (n : Nat) (f : Nat → SlotD) (k0 : Int) (w : World) (h1 : SlotsOwn w bs kb kv v n f) (hap : KidsApart kb n f) (hk0 : 0 ≤ k0) (hk1 : cntSl f k0 n ≤ 1000000000000) :
    Calls Tryz.prog 133 #[v, .int .i64 k0] w fun e w' => e = .returned (.int .i64 (cntSl f k0 n)) ∧ SlotsOwn w' bs kb kv v n (markS f k0) ∧ Turned (SlotsB bs kb n f) w w' := by
  obtain ⟨m1, a, c, rfl, mc, g1⟩ := h1
  by_cases hn0 : n = 0
  · subst hn0
    go_enter Tryz.func133, Tryz.ntmps133
    go_wp2
    refine wp_loop_rounds 1 ?_
    rw [rounds_succ]
    go_wp2
    go_ret
    exact ⟨by simp [cntSl], ⟨m1, a, c, rfl, mc, fun h => absurd h (by omega)⟩, Turned.refl _ _⟩
  · obtain ⟨off, rfl, g2⟩ := g1 (by omega)
    clear g1
    have hm1 := m1
    unfold maxLen at m1
    have G2 : Hid (∀ j, j < n → SlotOwn w bs (off + j * 3) (kb j) (kv j) (f j)) := g2
    have Hap : Hid (KidsApart kb n f) := hap
    have Hk1 : Hid (cntSl f k0 n ≤ 1000000000000) := hk1
    clear g2 hap hk1
    go_enter Tryz.func133, Tryz.ntmps133
    go_wp2
    go_loopw [1, 5] (fun m i wr => ∃ k : Nat, k ≤ n ∧ i = .int .i64 k ∧ m = .int .i64 (cntSl f k0 k) ∧ (∀ j, j < n → SlotOwn wr bs (off + j * 3) (kb j) (kv j) (if j < k then markS f k0 j else f j)) ∧ Turned (SlotsB bs kb n f) w wr) (fun _ i _ => n - (intOf i).toNat)
    case atStart => exact ⟨0, Nat.zero_le _, rfl, rfl, fun j hj => by rw [stS_start]; exact G2.out j hj, Turned.refl _ _⟩
    case round =>
      obtain ⟨k, hk, rfl, rfl, hall, ht⟩ := hrel
      have Hall : Hid (∀ j, j < n → SlotOwn wr bs (off + j * 3) (kb j) (kv j) (if j < k then markS f k0 j else f j)) := hall
      clear hall
      by_cases hlt : k < n
      · have hlt' : (k : Int) < (n : Int) := by omega
        have hs := Hall.out k hlt
        rw [if_neg (by omega)] at hs
        have hc0 : k0 ≤ cntSl f k0 k := cntSl_le f k0 (Nat.zero_le k)
        have hc1 : cntSl f k0 k + 2 + 2 * ((f k).kn : Int) ≤ 1000000000000 := Int.le_trans (cntSl_le f k0 (show k + 1 ≤ n from hlt)) Hk1.out
        obtain ⟨hb0, hf0⟩ := hs.birth
        obtain ⟨hb1, hf1⟩ := hs.kidsv
        obtain ⟨hb2, hf2⟩ := hs.data
        have Hs : Hid (SlotOwn wr bs (off + k * 3) (kb k) (kv k) (f k)) := hs
        obtain ⟨_, ka, kc, hkv, _⟩ := hs.kids
        clear hs
        generalize hx : kv k = kvk at *
        have Hx : Hid (kv k = kvk) := hx
        clear hx
        subst hkv
        go_wp2_with fail
        refine (markPtrS_any (kb k) _ (f k).kn (f k).ks (f k).kb _ _ ?p1 ?p2 ?p3).mono ?_
        case p1 => exact Hs.out.kids.turned (Turned.put _ _ _ _) (fun h0 hx => Hs.out.apart h0 hx)
        case p2 => omega
        case p3 => omega
        rintro e w1 ⟨rfl, hp1, ht1⟩
        have nb : ¬ (0 < (f k).kn ∧ bs = kb k) := fun hx => Hs.out.apart hx.1 hx.2.symm
        have Hd := ((Hs.out.data.other (b' := bs) (o' := off + k * 3) (.int .i64 (cntSl f k0 k)) (Or.inr (by omega))).turned ht1 nb)
        have Hp1 : Hid (PtrsOwn w1 (kb k) (.slice ka (f k).kn kc) (f k).kn (fun i => cntSl f k0 k + 1 + 2 * i) (fun i => cntSl f k0 k + 1 + 2 * i + 1)) := hp1
        clear nb hp1 hb0 hf0 hb1 hf1 hb2 hf2
        go_wp2_with fail
        refine (markText_any _ _ (by omega)).mono ?_
        rintro e w2 ⟨rfl, hb2⟩
        obtain ⟨hd2, hf2⟩ := Hd.below hb2
        clear Hd
        go_wp2
        go_roundw
        case rel =>
          refine ⟨k + 1, by omega, by go_num, congrArg (Value.int .i64) (by show _ = cntSl f k0 k + 2 + 2 * ((f k).kn : Int); omega), fun j hj => ?_, ?_⟩
          · have st := slots_step (s' := markS f k0 k) Hall.out (by
                intro i j hi hj hij h1 h2
                rw [stS_kn] at h1 h2
                exact Hap.out i j hi hj hij h1 h2) hlt (by rw [if_neg (Nat.lt_irrefl k)]; exact ht1) hb2 (by rw [if_neg (Nat.lt_irrefl k)]; rfl) (by rw [Hx.out]; exact Hp1.out) (mtF_size (by omega)) j hj
            by_cases e : j = k
            · subst e
              rw [if_pos rfl] at st
              rw [if_pos (by omega)]
              exact st
            · rw [if_neg e] at st
              by_cases e2 : j < k
              · rw [if_pos e2] at st; rw [if_pos (by omega)]; exact st
              · rw [if_neg e2] at st; rw [if_neg (by omega)]; exact st
          · refine (((ht.setCell (Or.inl ⟨by omega, rfl⟩) _).trans (ht1.mono ?_)).trans (Turned.of_below hb2)).setCell (Or.inl ⟨by omega, rfl⟩) _
            rintro b ⟨hb, rfl⟩
            exact Or.inr ⟨k, hlt, hb, rfl⟩
        case measure => simp [intOf]; omega
      · obtain rfl : k = n := by omega
        go_wp2
        go_ret
        refine ⟨rfl, ⟨hm1, _, c, rfl, mc, fun _ => ⟨off, rfl, fun i hi => ?_⟩⟩, ht⟩
        have := Hall.out i hi
        rw [if_pos hi] at this
        exact this

end Go.Proofs.YtjpbmpjddbekgaaGreat

namespace Go.Proofs.YtjpbmpjddbekgaaGreat
open Go.RowKit
set_option linter.unusedVariables false

set_option maxRecDepth 20000 in
set_option maxHeartbeats 400000 in
theorem markPool_any (bs hb : Nat) (kb : Nat → Nat) (kv : Nat → Value) (v0 v1 : Value) (p : PoolD) (k0 : Int) (w : World)
    (h1 : SlotsOwn w bs kb kv v0 p.n p.s) (hap : KidsApart kb p.n p.s) (h2 : IntsOwn w hb v1 p.hn p.h) (hd : 0 < p.hn → ¬ SlotsB bs kb p.n p.s hb)
    (hk0 : 0 ≤ k0) (hk1 : cntSl p.s k0 p.n + p.hn ≤ 1000000000000) :
    Calls Tryz.prog 82 #[.agg #[v0, v1], .int .i64 k0] w fun e w' => e = .returned (.int .i64 (cntSl p.s k0 p.n + p.hn)) ∧ SlotsOwn w' bs kb kv v0 p.n (markS p.s k0) ∧ IntsOwn w' hb v1 p.hn (fun i => cntSl p.s k0 p.n + i) ∧
      Turned (fun k => SlotsB bs kb p.n p.s k ∨ (0 < p.hn ∧ k = hb)) w w' := by
  have q1 := h1
  have q2 := h2
  obtain ⟨_, a, c, rfl, _⟩ := h1
  obtain ⟨_, a', c', rfl, _⟩ := h2
  have Hk : Hid (cntSl p.s k0 p.n + p.hn ≤ 1000000000000) := hk1
  have hk00 : Hid (k0 ≤ cntSl p.s k0 p.n) := cntSl_le p.s k0 (Nat.zero_le p.n)
  clear hk1
  go_enter Tryz.func82, Tryz.ntmps82
  go_wp2_with fail
  have hbw := (Below.refl w.heap.size w).alloc (Nat.le_refl _) (.cells #[.slice a p.n c, .slice a' p.hn c'] 34)
  refine (markSlotS_any bs kb kv _ p.n p.s _ _ (q1.below hbw) hap hk0 (by have := Hk.out; omega)).mono ?_
  rintro e w1 ⟨rfl, hs1, ht1⟩
  have nb : ¬ SlotsB bs kb p.n p.s w.heap.size := fun x => Nat.lt_irrefl _ (q1.lt x)
  have e1 := ht1.cell (b := w.heap.size) (o := 1) (by simp) nb
  simp at e1
  go_wp2_with fail
  refine (markInt64S_any hb _ p.hn p.h _ _ ((q2.below hbw).turned ht1 hd) (by have := hk00.out; omega) Hk.out).mono ?_
  rintro e w2 ⟨rfl, hs2, ht2⟩
  go_wp2
  go_ret
  refine ⟨rfl, ?_, hs2, ?_⟩
  · refine hs1.turned ht2 (fun h0 hx => ?_) (fun i hi h0 hx => ?_)
    · exact hd hx.1 (Or.inl ⟨h0, hx.2.symm⟩)
    · exact hd hx.1 (Or.inr ⟨i, hi, h0, hx.2.symm⟩)
  · exact ((Turned.of_below hbw).trans (ht1.mono fun k h => Or.inl h)).trans (ht2.mono fun k h => Or.inr h)

/-- A pool with its marks from k0 on, and how many there are. -/
def markP (p : PoolD) (k0 : Int) : PoolD := { n := p.n, s := markS p.s k0, hn := p.hn, h := fun i => cntSl p.s k0 p.n + i }
def endP (p : PoolD) (k0 : Int) : Int := cntSl p.s k0 p.n + p.hn

theorem markPool_own (lo hi : Nat) (v0 v1 : Value) (p : PoolD) (k0 : Int) (w : World) (h : PoolOwn w lo hi v0 v1 p) (hk0 : 0 ≤ k0) (hk1 : endP p k0 ≤ 1000000000000) :
    Calls Tryz.prog 82 #[.agg #[v0, v1], .int .i64 k0] w fun e w' => e = .returned (.int .i64 (endP p k0)) ∧ PoolOwn w' lo hi v0 v1 (markP p k0) ∧ Turned (fun k => lo ≤ k ∧ k < hi) w w' := by
  obtain ⟨bs, hb, kb, kv, h1, h2, h3, h4, h5⟩ := h
  refine (markPool_any bs hb kb kv v0 v1 p k0 w h1 h2 h3 h4 hk0 hk1).mono ?_
  rintro e w' ⟨rfl, g1, g2, g3⟩
  exact ⟨rfl, ⟨bs, hb, kb, kv, g1, h2, g2, h4, h5⟩, g3.mono h5⟩

end Go.Proofs.YtjpbmpjddbekgaaGreat
