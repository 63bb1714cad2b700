/- How great the answers of TreeWrite and TreeTrim are (no law is proved here). -/
import Derived.Test.YtikhipekmlhibaeG17
import Derived.Test.YtikhipekmlhibaeRows
import Derived.Test.YtikhipekmlhibaeG2
import Derived.Deep.RegionHeld3
import Derived.Deep.QuietTactic
import Derived.BigQuiet
namespace Go.Proofs.Ytikhipekmlhibae
open Go Go.RowKit
set_option linter.unusedVariables false

theorem lay_pool (p : PoolD) (xs xb : Int) (n : Nat) (b : Int) (o : OutD) : poolN (layP p xs xb n b o).pool ≤ poolN o.pool + 16 ∧ (layP p xs xb n b o).old.length ≤ 3 := by
  have h2 := lay_small p xs xb n b o 2
  have h3 : (oldW p xs xb n 3).length ≤ 3 := kidsUp_len _ _ 3
  unfold layP
  split
  · exact ⟨Nat.zero_le _, Nat.zero_le _⟩
  · split
    · exact ⟨Nat.zero_le _, Nat.zero_le _⟩
    · exact ⟨by show poolN (layS p xs xb n b o 2).pool ≤ _; omega, h3⟩
theorem write_small (p : PoolD) (xs xb page : Int) (d : ByteArray) (b : Int) : poolN (writeT p xs xb page d b).pool ≤ poolN p + 40 ∧ (writeT p xs xb page d b).old.length ≤ 3 := by
  unfold writeT
  split
  · exact ⟨Nat.zero_le _, Nat.zero_le _⟩
  · split
    · split
      · rename_i hd
        split
        · have h1 := lay_pool p xs xb page.toNat b ⟨(takeP p (slotG b d)).pool, (takeP p (slotG b d)).ps, (takeP p (slotG b d)).pb, 0⟩
          have h2 := take_small p (slotG b d)
          have h3 : slotN (slotG b d) = 16 := by show 0 + d.size = 16; rw [hd.2]
          exact ⟨by have h4 := h1.1; simp only at h4; omega, h1.2⟩
        · exact ⟨Nat.zero_le _, Nat.zero_le _⟩
      · exact ⟨Nat.zero_le _, Nat.zero_le _⟩
    · exact ⟨Nat.zero_le _, Nat.zero_le _⟩
theorem trim_small (p : PoolD) (xs xb page b : Int) : poolN (trimT p xs xb page b).pool ≤ poolN p + 40 ∧ (trimT p xs xb page b).old.length ≤ 3 := by
  unfold trimT
  split
  · split
    · split
      · exact ⟨Nat.zero_le _, Nat.zero_le _⟩
      · have h1 := lay_pool p xs xb page.toNat b ⟨p, 0, 0, 0⟩
        exact ⟨by have h4 := h1.1; simp only at h4; omega, h1.2⟩
    · exact ⟨Nat.zero_le _, Nat.zero_le _⟩
  · exact ⟨Nat.zero_le _, Nat.zero_le _⟩

end Go.Proofs.Ytikhipekmlhibae

namespace Go.Proofs.Ytikhipekmlhibae
open Go.RowKit
set_option linter.unusedVariables false

/-- The digits of k ahead of out. -/
def mtLoop (k : Nat) (out : ByteArray) : ByteArray :=
  if h : k = 0 then out else mtLoop (k / 10) (⟨#[48 + UInt8.ofNat (k % 10)]⟩ ++ out)
termination_by k
decreasing_by omega

def mtF (k : Int) : ByteArray := if k ≤ 0 then ⟨#[109, 48]⟩ else ⟨#[109]⟩ ++ mtLoop k.toNat ⟨#[]⟩

theorem mt_start {n : Nat} (h : (n : Int) ≤ 1000000000000) : n < 10 ^ (13 - (⟨#[]⟩ : ByteArray).size) := by
  show n < 10 ^ 13
  omega

theorem size_one (x : UInt8) (out : ByteArray) : ((⟨#[x]⟩ : ByteArray) ++ out).size = out.size + 1 := by
  rw [ByteArray.size_append]
  show 1 + out.size = _
  omega

theorem mt_bound {m : Nat} {out : ByteArray} (h : m < 10 ^ (13 - out.size)) : m ≤ 10000000000000 := by
  have h2 : 10 ^ (13 - out.size) ≤ 10 ^ 13 := Nat.pow_le_pow_right (by omega) (by omega)
  omega

theorem mt_next {m : Nat} {out : ByteArray} (x : UInt8) (h0 : ¬ m = 0) (h : m < 10 ^ (13 - out.size)) (h2 : out.size ≤ 13) :
    m / 10 < 10 ^ (13 - ((⟨#[x]⟩ : ByteArray) ++ out).size) ∧ ((⟨#[x]⟩ : ByteArray) ++ out).size ≤ 13 := by
  rw [size_one]
  by_cases e : out.size = 13
  · rw [e] at h; simp at h; omega
  · obtain ⟨j, hj⟩ : ∃ j, 13 - out.size = j + 1 := ⟨12 - out.size, by omega⟩
    rw [hj, Nat.pow_succ] at h
    have : 13 - (out.size + 1) = j := by omega
    rw [this]
    exact ⟨by omega, by omega⟩

theorem mt_step {m : Nat} {out : ByteArray} (h0 : ¬ m = 0) : mtLoop (m / 10) (⟨#[48 + UInt8.ofNat (m % 10)]⟩ ++ out) = mtLoop m out := by
  conv => rhs; rw [mtLoop]
  rw [dif_neg h0]

theorem mt_size (m : Nat) : ∀ (out : ByteArray), m < 10 ^ (13 - out.size) → out.size ≤ 13 → (mtLoop m out).size ≤ 13 := by
  induction m using Nat.strongRecOn with
  | _ m ih =>
    intro out h h2
    by_cases h0 : m = 0
    · rw [mtLoop, dif_pos h0]; exact h2
    · rw [mtLoop, dif_neg h0]
      have := mt_next (48 + UInt8.ofNat (m % 10)) h0 h h2
      exact ih (m / 10) (by omega) _ this.1 this.2

theorem mtF_size {k : Int} (hk : k ≤ 1000000000000) : (mtF k).size ≤ maxLen := by
  unfold mtF maxLen
  split
  · decide
  · have h : (mtLoop k.toNat ⟨#[]⟩).size ≤ 13 := mt_size _ _ (mt_start (by omega)) (Nat.zero_le _)
    rw [size_one]
    omega

theorem conv_one (w : World) (n : Int) : (convert 123 9 (.slice (some ⟨w.heap.size, 0, none⟩) 1 1)).run Try.prog (w.alloc (.cells #[.int .u8 n] 5)) = .ok (.string ⟨#[UInt8.ofNat n.toNat]⟩) (w.alloc (.cells #[.int .u8 n] 5)) :=
  run_convert_bytes_arg (P := Try.prog) (w.alloc (.cells #[.int .u8 n] 5)) 123 5 (by kernel_rfl) (by kernel_rfl) w.heap.size 0 1 1 [n] rfl (fun i hi => by
    obtain rfl : i = 0 := by omega
    simp) 9 (by kernel_rfl)

set_option maxRecDepth 20000 in
set_option maxHeartbeats 400000 in
theorem markText_any (k : Int) (w : World) (hk : k ≤ 1000000000000) :
    Calls Try.prog 91 #[.int .i64 k] w fun e w' => e = .returned (.string (mtF k)) ∧ Below w.heap.size w w' := by
  by_cases h0 : k ≤ 0
  · have hm : Hid (mtF k = ⟨#[109, 48]⟩) := if_pos h0
    go_enter Try.func91, Try.ntmps91
    go_wp2
    go_ret
    exact ⟨by rw [hm.out]; rfl, Below.refl _ _⟩
  · obtain ⟨n, rfl⟩ := Int.eq_ofNat_of_zero_le (by omega : 0 ≤ k)
    have hm : Hid (mtF (n : Int) = ⟨#[109]⟩ ++ mtLoop n ⟨#[]⟩) := if_neg h0
    have hst : Hid (n < 10 ^ (13 - (⟨#[]⟩ : ByteArray).size)) := mt_start hk
    have hcv := conv_one
    go_enter Try.func91, Try.ntmps91
    go_wp2
    go_loopw [0, 3] (fun v s wr => ∃ (m : Nat) (out : ByteArray), v = .int .i64 m ∧ s = .string out ∧ m < 10 ^ (13 - out.size) ∧ out.size ≤ 13 ∧ mtLoop m out = mtLoop n ⟨#[]⟩ ∧ Below w.heap.size w wr) (fun v _ _ => (intOf v).toNat)
    case atStart => exact ⟨n, ⟨#[]⟩, rfl, rfl, hst.out, Nat.zero_le _, rfl, Below.refl _ _⟩
    case round =>
      obtain ⟨m, out, rfl, rfl, hm1, hm2, hm3, hb⟩ := hrel
      have Hm3 : Hid (m < 10 ^ (13 - out.size) ∧ mtLoop m out = mtLoop n ⟨#[]⟩) := ⟨hm1, hm3⟩
      have hmb := mt_bound hm1
      clear hm1 hm3
      by_cases hz : m = 0
      · subst hz
        go_wp2
        go_ret
        refine ⟨?_, hb⟩
        have e1 := Hm3.out.2
        rw [mtLoop, dif_pos rfl] at e1
        rw [hm.out, ← e1]
        rfl
      · have hz' : (0 : Int) < (m : Int) := by omega
        have Hz : Hid (¬ m = 0) := hz
        clear hz
        go_wp2
        go_roundw
        case rel =>
          have hn := mt_next (48 + UInt8.ofNat (m % 10)) Hz.out Hm3.out.1 hm2
          exact ⟨m / 10, _, by go_num, rfl, hn.1, hn.2, (mt_step Hz.out).trans Hm3.out.2, hb.alloc hb.size _⟩
        case measure => simp [intOf]; omega

theorem hideM {P : Prop} (h : P) : Hid P := h

/-- A block of numbers stays one, as great as it was. -/
def SameShape (b : Nat) (w w' : World) : Prop := ∀ cur, w.heap[b]? = some (.cells cur 2 (0, 0)) → ∃ cur', w'.heap[b]? = some (.cells cur' 2 (0, 0)) ∧ cur'.size = cur.size
theorem SameShape.refl (b : Nat) (w : World) : SameShape b w w := fun cur h => ⟨cur, h, rfl⟩
theorem SameShape.set {b : Nat} {w w' : World} (h : SameShape b w w') (o : Nat) (u : Value) : SameShape b w (w'.setCell ⟨b, o, none⟩ u) := fun cur hc => by
  obtain ⟨cur', h1, h2⟩ := h cur hc
  exact ⟨cur'.setIfInBounds o u, heap_setCell_at u h1, by simpa using h2⟩
theorem SameShape.room {b : Nat} {w w' : World} {a : Option Addr} {n c : Nat} (h : SameShape b w w') (hr : Room w b a n c) : Room w' b a n c := fun hlt => by
  obtain ⟨r0, r1, r2, cur, r3, r4⟩ := hr hlt
  obtain ⟨cur', h1, h2⟩ := h cur r3
  exact ⟨r0, r1, r2, cur', h1, by omega⟩

set_option maxRecDepth 20000 in
set_option maxHeartbeats 400000 in
theorem markInt64S_any (b : Nat) (v : Value) (n : Nat) (f : Nat → Int) (k0 : Int) (w : World) (h1 : IntsOwn w b v n f) (hk0 : 0 ≤ k0) (hk1 : k0 + n ≤ 1000000000000) :
    Calls Try.prog 60 #[v, .int .i64 k0] w fun e w' => e = .returned (.int .i64 (k0 + n)) ∧ IntsOwn w' b v n (fun i => k0 + i) ∧ Turned (fun k => 0 < n ∧ k = b) w w' := by
  have h1' := h1
  obtain ⟨m1, a, c, rfl, mc, g1, hroom⟩ := h1
  have Hroom := hideM hroom
  clear hroom
  by_cases hn0 : n = 0
  · subst hn0
    go_enter Try.func60, Try.ntmps60
    go_wp2
    refine wp_loop_rounds 1 ?_
    rw [rounds_succ]
    go_wp2
    go_ret
    exact ⟨by simp, ⟨m1, a, c, rfl, mc, fun h => absurd h (by omega), Hroom.out⟩, Turned.refl _ _⟩
  · obtain ⟨off, rfl, g2⟩ := g1 (by omega)
    clear g1
    have hm1 := m1
    unfold maxLen at m1
    have G2 : Hid (∀ i, i < n → Cell w b (off + i) (.int .i64 (f i))) := g2
    clear g2 h1'
    go_enter Try.func60, Try.ntmps60
    go_wp2
    go_loopw [1, 5] (fun m i wr => ∃ k : Nat, k ≤ n ∧ i = .int .i64 k ∧ m = .int .i64 (k0 + k) ∧ (∀ j, j < n → Cell wr b (off + j) (.int .i64 (if j < k then k0 + j else f j))) ∧ Turned (fun k => 0 < n ∧ k = b) w wr ∧ SameShape b w wr) (fun _ i _ => n - (intOf i).toNat)
    case atStart => exact ⟨0, Nat.zero_le _, rfl, by simp, fun j hj => by simpa using G2.out j hj, Turned.refl _ _, SameShape.refl _ _⟩
    case round =>
      obtain ⟨k, hk, rfl, rfl, hall, ht, hsh⟩ := hrel
      have Hsh := hideM hsh
      clear hsh
      have Hall : Hid (∀ j, j < n → Cell wr b (off + j) (.int .i64 (if j < k then k0 + j else f j))) := hall
      clear hall
      by_cases hlt : k < n
      · have hlt' : (k : Int) < (n : Int) := by omega
        obtain ⟨hc, hf⟩ := Hall.out k hlt
        go_wp2
        go_roundw
        case rel =>
          refine ⟨k + 1, by omega, by go_num, by go_num, fun j hj => ?_, ht.setCell ⟨by omega, rfl⟩ _, Hsh.out.set _ _⟩
          by_cases e : j = k
          · subst e
            rw [if_pos (by omega)]
            exact (Hall.out j hj).set _
          · have := (Hall.out j hj).other (b' := b) (o' := off + k) (.int .i64 (k0 + k)) (Or.inr (by omega))
            by_cases e2 : j < k
            · rw [if_pos (by omega)]; rw [if_pos e2] at this; exact this
            · rw [if_neg (by omega)]; rw [if_neg e2] at this; exact this
        case measure => simp [intOf]; omega
      · obtain rfl : k = n := by omega
        go_wp2
        go_ret
        refine ⟨rfl, ⟨hm1, _, c, rfl, mc, fun _ => ⟨off, rfl, fun i hi => ?_⟩, Hsh.out.room Hroom.out⟩, ht⟩
        have := Hall.out i hi
        rw [if_pos hi] at this
        exact this

set_option maxRecDepth 20000 in
set_option maxHeartbeats 400000 in
theorem markPtrS_any (b : Nat) (v : Value) (n : Nat) (f g : Nat → Int) (k0 : Int) (w : World) (h1 : PtrsOwn w b v n f g) (hk0 : 0 ≤ k0) (hk1 : k0 + 2 * n ≤ 1000000000000) :
    Calls Try.prog 24 #[v, .int .i64 k0] w fun e w' => e = .returned (.int .i64 (k0 + 2 * n)) ∧ PtrsOwn w' b v n (fun i => k0 + 2 * i) (fun i => k0 + 2 * i + 1) ∧ Turned (fun k => 0 < n ∧ k = b) w w' := by
  have h1' := h1
  obtain ⟨m1, a, c, rfl, mc, g1⟩ := h1
  by_cases hn0 : n = 0
  · subst hn0
    go_enter Try.func24, Try.ntmps24
    go_wp2
    refine wp_loop_rounds 1 ?_
    rw [rounds_succ]
    go_wp2
    go_ret
    exact ⟨by simp, ⟨m1, a, c, rfl, mc, fun h => absurd h (by omega)⟩, Turned.refl _ _⟩
  · obtain ⟨off, rfl, g2⟩ := g1 (by omega)
    clear g1
    have hm1 := m1
    unfold maxLen at m1
    have G2 : Hid (∀ i, i < n → Cell w b (off + i * 2) (.int .i64 (f i)) ∧ Cell w b (off + i * 2 + 1) (.int .i64 (g i))) := g2
    clear g2 h1'
    go_enter Try.func24, Try.ntmps24
    go_wp2
    go_loopw [1, 5] (fun m i wr => ∃ k : Nat, k ≤ n ∧ i = .int .i64 k ∧ m = .int .i64 (k0 + 2 * k) ∧ (∀ j, j < n → Cell wr b (off + j * 2) (.int .i64 (if j < k then k0 + 2 * j else f j)) ∧ Cell wr b (off + j * 2 + 1) (.int .i64 (if j < k then k0 + 2 * j + 1 else g j))) ∧ Turned (fun k => 0 < n ∧ k = b) w wr) (fun _ i _ => n - (intOf i).toNat)
    case atStart => exact ⟨0, Nat.zero_le _, rfl, by simp, fun j hj => by simpa using G2.out j hj, Turned.refl _ _⟩
    case round =>
      obtain ⟨k, hk, rfl, rfl, hall, ht⟩ := hrel
      have Hall : Hid (∀ j, j < n → Cell wr b (off + j * 2) (.int .i64 (if j < k then k0 + 2 * j else f j)) ∧ Cell wr b (off + j * 2 + 1) (.int .i64 (if j < k then k0 + 2 * j + 1 else g j))) := hall
      clear hall
      by_cases hlt : k < n
      · have hlt' : (k : Int) < (n : Int) := by omega
        obtain ⟨⟨hc, hf⟩, ⟨hc2, hf2⟩⟩ := Hall.out k hlt
        go_wp2
        go_roundw
        case rel =>
          refine ⟨k + 1, by omega, by go_num, by go_num, fun j hj => ?_, (ht.setCell ⟨by omega, rfl⟩ _).setCell ⟨by omega, rfl⟩ _⟩
          by_cases e : j = k
          · subst e
            rw [if_pos (by omega), if_pos (by omega)]
            exact ⟨((Hall.out j hj).1.set _).other _ (Or.inr (by omega)), ((Hall.out j hj).2.other _ (Or.inr (by omega))).set _⟩
          · have t1 := ((Hall.out j hj).1.other (b' := b) (o' := off + k * 2) (.int .i64 (k0 + 2 * k)) (Or.inr (by omega))).other (b' := b) (o' := off + k * 2 + 1) (.int .i64 (k0 + 2 * k + 1)) (Or.inr (by omega))
            have t2 := ((Hall.out j hj).2.other (b' := b) (o' := off + k * 2) (.int .i64 (k0 + 2 * k)) (Or.inr (by omega))).other (b' := b) (o' := off + k * 2 + 1) (.int .i64 (k0 + 2 * k + 1)) (Or.inr (by omega))
            by_cases e2 : j < k
            · rw [if_pos (by omega), if_pos (by omega)]; rw [if_pos e2] at t1 t2; exact ⟨t1, t2⟩
            · rw [if_neg (by omega), if_neg (by omega)]; rw [if_neg e2] at t1 t2; exact ⟨t1, t2⟩
        case measure => simp [intOf]; omega
      · obtain rfl : k = n := by omega
        go_wp2
        go_ret
        refine ⟨rfl, ⟨hm1, _, c, rfl, mc, fun _ => ⟨off, rfl, fun i hi => ?_⟩⟩, ht⟩
        have := Hall.out i hi
        rw [if_pos hi, if_pos hi] at this
        exact this

/-- Where the marks of the slot j begin. -/
def cnt (f : Nat → SlotD) (k0 : Int) : Nat → Int
  | 0 => k0
  | j + 1 => cnt f k0 j + 2 + 2 * (f j).kn

/-- A slot with its marks from c on. -/
def marked (s : SlotD) (c : Int) : SlotD := { birth := c, kn := s.kn, ks := fun i => c + 1 + 2 * i, kb := fun i => c + 1 + 2 * i + 1, data := mtF (c + 1 + 2 * s.kn) }

theorem cnt_mono (f : Nat → SlotD) (k0 : Int) (j : Nat) : ∀ m, cnt f k0 j ≤ cnt f k0 (j + m)
  | 0 => Int.le_refl _
  | m + 1 => by
    have := cnt_mono f k0 j m
    show _ ≤ cnt f k0 (j + m) + 2 + 2 * ((f (j + m)).kn : Int)
    omega

theorem cnt_le (f : Nat → SlotD) (k0 : Int) {j n : Nat} (h : j ≤ n) : cnt f k0 j ≤ cnt f k0 n := by
  obtain ⟨m, rfl⟩ := Nat.exists_eq_add_of_le h
  exact cnt_mono f k0 j m

def markS (f : Nat → SlotD) (k0 : Int) (j : Nat) : SlotD := marked (f j) (cnt f k0 j)

theorem slots_step {w w1 w2 : World} {bs off : Nat} {kb : Nat → Nat} {kv : Nat → Value} {n k : Nat} {f : Nat → SlotD} {s' : SlotD}
    (h : ∀ j, j < n → SlotOwn w bs (off + j * 3) (kb j) (kv j) (f j)) (hap : KidsApart kb n f) (hk : k < n)
    (t1 : Turned (fun b => 0 < (f k).kn ∧ b = kb k) (w.setCell ⟨bs, off + k * 3, none⟩ (.int .i64 s'.birth)) w1) (t2 : Below w1.heap.size w1 w2)
    (hkn : s'.kn = (f k).kn) (hp : PtrsOwn w1 (kb k) (kv k) s'.kn s'.ks s'.kb) (hs : s'.data.size ≤ maxLen) :
    ∀ j, j < n → SlotOwn (w2.setCell ⟨bs, off + k * 3 + 2, none⟩ (.string s'.data)) bs (off + j * 3) (kb j) (kv j) (if j = k then s' else f j) := by
  intro j hj
  have nb : ¬ (0 < (f k).kn ∧ bs = kb k) := fun hx => (h k hk).apart hx.1 hx.2.symm
  by_cases e : j = k
  · subst e
    rw [if_pos rfl]
    have hj' := h j hj
    refine ⟨?_, ?_, ?_, ?_, hs, ?_⟩
    · exact (((hj'.birth.set _).turned t1 nb).below t2).other _ (Or.inr (by omega))
    · exact (((hj'.kidsv.other _ (Or.inr (by omega))).turned t1 nb).below t2).other _ (Or.inr (by omega))
    · exact (((hj'.data.other _ (Or.inr (by omega))).turned t1 nb).below t2).set _
    · refine (hp.below t2).turned (Turned.put _ _ _ _) (fun h0 hx => ?_)
      exact hj'.apart (hkn ▸ h0) hx
    · rw [hkn]; exact hj'.apart
  · rw [if_neg e]
    have hj' := h j hj
    have c0 := hj'.birth.other (b' := bs) (o' := off + k * 3) (.int .i64 s'.birth) (Or.inr (by omega))
    have c1 := hj'.kidsv.other (b' := bs) (o' := off + k * 3) (.int .i64 s'.birth) (Or.inr (by omega))
    have c2 := hj'.data.other (b' := bs) (o' := off + k * 3) (.int .i64 s'.birth) (Or.inr (by omega))
    have c3 := hj'.kids.turned (Turned.put w bs (off + k * 3) (.int .i64 s'.birth)) (fun h0 hx => hj'.apart h0 hx)
    refine ⟨?_, ?_, ?_, ?_, hj'.small, hj'.apart⟩
    · exact ((c0.turned t1 nb).below t2).other _ (Or.inr (by omega))
    · exact ((c1.turned t1 nb).below t2).other _ (Or.inr (by omega))
    · exact ((c2.turned t1 nb).below t2).other _ (Or.inr (by omega))
    · refine ((c3.turned t1 (fun h0 hx => hap j k hj hk e h0 hx.1 hx.2)).below t2).turned (Turned.put _ _ _ _) (fun h0 hx => hj'.apart h0 hx)

theorem stS_start (f : Nat → SlotD) (k0 : Int) (j : Nat) : (if j < 0 then markS f k0 j else f j) = f j := if_neg (by omega)
theorem stS_kn (f : Nat → SlotD) (k0 : Int) (k j : Nat) : (if j < k then markS f k0 j else f j).kn = (f j).kn := by split <;> rfl

set_option maxRecDepth 20000 in
set_option maxHeartbeats 1000000 in
theorem markSlotS_any (bs : Nat) (kb : Nat → Nat) (kv : Nat → Value) (v : Value) (n : Nat) (f : Nat → SlotD) (k0 : Int) (w : World) (h1 : SlotsOwn w bs kb kv v n f) (hap : KidsApart kb n f) (hk0 : 0 ≤ k0) (hk1 : cnt f k0 n ≤ 1000000000000) :
    Calls Try.prog 59 #[v, .int .i64 k0] w fun e w' => e = .returned (.int .i64 (cnt f k0 n)) ∧ SlotsOwn w' bs kb kv v n (markS f k0) ∧ Turned (SlotsB bs kb n f) w w' := by
  obtain ⟨m1, a, c, rfl, mc, g1⟩ := h1
  by_cases hn0 : n = 0
  · subst hn0
    go_enter Try.func59, Try.ntmps59
    go_wp2
    refine wp_loop_rounds 1 ?_
    rw [rounds_succ]
    go_wp2
    go_ret
    exact ⟨by simp [cnt], ⟨m1, a, c, rfl, mc, fun h => absurd h (by omega)⟩, Turned.refl _ _⟩
  · obtain ⟨off, rfl, g2⟩ := g1 (by omega)
    clear g1
    have hm1 := m1
    unfold maxLen at m1
    have G2 : Hid (∀ j, j < n → SlotOwn w bs (off + j * 3) (kb j) (kv j) (f j)) := g2
    have Hap : Hid (KidsApart kb n f) := hap
    have Hk1 : Hid (cnt f k0 n ≤ 1000000000000) := hk1
    clear g2 hap hk1
    go_enter Try.func59, Try.ntmps59
    go_wp2
    go_loopw [1, 5] (fun m i wr => ∃ k : Nat, k ≤ n ∧ i = .int .i64 k ∧ m = .int .i64 (cnt f k0 k) ∧ (∀ j, j < n → SlotOwn wr bs (off + j * 3) (kb j) (kv j) (if j < k then markS f k0 j else f j)) ∧ Turned (SlotsB bs kb n f) w wr) (fun _ i _ => n - (intOf i).toNat)
    case atStart => exact ⟨0, Nat.zero_le _, rfl, rfl, fun j hj => by rw [stS_start]; exact G2.out j hj, Turned.refl _ _⟩
    case round =>
      obtain ⟨k, hk, rfl, rfl, hall, ht⟩ := hrel
      have Hall : Hid (∀ j, j < n → SlotOwn wr bs (off + j * 3) (kb j) (kv j) (if j < k then markS f k0 j else f j)) := hall
      clear hall
      by_cases hlt : k < n
      · have hlt' : (k : Int) < (n : Int) := by omega
        have hs := Hall.out k hlt
        rw [if_neg (by omega)] at hs
        have hc0 : k0 ≤ cnt f k0 k := cnt_le f k0 (Nat.zero_le k)
        have hc1 : cnt f k0 k + 2 + 2 * ((f k).kn : Int) ≤ 1000000000000 := Int.le_trans (cnt_le f k0 (show k + 1 ≤ n from hlt)) Hk1.out
        obtain ⟨hb0, hf0⟩ := hs.birth
        obtain ⟨hb1, hf1⟩ := hs.kidsv
        obtain ⟨hb2, hf2⟩ := hs.data
        have Hs : Hid (SlotOwn wr bs (off + k * 3) (kb k) (kv k) (f k)) := hs
        obtain ⟨_, ka, kc, hkv, _⟩ := hs.kids
        clear hs
        generalize hx : kv k = kvk at *
        have Hx : Hid (kv k = kvk) := hx
        clear hx
        subst hkv
        go_wp2_with fail
        refine (markPtrS_any (kb k) _ (f k).kn (f k).ks (f k).kb _ _ ?p1 ?p2 ?p3).mono ?_
        case p1 => exact Hs.out.kids.turned (Turned.put _ _ _ _) (fun h0 hx => Hs.out.apart h0 hx)
        case p2 => omega
        case p3 => omega
        rintro e w1 ⟨rfl, hp1, ht1⟩
        have nb : ¬ (0 < (f k).kn ∧ bs = kb k) := fun hx => Hs.out.apart hx.1 hx.2.symm
        have Hd := ((Hs.out.data.other (b' := bs) (o' := off + k * 3) (.int .i64 (cnt f k0 k)) (Or.inr (by omega))).turned ht1 nb)
        have Hp1 : Hid (PtrsOwn w1 (kb k) (.slice ka (f k).kn kc) (f k).kn (fun i => cnt f k0 k + 1 + 2 * i) (fun i => cnt f k0 k + 1 + 2 * i + 1)) := hp1
        clear nb hp1 hb0 hf0 hb1 hf1 hb2 hf2
        go_wp2_with fail
        refine (markText_any _ _ (by omega)).mono ?_
        rintro e w2 ⟨rfl, hb2⟩
        obtain ⟨hd2, hf2⟩ := Hd.below hb2
        clear Hd
        go_wp2
        go_roundw
        case rel =>
          refine ⟨k + 1, by omega, by go_num, congrArg (Value.int .i64) (by show _ = cnt f k0 k + 2 + 2 * ((f k).kn : Int); omega), fun j hj => ?_, ?_⟩
          · have st := slots_step (s' := markS f k0 k) Hall.out (by
                intro i j hi hj hij h1 h2
                rw [stS_kn] at h1 h2
                exact Hap.out i j hi hj hij h1 h2) hlt (by rw [if_neg (Nat.lt_irrefl k)]; exact ht1) hb2 (by rw [if_neg (Nat.lt_irrefl k)]; rfl) (by rw [Hx.out]; exact Hp1.out) (mtF_size (by omega)) j hj
            by_cases e : j = k
            · subst e
              rw [if_pos rfl] at st
              rw [if_pos (by omega)]
              exact st
            · rw [if_neg e] at st
              by_cases e2 : j < k
              · rw [if_pos e2] at st; rw [if_pos (by omega)]; exact st
              · rw [if_neg e2] at st; rw [if_neg (by omega)]; exact st
          · refine (((ht.setCell (Or.inl ⟨by omega, rfl⟩) _).trans (ht1.mono ?_)).trans (Turned.of_below hb2)).setCell (Or.inl ⟨by omega, rfl⟩) _
            rintro b ⟨hb, rfl⟩
            exact Or.inr ⟨k, hlt, hb, rfl⟩
        case measure => simp [intOf]; omega
      · obtain rfl : k = n := by omega
        go_wp2
        go_ret
        refine ⟨rfl, ⟨hm1, _, c, rfl, mc, fun _ => ⟨off, rfl, fun i hi => ?_⟩⟩, ht⟩
        have := Hall.out i hi
        rw [if_pos hi] at this
        exact this

end Go.Proofs.Ytikhipekmlhibae

namespace Go.Proofs.Ytikhipekmlhibae
open Go.RowKit
set_option linter.unusedVariables false

set_option maxRecDepth 20000 in
set_option maxHeartbeats 400000 in
theorem markPool_any (bs hb : Nat) (kb : Nat → Nat) (kv : Nat → Value) (v0 v1 : Value) (p : PoolD) (k0 : Int) (w : World)
    (h1 : SlotsOwn w bs kb kv v0 p.n p.s) (hap : KidsApart kb p.n p.s) (h2 : IntsOwn w hb v1 p.hn p.h) (hd : 0 < p.hn → ¬ SlotsB bs kb p.n p.s hb)
    (hk0 : 0 ≤ k0) (hk1 : cnt p.s k0 p.n + p.hn ≤ 1000000000000) :
    Calls Try.prog 16 #[.agg #[v0, v1], .int .i64 k0] w fun e w' => e = .returned (.int .i64 (cnt p.s k0 p.n + p.hn)) ∧ SlotsOwn w' bs kb kv v0 p.n (markS p.s k0) ∧ IntsOwn w' hb v1 p.hn (fun i => cnt p.s k0 p.n + i) ∧
      Turned (fun k => SlotsB bs kb p.n p.s k ∨ (0 < p.hn ∧ k = hb)) w w' := by
  have q1 := h1
  have q2 := h2
  obtain ⟨_, a, c, rfl, _⟩ := h1
  obtain ⟨_, a', c', rfl, _⟩ := h2
  have Hk : Hid (cnt p.s k0 p.n + p.hn ≤ 1000000000000) := hk1
  have hk00 : Hid (k0 ≤ cnt p.s k0 p.n) := cnt_le p.s k0 (Nat.zero_le p.n)
  clear hk1
  go_enter Try.func16, Try.ntmps16
  go_wp2_with fail
  have hbw := (Below.refl w.heap.size w).alloc (Nat.le_refl _) (.cells #[.slice a p.n c, .slice a' p.hn c'] 31)
  refine (markSlotS_any bs kb kv _ p.n p.s _ _ (q1.below hbw) hap hk0 (by have := Hk.out; omega)).mono ?_
  rintro e w1 ⟨rfl, hs1, ht1⟩
  have nb : ¬ SlotsB bs kb p.n p.s w.heap.size := fun x => Nat.lt_irrefl _ (q1.lt x)
  have e1 := ht1.cell (b := w.heap.size) (o := 1) (by simp) nb
  simp at e1
  go_wp2_with fail
  refine (markInt64S_any hb _ p.hn p.h _ _ ((q2.below hbw).turned ht1 hd) (by have := hk00.out; omega) Hk.out).mono ?_
  rintro e w2 ⟨rfl, hs2, ht2⟩
  go_wp2
  go_ret
  refine ⟨rfl, ?_, hs2, ?_⟩
  · refine hs1.turned ht2 (fun h0 hx => ?_) (fun i hi h0 hx => ?_)
    · exact hd hx.1 (Or.inl ⟨h0, hx.2.symm⟩)
    · exact hd hx.1 (Or.inr ⟨i, hi, h0, hx.2.symm⟩)
  · exact ((Turned.of_below hbw).trans (ht1.mono fun k h => Or.inl h)).trans (ht2.mono fun k h => Or.inr h)

set_option maxRecDepth 20000 in
set_option maxHeartbeats 400000 in
theorem heldInt64S_any (v : Value) (n lo hi : Nat) (f : Nat → Int) (k0 : Int) (w : World) (h1 : IntsAt w lo hi v n f) (hk0 : 0 ≤ k0) (hk1 : k0 + n ≤ 1000000000000) (hf : ∀ i, i < n → f i = k0 + i) :
    Calls Try.prog 93 #[v, .int .i64 k0] w fun e w' => e = .returned (.int .i64 (k0 + n)) ∧ Below w.heap.size w w' := by
  obtain ⟨m1, a, c, rfl, mc, g1⟩ := h1
  unfold maxLen at m1
  have Hf : Hid (∀ i, i < n → f i = k0 + i) := hf
  clear hf
  go_enter Try.func93, Try.ntmps93
  go_wp2
  go_loopw [1, 5] (fun m i wr => ∃ k : Nat, k ≤ n ∧ i = .int .i64 k ∧ m = .int .i64 (k0 + k) ∧ Below w.heap.size w wr) (fun _ i _ => n - (intOf i).toNat)
  case atStart => exact ⟨0, Nat.zero_le _, rfl, by simp, Below.refl _ _⟩
  case round =>
    obtain ⟨k, hk, rfl, rfl, hb⟩ := hrel
    by_cases hlt : k < n
    · have hlt' : (k : Int) < (n : Int) := by omega
      obtain ⟨b, off, rfl, _, _, k1⟩ := g1 (by omega)
      have hc1 : wr.cell? ⟨b, off + k, none⟩ = some (.int .i64 (k0 + k)) := by rw [← Hf.out k hlt]; exact (hb.cell (lt_of_cell (k1 k hlt))).trans (k1 k hlt)
      clear k1 g1
      go_wp2
      go_roundw
      case rel => exact ⟨k + 1, by omega, by go_num, by go_num, hb⟩
      case measure => simp [intOf]; omega
    · obtain rfl : k = n := by omega
      go_wp2
      go_ret
      exact ⟨rfl, hb⟩

set_option maxRecDepth 20000 in
set_option maxHeartbeats 400000 in
theorem heldPtrS_any (v : Value) (n lo hi : Nat) (f g : Nat → Int) (k0 : Int) (w : World) (h1 : PtrsAt w lo hi v n f g) (hk0 : 0 ≤ k0) (hk1 : k0 + 2 * n ≤ 1000000000000) (hf : ∀ i, i < n → f i = k0 + 2 * i ∧ g i = k0 + 2 * i + 1) :
    Calls Try.prog 25 #[v, .int .i64 k0] w fun e w' => e = .returned (.int .i64 (k0 + 2 * n)) ∧ Below w.heap.size w w' := by
  obtain ⟨m1, a, c, rfl, mc, g1⟩ := h1
  unfold maxLen at m1
  have Hf : Hid (∀ i, i < n → f i = k0 + 2 * i ∧ g i = k0 + 2 * i + 1) := hf
  clear hf
  go_enter Try.func25, Try.ntmps25
  go_wp2
  go_loopw [1, 5] (fun m i wr => ∃ k : Nat, k ≤ n ∧ i = .int .i64 k ∧ m = .int .i64 (k0 + 2 * k) ∧ Below w.heap.size w wr) (fun _ i _ => n - (intOf i).toNat)
  case atStart => exact ⟨0, Nat.zero_le _, rfl, by simp, Below.refl _ _⟩
  case round =>
    obtain ⟨k, hk, rfl, rfl, hb⟩ := hrel
    by_cases hlt : k < n
    · have hlt' : (k : Int) < (n : Int) := by omega
      obtain ⟨b, off, rfl, _, _, k1⟩ := g1 (by omega)
      have hc1 : wr.cell? ⟨b, off + k * 2, none⟩ = some (.int .i64 (k0 + 2 * k)) := by rw [← (Hf.out k hlt).1]; exact (hb.cell (lt_of_cell (k1 k hlt).1)).trans (k1 k hlt).1
      have hc2 : wr.cell? ⟨b, off + k * 2 + 1, none⟩ = some (.int .i64 (k0 + 2 * k + 1)) := by rw [← (Hf.out k hlt).2]; exact (hb.cell (lt_of_cell (k1 k hlt).2)).trans (k1 k hlt).2
      clear k1 g1
      go_wp2
      go_roundw
      case rel => exact ⟨k + 1, by omega, by go_num, by go_num, hb⟩
      case measure => simp [intOf]; omega
    · obtain rfl : k = n := by omega
      go_wp2
      go_ret
      exact ⟨rfl, hb⟩

set_option maxRecDepth 20000 in
set_option maxHeartbeats 400000 in
theorem heldSlotS_any (v : Value) (n lo hi : Nat) (f : Nat → SlotD) (k0 : Int) (w : World) (h1 : SlotsAt w lo hi v n (markS f k0)) (hk0 : 0 ≤ k0) (hk1 : cnt f k0 n ≤ 1000000000000) :
    Calls Try.prog 92 #[v, .int .i64 k0] w fun e w' => e = .returned (.int .i64 (cnt f k0 n)) ∧ Below w.heap.size w w' := by
  obtain ⟨m1, a, c, rfl, mc, g1⟩ := h1
  unfold maxLen at m1
  have Hk1 : Hid (cnt f k0 n ≤ 1000000000000) := hk1
  have G1 : Hid (0 < n → ∃ b off, a = some ⟨b, off, none⟩ ∧ lo ≤ b ∧ b < hi ∧ ∀ i, i < n → ∃ v0 v1 v2, w.cell? ⟨b, off + i * 3, none⟩ = some v0 ∧ w.cell? ⟨b, off + i * 3 + 1, none⟩ = some v1 ∧ w.cell? ⟨b, off + i * 3 + 2, none⟩ = some v2 ∧ SlotAt w lo hi v0 v1 v2 (markS f k0 i)) := g1
  clear g1 hk1
  go_enter Try.func92, Try.ntmps92
  go_wp2
  go_loopw [1, 5] (fun m i wr => ∃ k : Nat, k ≤ n ∧ i = .int .i64 k ∧ m = .int .i64 (cnt f k0 k) ∧ Below w.heap.size w wr) (fun _ i _ => n - (intOf i).toNat)
  case atStart => exact ⟨0, Nat.zero_le _, rfl, rfl, Below.refl _ _⟩
  case round =>
    obtain ⟨k, hk, rfl, rfl, hb⟩ := hrel
    by_cases hlt : k < n
    · have hlt' : (k : Int) < (n : Int) := by omega
      have hc0 : k0 ≤ cnt f k0 k := cnt_le f k0 (Nat.zero_le k)
      have hc1 : cnt f k0 k + 2 + 2 * ((f k).kn : Int) ≤ 1000000000000 := Int.le_trans (cnt_le f k0 (show k + 1 ≤ n from hlt)) Hk1.out
      obtain ⟨b, off, rfl, _, _, k1⟩ := G1.out (by omega)
      obtain ⟨x0, x1, x2, c0, c1, c2, hs⟩ := k1 k hlt
      have hd0 := (hb.cell (lt_of_cell c0)).trans c0
      have hd1 := (hb.cell (lt_of_cell c1)).trans c1
      have hd2 := (hb.cell (lt_of_cell c2)).trans c2
      have hs' := hs.below hb
      clear k1 G1 c0 c1 c2 hs
      obtain ⟨rfl, hkids, rfl, _⟩ := hs'
      have Hkids : Hid (PtrsAt wr lo hi x1 (f k).kn (fun i => cnt f k0 k + 1 + 2 * i) (fun i => cnt f k0 k + 1 + 2 * i + 1)) := hkids
      obtain ⟨_, ka, kc, rfl, _⟩ := hkids
      have hd0' : wr.cell? ⟨b, off + k * 3, none⟩ = some (.int .i64 (cnt f k0 k)) := hd0
      have hd1' : wr.cell? ⟨b, off + k * 3 + 1, none⟩ = some (.slice ka (f k).kn kc) := hd1
      have hd2' : wr.cell? ⟨b, off + k * 3 + 2, none⟩ = some (.string (mtF (cnt f k0 k + 1 + 2 * (f k).kn))) := hd2
      clear hd0 hd1 hd2
      go_wp2_with fail
      refine (heldPtrS_any _ (f k).kn lo hi _ _ _ _ Hkids.out (by omega) (by omega) (fun i hi => ⟨rfl, rfl⟩)).mono ?_
      rintro e w1 ⟨rfl, hb1⟩
      have hz : w1.cell? ⟨b, off + k * 3 + 2, none⟩ = some (.string (mtF (cnt f k0 k + 1 + 2 * (f k).kn))) := (hb1.cell (lt_of_cell hd2')).trans hd2'
      have hbb := below_next hb hb1
      clear hd0' hd1' hd2' Hkids hb1
      have hnn : ¬ cnt f k0 k + 1 + 2 * ((f k).kn : Int) < 0 := by omega
      have hse := str_eq (rfl : mtF (cnt f k0 k + 1 + 2 * (f k).kn) = mtF (cnt f k0 k + 1 + 2 * (f k).kn))
      go_wp2_with fail
      go_region_held3 (fun w' => w'.cell? ⟨b, off + k * 3 + 2, none⟩ = some (.string (mtF (cnt f k0 k + 1 + 2 * (f k).kn)))) (go_keep)
          (first | (go_at_call 91; refine (markText_any _ _ (by omega)).mono ?_; rintro e w2 ⟨rfl, hb2⟩; have z1 := (hb2.cell (p := ⟨b, off + k * 3 + 2, none⟩) (lt_of_cell hz)).trans hz))
      have hbc := below_call hbb hb2
      clear hb2 z1
      go_wp2
      go_roundw
      case rel => exact ⟨k + 1, by omega, by go_num, congrArg (Value.int .i64) (by show _ = cnt f k0 k + 2 + 2 * ((f k).kn : Int); omega), hbc⟩
      case measure => simp [intOf]; omega
    · obtain rfl : k = n := by omega
      go_wp2
      go_ret
      exact ⟨rfl, hb⟩

set_option maxRecDepth 20000 in
set_option maxHeartbeats 400000 in
theorem heldPool_any (v0 v1 : Value) (lo hi : Nat) (p : PoolD) (k0 : Int) (w : World) (h1 : SlotsAt w lo hi v0 p.n (markS p.s k0)) (h2 : IntsAt w lo hi v1 p.hn (fun i => cnt p.s k0 p.n + i))
    (hk0 : 0 ≤ k0) (hk1 : cnt p.s k0 p.n + p.hn ≤ 1000000000000) :
    Calls Try.prog 61 #[.agg #[v0, v1], .int .i64 k0] w fun e w' => e = .returned (.int .i64 (cnt p.s k0 p.n + p.hn)) ∧ Below w.heap.size w w' := by
  have q1 := h1
  have q2 := h2
  obtain ⟨_, a, c, rfl, _⟩ := h1
  obtain ⟨_, a', c', rfl, _⟩ := h2
  have hk00 : k0 ≤ cnt p.s k0 p.n := cnt_le p.s k0 (Nat.zero_le p.n)
  have hge : ¬ cnt p.s k0 p.n < 0 := by omega
  have hge2 : ¬ cnt p.s k0 p.n + (p.hn : Int) < 0 := by omega
  go_enter Try.func61, Try.ntmps61
  go_wp2_with fail
  have hbw := (Below.refl w.heap.size w).alloc (Nat.le_refl _) (.cells #[.slice a p.n c, .slice a' p.hn c'] 31)
  refine (heldSlotS_any _ p.n lo hi p.s _ _ (q1.below hbw) hk0 (by omega)).mono ?_
  rintro e w1 ⟨rfl, hb1⟩
  have e1 := hb1.cell (p := ⟨w.heap.size, 1, none⟩) (by simp)
  simp at e1
  have hb2 := below_next hbw hb1
  clear hb1
  go_wp2_with fail
  refine (heldInt64S_any _ p.hn lo hi _ _ _ (q2.below hb2) (by omega) hk1 (fun i hi => rfl)).mono ?_
  rintro e w2 ⟨rfl, hb3⟩
  have hb4 := below_next hb2 hb3
  go_wp2
  go_ret
  exact ⟨rfl, hb4⟩

end Go.Proofs.Ytikhipekmlhibae
