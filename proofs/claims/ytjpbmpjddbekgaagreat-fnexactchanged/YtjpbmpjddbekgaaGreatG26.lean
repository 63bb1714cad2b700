/- What the laws' copying of a snapshot answers (no law is proved here). -/
import Derived.Test.YtjpbmpjddbekgaaGreatG25
import Derived.Test.YtjpbmpjddbekgaaGreatG6
import Derived.Test.YtjpbmpjddbekgaaGreatG1
import Derived.Test.YtjpbmpjddbekgaaGreatG24
import Derived.Test.YtjpbmpjddbekgaaGreatG17
import Derived.Test.YtjpbmpjddbekgaaGreatG13
namespace Go.Proofs.YtjpbmpjddbekgaaGreat
open Go.RowKit Go.Maps
set_option linter.unusedVariables false

set_option maxRecDepth 20000 in
set_option maxHeartbeats 400000 in
theorem toSnap_any (v : Value) (lo hi : Nat) (s : SnapD) (w : World) (h1 : PtrsAt w lo hi v s.dn s.ds s.db) (hn : s.dn ≤ 1048576) :
    Calls Tryz.prog 119 #[snapV v s] w fun e w' => (∃ v' b, e = .returned (snapV v' s) ∧ PtrsOwn w' b v' s.dn s.ds s.db ∧ w.heap.size ≤ b ∧ b < w'.heap.size) ∧ Below w.heap.size w w' := by
  unfold snapV
  have H1 := hideW h1
  obtain ⟨-, a, c, rfl, -⟩ := id h1
  clear h1
  have hst : ∀ Wa Wb Wc : World, Wa = w.alloc (.cells #[.int .i64 s.id, .string s.name, .string s.set, .int .i64 s.prev, .int .i64 s.time, .int .i64 s.rs, .int .i64 s.rb, .slice a s.dn c] 144) → Wb = Wa.alloc (.cells #[.int .i64 0, .string ⟨#[]⟩, .string ⟨#[]⟩, .int .i64 0, .int .i64 0, .int .i64 0, .int .i64 0, .slice none 0 0] 46) → Wc = Wb.alloc (.cells #[.int .i64 s.id, .string s.name, .string s.set, .int .i64 s.prev, .int .i64 s.time, .int .i64 0, .int .i64 0, .slice none 0 0] 46) → Row8 Wc w.heap.size (.int .i64 s.id) (.string s.name) (.string s.set) (.int .i64 s.prev) (.int .i64 s.time) (.int .i64 s.rs) (.int .i64 s.rb) (.slice a s.dn c) ∧ Row8 Wc (w.heap.size + 1) (.int .i64 0) (.string ⟨#[]⟩) (.string ⟨#[]⟩) (.int .i64 0) (.int .i64 0) (.int .i64 0) (.int .i64 0) (.slice none 0 0) ∧ Row8 Wc (w.heap.size + 1 + 1) (.int .i64 s.id) (.string s.name) (.string s.set) (.int .i64 s.prev) (.int .i64 s.time) (.int .i64 0) (.int .i64 0) (.slice none 0 0) ∧ Below w.heap.size w Wc ∧ Wc.heap.size = w.heap.size + 3 := by
    rintro Wa Wb Wc ea eb ec
    have ha := below_alloc w (.cells #[.int .i64 s.id, .string s.name, .string s.set, .int .i64 s.prev, .int .i64 s.time, .int .i64 s.rs, .int .i64 s.rb, .slice a s.dn c] 144)
    have h1 := Row8.new w (.int .i64 s.id) (.string s.name) (.string s.set) (.int .i64 s.prev) (.int .i64 s.time) (.int .i64 s.rs) (.int .i64 s.rb) (.slice a s.dn c) 144
    have z1 : Wa.heap.size = w.heap.size + 1 := by rw [ea]; exact World.size_alloc _ _
    rw [← ea] at ha h1
    have hb := below_alloc Wa (.cells #[.int .i64 0, .string ⟨#[]⟩, .string ⟨#[]⟩, .int .i64 0, .int .i64 0, .int .i64 0, .int .i64 0, .slice none 0 0] 46)
    have h2 := Row8.new Wa (.int .i64 0) (.string ⟨#[]⟩) (.string ⟨#[]⟩) (.int .i64 0) (.int .i64 0) (.int .i64 0) (.int .i64 0) (.slice none 0 0) 46
    have z2 : Wb.heap.size = w.heap.size + 1 + 1 := by rw [eb, World.size_alloc, z1]
    rw [← eb, z1] at h2
    rw [← eb] at hb
    have hc := below_alloc Wb (.cells #[.int .i64 s.id, .string s.name, .string s.set, .int .i64 s.prev, .int .i64 s.time, .int .i64 0, .int .i64 0, .slice none 0 0] 46)
    have h3 := Row8.new Wb (.int .i64 s.id) (.string s.name) (.string s.set) (.int .i64 s.prev) (.int .i64 s.time) (.int .i64 0) (.int .i64 0) (.slice none 0 0) 46
    have z3 : Wc.heap.size = w.heap.size + 3 := by rw [ec, World.size_alloc, z2]
    rw [← ec, z2] at h3
    rw [← ec] at hc
    exact ⟨(h1.below hb).below hc, h2.below hc, h3, below_next (below_next ha hb) hc, z3⟩
  obtain ⟨hx, hy, hz, hbw, hsz⟩ := hst _ _ _ rfl rfl rfl
  have HX := hideW hx
  have HY := hideW hy
  have HZ := hideW hz
  have HS := hideW hsz
  clear hx hy hz hst hsz
  go_enter Tryz.func119, Tryz.ntmps119
  go_wp2_with fail
  generalize ((w.alloc (.cells #[.int .i64 s.id, .string s.name, .string s.set, .int .i64 s.prev, .int .i64 s.time, .int .i64 s.rs, .int .i64 s.rb, .slice a s.dn c] 144)).alloc (.cells #[.int .i64 0, .string ⟨#[]⟩, .string ⟨#[]⟩, .int .i64 0, .int .i64 0, .int .i64 0, .int .i64 0, .slice none 0 0] 46)).alloc (.cells #[.int .i64 s.id, .string s.name, .string s.set, .int .i64 s.prev, .int .i64 s.time, .int .i64 0, .int .i64 0, .slice none 0 0] 46) = W0 at HX HY HZ HS hbw ⊢
  refine (toPtr_any s.rs s.rb W0).mono ?_
  rintro e w1 ⟨rfl, hb1⟩
  have HX1 := hideW ((HX.out.below hb1).off8 5 (.int .i64 s.rs) 6 (.int .i64 s.rb) (show w.heap.size + 1 + 1 ≠ _ by omega))
  have HY1 := hideW ((HY.out.below hb1).off8 5 (.int .i64 s.rs) 6 (.int .i64 s.rb) (show w.heap.size + 1 + 1 ≠ _ by omega))
  have HZ1 := hideW ((HZ.out.below hb1).mid8 (.int .i64 s.rs) (.int .i64 s.rb))
  have hB1 : Below w.heap.size w ((w1.setCell ⟨w.heap.size + 1 + 1, 5, none⟩ (.int .i64 s.rs)).setCell ⟨w.heap.size + 1 + 1, 6, none⟩ (.int .i64 s.rb)) := ((below_next hbw hb1).setCell (by show _ ≤ w.heap.size + 1 + 1; omega) _).setCell (by show _ ≤ w.heap.size + 1 + 1; omega) _
  have HS1 := hideW (show w.heap.size + 3 ≤ ((w1.setCell ⟨w.heap.size + 1 + 1, 5, none⟩ (.int .i64 s.rs)).setCell ⟨w.heap.size + 1 + 1, 6, none⟩ (.int .i64 s.rb)).heap.size by simp only [World.size_setCell]; have := hb1.size; have := HS.out; omega)
  obtain ⟨⟨x0, x0'⟩, ⟨x1, x1'⟩, ⟨x2, x2'⟩, ⟨x3, x3'⟩, ⟨x4, x4'⟩, ⟨x5, x5'⟩, ⟨x6, x6'⟩, ⟨x7, x7'⟩⟩ := HX.out.below hb1
  obtain ⟨⟨z0, z0'⟩, ⟨z1, z1'⟩, ⟨z2, z2'⟩, ⟨z3, z3'⟩, ⟨z4, z4'⟩, ⟨z5, z5'⟩, ⟨z6, z6'⟩, ⟨z7, z7'⟩⟩ := HZ.out.below hb1
  clear hb1 hbw HX HY HZ HS
  go_wp2_with fail
  clear x0 x1 x2 x3 x4 x5 x6 x7 x0' x1' x2' x3' x4' x5' x6' x7' z0 z1 z2 z3 z4 z5 z6 z7 z0' z1' z2' z3' z4' z5' z6' z7'
  generalize (w1.setCell ⟨w.heap.size + 1 + 1, 5, none⟩ (.int .i64 s.rs)).setCell ⟨w.heap.size + 1 + 1, 6, none⟩ (.int .i64 s.rb) = W1 at HX1 HY1 HZ1 HS1 hB1 ⊢
  refine (toPtrS_any _ s.dn lo hi _ _ W1 (H1.out.below hB1) hn).mono ?_
  rintro e w2 ⟨⟨v', rfl, ho⟩, hb2, hz2⟩
  obtain ⟨-, av, cv, rfl, -, -⟩ := id ho
  have HO := hideW ho
  have HX2 := hideW (HX1.out.below hb2)
  have HY2 := hideW (HY1.out.below hb2)
  have HZ2 := hideW (HZ1.out.below hb2)
  have hB2 := below_next hB1 hb2
  clear ho hb2 HX1 HY1 HZ1 hB1
  obtain ⟨⟨x0, x0'⟩, ⟨x1, x1'⟩, ⟨x2, x2'⟩, ⟨x3, x3'⟩, ⟨x4, x4'⟩, ⟨x5, x5'⟩, ⟨x6, x6'⟩, ⟨x7, x7'⟩⟩ := HX2.out
  obtain ⟨⟨y0, y0'⟩, ⟨y1, y1'⟩, ⟨y2, y2'⟩, ⟨y3, y3'⟩, ⟨y4, y4'⟩, ⟨y5, y5'⟩, ⟨y6, y6'⟩, ⟨y7, y7'⟩⟩ := HY2.out
  obtain ⟨⟨z0, z0'⟩, ⟨z1, z1'⟩, ⟨z2, z2'⟩, ⟨z3, z3'⟩, ⟨z4, z4'⟩, ⟨z5, z5'⟩, ⟨z6, z6'⟩, ⟨z7, z7'⟩⟩ := HZ2.out
  go_wp2
  have HR := (show Row8 (w2.setCell ⟨w.heap.size + 1 + 1, 7, none⟩ (.slice av s.dn cv)) (w.heap.size + 1) _ _ _ _ _ _ _ _ from (by
    obtain ⟨h0, h1, h2, h3, h4, h5, h6, h7⟩ := HY2.out
    have hc : ∀ {j : Nat} {v : Value}, Cell w2 (w.heap.size + 1) j v → Cell (w2.setCell ⟨w.heap.size + 1 + 1, 7, none⟩ (.slice av s.dn cv)) (w.heap.size + 1) j v := fun hc => hc.other _ (Or.inl (by omega))
    exact ⟨hc h0, hc h1, hc h2, hc h3, hc h4, hc h5, hc h6, hc h7⟩)).put (.int .i64 s.id) (.string s.name) (.string s.set) (.int .i64 s.prev) (.int .i64 s.time) (.int .i64 s.rs) (.int .i64 s.rb) (.slice av s.dn cv)
  have hs1 := HS1.out
  refine bodyPost_ret (v := .agg #[.int .i64 s.id, .string s.name, .string s.set, .int .i64 s.prev, .int .i64 s.time, .int .i64 s.rs, .int .i64 s.rb, .slice av s.dn cv]) (by simp [results, Tryz.results119, go_sem, HR.1.1, HR.2.1.1, HR.2.2.1.1, HR.2.2.2.1.1, HR.2.2.2.2.1.1, HR.2.2.2.2.2.1.1, HR.2.2.2.2.2.2.1.1, HR.2.2.2.2.2.2.2.1]) rfl ⟨⟨_, W1.heap.size, rfl, ?_, by omega, by simpa using hz2⟩, ?_⟩
  · exact (((((((((HO.out.put _ (by omega)).put _ (by omega)).put _ (by omega)).put _ (by omega)).put _ (by omega)).put _ (by omega)).put _ (by omega)).put _ (by omega)).put _ (by omega))
  · exact (((((((((hB2.setCell (by show _ ≤ w.heap.size + 1 + 1; omega) _).setCell (by show _ ≤ w.heap.size + 1; omega) _).setCell (by show _ ≤ w.heap.size + 1; omega) _).setCell (by show _ ≤ w.heap.size + 1; omega) _).setCell (by show _ ≤ w.heap.size + 1; omega) _).setCell (by show _ ≤ w.heap.size + 1; omega) _).setCell (by show _ ≤ w.heap.size + 1; omega) _).setCell (by show _ ≤ w.heap.size + 1; omega) _).setCell (by show _ ≤ w.heap.size + 1; omega) _)

end Go.Proofs.YtjpbmpjddbekgaaGreat

namespace Go.Proofs.YtjpbmpjddbekgaaGreat
open Go.RowKit
set_option linter.unusedVariables false

def nilSet : SetD := { name := ⟨#[]⟩, origin := 0, prev := 0, rs := 0, rb := 0, dn := 0, ds := fun _ => 0, db := fun _ => 0 }

/-- One of a row that the call owns: its cells from o on in the block bs, what was dropped (the slice kv) in the block kb. -/
structure SetOwn (w : World) (bs o kb : Nat) (kv : Value) (s : SetD) : Prop where
  c0 : Cell w bs o (.string s.name)
  c1 : Cell w bs (o + 1) (.int .i64 s.origin)
  c2 : Cell w bs (o + 2) (.int .i64 s.prev)
  c3 : Cell w bs (o + 3) (.int .i64 s.rs)
  c4 : Cell w bs (o + 4) (.int .i64 s.rb)
  c5 : Cell w bs (o + 5) kv
  dead : PtrsOwn w kb kv s.dn s.ds s.db
  small : s.name.size ≤ maxLen
  apart : 0 < s.dn → kb ≠ bs
theorem SetOwn.turned {S : Nat → Prop} {w w' : World} {bs o kb : Nat} {kv : Value} {s : SetD} (h : SetOwn w bs o kb kv s) (t : Turned S w w') (h1 : ¬ S bs) (h2 : 0 < s.dn → ¬ S kb) : SetOwn w' bs o kb kv s :=
  ⟨h.c0.turned t h1, h.c1.turned t h1, h.c2.turned t h1, h.c3.turned t h1, h.c4.turned t h1, h.c5.turned t h1, h.dead.turned t h2, h.small, h.apart⟩
theorem SetOwn.below {w w' : World} {bs o kb : Nat} {kv : Value} {s : SetD} (h : SetOwn w bs o kb kv s) (t : Below w.heap.size w w') : SetOwn w' bs o kb kv s :=
  h.turned (Turned.of_below (S := fun _ => False) t) (fun h => h) (fun _ h => h)
theorem SetOwn.cells {w : World} {bs o kb : Nat} {kv : Value} {s : SetD} (h : SetOwn w bs o kb kv s) {lo hi : Nat} (hb : 0 < s.dn → lo ≤ kb ∧ kb < hi) : SetCells w bs o lo hi kv s :=
  ⟨h.c0.1, h.c1.1, h.c2.1, h.c3.1, h.c4.1, h.c5.1, h.dead.at hb, h.small⟩
theorem SetOwn.deadLt {w : World} {bs o kb : Nat} {kv : Value} {s : SetD} (h : SetOwn w bs o kb kv s) (h0 : 0 < s.dn) : kb < w.heap.size := by
  obtain ⟨_, _, _, _, _, h4⟩ := h.dead
  obtain ⟨o, _, h5⟩ := h4 h0
  exact (h5 0 h0).1.lt

def SetsOwn (w : World) (bs : Nat) (kb : Nat → Nat) (kv : Nat → Value) (v : Value) (n : Nat) (f : Nat → SetD) : Prop :=
  n ≤ maxLen ∧ ∃ a cap, v = .slice a n cap ∧ n ≤ cap ∧ (0 < n → ∃ off, a = some ⟨bs, off, none⟩ ∧ ∀ i, i < n → SetOwn w bs (off + i * 6) (kb i) (kv i) (f i))
/-- The blocks of a row. -/
def SetsB (bs : Nat) (kb : Nat → Nat) (n : Nat) (f : Nat → SetD) (k : Nat) : Prop := (0 < n ∧ k = bs) ∨ ∃ i, i < n ∧ 0 < (f i).dn ∧ k = kb i
/-- No two of them have what was dropped in one block. -/
def SetsApart (kb : Nat → Nat) (n : Nat) (f : Nat → SetD) : Prop := ∀ i j, i < n → j < n → i ≠ j → 0 < (f i).dn → 0 < (f j).dn → kb i ≠ kb j
theorem SetsOwn.lt {w : World} {bs : Nat} {kb : Nat → Nat} {kv : Nat → Value} {v : Value} {n : Nat} {f : Nat → SetD} (h : SetsOwn w bs kb kv v n f) {k : Nat} (hk : SetsB bs kb n f k) : k < w.heap.size := by
  obtain ⟨_, a, cap, _, _, hc⟩ := h
  rcases hk with ⟨h0, rfl⟩ | ⟨i, hi, h0, rfl⟩
  · obtain ⟨off, _, h3⟩ := hc h0
    exact (h3 0 h0).c0.lt
  · obtain ⟨off, _, h3⟩ := hc (by omega)
    exact (h3 i hi).deadLt h0
theorem SetsOwn.turned {S : Nat → Prop} {w w' : World} {bs : Nat} {kb : Nat → Nat} {kv : Nat → Value} {v : Value} {n : Nat} {f : Nat → SetD} (h : SetsOwn w bs kb kv v n f) (t : Turned S w w') (hs : ∀ k, SetsB bs kb n f k → ¬ S k) : SetsOwn w' bs kb kv v n f := by
  obtain ⟨h0, a, cap, hv, hcc, hc⟩ := h
  refine ⟨h0, a, cap, hv, hcc, fun hn => ?_⟩
  obtain ⟨off, ha, h3⟩ := hc hn
  exact ⟨off, ha, fun i hi => (h3 i hi).turned t (hs _ (Or.inl ⟨hn, rfl⟩)) (fun h => hs _ (Or.inr ⟨i, hi, h, rfl⟩))⟩
theorem SetsOwn.below {w w' : World} {bs : Nat} {kb : Nat → Nat} {kv : Nat → Value} {v : Value} {n : Nat} {f : Nat → SetD} (h : SetsOwn w bs kb kv v n f) (t : Below w.heap.size w w') : SetsOwn w' bs kb kv v n f :=
  h.turned (Turned.of_below (S := fun _ => False) t) (fun _ _ h => h)
theorem SetsOwn.at {w : World} {bs : Nat} {kb : Nat → Nat} {kv : Nat → Value} {v : Value} {n : Nat} {f : Nat → SetD} (h : SetsOwn w bs kb kv v n f) {lo hi : Nat} (hb : ∀ k, SetsB bs kb n f k → lo ≤ k ∧ k < hi) : SetsAt w lo hi v n f := by
  obtain ⟨h0, a, cap, hv, hcc, hc⟩ := h
  refine ⟨h0, a, cap, hv, hcc, fun hn => ?_⟩
  obtain ⟨off, ha, h3⟩ := hc hn
  have hx := hb _ (Or.inl ⟨hn, rfl⟩)
  exact ⟨bs, off, ha, hx.1, hx.2, fun i hi => ⟨_, (h3 i hi).cells (fun h => hb _ (Or.inr ⟨i, hi, h, rfl⟩))⟩⟩

/-- The first k of a row of n are laid. -/
structure SetPart (wr : World) (bs n k : Nat) (f : Nat → SetD) (kb : Nat → Nat) (kv : Nat → Value) : Prop where
  rows : ∀ j, j < n → SetOwn wr bs (0 + j * 6) (kb j) (kv j) (if j < k then f j else nilSet)
  apart : SetsApart kb k f
  place : ∀ j, j < k → 0 < (f j).dn → bs < kb j ∧ kb j < wr.heap.size
theorem SetPart.below {wr w' : World} {bs n k : Nat} {f : Nat → SetD} {kb : Nat → Nat} {kv : Nat → Value} (h : SetPart wr bs n k f kb kv) (t : Below wr.heap.size wr w') : SetPart w' bs n k f kb kv :=
  ⟨fun j hj => (h.rows j hj).below t, h.apart, fun j hj h0 => by have := h.place j hj h0; have := t.size; omega⟩
theorem SetPart.next {wr w1 : World} {bs n k b : Nat} {f : Nat → SetD} {kb : Nat → Nat} {kv : Nat → Value} {v : Value} (h : SetPart wr bs n k f kb kv) (hk : k < n) (hbs : bs < wr.heap.size) (t : Below wr.heap.size wr w1)
    (hp : PtrsOwn w1 b v (f k).dn (f k).ds (f k).db) (hb : wr.heap.size ≤ b) (hb2 : b < w1.heap.size) (hs : (f k).name.size ≤ maxLen) :
    SetPart ((((((w1.setCell ⟨bs, 0 + k * 6, none⟩ (.string (f k).name)).setCell ⟨bs, 0 + k * 6 + 1, none⟩ (.int .i64 (f k).origin)).setCell ⟨bs, 0 + k * 6 + 2, none⟩ (.int .i64 (f k).prev)).setCell ⟨bs, 0 + k * 6 + 3, none⟩ (.int .i64 (f k).rs)).setCell ⟨bs, 0 + k * 6 + 4, none⟩ (.int .i64 (f k).rb)).setCell ⟨bs, 0 + k * 6 + 5, none⟩ v) bs n (k + 1) f (fun j => if j = k then b else kb j) (fun j => if j = k then v else kv j) := by
  have h' := h.below t
  refine ⟨fun j hj => ?_, fun i j hi hj hij h1 h2 => ?_, fun j hj h0 => ?_⟩
  · have hj' := h'.rows j hj
    by_cases e : j = k
    · subst e
      simp only [if_true]
      rw [if_pos (by omega)]
      refine ⟨?_, ?_, ?_, ?_, ?_, ?_, ?_, hs, fun _ => by omega⟩
      · exact (((((hj'.c0.set _).other _ (Or.inr (by omega))).other _ (Or.inr (by omega))).other _ (Or.inr (by omega))).other _ (Or.inr (by omega))).other _ (Or.inr (by omega))
      · exact (((((hj'.c1.other _ (Or.inr (by omega))).set _).other _ (Or.inr (by omega))).other _ (Or.inr (by omega))).other _ (Or.inr (by omega))).other _ (Or.inr (by omega))
      · exact (((((hj'.c2.other _ (Or.inr (by omega))).other _ (Or.inr (by omega))).set _).other _ (Or.inr (by omega))).other _ (Or.inr (by omega))).other _ (Or.inr (by omega))
      · exact (((((hj'.c3.other _ (Or.inr (by omega))).other _ (Or.inr (by omega))).other _ (Or.inr (by omega))).set _).other _ (Or.inr (by omega))).other _ (Or.inr (by omega))
      · exact (((((hj'.c4.other _ (Or.inr (by omega))).other _ (Or.inr (by omega))).other _ (Or.inr (by omega))).other _ (Or.inr (by omega))).set _).other _ (Or.inr (by omega))
      · exact (((((hj'.c5.other _ (Or.inr (by omega))).other _ (Or.inr (by omega))).other _ (Or.inr (by omega))).other _ (Or.inr (by omega))).other _ (Or.inr (by omega))).set _
      · exact (((((hp.put _ (by omega)).put _ (by omega)).put _ (by omega)).put _ (by omega)).put _ (by omega)).put _ (by omega)
    · simp only [if_neg e]
      have es : (if j < k + 1 then f j else nilSet) = if j < k then f j else nilSet := by
        by_cases e2 : j < k
        · rw [if_pos e2, if_pos (by omega)]
        · rw [if_neg e2, if_neg (by omega)]
      rw [es]
      refine ⟨?_, ?_, ?_, ?_, ?_, ?_, ?_, hj'.small, hj'.apart⟩
      · exact (((((hj'.c0.other _ (Or.inr (by omega))).other _ (Or.inr (by omega))).other _ (Or.inr (by omega))).other _ (Or.inr (by omega))).other _ (Or.inr (by omega))).other _ (Or.inr (by omega))
      · exact (((((hj'.c1.other _ (Or.inr (by omega))).other _ (Or.inr (by omega))).other _ (Or.inr (by omega))).other _ (Or.inr (by omega))).other _ (Or.inr (by omega))).other _ (Or.inr (by omega))
      · exact (((((hj'.c2.other _ (Or.inr (by omega))).other _ (Or.inr (by omega))).other _ (Or.inr (by omega))).other _ (Or.inr (by omega))).other _ (Or.inr (by omega))).other _ (Or.inr (by omega))
      · exact (((((hj'.c3.other _ (Or.inr (by omega))).other _ (Or.inr (by omega))).other _ (Or.inr (by omega))).other _ (Or.inr (by omega))).other _ (Or.inr (by omega))).other _ (Or.inr (by omega))
      · exact (((((hj'.c4.other _ (Or.inr (by omega))).other _ (Or.inr (by omega))).other _ (Or.inr (by omega))).other _ (Or.inr (by omega))).other _ (Or.inr (by omega))).other _ (Or.inr (by omega))
      · exact (((((hj'.c5.other _ (Or.inr (by omega))).other _ (Or.inr (by omega))).other _ (Or.inr (by omega))).other _ (Or.inr (by omega))).other _ (Or.inr (by omega))).other _ (Or.inr (by omega))
      · refine (((((hj'.dead.turned (Turned.put _ _ _ _) ?_).turned (Turned.put _ _ _ _) ?_).turned (Turned.put _ _ _ _) ?_).turned (Turned.put _ _ _ _) ?_).turned (Turned.put _ _ _ _) ?_).turned (Turned.put _ _ _ _) ?_
        all_goals exact fun h0 hx => hj'.apart h0 hx
  · show (if i = k then b else kb i) ≠ (if j = k then b else kb j)
    by_cases e1 : i = k
    · by_cases e2 : j = k
      · omega
      · rw [if_pos e1, if_neg e2]
        have := h.place j (by omega) h2
        omega
    · by_cases e2 : j = k
      · rw [if_neg e1, if_pos e2]
        have := h.place i (by omega) h1
        omega
      · rw [if_neg e1, if_neg e2]
        exact h.apart i j (by omega) (by omega) hij h1 h2
  · simp only [World.size_setCell]
    by_cases e : j = k
    · rw [if_pos e]; omega
    · rw [if_neg e]
      have := h'.place j (by omega) h0
      omega

theorem infoSetT : (Tryz.prog.info? 53).map (fun i => (i.zero, i.size, i.bytes)) = some (some (.agg #[.string ⟨#[]⟩, .int .i64 0, .int .i64 0, .int .i64 0, .int .i64 0, .slice none 0 0]), 6, 72) := by kernel_rfl
theorem nilSet_own {w : World} {bs n j : Nat} (hj : j < n) (hbs : bs = w.heap.size) : SetOwn (w.alloc (.cells (zeros #[.string ⟨#[]⟩, .int .i64 0, .int .i64 0, .int .i64 0, .int .i64 0, .slice none 0 0] n) 53)) bs (0 + j * 6) 0 (.slice none 0 0) nilSet := by
  subst hbs
  have c0 := new_cell w #[.string ⟨#[]⟩, .int .i64 0, .int .i64 0, .int .i64 0, .int .i64 0, .slice none 0 0] n j 0 53 hj (by simp)
  have c1 := new_cell w #[.string ⟨#[]⟩, .int .i64 0, .int .i64 0, .int .i64 0, .int .i64 0, .slice none 0 0] n j 1 53 hj (by simp)
  have c2 := new_cell w #[.string ⟨#[]⟩, .int .i64 0, .int .i64 0, .int .i64 0, .int .i64 0, .slice none 0 0] n j 2 53 hj (by simp)
  have c3 := new_cell w #[.string ⟨#[]⟩, .int .i64 0, .int .i64 0, .int .i64 0, .int .i64 0, .slice none 0 0] n j 3 53 hj (by simp)
  have c4 := new_cell w #[.string ⟨#[]⟩, .int .i64 0, .int .i64 0, .int .i64 0, .int .i64 0, .slice none 0 0] n j 4 53 hj (by simp)
  have c5 := new_cell w #[.string ⟨#[]⟩, .int .i64 0, .int .i64 0, .int .i64 0, .int .i64 0, .slice none 0 0] n j 5 53 hj (by simp)
  refine ⟨?_, ?_, ?_, ?_, ?_, ?_, ⟨Nat.zero_le _, none, 0, rfl, Nat.le_refl _, fun h => absurd h (Nat.lt_irrefl _)⟩, Nat.zero_le _, fun h => absurd h (Nat.lt_irrefl _)⟩
  · show Cell _ _ _ (.string ⟨#[]⟩)
    simpa using c0
  · show Cell _ _ _ (.int .i64 0)
    simpa using c1
  · show Cell _ _ _ (.int .i64 0)
    simpa using c2
  · show Cell _ _ _ (.int .i64 0)
    simpa using c3
  · show Cell _ _ _ (.int .i64 0)
    simpa using c4
  · show Cell _ _ _ (.slice none 0 0)
    simpa using c5

def nilSnap : SnapD := { id := 0, name := ⟨#[]⟩, set := ⟨#[]⟩, prev := 0, time := 0, rs := 0, rb := 0, dn := 0, ds := fun _ => 0, db := fun _ => 0 }

/-- One of a row that the call owns: its cells from o on in the block bs, what was dropped (the slice kv) in the block kb. -/
structure SnapOwn (w : World) (bs o kb : Nat) (kv : Value) (s : SnapD) : Prop where
  c0 : Cell w bs o (.int .i64 s.id)
  c1 : Cell w bs (o + 1) (.string s.name)
  c2 : Cell w bs (o + 2) (.string s.set)
  c3 : Cell w bs (o + 3) (.int .i64 s.prev)
  c4 : Cell w bs (o + 4) (.int .i64 s.time)
  c5 : Cell w bs (o + 5) (.int .i64 s.rs)
  c6 : Cell w bs (o + 6) (.int .i64 s.rb)
  c7 : Cell w bs (o + 7) kv
  dead : PtrsOwn w kb kv s.dn s.ds s.db
  small : s.name.size ≤ maxLen ∧ s.set.size ≤ maxLen
  apart : 0 < s.dn → kb ≠ bs
theorem SnapOwn.turned {S : Nat → Prop} {w w' : World} {bs o kb : Nat} {kv : Value} {s : SnapD} (h : SnapOwn w bs o kb kv s) (t : Turned S w w') (h1 : ¬ S bs) (h2 : 0 < s.dn → ¬ S kb) : SnapOwn w' bs o kb kv s :=
  ⟨h.c0.turned t h1, h.c1.turned t h1, h.c2.turned t h1, h.c3.turned t h1, h.c4.turned t h1, h.c5.turned t h1, h.c6.turned t h1, h.c7.turned t h1, h.dead.turned t h2, h.small, h.apart⟩
theorem SnapOwn.below {w w' : World} {bs o kb : Nat} {kv : Value} {s : SnapD} (h : SnapOwn w bs o kb kv s) (t : Below w.heap.size w w') : SnapOwn w' bs o kb kv s :=
  h.turned (Turned.of_below (S := fun _ => False) t) (fun h => h) (fun _ h => h)
theorem SnapOwn.cells {w : World} {bs o kb : Nat} {kv : Value} {s : SnapD} (h : SnapOwn w bs o kb kv s) {lo hi : Nat} (hb : 0 < s.dn → lo ≤ kb ∧ kb < hi) : SnapCells w bs o lo hi kv s :=
  ⟨h.c0.1, h.c1.1, h.c2.1, h.c3.1, h.c4.1, h.c5.1, h.c6.1, h.c7.1, h.dead.at hb, h.small⟩
theorem SnapOwn.deadLt {w : World} {bs o kb : Nat} {kv : Value} {s : SnapD} (h : SnapOwn w bs o kb kv s) (h0 : 0 < s.dn) : kb < w.heap.size := by
  obtain ⟨_, _, _, _, _, h4⟩ := h.dead
  obtain ⟨o, _, h5⟩ := h4 h0
  exact (h5 0 h0).1.lt

def SnapsOwn (w : World) (bs : Nat) (kb : Nat → Nat) (kv : Nat → Value) (v : Value) (n : Nat) (f : Nat → SnapD) : Prop :=
  n ≤ maxLen ∧ ∃ a cap, v = .slice a n cap ∧ n ≤ cap ∧ (0 < n → ∃ off, a = some ⟨bs, off, none⟩ ∧ ∀ i, i < n → SnapOwn w bs (off + i * 8) (kb i) (kv i) (f i))
/-- The blocks of a row. -/
def SnapsB (bs : Nat) (kb : Nat → Nat) (n : Nat) (f : Nat → SnapD) (k : Nat) : Prop := (0 < n ∧ k = bs) ∨ ∃ i, i < n ∧ 0 < (f i).dn ∧ k = kb i
/-- No two of them have what was dropped in one block. -/
def SnapsApart (kb : Nat → Nat) (n : Nat) (f : Nat → SnapD) : Prop := ∀ i j, i < n → j < n → i ≠ j → 0 < (f i).dn → 0 < (f j).dn → kb i ≠ kb j
theorem SnapsOwn.lt {w : World} {bs : Nat} {kb : Nat → Nat} {kv : Nat → Value} {v : Value} {n : Nat} {f : Nat → SnapD} (h : SnapsOwn w bs kb kv v n f) {k : Nat} (hk : SnapsB bs kb n f k) : k < w.heap.size := by
  obtain ⟨_, a, cap, _, _, hc⟩ := h
  rcases hk with ⟨h0, rfl⟩ | ⟨i, hi, h0, rfl⟩
  · obtain ⟨off, _, h3⟩ := hc h0
    exact (h3 0 h0).c0.lt
  · obtain ⟨off, _, h3⟩ := hc (by omega)
    exact (h3 i hi).deadLt h0
theorem SnapsOwn.turned {S : Nat → Prop} {w w' : World} {bs : Nat} {kb : Nat → Nat} {kv : Nat → Value} {v : Value} {n : Nat} {f : Nat → SnapD} (h : SnapsOwn w bs kb kv v n f) (t : Turned S w w') (hs : ∀ k, SnapsB bs kb n f k → ¬ S k) : SnapsOwn w' bs kb kv v n f := by
  obtain ⟨h0, a, cap, hv, hcc, hc⟩ := h
  refine ⟨h0, a, cap, hv, hcc, fun hn => ?_⟩
  obtain ⟨off, ha, h3⟩ := hc hn
  exact ⟨off, ha, fun i hi => (h3 i hi).turned t (hs _ (Or.inl ⟨hn, rfl⟩)) (fun h => hs _ (Or.inr ⟨i, hi, h, rfl⟩))⟩
theorem SnapsOwn.below {w w' : World} {bs : Nat} {kb : Nat → Nat} {kv : Nat → Value} {v : Value} {n : Nat} {f : Nat → SnapD} (h : SnapsOwn w bs kb kv v n f) (t : Below w.heap.size w w') : SnapsOwn w' bs kb kv v n f :=
  h.turned (Turned.of_below (S := fun _ => False) t) (fun _ _ h => h)
theorem SnapsOwn.at {w : World} {bs : Nat} {kb : Nat → Nat} {kv : Nat → Value} {v : Value} {n : Nat} {f : Nat → SnapD} (h : SnapsOwn w bs kb kv v n f) {lo hi : Nat} (hb : ∀ k, SnapsB bs kb n f k → lo ≤ k ∧ k < hi) : SnapsAt w lo hi v n f := by
  obtain ⟨h0, a, cap, hv, hcc, hc⟩ := h
  refine ⟨h0, a, cap, hv, hcc, fun hn => ?_⟩
  obtain ⟨off, ha, h3⟩ := hc hn
  have hx := hb _ (Or.inl ⟨hn, rfl⟩)
  exact ⟨bs, off, ha, hx.1, hx.2, fun i hi => ⟨_, (h3 i hi).cells (fun h => hb _ (Or.inr ⟨i, hi, h, rfl⟩))⟩⟩

/-- The first k of a row of n are laid. -/
structure SnapPart (wr : World) (bs n k : Nat) (f : Nat → SnapD) (kb : Nat → Nat) (kv : Nat → Value) : Prop where
  rows : ∀ j, j < n → SnapOwn wr bs (0 + j * 8) (kb j) (kv j) (if j < k then f j else nilSnap)
  apart : SnapsApart kb k f
  place : ∀ j, j < k → 0 < (f j).dn → bs < kb j ∧ kb j < wr.heap.size
theorem SnapPart.below {wr w' : World} {bs n k : Nat} {f : Nat → SnapD} {kb : Nat → Nat} {kv : Nat → Value} (h : SnapPart wr bs n k f kb kv) (t : Below wr.heap.size wr w') : SnapPart w' bs n k f kb kv :=
  ⟨fun j hj => (h.rows j hj).below t, h.apart, fun j hj h0 => by have := h.place j hj h0; have := t.size; omega⟩
theorem SnapPart.next {wr w1 : World} {bs n k b : Nat} {f : Nat → SnapD} {kb : Nat → Nat} {kv : Nat → Value} {v : Value} (h : SnapPart wr bs n k f kb kv) (hk : k < n) (hbs : bs < wr.heap.size) (t : Below wr.heap.size wr w1)
    (hp : PtrsOwn w1 b v (f k).dn (f k).ds (f k).db) (hb : wr.heap.size ≤ b) (hb2 : b < w1.heap.size) (hs : (f k).name.size ≤ maxLen ∧ (f k).set.size ≤ maxLen) :
    SnapPart ((((((((w1.setCell ⟨bs, 0 + k * 8, none⟩ (.int .i64 (f k).id)).setCell ⟨bs, 0 + k * 8 + 1, none⟩ (.string (f k).name)).setCell ⟨bs, 0 + k * 8 + 2, none⟩ (.string (f k).set)).setCell ⟨bs, 0 + k * 8 + 3, none⟩ (.int .i64 (f k).prev)).setCell ⟨bs, 0 + k * 8 + 4, none⟩ (.int .i64 (f k).time)).setCell ⟨bs, 0 + k * 8 + 5, none⟩ (.int .i64 (f k).rs)).setCell ⟨bs, 0 + k * 8 + 6, none⟩ (.int .i64 (f k).rb)).setCell ⟨bs, 0 + k * 8 + 7, none⟩ v) bs n (k + 1) f (fun j => if j = k then b else kb j) (fun j => if j = k then v else kv j) := by
  have h' := h.below t
  refine ⟨fun j hj => ?_, fun i j hi hj hij h1 h2 => ?_, fun j hj h0 => ?_⟩
  · have hj' := h'.rows j hj
    by_cases e : j = k
    · subst e
      simp only [if_true]
      rw [if_pos (by omega)]
      refine ⟨?_, ?_, ?_, ?_, ?_, ?_, ?_, ?_, ?_, hs, fun _ => by omega⟩
      · exact (((((((hj'.c0.set _).other _ (Or.inr (by omega))).other _ (Or.inr (by omega))).other _ (Or.inr (by omega))).other _ (Or.inr (by omega))).other _ (Or.inr (by omega))).other _ (Or.inr (by omega))).other _ (Or.inr (by omega))
      · exact (((((((hj'.c1.other _ (Or.inr (by omega))).set _).other _ (Or.inr (by omega))).other _ (Or.inr (by omega))).other _ (Or.inr (by omega))).other _ (Or.inr (by omega))).other _ (Or.inr (by omega))).other _ (Or.inr (by omega))
      · exact (((((((hj'.c2.other _ (Or.inr (by omega))).other _ (Or.inr (by omega))).set _).other _ (Or.inr (by omega))).other _ (Or.inr (by omega))).other _ (Or.inr (by omega))).other _ (Or.inr (by omega))).other _ (Or.inr (by omega))
      · exact (((((((hj'.c3.other _ (Or.inr (by omega))).other _ (Or.inr (by omega))).other _ (Or.inr (by omega))).set _).other _ (Or.inr (by omega))).other _ (Or.inr (by omega))).other _ (Or.inr (by omega))).other _ (Or.inr (by omega))
      · exact (((((((hj'.c4.other _ (Or.inr (by omega))).other _ (Or.inr (by omega))).other _ (Or.inr (by omega))).other _ (Or.inr (by omega))).set _).other _ (Or.inr (by omega))).other _ (Or.inr (by omega))).other _ (Or.inr (by omega))
      · exact (((((((hj'.c5.other _ (Or.inr (by omega))).other _ (Or.inr (by omega))).other _ (Or.inr (by omega))).other _ (Or.inr (by omega))).other _ (Or.inr (by omega))).set _).other _ (Or.inr (by omega))).other _ (Or.inr (by omega))
      · exact (((((((hj'.c6.other _ (Or.inr (by omega))).other _ (Or.inr (by omega))).other _ (Or.inr (by omega))).other _ (Or.inr (by omega))).other _ (Or.inr (by omega))).other _ (Or.inr (by omega))).set _).other _ (Or.inr (by omega))
      · exact (((((((hj'.c7.other _ (Or.inr (by omega))).other _ (Or.inr (by omega))).other _ (Or.inr (by omega))).other _ (Or.inr (by omega))).other _ (Or.inr (by omega))).other _ (Or.inr (by omega))).other _ (Or.inr (by omega))).set _
      · exact (((((((hp.put _ (by omega)).put _ (by omega)).put _ (by omega)).put _ (by omega)).put _ (by omega)).put _ (by omega)).put _ (by omega)).put _ (by omega)
    · simp only [if_neg e]
      have es : (if j < k + 1 then f j else nilSnap) = if j < k then f j else nilSnap := by
        by_cases e2 : j < k
        · rw [if_pos e2, if_pos (by omega)]
        · rw [if_neg e2, if_neg (by omega)]
      rw [es]
      refine ⟨?_, ?_, ?_, ?_, ?_, ?_, ?_, ?_, ?_, hj'.small, hj'.apart⟩
      · exact (((((((hj'.c0.other _ (Or.inr (by omega))).other _ (Or.inr (by omega))).other _ (Or.inr (by omega))).other _ (Or.inr (by omega))).other _ (Or.inr (by omega))).other _ (Or.inr (by omega))).other _ (Or.inr (by omega))).other _ (Or.inr (by omega))
      · exact (((((((hj'.c1.other _ (Or.inr (by omega))).other _ (Or.inr (by omega))).other _ (Or.inr (by omega))).other _ (Or.inr (by omega))).other _ (Or.inr (by omega))).other _ (Or.inr (by omega))).other _ (Or.inr (by omega))).other _ (Or.inr (by omega))
      · exact (((((((hj'.c2.other _ (Or.inr (by omega))).other _ (Or.inr (by omega))).other _ (Or.inr (by omega))).other _ (Or.inr (by omega))).other _ (Or.inr (by omega))).other _ (Or.inr (by omega))).other _ (Or.inr (by omega))).other _ (Or.inr (by omega))
      · exact (((((((hj'.c3.other _ (Or.inr (by omega))).other _ (Or.inr (by omega))).other _ (Or.inr (by omega))).other _ (Or.inr (by omega))).other _ (Or.inr (by omega))).other _ (Or.inr (by omega))).other _ (Or.inr (by omega))).other _ (Or.inr (by omega))
      · exact (((((((hj'.c4.other _ (Or.inr (by omega))).other _ (Or.inr (by omega))).other _ (Or.inr (by omega))).other _ (Or.inr (by omega))).other _ (Or.inr (by omega))).other _ (Or.inr (by omega))).other _ (Or.inr (by omega))).other _ (Or.inr (by omega))
      · exact (((((((hj'.c5.other _ (Or.inr (by omega))).other _ (Or.inr (by omega))).other _ (Or.inr (by omega))).other _ (Or.inr (by omega))).other _ (Or.inr (by omega))).other _ (Or.inr (by omega))).other _ (Or.inr (by omega))).other _ (Or.inr (by omega))
      · exact (((((((hj'.c6.other _ (Or.inr (by omega))).other _ (Or.inr (by omega))).other _ (Or.inr (by omega))).other _ (Or.inr (by omega))).other _ (Or.inr (by omega))).other _ (Or.inr (by omega))).other _ (Or.inr (by omega))).other _ (Or.inr (by omega))
      · exact (((((((hj'.c7.other _ (Or.inr (by omega))).other _ (Or.inr (by omega))).other _ (Or.inr (by omega))).other _ (Or.inr (by omega))).other _ (Or.inr (by omega))).other _ (Or.inr (by omega))).other _ (Or.inr (by omega))).other _ (Or.inr (by omega))
      · refine (((((((hj'.dead.turned (Turned.put _ _ _ _) ?_).turned (Turned.put _ _ _ _) ?_).turned (Turned.put _ _ _ _) ?_).turned (Turned.put _ _ _ _) ?_).turned (Turned.put _ _ _ _) ?_).turned (Turned.put _ _ _ _) ?_).turned (Turned.put _ _ _ _) ?_).turned (Turned.put _ _ _ _) ?_
        all_goals exact fun h0 hx => hj'.apart h0 hx
  · show (if i = k then b else kb i) ≠ (if j = k then b else kb j)
    by_cases e1 : i = k
    · by_cases e2 : j = k
      · omega
      · rw [if_pos e1, if_neg e2]
        have := h.place j (by omega) h2
        omega
    · by_cases e2 : j = k
      · rw [if_neg e1, if_pos e2]
        have := h.place i (by omega) h1
        omega
      · rw [if_neg e1, if_neg e2]
        exact h.apart i j (by omega) (by omega) hij h1 h2
  · simp only [World.size_setCell]
    by_cases e : j = k
    · rw [if_pos e]; omega
    · rw [if_neg e]
      have := h'.place j (by omega) h0
      omega

theorem infoSnapT : (Tryz.prog.info? 46).map (fun i => (i.zero, i.size, i.bytes)) = some (some (.agg #[.int .i64 0, .string ⟨#[]⟩, .string ⟨#[]⟩, .int .i64 0, .int .i64 0, .int .i64 0, .int .i64 0, .slice none 0 0]), 8, 96) := by kernel_rfl
theorem nilSnap_own {w : World} {bs n j : Nat} (hj : j < n) (hbs : bs = w.heap.size) : SnapOwn (w.alloc (.cells (zeros #[.int .i64 0, .string ⟨#[]⟩, .string ⟨#[]⟩, .int .i64 0, .int .i64 0, .int .i64 0, .int .i64 0, .slice none 0 0] n) 46)) bs (0 + j * 8) 0 (.slice none 0 0) nilSnap := by
  subst hbs
  have c0 := new_cell w #[.int .i64 0, .string ⟨#[]⟩, .string ⟨#[]⟩, .int .i64 0, .int .i64 0, .int .i64 0, .int .i64 0, .slice none 0 0] n j 0 46 hj (by simp)
  have c1 := new_cell w #[.int .i64 0, .string ⟨#[]⟩, .string ⟨#[]⟩, .int .i64 0, .int .i64 0, .int .i64 0, .int .i64 0, .slice none 0 0] n j 1 46 hj (by simp)
  have c2 := new_cell w #[.int .i64 0, .string ⟨#[]⟩, .string ⟨#[]⟩, .int .i64 0, .int .i64 0, .int .i64 0, .int .i64 0, .slice none 0 0] n j 2 46 hj (by simp)
  have c3 := new_cell w #[.int .i64 0, .string ⟨#[]⟩, .string ⟨#[]⟩, .int .i64 0, .int .i64 0, .int .i64 0, .int .i64 0, .slice none 0 0] n j 3 46 hj (by simp)
  have c4 := new_cell w #[.int .i64 0, .string ⟨#[]⟩, .string ⟨#[]⟩, .int .i64 0, .int .i64 0, .int .i64 0, .int .i64 0, .slice none 0 0] n j 4 46 hj (by simp)
  have c5 := new_cell w #[.int .i64 0, .string ⟨#[]⟩, .string ⟨#[]⟩, .int .i64 0, .int .i64 0, .int .i64 0, .int .i64 0, .slice none 0 0] n j 5 46 hj (by simp)
  have c6 := new_cell w #[.int .i64 0, .string ⟨#[]⟩, .string ⟨#[]⟩, .int .i64 0, .int .i64 0, .int .i64 0, .int .i64 0, .slice none 0 0] n j 6 46 hj (by simp)
  have c7 := new_cell w #[.int .i64 0, .string ⟨#[]⟩, .string ⟨#[]⟩, .int .i64 0, .int .i64 0, .int .i64 0, .int .i64 0, .slice none 0 0] n j 7 46 hj (by simp)
  refine ⟨?_, ?_, ?_, ?_, ?_, ?_, ?_, ?_, ⟨Nat.zero_le _, none, 0, rfl, Nat.le_refl _, fun h => absurd h (Nat.lt_irrefl _)⟩, ⟨Nat.zero_le _, Nat.zero_le _⟩, fun h => absurd h (Nat.lt_irrefl _)⟩
  · show Cell _ _ _ (.int .i64 0)
    simpa using c0
  · show Cell _ _ _ (.string ⟨#[]⟩)
    simpa using c1
  · show Cell _ _ _ (.string ⟨#[]⟩)
    simpa using c2
  · show Cell _ _ _ (.int .i64 0)
    simpa using c3
  · show Cell _ _ _ (.int .i64 0)
    simpa using c4
  · show Cell _ _ _ (.int .i64 0)
    simpa using c5
  · show Cell _ _ _ (.int .i64 0)
    simpa using c6
  · show Cell _ _ _ (.slice none 0 0)
    simpa using c7

end Go.Proofs.YtjpbmpjddbekgaaGreat

namespace Go.Proofs.YtjpbmpjddbekgaaGreat
open Go.RowKit Go.Maps
set_option linter.unusedVariables false

def setN (s : SetD) : Nat := s.name.size + s.dn
def setsN (f : Nat → SetD) : Nat → Nat
  | 0 => 0
  | k + 1 => setsN f k + setN (f k)
def snapN (s : SnapD) : Nat := s.name.size + s.set.size + s.dn
def snapsN (f : Nat → SnapD) : Nat → Nat
  | 0 => 0
  | k + 1 => snapsN f k + snapN (f k)
def worldN (W : WorldD) : Nat := poolN W.pool + (W.sn + setsN W.sets W.sn) + (W.pn + snapsN W.snaps W.pn)

set_option maxRecDepth 20000 in
set_option maxHeartbeats 400000 in
theorem szSet_any (v : Value) (lo hi : Nat) (s : SetD) (left : Int) (w : World) (h1 : PtrsAt w lo hi v s.dn s.ds s.db) (m1 : s.name.size ≤ maxLen) (hl0 : 0 ≤ left) (hl1 : left ≤ 1048576) :
    Calls Tryz.prog 107 #[setV v s, .int .i64 left] w fun e w' => LeftIs (setN s) left e ∧ Below w.heap.size w w' := by
  unfold setV
  have H1 := hideW h1
  obtain ⟨-, a, c, rfl, -⟩ := id h1
  clear h1
  unfold maxLen at m1
  have hbw := below_alloc w (.cells #[.string s.name, .int .i64 s.origin, .int .i64 s.prev, .int .i64 s.rs, .int .i64 s.rb, .slice a s.dn c] 141)
  go_enter Tryz.func107, Tryz.ntmps107
  by_cases h : left - (s.name.size : Int) < 0
  · go_wp2
    go_ret
    exact ⟨⟨-1, rfl, by omega, by omega, by omega⟩, hbw⟩
  · go_wp2_with fail
    refine (szPtrS_any _ s.dn lo hi _ _ _ _ (H1.out.below hbw) (by omega) (by omega)).mono ?_
    rintro e w1 ⟨⟨r, rfl, hr1, hr2, hr3⟩, hb1⟩
    have hb2 := below_next hbw hb1
    have Hr := hideW hr1
    clear hr1 hb1 hbw
    by_cases h2 : r < 0
    · go_wp2
      go_ret
      exact ⟨⟨-1, rfl, by omega, by omega, by omega⟩, hb2⟩
    · go_wp2
      go_ret
      refine ⟨⟨_, rfl, fun _ => ?_, by omega, by omega⟩, hb2⟩
      have := Hr.out (by omega)
      unfold setN
      omega

set_option maxRecDepth 20000 in
set_option maxHeartbeats 400000 in
theorem szSnap_any (v : Value) (lo hi : Nat) (s : SnapD) (left : Int) (w : World) (h1 : PtrsAt w lo hi v s.dn s.ds s.db) (m1 : s.name.size ≤ maxLen) (m2 : s.set.size ≤ maxLen) (hl0 : 0 ≤ left) (hl1 : left ≤ 1048576) :
    Calls Tryz.prog 108 #[snapV v s, .int .i64 left] w fun e w' => LeftIs (snapN s) left e ∧ Below w.heap.size w w' := by
  unfold snapV
  have H1 := hideW h1
  obtain ⟨-, a, c, rfl, -⟩ := id h1
  clear h1
  unfold maxLen at m1 m2
  have hbw := below_alloc w (.cells #[.int .i64 s.id, .string s.name, .string s.set, .int .i64 s.prev, .int .i64 s.time, .int .i64 s.rs, .int .i64 s.rb, .slice a s.dn c] 144)
  go_enter Tryz.func108, Tryz.ntmps108
  by_cases h : left - (s.name.size : Int) < 0
  · go_wp2
    go_ret
    exact ⟨⟨-1, rfl, by omega, by omega, by omega⟩, hbw⟩
  · by_cases h' : left - (s.name.size : Int) - (s.set.size : Int) < 0
    · go_wp2
      go_ret
      exact ⟨⟨-1, rfl, by omega, by omega, by omega⟩, hbw⟩
    · go_wp2_with fail
      refine (szPtrS_any _ s.dn lo hi _ _ _ _ (H1.out.below hbw) (by omega) (by omega)).mono ?_
      rintro e w1 ⟨⟨r, rfl, hr1, hr2, hr3⟩, hb1⟩
      have hb2 := below_next hbw hb1
      have Hr := hideW hr1
      clear hr1 hb1 hbw
      by_cases h2 : r < 0
      · go_wp2
        go_ret
        exact ⟨⟨-1, rfl, by omega, by omega, by omega⟩, hb2⟩
      · go_wp2
        go_ret
        refine ⟨⟨_, rfl, fun _ => ?_, by omega, by omega⟩, hb2⟩
        have := Hr.out (by omega)
        unfold snapN
        omega

end Go.Proofs.YtjpbmpjddbekgaaGreat
