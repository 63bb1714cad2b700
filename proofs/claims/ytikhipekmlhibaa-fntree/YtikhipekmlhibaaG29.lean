/- What the draws' l02Tree leaves: a new pool, and a pointer. -/
import Derived.Test.YtikhipekmlhibaaG28
namespace Go.Proofs.Ytikhipekmlhibaa
open Go Go.RowKit
set_option linter.unusedVariables false

/-- The answer is a new pool and a pointer, as the draws make them. -/
def NewTreeDrawn (B : Nat) (w : World) (e : Ending) (w' : World) : Prop :=
  ∃ q v0 v1 rs rb, e = .returned (.tuple #[.agg #[v0, v1], .agg #[.int .i64 rs, .int .i64 rb]]) ∧ PoolOwn w' w.heap.size w'.heap.size v0 v1 q ∧ poolN q ≤ 5000 ∧ Src w' B ∧ Turned (fun k => k = B) w w'

/-- The pool of an answer. -/
theorem field_pool (a a' : Option Addr) (n c n' c' : Nat) (x y z : Int) (w : World) : (Instr.field 35 (.agg #[.slice a n c, .slice a' n' c', .int .i64 x, .int .i64 y, .int .i64 z]) 0).run Try.prog w = .ok (.agg #[.slice a n c, .slice a' n' c']) w := by kernel_rfl
/-- A new variable with a tree's answer. -/
def NewCut (w w4 : World) (B : Nat) (q : PoolD) (v : Value) (wc : World) : Prop :=
  ∃ (Z : Nat) (o : TOutD) (oa : Option Addr) (oc : Nat) (oa' : Option Addr) (oc' : Nat) (ob : Option Addr) (od : Nat), v = .pointer (some ⟨Z, 0, none⟩) ∧ TreeI w wc B ∧ Turned (fun k => k = B) w4 wc ∧ TreeW w4 Z o wc oa oc oa' oc' ob od ∧ poolN o.pool ≤ poolN q + 40 ∧ o.old.length ≤ 3
theorem cut_late {w w4 w2 : World} {B m : Nat} {q : PoolD} {o : TOutD} {a a' oa : Option Addr} {c c' oc : Nat} {t : TypeId} (hI : TreeI w w2 B) (hT : Turned (fun k => k = B) w4 w2) (ho : TreeMem w2 m w2.heap.size (.slice a o.pool.n c) (.slice a' o.pool.hn c') (.slice oa o.old.length oc) o.pool o.old.length (fstL o.old) (sndL o.old)) (hm : w4.heap.size ≤ m) (hs : poolN o.pool ≤ poolN q + 40 ∧ o.old.length ≤ 3) (wx : World)
    (he : wx = w2.alloc (.cells #[.slice a o.pool.n c, .slice a' o.pool.hn c', .int .i64 o.rs, .int .i64 o.rb, .slice oa o.old.length oc, .int .i64 o.code] t)) : NewCut w w4 B q (.pointer (some ⟨w2.heap.size, 0, none⟩)) wx := by
  rw [he]
  exact ⟨_, o, a, c, a', c', oa, oc, rfl, hI.below (below_alloc _ _), hT.trans (Turned.of_below (below_alloc _ _)), treeW_late ho hm hT.size, hs.1, hs.2⟩
theorem cut_early {w w4 w2 : World} {B m Z : Nat} {q : PoolD} {o : TOutD} {a a' oa : Option Addr} {c c' oc : Nat} {o0 o1 o2 o3 o4 o5 : Value} (hI : TreeI w w2 B) (hT : Turned (fun k => k = B) w4 w2) (hL : Box6 w2 Z o0 o1 o2 o3 o4 o5) (ho : TreeMem w2 m w2.heap.size (.slice a o.pool.n c) (.slice a' o.pool.hn c') (.slice oa o.old.length oc) o.pool o.old.length (fstL o.old) (sndL o.old)) (hB : w4.heap.size ≤ Z) (hm : Z < m) (hZ : w.heap.size + 1 < Z) (hs : poolN o.pool ≤ poolN q + 40 ∧ o.old.length ≤ 3) (wx : World)
    (he : wx = put6 w2 Z (.slice a o.pool.n c) (.slice a' o.pool.hn c') (.int .i64 o.rs) (.int .i64 o.rb) (.slice oa o.old.length oc) (.int .i64 o.code)) : NewCut w w4 B q (.pointer (some ⟨Z, 0, none⟩)) wx := by
  rw [he]
  exact ⟨_, o, a, c, a', c', oa, oc, rfl, hI.late (Turned.put6 _ _ _ _ _ _ _ _) hZ, only_src hT (Turned.put6 _ _ _ _ _ _ _ _) hB, treeW_early hL ho hB hm, hs.1, hs.2⟩

def NewCutZ (w w4 : World) (B : Nat) (q : PoolD) (Z : Nat) (v : Value) (wc : World) : Prop :=
  v = .pointer (some ⟨Z, 0, none⟩) ∧ ∃ (o : TOutD) (oa : Option Addr) (oc : Nat) (oa' : Option Addr) (oc' : Nat) (ob : Option Addr) (od : Nat), TreeI w wc B ∧ Turned (fun k => k = B) w4 wc ∧ TreeW w4 Z o wc oa oc oa' oc' ob od ∧ poolN o.pool ≤ poolN q + 40 ∧ o.old.length ≤ 3
theorem cutZ_early {w w4 w2 : World} {B m Z : Nat} {q : PoolD} {o : TOutD} {a a' oa : Option Addr} {c c' oc : Nat} {o0 o1 o2 o3 o4 o5 : Value} (hI : TreeI w w2 B) (hT : Turned (fun k => k = B) w4 w2) (hL : Box6 w2 Z o0 o1 o2 o3 o4 o5) (ho : TreeMem w2 m w2.heap.size (.slice a o.pool.n c) (.slice a' o.pool.hn c') (.slice oa o.old.length oc) o.pool o.old.length (fstL o.old) (sndL o.old)) (hB : w4.heap.size ≤ Z) (hm : Z < m) (hZ : w.heap.size + 1 < Z) (hs : poolN o.pool ≤ poolN q + 40 ∧ o.old.length ≤ 3) (wx : World)
    (he : wx = put6 w2 Z (.slice a o.pool.n c) (.slice a' o.pool.hn c') (.int .i64 o.rs) (.int .i64 o.rb) (.slice oa o.old.length oc) (.int .i64 o.code)) : NewCutZ w w4 B q Z (.pointer (some ⟨Z, 0, none⟩)) wx := by
  rw [he]
  exact ⟨rfl, o, a, c, a', c', oa, oc, hI.late (Turned.put6 _ _ _ _ _ _ _ _) hZ, only_src hT (Turned.put6 _ _ _ _ _ _ _ _) hB, treeW_early hL ho hB hm, hs.1, hs.2⟩
/-- The answer is laid into the variables of the pool and the root. -/
theorem lay_vars {w w4 wn : World} {B X Z : Nat} {v0 v1 : Value} {q : PoolD} {rs rb : Int} {o : TOutD} {a a' oa : Option Addr} {c c' oc : Nat} (hI : TreeI w wn B) (hV : PoolW w wn X v0 v1 q rs rb) (hO : TreeW w4 Z o wn a c a' c' oa oc) (hX0 : w.heap.size + 1 < X) (hX : X + 1 < w4.heap.size) (wx : World)
    (he : wx = (((wn.setCell ⟨X, 0, none⟩ (.slice a o.pool.n c)).setCell ⟨X, 1, none⟩ (.slice a' o.pool.hn c')).setCell ⟨X + 1, 0, none⟩ (.int .i64 o.rs)).setCell ⟨X + 1, 1, none⟩ (.int .i64 o.rb)) :
    TreeI w wx B ∧ PoolW w wx X (.slice a o.pool.n c) (.slice a' o.pool.hn c') o.pool o.rs o.rb ∧ OldV w4 Z o.old oa oc wx ∧ wn.heap.size ≤ wx.heap.size := by
  rw [he]
  have t1 := put2_turned wn X (.slice a o.pool.n c) (.slice a' o.pool.hn c')
  have t2 := put2_turned ((wn.setCell ⟨X, 0, none⟩ (.slice a o.pool.n c)).setCell ⟨X, 1, none⟩ (.slice a' o.pool.hn c')) (X + 1) (.int .i64 o.rs) (.int .i64 o.rb)
  obtain ⟨lo, hi, h1, h2, h3⟩ := hO.pool
  exact ⟨(hI.late t1 (by omega)).late t2 (by omega), (PoolW.new hV.box hV.root h1 (by omega) h3 (by omega)).newRoot _ _, (hO.old.keep t1 (fun k hk => by omega)).keep t2 (fun k hk => by omega), Nat.le_trans t1.size t2.size⟩

theorem NewTreeDrawn.drew {B : Nat} {w w' : World} {e : Ending} (h : NewTreeDrawn B w e w') : NewTreeDrawn B w e w'.drew := by
  obtain ⟨q, v0, v1, rs, rb, h1, h2, h3, h4, h5⟩ := h
  exact ⟨q, v0, v1, rs, rb, h1, h2.below (Below.refl _ _).drew, h3, h4.below (Below.refl _ _).drew, h5.trans (Turned.of_below (Below.refl _ _).drew)⟩
/-- The results are laid, the pool first or the pointer first. -/
theorem tree_end1 {w wz : World} {B X : Nat} {v0 v1 : Value} {q : PoolD} (hI : TreeI w wz B) (hO : PoolOwn wz (w.heap.size + 2) wz.heap.size v0 v1 q) (hX : w.heap.size + 1 < X) (hq : poolN q ≤ 5000) (rs rb : Int) :
    Box2 ((((wz.setCell ⟨w.heap.size, 0, none⟩ v0).setCell ⟨w.heap.size, 1, none⟩ v1).setCell ⟨w.heap.size + 1, 0, none⟩ (.int .i64 rs)).setCell ⟨w.heap.size + 1, 1, none⟩ (.int .i64 rb)) w.heap.size v0 v1 ∧
    Box2 ((((wz.setCell ⟨w.heap.size, 0, none⟩ v0).setCell ⟨w.heap.size, 1, none⟩ v1).setCell ⟨w.heap.size + 1, 0, none⟩ (.int .i64 rs)).setCell ⟨w.heap.size + 1, 1, none⟩ (.int .i64 rb)) (w.heap.size + 1) (.int .i64 rs) (.int .i64 rb) ∧
    NewTreeDrawn B w (.returned (.tuple #[.agg #[v0, v1], .agg #[.int .i64 rs, .int .i64 rb]])) ((((wz.setCell ⟨w.heap.size, 0, none⟩ v0).setCell ⟨w.heap.size, 1, none⟩ v1).setCell ⟨w.heap.size + 1, 0, none⟩ (.int .i64 rs)).setCell ⟨w.heap.size + 1, 1, none⟩ (.int .i64 rb)) := by
  have t1 := put2_turned wz w.heap.size v0 v1
  have t2 := put2_turned ((wz.setCell ⟨w.heap.size, 0, none⟩ v0).setCell ⟨w.heap.size, 1, none⟩ v1) (w.heap.size + 1) (.int .i64 rs) (.int .i64 rb)
  have hz := Nat.le_trans t1.size t2.size
  have hp := hI.place
  exact ⟨(hI.res.put _ _).turned t2 (by omega), (hI.res2.turned t1 (by omega)).put _ _, q, v0, v1, rs, rb, rfl, ((hO.turned t1 (fun k hk => by omega)).turned t2 (fun k hk => by omega)).wide (by omega) (by omega), hq, (hI.src.turned t1 (fun k hk => by omega)).turned t2 (fun k hk => by omega), only_src (only_src hI.turn t1 (Nat.le_refl _)) t2 (by omega)⟩
theorem tree_end2 {w wz : World} {B X : Nat} {v0 v1 : Value} {q : PoolD} (hI : TreeI w wz B) (hO : PoolOwn wz (w.heap.size + 2) wz.heap.size v0 v1 q) (hX : w.heap.size + 1 < X) (hq : poolN q ≤ 5000) (rs rb : Int) :
    Box2 ((((wz.setCell ⟨w.heap.size + 1, 0, none⟩ (.int .i64 rs)).setCell ⟨w.heap.size + 1, 1, none⟩ (.int .i64 rb)).setCell ⟨w.heap.size, 0, none⟩ v0).setCell ⟨w.heap.size, 1, none⟩ v1) w.heap.size v0 v1 ∧
    Box2 ((((wz.setCell ⟨w.heap.size + 1, 0, none⟩ (.int .i64 rs)).setCell ⟨w.heap.size + 1, 1, none⟩ (.int .i64 rb)).setCell ⟨w.heap.size, 0, none⟩ v0).setCell ⟨w.heap.size, 1, none⟩ v1) (w.heap.size + 1) (.int .i64 rs) (.int .i64 rb) ∧
    NewTreeDrawn B w (.returned (.tuple #[.agg #[v0, v1], .agg #[.int .i64 rs, .int .i64 rb]])) ((((wz.setCell ⟨w.heap.size + 1, 0, none⟩ (.int .i64 rs)).setCell ⟨w.heap.size + 1, 1, none⟩ (.int .i64 rb)).setCell ⟨w.heap.size, 0, none⟩ v0).setCell ⟨w.heap.size, 1, none⟩ v1) := by
  have t1 := put2_turned wz (w.heap.size + 1) (.int .i64 rs) (.int .i64 rb)
  have t2 := put2_turned ((wz.setCell ⟨w.heap.size + 1, 0, none⟩ (.int .i64 rs)).setCell ⟨w.heap.size + 1, 1, none⟩ (.int .i64 rb)) w.heap.size v0 v1
  have hz := Nat.le_trans t1.size t2.size
  have hp := hI.place
  exact ⟨(hI.res.turned t1 (by omega)).put _ _, (hI.res2.put _ _).turned t2 (by omega), q, v0, v1, rs, rb, rfl, ((hO.turned t1 (fun k hk => by omega)).turned t2 (fun k hk => by omega)).wide (by omega) (by omega), hq, (hI.src.turned t1 (fun k hk => by omega)).turned t2 (fun k hk => by omega), only_src (only_src hI.turn t1 (by omega)) t2 (Nat.le_refl _)⟩

set_option maxRecDepth 20000 in
set_option maxHeartbeats 8000000 in
theorem tree_any (B : Nat) (w : World) (h : Src w B) :
    Calls Try.prog 61 #[.pointer (some ⟨B, 0, none⟩)] w (NewTreeDrawn B w) := by
  have hB := h.lt
  have ha0 := below_alloc w (.cells #[.slice none 0 0, .slice none 0 0] 26)
  have ha1 := below_alloc (w.alloc (.cells #[.slice none 0 0, .slice none 0 0] 26)) (.cells #[.int .i64 0, .int .i64 0] 33)
  have ha := below_next ha0 ha1
  have HR := hideT ((Box2.new w (.slice none 0 0) (.slice none 0 0) 26).below ha1)
  have hr2 := Box2.new (w.alloc (.cells #[.slice none 0 0, .slice none 0 0] 26)) (.int .i64 0) (.int .i64 0) 33
  rw [World.size_alloc] at hr2
  have HR2 := hideT hr2
  clear hr2 ha0 ha1
  go_enter Try.func61, Try.ntmps61
  go_wp2_with fail
  refine (n_any B 30 _ (h.below ha) (by omega)).mono ?_
  rintro e w1 ⟨⟨r1, rfl, h10, h11⟩, hs1, ht1⟩
  have HI1 : Hid (TreeI w w1 B) := ⟨hs1, (Turned.of_below (S := fun k => k = B) ha).trans ht1, HR.out.turned ht1 (by omega), HR2.out.turned ht1 (by omega), hB⟩
  have hz1 : w.heap.size + 2 ≤ w1.heap.size := by have := ht1.size; rw [World.size_alloc, World.size_alloc] at this; omega
  clear hs1 ht1 HR HR2 h ha
  go_wp2_with fail
  refine (specPoolNew_any (6 + r1) _).mono ?_
  rintro e w2 ⟨v0, v1, rfl, ho2, hb2⟩
  have hmany : 1 ≤ many (6 + r1) ∧ many (6 + r1) ≤ 40 := by unfold many; rw [if_pos (by omega)]; omega
  generalize many (6 + r1) = n0 at ho2 hmany
  obtain ⟨a, c, a', c', rfl, rfl⟩ := ho2.form
  have hbx := below_alloc w2 (.cells #[.slice a (newP n0).n c, .slice a' (newP n0).hn c'] 26)
  have hby := below_alloc (w2.alloc (.cells #[.slice a (newP n0).n c, .slice a' (newP n0).hn c'] 26)) (.cells #[.int .i64 0, .int .i64 0] 33)
  have HIx := hideT (((HI1.out.below hb2).below hbx).below hby)
  have hy2 := Box2.new (w2.alloc (.cells #[.slice a (newP n0).n c, .slice a' (newP n0).hn c'] 26)) (.int .i64 0) (.int .i64 0) 33
  rw [World.size_alloc] at hy2
  have hz2 : w.heap.size + 1 < w2.heap.size := by have := hb2.size; omega
  have HVx : Hid (PoolW w ((w2.alloc (.cells #[.slice a (newP n0).n c, .slice a' (newP n0).hn c'] 26)).alloc (.cells #[.int .i64 0, .int .i64 0] 33)) w2.heap.size (.slice a (newP n0).n c) (.slice a' (newP n0).hn c') (newP n0) 0 0) := ⟨(Box2.new _ _ _ _).below hby, hy2, _, _, (ho2.below hbx).below hby, by omega, by rw [World.size_alloc, World.size_alloc]; omega, Or.inl (Nat.le_refl _)⟩
  have hz3 : w2.heap.size + 1 < ((w2.alloc (.cells #[.slice a (newP n0).n c, .slice a' (newP n0).hn c'] 26)).alloc (.cells #[.int .i64 0, .int .i64 0] 33)).heap.size := by rw [World.size_alloc, World.size_alloc]; omega
  have HQ : Hid (poolN (newP n0) ≤ 100) := by
    show n0 + slotsN (fun _ => zeroS) n0 + 0 ≤ 100
    have : ∀ m, slotsN (fun _ => zeroS) m = 0 := fun m => by
      induction m with
      | zero => rfl
      | succ m ih => show slotsN (fun _ => zeroS) m + slotN zeroS = 0; rw [ih]; rfl
    rw [this]
    omega
  clear ho2 hb2 hbx hby hy2 HI1 hmany hz1
  obtain ⟨sa, sn, sc, sat, smix, ssize, hsrc⟩ := HIx.out.src
  have x0 := hsrc.c3.1
  have hsz := hsrc.sized
  clear hsrc
  go_upto_region 4 with fail
  generalize (w2.alloc (.cells #[.slice a (newP n0).n c, .slice a' (newP n0).hn c'] 26)).alloc (.cells #[.int .i64 0, .int .i64 0] 33) = wx at HIx HVx hz3 x0 ⊢
  generalize w2.heap.size = X at hz2 hz3 HVx ⊢
  have hs2 : 0 ≤ ssize.tdiv 2 ∧ ssize.tdiv 2 ≤ 6 := by
    obtain ⟨m, rfl⟩ := Int.eq_ofNat_of_zero_le hsz.1
    rw [show (m : Int).tdiv 2 = ((m / 2 : Nat) : Int) from (Int.ofNat_tdiv m 2).symm]
    omega
  go_wp2_with fail
  clear x0
  refine (n_any B (6 + ssize.tdiv 2) _ HIx.out.src (by omega)).mono ?_
  rintro e w3 ⟨⟨r3, rfl, h30, h31⟩, hs3, ht3⟩
  obtain ⟨k3, rfl⟩ := Int.eq_ofNat_of_zero_le h30
  have HI3 := hideT (HIx.out.next hs3 ht3)
  have HV3 := hideT (HVx.out.turned ht3 hB (by omega))
  have hz4 : X + 1 < w3.heap.size := Nat.lt_of_lt_of_le hz3 ht3.size
  clear hs3 ht3 HIx HVx hz3 h30
  go_wp2
  go_loopw [6, 7] (fun bv i wr => ∃ (k : Nat) (q : PoolD) (a : Option Addr) (c : Nat) (a' : Option Addr) (c' : Nat) (rs rb b : Int), k ≤ 20 ∧ i = .int .i64 k ∧ bv = .int .i64 b ∧ 1 ≤ b ∧ b + k ≤ 30 ∧ TreeI w wr B ∧ PoolW w wr X (.slice a q.n c) (.slice a' q.hn c') q rs rb ∧ poolN q + 60 * k ≤ 1400 ∧ X + 1 < wr.heap.size) (fun _ i _ => (intOf i).toNat)
  case atStart => exact ⟨k3, newP n0, _, _, _, _, 0, 0, 1, by omega, rfl, rfl, by omega, by omega, HI3.out, HV3.out, by have := HQ.out; omega, hz4⟩
  case round =>
    obtain ⟨k, q, qa, qc, qa', qc', rs, rb, b, hk, rfl, rfl, hb1, hb2, hI, hV, hq, hX⟩ := hrel
    have HI0 := hideT hI
    have HV0 := hideT hV
    clear hI hV HI3 HV3 HQ hz4
    by_cases hk0 : 0 < k
    · have hk0' : (0 : Int) < (k : Int) := by omega
      go_wp2_with fail
      refine (n_any B 2 _ HI0.out.src (by omega)).mono ?_
      rintro e w4 ⟨⟨r4, rfl, h40, h41⟩, hs4, ht4⟩
      have HI := hideT (HI0.out.next hs4 ht4)
      have HV := hideT (HV0.out.turned ht4 hB (by omega))
      have hX4 : X + 1 < w4.heap.size := Nat.lt_of_lt_of_le hX ht4.size
      have hr4 : r4 ≤ 1 := by omega
      clear hs4 ht4 HI0 HV0 h41
      go_upto_region 8 with fail
      obtain ⟨⟨x0, x1⟩, ⟨x2, x3⟩⟩ := HV.out.box
      obtain ⟨⟨y0, y1⟩, ⟨y2, y3⟩⟩ := HV.out.root
      have hBw : B < w4.heap.size := HI.out.src.lt
      go_cut [8] (fun v wc => NewCut w w4 B q v wc)
      case first =>
        have n0 : w4.heap.size ≠ X := by omega
        have n1 : w4.heap.size ≠ X + 1 := by omega
        go_region_held3 (fun w' => w'.cell? ⟨X, 0, none⟩ = some (.slice qa q.n qc) ∧ w'.cell? ⟨X, 1, none⟩ = some (.slice qa' q.hn qc') ∧ w'.cell? ⟨X + 1, 0, none⟩ = some (.int .i64 rs) ∧ w'.cell? ⟨X + 1, 1, none⟩ = some (.int .i64 rb)) (go_keep)
          (first
            | (go_at_call 62
               refine (number_any B _ ?_).mono ?_
               (first | exact HI.out.src.below (Below.refl _ _).drew | exact HI.out.src.below (below_alloc _ _).drew | exact HI.out.src.below (below_next (Below.refl _ _).drew (below_alloc _ _)) | exact HI.out.src.below (below_alloc _ _))
               rintro e ws ⟨⟨r, rfl⟩, hss, hts⟩
               have hTs : Turned (fun k => k = B) w4 ws := (by first | exact turned_undrew hts | exact (Turned.of_below (below_alloc _ _)).trans (turned_undrew hts) | exact (Turned.of_below (below_alloc _ _)).trans hts)
               (first | (have hLs : Box6 ws w4.heap.size (.slice none 0 0) (.slice none 0 0) (.int .i64 0) (.int .i64 0) (.slice none 0 0) (.int .i64 0) := (Box6.new w4 _ _ _ _ _ _ _).turned (turned_undrew hts) (by omega)) | (have hLs : Box6 ws w4.heap.size (.slice none 0 0) (.slice none 0 0) (.int .i64 0) (.int .i64 0) (.slice none 0 0) (.int .i64 0) := (Box6.new w4 _ _ _ _ _ _ _).turned hts (by omega)) | skip)
               have hVs := HV.out.turned hTs hB (by omega)
               have zp0 := hVs.box.1.1
               have zp1 := hVs.box.2.1
               have zp2 := hVs.root.1.1
               have zp3 := hVs.root.2.1
               have nsX : ws.heap.size ≠ X := (by have := hTs.size; omega)
               have nsY : ws.heap.size ≠ X + 1 := (by have := hTs.size; omega))
            | (go_at_call 63
               refine (data_any B _ ?_).mono ?_
               (first | exact hss | exact hss.below (below_alloc _ _))
               rintro e wd ⟨⟨d, rfl, hd16⟩, hsd, htd⟩
               have hTd : Turned (fun k => k = B) w4 wd := (by first | exact hTs.trans htd | exact hTs.trans ((Turned.of_below (below_alloc _ _)).trans htd))
               (first | (have hLd := hLs.turned htd (by omega)) | (have hLd : Box6 wd ws.heap.size (.slice none 0 0) (.slice none 0 0) (.int .i64 0) (.int .i64 0) (.slice none 0 0) (.int .i64 0) := (Box6.new ws _ _ _ _ _ _ _).turned htd (by have := hTs.size; omega)) | skip)
               have hVd := HV.out.turned hTd hB (by omega)
               have zd0 := hVd.box.1.1
               have zd1 := hVd.box.2.1
               have zd2 := hVd.root.1.1
               have zd3 := hVd.root.2.1
               have ndX : wd.heap.size ≠ X := (by have := hTd.size; omega)
               have ndY : wd.heap.size ≠ X + 1 := (by have := hTd.size; omega))
            | (go_at_call 22
               refine (specTreeWrite_any _ _ (w.heap.size + 2) wd.heap.size q rs rb r (b + r4) d _ ?_).mono ?_
               (first | exact hVd.at | exact hVd.at.below (below_alloc _ _) | exact hVd.at.below (Below.refl _ _).drew)
               rintro e w2' hnt
               obtain ⟨s0, s1, so, rfl, ho2, hb2'⟩ := hnt.mem (write_small q rs rb r d (b + r4)).2
               clear hnt
               obtain ⟨oa, oc, ob, od, of, og, rfl, rfl, rfl⟩ := ho2.form
               have hC2 : Below wd.heap.size wd w2' := (by first | exact hb2' | exact below_next (below_alloc _ _) hb2')
               (first | (have hL2 := hLd.below hC2; have l0 := hL2.1.1; have l1 := hL2.1.2; have l2 := hL2.2.1.1; have l3 := hL2.2.1.2; have l4 := hL2.2.2.1.1; have l5 := hL2.2.2.1.2; have l6 := hL2.2.2.2.1.1; have l7 := hL2.2.2.2.1.2; have l8 := hL2.2.2.2.2.1.1; have l9 := hL2.2.2.2.2.1.2; have l10 := hL2.2.2.2.2.2.1; have l11 := hL2.2.2.2.2.2.2) | (have hL2 : Box6 w2' wd.heap.size (.slice none 0 0) (.slice none 0 0) (.int .i64 0) (.int .i64 0) (.slice none 0 0) (.int .i64 0) := (Box6.new wd _ _ _ _ _ _ _).below hb2'; have l0 := hL2.1.1; have l1 := hL2.1.2; have l2 := hL2.2.1.1; have l3 := hL2.2.1.2; have l4 := hL2.2.2.1.1; have l5 := hL2.2.2.1.2; have l6 := hL2.2.2.2.1.1; have l7 := hL2.2.2.2.1.2; have l8 := hL2.2.2.2.2.1.1; have l9 := hL2.2.2.2.2.1.2; have l10 := hL2.2.2.2.2.2.1; have l11 := hL2.2.2.2.2.2.2) | skip)
               have hVe := hVd.below hC2
               have ze0 := hVe.box.1.1
               have ze1 := hVe.box.2.1
               have ze2 := hVe.root.1.1
               have ze3 := hVe.root.2.1))
        all_goals
          have HI5 := hideT (((HI.out.next hss hTs).next hsd (by first | exact htd | exact (Turned.of_below (below_alloc _ _)).trans htd)).below hC2)
          have hzs := hTs.size
          have hzd := hTd.size
          have hzt := hC2.size
          have HSm := hideT (write_small q rs rb r d (b + r4))
          have HT5 := hideT (hTd.trans (Turned.of_below (S := fun k => k = B) hC2))
          go_wp2_with fail
          go_meet
        all_goals (case rel => first | (have hf := cut_early HI5.out HT5.out hL2 ho2 (by omega) (by first | (rw [World.size_alloc]; omega) | exact hLd.1.lt) (by omega) HSm.out; exact hf _ rfl) | (have hf := cut_late (t := 50) HI5.out HT5.out ho2 hzd HSm.out; exact hf _ rfl))
      case rest =>
        obtain ⟨Z, o, oa, oc, oa', oc', ob, od, rfl, hI, hT6, hO, hoN, hoL⟩ := hcut
        have HI6 := hideT hI
        have HT6 := hideT hT6
        have HO6 := hideT hO
        obtain ⟨wn, rfl⟩ : ∃ x, x = wc := ⟨_, rfl⟩
        clear hI hT6 hO x0 x1 x2 x3 y0 y1 y2 y3
        go_wp2_with fail
        refine (one_any B 4 _ HI6.out.src (by omega)).mono ?_
        rintro e w7 ⟨⟨t7, rfl⟩, hs7, ht7⟩
        have HI7 := hideT (HI6.out.next hs7 ht7)
        have HT7 := hideT (HT6.out.trans ht7)
        have HV7 := hideT (HV.out.turned HT7.out hB (by omega))
        have HO7 := hideT (HO6.out.turned ht7 hBw)
        have hz7 := HT7.out.size
        clear hs7 ht7 HI6 HT6 HO6
        go_upto_if 40 with fail
        go_cut [8] (fun v wc => NewCutZ w w4 B q Z v wc)
        case first =>
          cases t7
          · go_wp2
            go_meet
            case rel => exact ⟨rfl, o, oa, oc, oa', oc', ob, od, HI7.out, HT7.out, HO7.out, hoN, hoL⟩
          · obtain ⟨⟨x0, x1⟩, ⟨x2, x3⟩⟩ := HV7.out.box
            obtain ⟨⟨y0, y1⟩, ⟨y2, y3⟩⟩ := HV7.out.root
            obtain ⟨lo7, hi7, hO71, hO72, hO73, hO74, hZ1, hZ2⟩ := HO7.out
            have HZb := hideT hO71.box
            clear hO71 hO72 hO73 hO74
            obtain ⟨⟨z0, z1⟩, ⟨z2, z3⟩, ⟨z4, z5⟩, ⟨z6, z7⟩, ⟨z8, z9⟩, ⟨z10, z11⟩⟩ := HZb.out
            have n1 : Z ≠ X := by omega
            have n2 : Z ≠ X + 1 := by omega
            go_wp2_with fail
            go_region_held3 (fun w' => w'.cell? ⟨X, 0, none⟩ = some (.slice qa q.n qc) ∧ w'.cell? ⟨X, 1, none⟩ = some (.slice qa' q.hn qc') ∧ w'.cell? ⟨X + 1, 0, none⟩ = some (.int .i64 rs) ∧ w'.cell? ⟨X + 1, 1, none⟩ = some (.int .i64 rb)) (go_keep)
              (first
                | (go_at_call 62
                   refine (number_any B _ ?_).mono ?_
                   (first | exact HI7.out.src.below (Below.refl _ _).drew | exact HI7.out.src)
                   rintro e ws ⟨⟨r, rfl⟩, hss, hts⟩
                   have hTs : Turned (fun k => k = B) w7 ws := (by first | exact turned_undrew hts | exact hts)
                   have hVs := HV7.out.turned hTs hB (by omega)
                   have zp0 := hVs.box.1.1
                   have zp1 := hVs.box.2.1
                   have zp2 := hVs.root.1.1
                   have zp3 := hVs.root.2.1)
                | (go_at_call 30
                   refine (specTreeTrim_any _ _ (w.heap.size + 2) ws.heap.size q rs rb r (b + r4) _ ?_).mono ?_
                   (first | exact hVs.at | exact hVs.at.below (Below.refl _ _).drew)
                   rintro e w2' hnt
                   obtain ⟨s0, s1, so, rfl, ho2, hb2'⟩ := hnt.mem (trim_small q rs rb r (b + r4)).2
                   clear hnt
                   obtain ⟨ta, tc, tb, td, tf, tg, rfl, rfl, rfl⟩ := ho2.form
                   have hC2 : Below ws.heap.size ws w2' := (by first | exact hb2' | exact below_undrew hb2')
                   have hL2 := (HZb.out.turned hTs (by omega)).below hC2
                   have l0 := hL2.1.1
                   have l1 := hL2.1.2
                   have l2 := hL2.2.1.1
                   have l3 := hL2.2.1.2
                   have l4 := hL2.2.2.1.1
                   have l5 := hL2.2.2.1.2
                   have l6 := hL2.2.2.2.1.1
                   have l7 := hL2.2.2.2.1.2
                   have l8 := hL2.2.2.2.2.1.1
                   have l9 := hL2.2.2.2.2.1.2
                   have l10 := hL2.2.2.2.2.2.1
                   have l11 := hL2.2.2.2.2.2.2
                   have hVe := hVs.below hC2
                   have ze0 := hVe.box.1.1
                   have ze1 := hVe.box.2.1
                   have ze2 := hVe.root.1.1
                   have ze3 := hVe.root.2.1))
            all_goals
              have HI8 := hideT ((HI7.out.next hss hTs).below hC2)
              have HT8 := hideT ((HT7.out.trans hTs).trans (Turned.of_below (S := fun k => k = B) hC2))
              have HSm := hideT (trim_small q rs rb r (b + r4))
              have hzs := hTs.size
              have hzt := hC2.size
              go_wp2_with fail
              go_meet
            all_goals (case rel => (have hf := cutZ_early HI8.out HT8.out hL2 ho2 (by omega) (by omega) (by omega) HSm.out; exact hf _ rfl))
        case rest =>
          obtain ⟨rfl, o2, oa2, oc2, oa2', oc2', ob2, od2, hI, hT8, hO, hoN2, hoL2⟩ := hcut
          have HI8 := hideT hI
          have HV8 := hideT (HV.out.turned hT8 hB (by omega))
          have HO8 := hideT hO
          have hz8 := hT8.size
          obtain ⟨wn2, rfl⟩ : ∃ x, x = wc := ⟨_, rfl⟩
          clear hI hT8 hO HI7 HV7 HO7 HT7 hz7 hoN hoL
          obtain ⟨lo7, hi7, hO71, hO72, hO73, hO74, hZ1, hZ2⟩ := HO8.out
          have HZb := hideT hO71.box
          clear hO71 hO72 hO73 hO74
          obtain ⟨⟨z0, z1⟩, ⟨z2, z3⟩, ⟨z4, z5⟩, ⟨z6, z7⟩, ⟨z8, z9⟩, ⟨z10, z11⟩⟩ := HZb.out
          by_cases e0 : o2.code = 0
          · have f0 : (o2.code != 0) = false := by simp [e0]
            obtain ⟨⟨x0, x1⟩, ⟨x2, x3⟩⟩ := HV8.out.box
            obtain ⟨⟨y0, y1⟩, ⟨y2, y3⟩⟩ := HV8.out.root
            have n1 : Z ≠ X := by omega
            have n2 : Z ≠ X + 1 := by omega
            go_upto_region 14 with fail
            obtain ⟨wy, hwy⟩ : ∃ x, x = (((wn2.setCell ⟨X, 0, none⟩ (.slice oa2 o2.pool.n oc2)).setCell ⟨X, 1, none⟩ (.slice oa2' o2.pool.hn oc2')).setCell ⟨X + 1, 0, none⟩ (.int .i64 o2.rs)).setCell ⟨X + 1, 1, none⟩ (.int .i64 o2.rb) := ⟨_, rfl⟩
            obtain ⟨hI9, hV9, hO9, hz9⟩ := lay_vars HI8.out HV8.out HO8.out (by omega) (by omega) wy hwy
            rw [← hwy]
            have HI9 := hideT hI9
            have HV9 := hideT hV9
            have HO9 := hideT hO9
            clear hwy hI9 hV9 hO9 HI8 HV8 HO8 HZb x0 x1 x2 x3 y0 y1 y2 y3 z0 z1 z2 z3 z4 z5 z6 z7 z8 z9 z10 z11 f0 e0
            go_wp2
            go_loopw [9] (fun iv wr => ∃ (j : Nat) (q2 : PoolD) (a : Option Addr) (c : Nat) (a' : Option Addr) (c' : Nat), j ≤ o2.old.length ∧ iv = .int .i64 j ∧ TreeI w wr B ∧ PoolW w wr X (.slice a q2.n c) (.slice a' q2.hn c') q2 o2.rs o2.rb ∧ OldV w4 Z o2.old ob2 od2 wr ∧ poolN q2 ≤ poolN q + 40 + j ∧ w4.heap.size ≤ wr.heap.size) (fun iv _ => o2.old.length - (intOf iv).toNat)
            case atStart => exact ⟨0, o2.pool, _, _, _, _, Nat.zero_le _, rfl, HI9.out, HV9.out, HO9.out, by omega, by omega⟩
            case round =>
              obtain ⟨j, q2, ja, jc, ja', jc', hj, rfl, hI, hV, hO, hq2, hzr⟩ := hrel
              have HIa := hideT hI
              have HVa := hideT hV
              have HOa := hideT hO
              clear hI hV hO HI9 HV9 HO9
              have z4 := HOa.out.1
              by_cases hlt : j < o2.old.length
              · have hlt' : (j : Int) < (o2.old.length : Int) := by omega
                go_wp2_with fail
                refine (one_any B 3 _ HIa.out.src (by omega)).mono ?_
                rintro e w5 ⟨⟨t5, rfl⟩, hs5, ht5⟩
                have HIb := hideT (HIa.out.next hs5 ht5)
                have HVb := hideT (HVa.out.turned ht5 hB (by omega))
                have HOb := hideT (HOa.out.keep ht5 (fun k hk => by omega))
                have hz5 := ht5.size
                clear hs5 ht5 HIa HVa HOa z4
                cases t5
                · have z4 := HOb.out.1
                  obtain ⟨_, hZ0, hi5, hpt⟩ := HOb.out
                  obtain ⟨m5, oa5, oc5, hv5, hcc5, hc5⟩ := id hpt
                  simp only [Value.slice.injEq, true_and] at hv5
                  obtain ⟨rfl, rfl⟩ := hv5
                  obtain ⟨ib, ioff, rfl, hib1, hib2, hicell⟩ := hc5 (by omega)
                  obtain ⟨i0, i1⟩ := hicell j hlt
                  clear hc5 hicell hpt m5
                  obtain ⟨⟨x0, x1⟩, ⟨x2, x3⟩⟩ := HVb.out.box
                  have n1 : X ≠ Z := by omega
                  have n2 : X ≠ ib := by omega
                  have hzb : ib < w5.heap.size := lt_of_cell i0
                  have hfp := field_pool
                  go_wp2_with fail
                  go_region_law
                    (first
                      | (go_simp; go_at_call 17
                         refine (specPoolHold_any _ _ (w.heap.size + 2) w5.heap.size q2 (fstL o2.old j) (sndL o2.old j) _ ?_ ?_).mono ?_
                         (first | exact HVb.out.at.below (Below.refl _ _).drew | exact HVb.out.at)
                         (omega)
                         rintro e w6 ⟨u0, u1, rfl, ho6, hb6⟩
                         obtain ⟨pa, pc, pb', pd, rfl, rfl⟩ := ho6.form
                         have hC6 : Below w5.heap.size w5 w6 := (by first | exact hb6 | exact below_undrew hb6)
                         have hV6 := HVb.out.below hC6
                         have hO6 := HOb.out.below hC6
                         have zr0 := hV6.box.1.1
                         have zr0' := hV6.box.1.2
                         have zr1 := hV6.box.2.1
                         have zr1' := hV6.box.2.2
                         have zr2 := hO6.1
                         have zr3 := (hC6.cell (lt_of_cell i0)).trans i0
                         have zr4 := (hC6.cell (lt_of_cell i1)).trans i1))
                  all_goals
                    have HI6 := hideT (HIb.out.below hC6)
                    have HV6 := hideT hV6
                    have HO6 := hideT hO6
                    have Ho6 : Hid (PoolOwn w6 w5.heap.size w6.heap.size (.slice pa (holdP q2 (fstL o2.old j) (sndL o2.old j)).pool.n pc) (.slice pb' (holdP q2 (fstL o2.old j) (sndL o2.old j)).pool.hn pd) (holdP q2 (fstL o2.old j) (sndL o2.old j)).pool) := ho6
                    have hz6 := hC6.size
                    have hsm := hold_small' q2 (fstL o2.old j) (sndL o2.old j)
                    go_wp2
                    go_roundw
                    case rel => exact ⟨j + 1, (holdP q2 (fstL o2.old j) (sndL o2.old j)).pool, _, _, _, _, by omega, by go_num, HI6.out.late (put2_turned _ _ _ _) (by omega), PoolW.new HV6.out.box HV6.out.root Ho6.out (by omega) (Nat.le_refl _) (by omega), HO6.out.keep (put2_turned _ _ _ _) (fun k hk => by omega), by omega, Nat.le_trans (show w4.heap.size ≤ w6.heap.size by omega) (put2_turned _ _ _ _).size⟩
                    case measure => simp [intOf]; omega
                · go_wp2_with fail
                  go_wp2_with fail
                  refine (one_any B 3 _ HIb.out.src (by omega)).mono ?_
                  rintro e w10 ⟨⟨t10, rfl⟩, hs10, ht10⟩
                  have HI10 := hideT (HIb.out.next hs10 ht10)
                  have HV10 := hideT (HVb.out.turned ht10 hB (by omega))
                  have hz10 := ht10.size
                  clear hs10 ht10
                  cases t10
                  · go_wp2
                    go_roundw
                    case rel => exact ⟨k - 1, q2, _, _, _, _, o2.rs, o2.rb, b + r4, by omega, congrArg (Value.int .i64) (by omega), rfl, by omega, by omega, HI10.out, HV10.out, by omega, by omega⟩
                    case measure => simp [intOf]; omega
                  · obtain ⟨⟨x0, x1⟩, ⟨x2, x3⟩⟩ := HV10.out.box
                    go_wp2_with fail
                    refine (specPoolSync_any _ _ (w.heap.size + 2) w10.heap.size q2 _ HV10.out.at (by omega)).mono ?_
                    rintro e w11 ⟨u0, u1, rfl, ho11, hb11⟩
                    obtain ⟨sa1, sc1, sa2, sc2, rfl, rfl⟩ := ho11.form
                    have HI11 := hideT (HI10.out.below hb11)
                    have HV11 := hideT (HV10.out.below hb11)
                    have Ho11 := hideT ho11
                    have hz11 := hb11.size
                    clear ho11 hb11 x0 x1 x2 x3
                    obtain ⟨⟨x0, x1⟩, ⟨x2, x3⟩⟩ := HV11.out.box
                    have hsm := sync_small' q2
                    go_wp2
                    go_roundw
                    case rel => exact ⟨k - 1, syncP q2, _, _, _, _, o2.rs, o2.rb, b + r4, by omega, congrArg (Value.int .i64) (by omega), rfl, by omega, by omega, HI11.out.late (put2_turned _ _ _ _) (by omega), PoolW.new HV11.out.box HV11.out.root Ho11.out (by omega) (Nat.le_refl _) (by omega), by omega, Nat.lt_of_lt_of_le (show X + 1 < w11.heap.size by omega) (put2_turned _ _ _ _).size⟩
                    case measure => simp [intOf]; omega
              · have hlt' : ¬ (j : Int) < (o2.old.length : Int) := by omega
                go_wp2_with fail
                refine (one_any B 3 _ HIa.out.src (by omega)).mono ?_
                rintro e w10 ⟨⟨t10, rfl⟩, hs10, ht10⟩
                have HI10 := hideT (HIa.out.next hs10 ht10)
                have HV10 := hideT (HVa.out.turned ht10 hB (by omega))
                have hz10 := ht10.size
                clear hs10 ht10
                cases t10
                · go_wp2
                  go_roundw
                  case rel => exact ⟨k - 1, q2, _, _, _, _, o2.rs, o2.rb, b + r4, by omega, congrArg (Value.int .i64) (by omega), rfl, by omega, by omega, HI10.out, HV10.out, by omega, by omega⟩
                  case measure => simp [intOf]; omega
                · obtain ⟨⟨x0, x1⟩, ⟨x2, x3⟩⟩ := HV10.out.box
                  go_wp2_with fail
                  refine (specPoolSync_any _ _ (w.heap.size + 2) w10.heap.size q2 _ HV10.out.at (by omega)).mono ?_
                  rintro e w11 ⟨u0, u1, rfl, ho11, hb11⟩
                  obtain ⟨sa1, sc1, sa2, sc2, rfl, rfl⟩ := ho11.form
                  have HI11 := hideT (HI10.out.below hb11)
                  have HV11 := hideT (HV10.out.below hb11)
                  have Ho11 := hideT ho11
                  have hz11 := hb11.size
                  clear ho11 hb11 x0 x1 x2 x3
                  obtain ⟨⟨x0, x1⟩, ⟨x2, x3⟩⟩ := HV11.out.box
                  have hsm := sync_small' q2
                  go_wp2
                  go_roundw
                  case rel => exact ⟨k - 1, syncP q2, _, _, _, _, o2.rs, o2.rb, b + r4, by omega, congrArg (Value.int .i64) (by omega), rfl, by omega, by omega, HI11.out.late (put2_turned _ _ _ _) (by omega), PoolW.new HV11.out.box HV11.out.root Ho11.out (by omega) (Nat.le_refl _) (by omega), by omega, Nat.lt_of_lt_of_le (show X + 1 < w11.heap.size by omega) (put2_turned _ _ _ _).size⟩
                  case measure => simp [intOf]; omega
          · have f0 : (o2.code != 0) = true := by simp [e0]
            go_wp2
            go_roundw
            case rel => exact ⟨k - 1, q, _, _, _, _, rs, rb, b + r4, by omega, congrArg (Value.int .i64) (by omega), rfl, by omega, by omega, HI8.out, HV8.out, by omega, by omega⟩
            case measure => simp [intOf]; omega
    · have hk0' : ¬ (0 : Int) < (k : Int) := by omega
      go_wp2_with fail
      refine (one_any B 20 _ HI0.out.src (by omega)).mono ?_
      rintro e w5 ⟨⟨t5, rfl⟩, hs5, ht5⟩
      have HI5 := hideT (HI0.out.next hs5 ht5)
      have HV5 := hideT (HV0.out.turned ht5 hB (by omega))
      have hz5 := ht5.size
      clear hs5 ht5 HI0 HV0
      cases t5
      · obtain ⟨⟨x0, x1⟩, ⟨x2, x3⟩⟩ := HV5.out.box
        obtain ⟨⟨y0, y1⟩, ⟨y2, y3⟩⟩ := HV5.out.root
        obtain ⟨⟨r0, r1'⟩, ⟨r2, r3'⟩⟩ := HI5.out.res
        obtain ⟨⟨u0, u1⟩, ⟨u2, u3⟩⟩ := HI5.out.res2
        have n1 : w.heap.size ≠ X := by omega
        have n2 : w.heap.size ≠ X + 1 := by omega
        have n3 : w.heap.size + 1 ≠ X := by omega
        have n4 : w.heap.size + 1 ≠ X + 1 := by omega
        have n5 : w.heap.size ≠ w.heap.size + 1 := by omega
        have n6 : w.heap.size + 1 ≠ w.heap.size := by omega
        have E1 := tree_end1 (X := X) HI5.out HV5.out.own2 (by omega) (show poolN q ≤ 5000 by omega) rs rb
        have E2 := tree_end2 (X := X) HI5.out HV5.out.own2 (by omega) (show poolN q ≤ 5000 by omega) rs rb
        have HE1 := hideT E1
        have HE2 := hideT E2
        clear E1 E2
        go_wp2_with fail
        go_region
        all_goals
          go_wp2
          first
            | exact bodyPost_ret (v := .tuple #[.agg #[.slice qa q.n qc, .slice qa' q.hn qc'], .agg #[.int .i64 rs, .int .i64 rb]]) (by simp [results, Try.results61, go_sem, HE1.out.1.1.1, HE1.out.1.2.1, HE1.out.2.1.1.1, HE1.out.2.1.2.1]) rfl HE1.out.2.2.drew
            | exact bodyPost_ret (v := .tuple #[.agg #[.slice qa q.n qc, .slice qa' q.hn qc'], .agg #[.int .i64 rs, .int .i64 rb]]) (by simp [results, Try.results61, go_sem, HE2.out.1.1.1, HE2.out.1.2.1, HE2.out.2.1.1.1, HE2.out.2.1.2.1]) rfl HE2.out.2.2.drew
      · go_wp2_with fail
        refine (n_any B 3 _ HI5.out.src (by omega)).mono ?_
        rintro e w6 ⟨⟨r6, rfl, h60, h61⟩, hs6, ht6⟩
        have HI6 := hideT (HI5.out.next hs6 ht6)
        have HV6 := hideT (HV5.out.turned ht6 hB (by omega))
        have hz6 := ht6.size
        clear hs6 ht6 HI5 HV5
        by_cases e0 : r6 = 0
        · subst e0
          obtain ⟨⟨y0, y1⟩, ⟨y2, y3⟩⟩ := HV6.out.root
          go_upto_region 27 with fail
          have t7 := Turned.put w6 (X + 1) 1 (.int .i64 (wrap64 (rb + 1)))
          have HI7 := hideT (HI6.out.late t7 (by omega))
          have HV7 : Hid (PoolW w (w6.setCell ⟨X + 1, 1, none⟩ (.int .i64 (wrap64 (rb + 1)))) X (.slice qa q.n qc) (.slice qa' q.hn qc') q rs (wrap64 (rb + 1))) := by
            obtain ⟨lo, hi, h1, h2, h3, h4⟩ := HV6.out.own
            exact ⟨HV6.out.box.turned t7 (by omega), ⟨HV6.out.root.1.other _ (Or.inr (by omega)), HV6.out.root.2.set _⟩, lo, hi, h1.turned t7 (fun k hk => by omega), h2, Nat.le_trans h3 t7.size, h4⟩
          clear t7 y0 y1 y2 y3 HI6 HV6
          generalize w6.setCell ⟨X + 1, 1, none⟩ (.int .i64 (wrap64 (rb + 1))) = w7 at HI7 HV7 ⊢
          generalize wrap64 (rb + 1) = rb7 at HV7 ⊢
          obtain ⟨⟨x0, x1⟩, ⟨x2, x3⟩⟩ := HV7.out.box
          obtain ⟨⟨y0, y1⟩, ⟨y2, y3⟩⟩ := HV7.out.root
          obtain ⟨⟨r0, r1'⟩, ⟨r2, r3'⟩⟩ := HI7.out.res
          obtain ⟨⟨u0, u1⟩, ⟨u2, u3⟩⟩ := HI7.out.res2
          have n1 : w.heap.size ≠ X := by omega
          have n2 : w.heap.size ≠ X + 1 := by omega
          have n3 : w.heap.size + 1 ≠ X := by omega
          have n4 : w.heap.size + 1 ≠ X + 1 := by omega
          have n5 : w.heap.size ≠ w.heap.size + 1 := by omega
          have n6 : w.heap.size + 1 ≠ w.heap.size := by omega
          have E1 := tree_end1 (X := X) HI7.out HV7.out.own2 (by omega) (show poolN q ≤ 5000 by omega) rs rb7
          have E2 := tree_end2 (X := X) HI7.out HV7.out.own2 (by omega) (show poolN q ≤ 5000 by omega) rs rb7
          have HE1 := hideT E1
          have HE2 := hideT E2
          clear E1 E2
          go_wp2_with fail
          go_region
          all_goals
            go_wp2
            first
              | exact bodyPost_ret (v := .tuple #[.agg #[.slice qa q.n qc, .slice qa' q.hn qc'], .agg #[.int .i64 rs, .int .i64 rb7]]) (by simp [results, Try.results61, go_sem, HE1.out.1.1.1, HE1.out.1.2.1, HE1.out.2.1.1.1, HE1.out.2.1.2.1]) rfl HE1.out.2.2.drew
              | exact bodyPost_ret (v := .tuple #[.agg #[.slice qa q.n qc, .slice qa' q.hn qc'], .agg #[.int .i64 rs, .int .i64 rb7]]) (by simp [results, Try.results61, go_sem, HE2.out.1.1.1, HE2.out.1.2.1, HE2.out.2.1.1.1, HE2.out.2.1.2.1]) rfl HE2.out.2.2.drew
        · have f0 : (r6 == 0) = false := by simp [e0]
          by_cases e1 : r6 = 1
          · subst e1
            clear e0 f0
            obtain ⟨⟨x0, x1⟩, ⟨x2, x3⟩⟩ := HV6.out.box
            go_wp2_with fail
            refine (ptr_any B (w.heap.size + 2) w6.heap.size _ _ q _ HI6.out.src HV6.out.at (by omega) (Nat.le_refl _) (by have : q.n ≤ poolN q := (by unfold poolN; omega); omega)).mono ?_
            rintro e w7 ⟨⟨ps, pb, rfl⟩, hs7, ht7⟩
            have HI7 := hideT (HI6.out.next hs7 ht7)
            have HV7 := hideT (HV6.out.turned ht7 hB (by omega))
            have hz7 := ht7.size
            clear hs7 ht7 HI6 HV6 x0 x1 x2 x3
            obtain ⟨⟨y0, y1⟩, ⟨y2, y3⟩⟩ := HV7.out.root
            go_upto_region 27 with fail
            have HI8 := hideT (HI7.out.late (put2_turned w7 (X + 1) (.int .i64 ps) (.int .i64 pb)) (by omega))
            have HV8 := hideT (HV7.out.newRoot ps pb)
            clear y0 y1 y2 y3 HI7 HV7
            generalize (w7.setCell ⟨X + 1, 0, none⟩ (.int .i64 ps)).setCell ⟨X + 1, 1, none⟩ (.int .i64 pb) = w8 at HI8 HV8 ⊢
            obtain ⟨⟨x0, x1⟩, ⟨x2, x3⟩⟩ := HV8.out.box
            obtain ⟨⟨y0, y1⟩, ⟨y2, y3⟩⟩ := HV8.out.root
            obtain ⟨⟨r0, r1'⟩, ⟨r2, r3'⟩⟩ := HI8.out.res
            obtain ⟨⟨u0, u1⟩, ⟨u2, u3⟩⟩ := HI8.out.res2
            have n1 : w.heap.size ≠ X := by omega
            have n2 : w.heap.size ≠ X + 1 := by omega
            have n3 : w.heap.size + 1 ≠ X := by omega
            have n4 : w.heap.size + 1 ≠ X + 1 := by omega
            have n5 : w.heap.size ≠ w.heap.size + 1 := by omega
            have n6 : w.heap.size + 1 ≠ w.heap.size := by omega
            have E1 := tree_end1 (X := X) HI8.out HV8.out.own2 (by omega) (show poolN q ≤ 5000 by omega) ps pb
            have E2 := tree_end2 (X := X) HI8.out HV8.out.own2 (by omega) (show poolN q ≤ 5000 by omega) ps pb
            have HE1 := hideT E1
            have HE2 := hideT E2
            clear E1 E2
            go_wp2_with fail
            go_region
            all_goals
              go_wp2
              first
                | exact bodyPost_ret (v := .tuple #[.agg #[.slice qa q.n qc, .slice qa' q.hn qc'], .agg #[.int .i64 ps, .int .i64 pb]]) (by simp [results, Try.results61, go_sem, HE1.out.1.1.1, HE1.out.1.2.1, HE1.out.2.1.1.1, HE1.out.2.1.2.1]) rfl HE1.out.2.2.drew
                | exact bodyPost_ret (v := .tuple #[.agg #[.slice qa q.n qc, .slice qa' q.hn qc'], .agg #[.int .i64 ps, .int .i64 pb]]) (by simp [results, Try.results61, go_sem, HE2.out.1.1.1, HE2.out.1.2.1, HE2.out.2.1.1.1, HE2.out.2.1.2.1]) rfl HE2.out.2.2.drew
          · have f1 : (r6 == 1) = false := by simp [e1]
            obtain ⟨⟨x0, x1⟩, ⟨x2, x3⟩⟩ := HV6.out.box
            obtain ⟨⟨y0, y1⟩, ⟨y2, y3⟩⟩ := HV6.out.root
            obtain ⟨lo, hi, ho6, hlo6, hhi6, hX6⟩ := HV6.out.own
            have Ho6 := hideT ho6
            obtain ⟨bs, hb, kb, kv, _, _, hint, _, hpl⟩ := ho6
            have Hint := hideT hint
            have Hpl : Hid (0 < q.hn → lo ≤ hb ∧ hb < hi) := fun h0 => hpl hb (Or.inr ⟨h0, rfl⟩)
            clear hpl hint
            obtain ⟨i0, hi0, hzz⟩ := Option.map_eq_some_iff.1 infoInt64
            simp only [Prod.mk.injEq] at hzz
            have HTi := hideT (And.intro hi0 hzz)
            clear hi0 hzz
            have hqh : q.hn ≤ 5000 := by have : q.hn ≤ poolN q := (by unfold poolN; omega); omega
            have ha6 := below_alloc w6 (.cells #[.int .i64 rs] 2)
            have hV8 := HV6.out.below ha6
            have z0 := hV8.box.2.1
            have z1 := hV8.box.2.2
            have hza : (w6.alloc (.cells #[.int .i64 rs] 2)).heap.size = w6.heap.size + 1 := World.size_alloc _ _
            have Hnw := hideT (World.news_of_block (heap_alloc_last w6 (.cells #[.int .i64 rs] 2)))
            by_cases hlt : q.hn < qc'
            · obtain ⟨hrow, rfl, hq0⟩ := Hint.out.row hlt
              have hpb := Hpl.out hq0
              have Hrow := hideT (hrow.kept (grownL ha6 none) (by simp [Value.ownBlock]))
              clear hrow
              go_upto_region 22 with fail
              go_wp2_with (first
                | (at_builtin; refine wpList_append_lies _ rfl _ _ 24 rfl hb 2 i0 (.int .i64 0) 1 8 (by kernel_rfl) HTi.out.1 HTi.out.2.1 HTi.out.2.2.1 HTi.out.2.2.2 rfl (by decide) (.slice (some ⟨hb, 0, none⟩) q.hn qc') q.hn (ic q.h q.hn) rfl Hrow.out ⟨w6.heap.size, 0, none⟩ 1 1 [.int .i64 rs] rfl rfl Hnw.out (by simp [Value.oneCell']) (by decide) (by unfold maxLen; omega) (by omega) (by omega) _ rfl ?_; intro g9 c9 w9 hown9 hgrow9 hat9 hlt9; have t9 := turned_of_grown hgrow9; have hX9 := hV8.box.turned t9 (fun e => by have : hb = X := (by simpa [Value.ownBlock] using e); omega); have k2 := hX9.2.1; have k3 := hX9.2.2)
                | go_in)
              have hgX : g9 ≠ X ∧ g9 ≠ X + 1 ∧ ((0 < q.hn ∧ (Value.slice (some ⟨hb, 0, none⟩) q.hn qc').ownBlock = some g9) ∨ ((w6.alloc (.cells #[.int .i64 rs] 2)).heap.size ≤ g9 ∧ w.heap.size + 2 ≤ g9)) := by
                rcases hat9 with h | h
                · have : hb = g9 := by simpa [Value.ownBlock] using h
                  exact ⟨by omega, by omega, Or.inl ⟨hq0, h⟩⟩
                · rw [hza] at h
                  rw [hza]
                  exact ⟨by omega, by omega, Or.inr ⟨by omega, by omega⟩⟩
              have hO9 := append_held (L := w.heap.size + 2) (X := X) (Ho6.out.below ha6) (by rw [hza]; omega) hlo6 (t9.mono (fun k hk => ⟨hq0, hk⟩)) hown9 hgX.2.2 (hX6.imp id (fun h => by omega)) hgX.1 (by unfold maxLen; omega)
              have hI9 := (HI6.out.below ha6).late (C := hb) (t9.mono (fun k hk => by simpa [Value.ownBlock, eq_comm] using hk)) (by omega)
              have hr9 := hV8.root.turned t9 (fun e => by have : hb = X + 1 := (by simpa [Value.ownBlock] using e); omega)
              have tX := Turned.put w9 X 1 (.slice (some ⟨g9, 0, none⟩) (q.hn + 1) c9)
              have HI10 := hideT (hI9.late tX (by omega))
              have HX10 : Hid (Box2 (w9.setCell ⟨X, 1, none⟩ (.slice (some ⟨g9, 0, none⟩) (q.hn + 1) c9)) X (.slice qa q.n qc) (.slice (some ⟨g9, 0, none⟩) (q.hn + 1) c9)) := ⟨hX9.1.other _ (Or.inr (by omega)), hX9.2.set _⟩
              have HY10 := hideT (hr9.turned tX (by omega))
              have HO10 := hideT (hO9.wide (Nat.le_refl _) tX.size)
              have hqN : poolN (holdD q rs) ≤ 5000 := by show q.n + slotsN q.s q.n + (q.hn + 1) ≤ 5000; have : poolN q = q.n + slotsN q.s q.n + q.hn := rfl; omega
              clear x0 x1 x2 x3 y0 y1 y2 y3 z0 z1 k2 k3 hX9 hr9 hO9 hI9 tX hown9 hgrow9 t9 HI6 HV6 hV8 Ho6
              generalize w9.setCell ⟨X, 1, none⟩ (.slice (some ⟨g9, 0, none⟩) (q.hn + 1) c9) = w10 at HI10 HX10 HY10 HO10 ⊢
              obtain ⟨⟨x0, x1⟩, ⟨x2, x3⟩⟩ := HX10.out
              obtain ⟨⟨y0, y1⟩, ⟨y2, y3⟩⟩ := HY10.out
              obtain ⟨⟨r0, r1'⟩, ⟨r2, r3'⟩⟩ := HI10.out.res
              obtain ⟨⟨u0, u1⟩, ⟨u2, u3⟩⟩ := HI10.out.res2
              have n1 : w.heap.size ≠ X := by omega
              have n2 : w.heap.size ≠ X + 1 := by omega
              have n3 : w.heap.size + 1 ≠ X := by omega
              have n4 : w.heap.size + 1 ≠ X + 1 := by omega
              have n5 : w.heap.size ≠ w.heap.size + 1 := by omega
              have n6 : w.heap.size + 1 ≠ w.heap.size := by omega
              have E1 := tree_end1 (X := X) HI10.out HO10.out (by omega) (show poolN (holdD q rs) ≤ 5000 by omega) rs rb
              have E2 := tree_end2 (X := X) HI10.out HO10.out (by omega) (show poolN (holdD q rs) ≤ 5000 by omega) rs rb
              have HE1 := hideT E1
              have HE2 := hideT E2
              clear E1 E2
              go_wp2_with fail
              go_region
              all_goals
                go_wp2
                first
                  | exact bodyPost_ret (v := .tuple #[.agg #[.slice qa q.n qc, .slice (some ⟨g9, 0, none⟩) (q.hn + 1) c9], .agg #[.int .i64 rs, .int .i64 rb]]) (by simp [results, Try.results61, go_sem, HE1.out.1.1.1, HE1.out.1.2.1, HE1.out.2.1.1.1, HE1.out.2.1.2.1]) rfl HE1.out.2.2.drew
                  | exact bodyPost_ret (v := .tuple #[.agg #[.slice qa q.n qc, .slice (some ⟨g9, 0, none⟩) (q.hn + 1) c9], .agg #[.int .i64 rs, .int .i64 rb]]) (by simp [results, Try.results61, go_sem, HE2.out.1.1.1, HE2.out.1.2.1, HE2.out.2.1.1.1, HE2.out.2.1.2.1]) rfl HE2.out.2.2.drew
            · have hqc : qc' = q.hn := by obtain ⟨_, _, _, e, h, _⟩ := Hint.out; simp only [Value.slice.injEq, true_and] at e; omega
              subst hqc
              have Hnone : Hid (qa' = none → q.hn = 0 ∧ q.hn = 0) := fun e => by
                by_cases h0 : 0 < q.hn
                · obtain ⟨_, a1, c1, ev, _, hc, _⟩ := Hint.out
                  simp only [Value.slice.injEq, true_and] at ev
                  obtain ⟨off, e2, _⟩ := hc h0
                  rw [← ev.1, e] at e2
                  simp at e2
                · omega
              have Hold : Hid (∀ b, qa' = some b → ∀ j u, (ic q.h q.hn)[j]? = some u → (w6.alloc (.cells #[.int .i64 rs] 2)).cell? (b.add j) = some u) := fun b1 e j u hj => by
                have hlen := (List.getElem?_eq_some_iff.1 hj).1
                rw [ic_len] at hlen
                obtain ⟨_, a1, c1, ev, _, hc, _⟩ := Hint.out
                simp only [Value.slice.injEq, true_and] at ev
                obtain ⟨off, e2, hcell⟩ := hc (by omega)
                rw [← ev.1, e] at e2
                simp only [Option.some.injEq] at e2
                subst e2
                rw [ic_at q.h q.hn j (by omega)] at hj
                rw [add_lit, (ha6.cell (p := ⟨hb, off + j, none⟩) (hcell j (by omega)).lt), (hcell j (by omega)).1]
                exact hj
              go_upto_region 22 with fail
              go_wp2_with (first
                | (at_builtin; refine wpList_append_grows _ rfl _ _ 24 rfl 2 i0 (.int .i64 0) 1 8 (by kernel_rfl) HTi.out.1 HTi.out.2.1 HTi.out.2.2.1 HTi.out.2.2.2 rfl (by decide) qa' q.hn q.hn (ic q.h q.hn) rfl Hnone.out (ic_len _ _) Hold.out ⟨w6.heap.size, 0, none⟩ 1 1 [.int .i64 rs] rfl rfl Hnw.out (by simp [Value.oneCell']) (by omega) (by unfold maxLen; omega) (by omega) ?_; intro v9 w9 hown9 hgrow9; obtain ⟨g9, c9, rfl, _⟩ := hown9.form (by omega); have t9 := turned_of_grown hgrow9; have hX9 := hV8.box.turned t9 (fun e => by cases e); have k2 := hX9.2.1; have k3 := hX9.2.2)
                | go_in)
              have hg9 := (hown9.lt g9 rfl).1
              rw [hza] at hg9
              have hgX : g9 ≠ X ∧ g9 ≠ X + 1 ∧ w.heap.size + 2 ≤ g9 := by omega
              have hO9 := append_held (L := w.heap.size + 2) (X := X) (Ho6.out.below ha6) (by rw [hza]; omega) hlo6 (t9.mono (fun k hk => by cases hk)) hown9 (Or.inr ⟨by rw [hza]; exact hg9, hgX.2.2⟩) (hX6.imp id (fun h => by omega)) hgX.1 (by unfold maxLen; omega)
              have hI9 := (HI6.out.below ha6).late (C := X) (t9.mono (fun k hk => by cases hk)) (by omega)
              have hr9 := hV8.root.turned t9 (fun e => by cases e)
              have tX := Turned.put w9 X 1 (.slice (some ⟨g9, 0, none⟩) (q.hn + 1) c9)
              have HI10 := hideT (hI9.late tX (by omega))
              have HX10 : Hid (Box2 (w9.setCell ⟨X, 1, none⟩ (.slice (some ⟨g9, 0, none⟩) (q.hn + 1) c9)) X (.slice qa q.n qc) (.slice (some ⟨g9, 0, none⟩) (q.hn + 1) c9)) := ⟨hX9.1.other _ (Or.inr (by omega)), hX9.2.set _⟩
              have HY10 := hideT (hr9.turned tX (by omega))
              have HO10 := hideT (hO9.wide (Nat.le_refl _) tX.size)
              have hqN : poolN (holdD q rs) ≤ 5000 := by show q.n + slotsN q.s q.n + (q.hn + 1) ≤ 5000; have : poolN q = q.n + slotsN q.s q.n + q.hn := rfl; omega
              clear x0 x1 x2 x3 y0 y1 y2 y3 z0 z1 k2 k3 hX9 hr9 hO9 hI9 tX hown9 hgrow9 t9 HI6 HV6 hV8 Ho6
              generalize w9.setCell ⟨X, 1, none⟩ (.slice (some ⟨g9, 0, none⟩) (q.hn + 1) c9) = w10 at HI10 HX10 HY10 HO10 ⊢
              obtain ⟨⟨x0, x1⟩, ⟨x2, x3⟩⟩ := HX10.out
              obtain ⟨⟨y0, y1⟩, ⟨y2, y3⟩⟩ := HY10.out
              obtain ⟨⟨r0, r1'⟩, ⟨r2, r3'⟩⟩ := HI10.out.res
              obtain ⟨⟨u0, u1⟩, ⟨u2, u3⟩⟩ := HI10.out.res2
              have n1 : w.heap.size ≠ X := by omega
              have n2 : w.heap.size ≠ X + 1 := by omega
              have n3 : w.heap.size + 1 ≠ X := by omega
              have n4 : w.heap.size + 1 ≠ X + 1 := by omega
              have n5 : w.heap.size ≠ w.heap.size + 1 := by omega
              have n6 : w.heap.size + 1 ≠ w.heap.size := by omega
              have E1 := tree_end1 (X := X) HI10.out HO10.out (by omega) (show poolN (holdD q rs) ≤ 5000 by omega) rs rb
              have E2 := tree_end2 (X := X) HI10.out HO10.out (by omega) (show poolN (holdD q rs) ≤ 5000 by omega) rs rb
              have HE1 := hideT E1
              have HE2 := hideT E2
              clear E1 E2
              go_wp2_with fail
              go_region
              all_goals
                go_wp2
                first
                  | exact bodyPost_ret (v := .tuple #[.agg #[.slice qa q.n qc, .slice (some ⟨g9, 0, none⟩) (q.hn + 1) c9], .agg #[.int .i64 rs, .int .i64 rb]]) (by simp [results, Try.results61, go_sem, HE1.out.1.1.1, HE1.out.1.2.1, HE1.out.2.1.1.1, HE1.out.2.1.2.1]) rfl HE1.out.2.2.drew
                  | exact bodyPost_ret (v := .tuple #[.agg #[.slice qa q.n qc, .slice (some ⟨g9, 0, none⟩) (q.hn + 1) c9], .agg #[.int .i64 rs, .int .i64 rb]]) (by simp [results, Try.results61, go_sem, HE2.out.1.1.1, HE2.out.1.2.1, HE2.out.2.1.1.1, HE2.out.2.1.2.1]) rfl HE2.out.2.2.drew

end Go.Proofs.Ytikhipekmlhibaa
