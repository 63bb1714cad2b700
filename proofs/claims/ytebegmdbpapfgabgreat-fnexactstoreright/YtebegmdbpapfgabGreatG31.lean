/- What the laws' measuring of lists of sets and snapshots and of worlds answers (no law is proved here). -/
import Derived.Test.YtebegmdbpapfgabGreatG30
import Derived.Test.YtebegmdbpapfgabGreatG3
import Derived.Test.YtebegmdbpapfgabGreatG20
import Derived.Test.YtebegmdbpapfgabGreatG16
import Derived.Test.YtebegmdbpapfgabGreatG28
import Derived.Test.YtebegmdbpapfgabGreatRows
import Derived.Test.YtebegmdbpapfgabGreatG1
import Derived.ProofKit
import Derived.Deep.Slices
import Derived.Deep.SlicePairs
import Derived.Deep.Strs
import Derived.Deep.MidRow
import Derived.Lib.SmallJoins
namespace Go.Proofs.YtebegmdbpapfgabGreat
open Go.RowKit Go.Maps
set_option linter.unusedVariables false

set_option maxRecDepth 20000 in
set_option maxHeartbeats 400000 in
theorem szSetS_any (v : Value) (n lo hi : Nat) (f : Nat → SetD) (left : Int) (w : World) (h1 : SetsAt w lo hi v n f) (hl0 : 0 ≤ left) (hl1 : left ≤ 1048576) :
    Calls Tryz.prog 18 #[v, .int .i64 left] w fun e w' => LeftIs (n + setsN f n) left e ∧ Below w.heap.size w w' := by
  have H1 := hideW h1
  obtain ⟨m1, a, c, rfl, mc, -⟩ := id h1
  unfold maxLen at m1
  clear h1
  by_cases h : left - (n : Int) < 0
  · go_enter Tryz.func18, Tryz.ntmps18
    go_wp2
    go_ret
    exact ⟨⟨-1, rfl, by omega, by omega, by omega⟩, Below.refl _ _⟩
  · go_enter Tryz.func18, Tryz.ntmps18
    go_wp2
    go_loopw [1, 5] (fun m i wr => ∃ (k : Nat) (r : Int), k ≤ n ∧ i = .int .i64 k ∧ m = .int .i64 r ∧ 0 ≤ r ∧ r + n + setsN f k = left ∧ Below w.heap.size w wr) (fun _ i _ => n - (intOf i).toNat)
    case atStart => exact ⟨0, _, Nat.zero_le _, rfl, rfl, by omega, by simp [setsN], Below.refl _ _⟩
    case round =>
      obtain ⟨k, r, hk, rfl, rfl, hr0, hr, hb⟩ := hrel
      have hr1 : r ≤ left := by omega
      have Hr := hideW hr
      clear hr
      by_cases hlt : k < n
      · have hlt' : (k : Int) < (n : Int) := by omega
        obtain ⟨b, off, vd, rfl, hs2⟩ := (H1.out.below hb).cells hlt
        obtain ⟨-, ad, cd, rfl, -, -⟩ := id hs2.dead
        have q0 := hs2.c0
        have q1 := hs2.c1
        have q2 := hs2.c2
        have q3 := hs2.c3
        have q4 := hs2.c4
        have q5 := hs2.c5
        have Hs := hideW hs2
        clear hs2
        go_wp2_with fail
        refine (szSet_any _ lo hi (f k) _ _ Hs.out.dead Hs.out.small hr0 (by omega)).mono ?_
        rintro e w1 ⟨⟨r', rfl, hq1, hq2, hq3⟩, hb1⟩
        have hb2 := below_next hb hb1
        have Hq := hideW hq1
        clear hq1 hb1 q0 q1 q2 q3 q4 q5
        by_cases h3 : r' < 0
        · go_wp2
          go_ret
          exact ⟨⟨-1, rfl, by omega, by omega, by omega⟩, hb2⟩
        · go_wp2
          go_roundw
          case rel =>
            refine ⟨k + 1, r', by omega, by go_num, rfl, by omega, ?_, hb2⟩
            have e1 := Hq.out (by omega)
            have e2 := Hr.out
            show r' + (n : Int) + ((setsN f k + setN (f k) : Nat) : Int) = left
            omega
          case measure => simp [intOf]; omega
      · obtain rfl : k = n := by omega
        go_wp2
        go_ret
        exact ⟨⟨r, rfl, fun _ => by have := Hr.out; omega, hr1, by omega⟩, hb⟩

set_option maxRecDepth 20000 in
set_option maxHeartbeats 400000 in
theorem szSnapS_any (v : Value) (n lo hi : Nat) (f : Nat → SnapD) (left : Int) (w : World) (h1 : SnapsAt w lo hi v n f) (hl0 : 0 ≤ left) (hl1 : left ≤ 1048576) :
    Calls Tryz.prog 19 #[v, .int .i64 left] w fun e w' => LeftIs (n + snapsN f n) left e ∧ Below w.heap.size w w' := by
  have H1 := hideW h1
  obtain ⟨m1, a, c, rfl, mc, -⟩ := id h1
  unfold maxLen at m1
  clear h1
  by_cases h : left - (n : Int) < 0
  · go_enter Tryz.func19, Tryz.ntmps19
    go_wp2
    go_ret
    exact ⟨⟨-1, rfl, by omega, by omega, by omega⟩, Below.refl _ _⟩
  · go_enter Tryz.func19, Tryz.ntmps19
    go_wp2
    go_loopw [1, 5] (fun m i wr => ∃ (k : Nat) (r : Int), k ≤ n ∧ i = .int .i64 k ∧ m = .int .i64 r ∧ 0 ≤ r ∧ r + n + snapsN f k = left ∧ Below w.heap.size w wr) (fun _ i _ => n - (intOf i).toNat)
    case atStart => exact ⟨0, _, Nat.zero_le _, rfl, rfl, by omega, by simp [snapsN], Below.refl _ _⟩
    case round =>
      obtain ⟨k, r, hk, rfl, rfl, hr0, hr, hb⟩ := hrel
      have hr1 : r ≤ left := by omega
      have Hr := hideW hr
      clear hr
      by_cases hlt : k < n
      · have hlt' : (k : Int) < (n : Int) := by omega
        obtain ⟨b, off, vd, rfl, hs2⟩ := (H1.out.below hb).cells hlt
        obtain ⟨-, ad, cd, rfl, -, -⟩ := id hs2.dead
        have q0 := hs2.c0
        have q1 := hs2.c1
        have q2 := hs2.c2
        have q3 := hs2.c3
        have q4 := hs2.c4
        have q5 := hs2.c5
        have q6 := hs2.c6
        have q7 := hs2.c7
        have Hs := hideW hs2
        clear hs2
        go_wp2_with fail
        refine (szSnap_any _ lo hi (f k) _ _ Hs.out.dead Hs.out.small.1 Hs.out.small.2 hr0 (by omega)).mono ?_
        rintro e w1 ⟨⟨r', rfl, hq1, hq2, hq3⟩, hb1⟩
        have hb2 := below_next hb hb1
        have Hq := hideW hq1
        clear hq1 hb1 q0 q1 q2 q3 q4 q5 q6 q7
        by_cases h3 : r' < 0
        · go_wp2
          go_ret
          exact ⟨⟨-1, rfl, by omega, by omega, by omega⟩, hb2⟩
        · go_wp2
          go_roundw
          case rel =>
            refine ⟨k + 1, r', by omega, by go_num, rfl, by omega, ?_, hb2⟩
            have e1 := Hq.out (by omega)
            have e2 := Hr.out
            show r' + (n : Int) + ((snapsN f k + snapN (f k) : Nat) : Int) = left
            omega
          case measure => simp [intOf]; omega
      · obtain rfl : k = n := by omega
        go_wp2
        go_ret
        exact ⟨⟨r, rfl, fun _ => by have := Hr.out; omega, hr1, by omega⟩, hb⟩

set_option maxRecDepth 20000 in
set_option maxHeartbeats 400000 in
theorem szWorld_any (v0 v1 v2 v3 : Value) (lo hi : Nat) (W : WorldD) (left : Int) (w : World) (h1 : WorldAt w lo hi v0 v1 v2 v3 W) (hl0 : 0 ≤ left) (hl1 : left ≤ 1048576) :
    Calls Tryz.prog 9 #[worldV v0 v1 v2 v3 W, .int .i64 left] w fun e w' => LeftIs (worldN W) left e ∧ Below w.heap.size w w' := by
  have H1 := hideW h1
  clear h1
  have ha := below_alloc w (.cells #[v0, v1, .int .i64 W.time, .int .i64 W.next, v2, v3] 29)
  have HX := hideW (Box6.new w v0 v1 (.int .i64 W.time) (.int .i64 W.next) v2 v3 29)
  go_enter Tryz.func9, Tryz.ntmps9
  go_wp2_with fail
  refine (szPool_any _ _ lo hi W.pool _ _ (H1.out.below ha).pool hl0 hl1).mono ?_
  rintro e w1 ⟨⟨r, rfl, hr1, hr2, hr3⟩, hb1⟩
  have hB1 := below_next ha hb1
  have HX1 := hideW (HX.out.below hb1)
  have Hr := hideW hr1
  clear hr1 hb1 ha HX
  obtain ⟨⟨x0, -⟩, ⟨x1, -⟩, ⟨x2, -⟩, ⟨x3, -⟩, ⟨x4, -⟩, ⟨x5, -⟩⟩ := HX1.out
  by_cases h : r < 0
  · go_wp2
    go_ret
    exact ⟨⟨-1, rfl, by omega, by omega, by omega⟩, hB1⟩
  · go_wp2_with fail
    refine (szSetS_any _ W.sn lo hi _ _ _ (H1.out.below hB1).sets (by omega) (by omega)).mono ?_
    rintro e w2 ⟨⟨r', rfl, hq1, hq2, hq3⟩, hb2⟩
    have hB2 := below_next hB1 hb2
    have HX2 := hideW (HX1.out.below hb2)
    have Hq := hideW hq1
    clear hq1 hb2 x0 x1 x2 x3 x4 x5
    obtain ⟨⟨x0, -⟩, ⟨x1, -⟩, ⟨x2, -⟩, ⟨x3, -⟩, ⟨x4, -⟩, ⟨x5, -⟩⟩ := HX2.out
    by_cases h3 : r' < 0
    · go_wp2
      go_ret
      exact ⟨⟨-1, rfl, by omega, by omega, by omega⟩, hB2⟩
    · go_wp2_with fail
      refine (szSnapS_any _ W.pn lo hi _ _ _ (H1.out.below hB2).snaps (by omega) (by omega)).mono ?_
      rintro e w3 ⟨⟨r2, rfl, hs1, hs2, hs3⟩, hb3⟩
      have hB3 := below_next hB2 hb3
      have Hs := hideW hs1
      clear hs1 hb3
      by_cases h4 : r2 < 0
      · go_wp2
        go_ret
        exact ⟨⟨-1, rfl, by omega, by omega, by omega⟩, hB3⟩
      · go_wp2
        go_ret
        refine ⟨⟨r2, rfl, fun _ => ?_, by omega, by omega⟩, hB3⟩
        have e1 := Hq.out (by omega)
        have e2 := Hr.out (by omega)
        have e3 := Hs.out (by omega)
        unfold worldN
        omega

end Go.Proofs.YtebegmdbpapfgabGreat

namespace Go.Proofs.YtebegmdbpapfgabGreat
open Go.RowKit Go.Maps
set_option linter.unusedVariables false


set_option maxRecDepth 20000 in
set_option maxHeartbeats 400000 in
theorem eqSet_same (v u : Value) (lo hi lo' hi' : Nat) (s : SetD) (w : World) (h1 : PtrsAt w lo hi v s.dn s.ds s.db) (h2 : PtrsAt w lo' hi' u s.dn s.ds s.db) :
    Calls Tryz.prog 64 #[setV v s, setV u s] w fun e w' => e = .returned (.bool true) ∧ Below w.heap.size w w' := by
  unfold setV
  have H1 := hideW h1
  have H2 := hideW h2
  obtain ⟨-, a1, c1, rfl, -⟩ := id h1
  obtain ⟨-, a2, c2, rfl, -⟩ := id h2
  clear h1 h2
  have ha := below_alloc w (.cells #[.string s.name, .int .i64 s.origin, .int .i64 s.prev, .int .i64 s.rs, .int .i64 s.rb, .slice a1 s.dn c1] 72)
  have ha2 := below_alloc (w.alloc (.cells #[.string s.name, .int .i64 s.origin, .int .i64 s.prev, .int .i64 s.rs, .int .i64 s.rb, .slice a1 s.dn c1] 72)) (.cells #[.string s.name, .int .i64 s.origin, .int .i64 s.prev, .int .i64 s.rs, .int .i64 s.rb, .slice a2 s.dn c2] 72)
  have hA := below_next ha ha2
  have HX := hideW ((Box6.new w (.string s.name) (.int .i64 s.origin) (.int .i64 s.prev) (.int .i64 s.rs) (.int .i64 s.rb) (.slice a1 s.dn c1) 72).below ha2)
  have hy := Box6.new (w.alloc (.cells #[.string s.name, .int .i64 s.origin, .int .i64 s.prev, .int .i64 s.rs, .int .i64 s.rb, .slice a1 s.dn c1] 72)) (.string s.name) (.int .i64 s.origin) (.int .i64 s.prev) (.int .i64 s.rs) (.int .i64 s.rb) (.slice a2 s.dn c2) 72
  rw [World.size_alloc] at hy
  have HY := hideW hy
  clear ha ha2 hy
  go_enter Tryz.func64, Tryz.ntmps64
  go_wp2_with fail
  generalize (w.alloc (.cells #[.string s.name, .int .i64 s.origin, .int .i64 s.prev, .int .i64 s.rs, .int .i64 s.rb, .slice a1 s.dn c1] 72)).alloc (.cells #[.string s.name, .int .i64 s.origin, .int .i64 s.prev, .int .i64 s.rs, .int .i64 s.rb, .slice a2 s.dn c2] 72) = W at HX HY hA ⊢
  refine (eqPtr_any s.rs s.rb s.rs s.rb W).mono ?_
  rintro e w1 ⟨⟨t, rfl, ht⟩, hb1⟩
  obtain rfl : t = true := ht.2 ⟨rfl, rfl⟩
  have HX1 := hideW (HX.out.below hb1)
  have HY1 := hideW (HY.out.below hb1)
  have hB1 := below_next hA hb1
  clear ht hb1 hA HX HY
  obtain ⟨⟨x0, -⟩, ⟨x1, -⟩, ⟨x2, -⟩, ⟨x3, -⟩, ⟨x4, -⟩, ⟨x5, -⟩⟩ := HX1.out
  obtain ⟨⟨y0, -⟩, ⟨y1, -⟩, ⟨y2, -⟩, ⟨y3, -⟩, ⟨y4, -⟩, ⟨y5, -⟩⟩ := HY1.out
  go_wp2_with fail
  refine (eqPtrS_any _ _ s.dn s.dn lo hi lo' hi' s.ds s.db s.ds s.db _ (H1.out.below hB1) (H2.out.below hB1)).mono ?_
  rintro e w2 ⟨⟨t, rfl, ht⟩, hb2⟩
  obtain rfl : t = true := ht.2 ⟨rfl, fun _ _ => ⟨rfl, rfl⟩⟩
  have hB2 := below_next hB1 hb2
  clear ht hb2
  go_wp2
  go_ret
  exact ⟨rfl, hB2⟩

set_option maxRecDepth 20000 in
set_option maxHeartbeats 400000 in
theorem eqSnap_same (v u : Value) (lo hi lo' hi' : Nat) (s : SnapD) (w : World) (h1 : PtrsAt w lo hi v s.dn s.ds s.db) (h2 : PtrsAt w lo' hi' u s.dn s.ds s.db) :
    Calls Tryz.prog 65 #[snapV v s, snapV u s] w fun e w' => e = .returned (.bool true) ∧ Below w.heap.size w w' := by
  unfold snapV
  have H1 := hideW h1
  have H2 := hideW h2
  obtain ⟨-, a1, c1, rfl, -⟩ := id h1
  obtain ⟨-, a2, c2, rfl, -⟩ := id h2
  clear h1 h2
  have ha := below_alloc w (.cells #[.int .i64 s.id, .string s.name, .string s.set, .int .i64 s.prev, .int .i64 s.time, .int .i64 s.rs, .int .i64 s.rb, .slice a1 s.dn c1] 70)
  have ha2 := below_alloc (w.alloc (.cells #[.int .i64 s.id, .string s.name, .string s.set, .int .i64 s.prev, .int .i64 s.time, .int .i64 s.rs, .int .i64 s.rb, .slice a1 s.dn c1] 70)) (.cells #[.int .i64 s.id, .string s.name, .string s.set, .int .i64 s.prev, .int .i64 s.time, .int .i64 s.rs, .int .i64 s.rb, .slice a2 s.dn c2] 70)
  have hA := below_next ha ha2
  have HX := hideW ((Box8.new w (.int .i64 s.id) (.string s.name) (.string s.set) (.int .i64 s.prev) (.int .i64 s.time) (.int .i64 s.rs) (.int .i64 s.rb) (.slice a1 s.dn c1) 70).below ha2)
  have hy := Box8.new (w.alloc (.cells #[.int .i64 s.id, .string s.name, .string s.set, .int .i64 s.prev, .int .i64 s.time, .int .i64 s.rs, .int .i64 s.rb, .slice a1 s.dn c1] 70)) (.int .i64 s.id) (.string s.name) (.string s.set) (.int .i64 s.prev) (.int .i64 s.time) (.int .i64 s.rs) (.int .i64 s.rb) (.slice a2 s.dn c2) 70
  rw [World.size_alloc] at hy
  have HY := hideW hy
  clear ha ha2 hy
  go_enter Tryz.func65, Tryz.ntmps65
  go_wp2_with fail
  generalize (w.alloc (.cells #[.int .i64 s.id, .string s.name, .string s.set, .int .i64 s.prev, .int .i64 s.time, .int .i64 s.rs, .int .i64 s.rb, .slice a1 s.dn c1] 70)).alloc (.cells #[.int .i64 s.id, .string s.name, .string s.set, .int .i64 s.prev, .int .i64 s.time, .int .i64 s.rs, .int .i64 s.rb, .slice a2 s.dn c2] 70) = W at HX HY hA ⊢
  refine (eqPtr_any s.rs s.rb s.rs s.rb W).mono ?_
  rintro e w1 ⟨⟨t, rfl, ht⟩, hb1⟩
  obtain rfl : t = true := ht.2 ⟨rfl, rfl⟩
  have HX1 := hideW (HX.out.below hb1)
  have HY1 := hideW (HY.out.below hb1)
  have hB1 := below_next hA hb1
  clear ht hb1 hA HX HY
  obtain ⟨⟨⟨x0, -⟩, ⟨x1, -⟩, ⟨x2, -⟩, ⟨x3, -⟩⟩, ⟨x4, -⟩, ⟨x5, -⟩, ⟨x6, -⟩, ⟨x7, -⟩⟩ := HX1.out
  obtain ⟨⟨⟨y0, -⟩, ⟨y1, -⟩, ⟨y2, -⟩, ⟨y3, -⟩⟩, ⟨y4, -⟩, ⟨y5, -⟩, ⟨y6, -⟩, ⟨y7, -⟩⟩ := HY1.out
  go_wp2_with fail
  refine (eqPtrS_any _ _ s.dn s.dn lo hi lo' hi' s.ds s.db s.ds s.db _ (H1.out.below hB1) (H2.out.below hB1)).mono ?_
  rintro e w2 ⟨⟨t, rfl, ht⟩, hb2⟩
  obtain rfl : t = true := ht.2 ⟨rfl, fun _ _ => ⟨rfl, rfl⟩⟩
  have hB2 := below_next hB1 hb2
  clear ht hb2
  go_wp2
  go_ret
  exact ⟨rfl, hB2⟩

set_option maxRecDepth 20000 in
set_option maxHeartbeats 1000000 in
theorem eqSetS_same (v u : Value) (n lo hi lo' hi' : Nat) (f : Nat → SetD) (w : World) (h1 : SetsAt w lo hi v n f) (h2 : SetsAt w lo' hi' u n f) :
    Calls Tryz.prog 36 #[v, u] w fun e w' => e = .returned (.bool true) ∧ Below w.heap.size w w' := by
  have H1 := hideW h1
  have H2 := hideW h2
  obtain ⟨m1, a, c, rfl, mc, -⟩ := id h1
  obtain ⟨-, a', c', rfl, mc', -⟩ := id h2
  unfold maxLen at m1
  clear h1 h2
  have hne : ((n : Int) != (n : Int)) = false := by simp
  go_enter Tryz.func36, Tryz.ntmps36
  go_wp2
  go_loopw [5] (fun i wr => ∃ k : Nat, k ≤ n ∧ i = .int .i64 k ∧ Below w.heap.size w wr) (fun i _ => n - (intOf i).toNat)
  case atStart => exact ⟨0, Nat.zero_le _, rfl, Below.refl _ _⟩
  case round =>
    obtain ⟨k, hk, rfl, hb⟩ := hrel
    by_cases hlt : k < n
    · have hlt' : (k : Int) < (n : Int) := by omega
      obtain ⟨b, off, vd, rfl, hs'⟩ := (H1.out.below hb).cells hlt
      obtain ⟨b', off', ve, rfl, ht'⟩ := (H2.out.below hb).cells hlt
      obtain ⟨-, da, dc, rfl, -, -⟩ := id hs'.dead
      obtain ⟨-, ea, ec, rfl, -, -⟩ := id ht'.dead
      have q0 := hs'.c0
      have r0 := ht'.c0
      have q1 := hs'.c1
      have r1 := ht'.c1
      have q2 := hs'.c2
      have r2 := ht'.c2
      have q3 := hs'.c3
      have r3 := ht'.c3
      have q4 := hs'.c4
      have r4 := ht'.c4
      have q5 := hs'.c5
      have r5 := ht'.c5
      have Hs := hideW hs'
      have Ht := hideW ht'
      clear hs' ht'
      go_wp2_with fail
      go_region_held3 (fun w' => w'.cell? ⟨b, off + k * 6, none⟩ = some (.string (f k).name) ∧ w'.cell? ⟨b, off + k * 6 + 1, none⟩ = some (.int .i64 (f k).origin) ∧ w'.cell? ⟨b, off + k * 6 + 2, none⟩ = some (.int .i64 (f k).prev) ∧ w'.cell? ⟨b, off + k * 6 + 3, none⟩ = some (.int .i64 (f k).rs) ∧ w'.cell? ⟨b, off + k * 6 + 4, none⟩ = some (.int .i64 (f k).rb) ∧ w'.cell? ⟨b, off + k * 6 + 5, none⟩ = some (.slice da (f k).dn dc) ∧ w'.cell? ⟨b', off' + k * 6, none⟩ = some (.string (f k).name) ∧ w'.cell? ⟨b', off' + k * 6 + 1, none⟩ = some (.int .i64 (f k).origin) ∧ w'.cell? ⟨b', off' + k * 6 + 2, none⟩ = some (.int .i64 (f k).prev) ∧ w'.cell? ⟨b', off' + k * 6 + 3, none⟩ = some (.int .i64 (f k).rs) ∧ w'.cell? ⟨b', off' + k * 6 + 4, none⟩ = some (.int .i64 (f k).rb) ∧ w'.cell? ⟨b', off' + k * 6 + 5, none⟩ = some (.slice ea (f k).dn ec)) (go_keep)
        (first
          | (go_at_call 64; refine (eqSet_same _ _ lo hi lo' hi' (f k) _ (Hs.out.dead.below (Below.refl _ _).drew) (Ht.out.dead.below (Below.refl _ _).drew)).mono ?_; rintro e w1 ⟨rfl, hb1⟩; have hb1' := below_undrew hb1; have hs' := Hs.out; have ht' := Ht.out; have z0 := (hs'.below hb1').c0; have zz0 := (ht'.below hb1').c0; have z1 := (hs'.below hb1').c1; have zz1 := (ht'.below hb1').c1; have z2 := (hs'.below hb1').c2; have zz2 := (ht'.below hb1').c2; have z3 := (hs'.below hb1').c3; have zz3 := (ht'.below hb1').c3; have z4 := (hs'.below hb1').c4; have zz4 := (ht'.below hb1').c4; have z5 := (hs'.below hb1').c5; have zz5 := (ht'.below hb1').c5))
      have hb2 := below_next hb hb1'
      clear z0 zz0 q0 r0 z1 zz1 q1 r1 z2 zz2 q2 r2 z3 zz3 q3 r3 z4 zz4 q4 r4 z5 zz5 q5 r5 hs' ht' hb1 hb1'
      go_wp2
      go_roundw
      case rel => exact ⟨k + 1, by omega, by go_num, hb2⟩
      case measure => simp [intOf]; omega
    · go_wp2
      go_ret
      exact ⟨rfl, hb⟩

set_option maxRecDepth 20000 in
set_option maxHeartbeats 1000000 in
theorem eqSnapS_same (v u : Value) (n lo hi lo' hi' : Nat) (f : Nat → SnapD) (w : World) (h1 : SnapsAt w lo hi v n f) (h2 : SnapsAt w lo' hi' u n f) :
    Calls Tryz.prog 37 #[v, u] w fun e w' => e = .returned (.bool true) ∧ Below w.heap.size w w' := by
  have H1 := hideW h1
  have H2 := hideW h2
  obtain ⟨m1, a, c, rfl, mc, -⟩ := id h1
  obtain ⟨-, a', c', rfl, mc', -⟩ := id h2
  unfold maxLen at m1
  clear h1 h2
  have hne : ((n : Int) != (n : Int)) = false := by simp
  go_enter Tryz.func37, Tryz.ntmps37
  go_wp2
  go_loopw [5] (fun i wr => ∃ k : Nat, k ≤ n ∧ i = .int .i64 k ∧ Below w.heap.size w wr) (fun i _ => n - (intOf i).toNat)
  case atStart => exact ⟨0, Nat.zero_le _, rfl, Below.refl _ _⟩
  case round =>
    obtain ⟨k, hk, rfl, hb⟩ := hrel
    by_cases hlt : k < n
    · have hlt' : (k : Int) < (n : Int) := by omega
      obtain ⟨b, off, vd, rfl, hs'⟩ := (H1.out.below hb).cells hlt
      obtain ⟨b', off', ve, rfl, ht'⟩ := (H2.out.below hb).cells hlt
      obtain ⟨-, da, dc, rfl, -, -⟩ := id hs'.dead
      obtain ⟨-, ea, ec, rfl, -, -⟩ := id ht'.dead
      have q0 := hs'.c0
      have r0 := ht'.c0
      have q1 := hs'.c1
      have r1 := ht'.c1
      have q2 := hs'.c2
      have r2 := ht'.c2
      have q3 := hs'.c3
      have r3 := ht'.c3
      have q4 := hs'.c4
      have r4 := ht'.c4
      have q5 := hs'.c5
      have r5 := ht'.c5
      have q6 := hs'.c6
      have r6 := ht'.c6
      have q7 := hs'.c7
      have r7 := ht'.c7
      have Hs := hideW hs'
      have Ht := hideW ht'
      clear hs' ht'
      go_wp2_with fail
      go_region_held3 (fun w' => w'.cell? ⟨b, off + k * 8, none⟩ = some (.int .i64 (f k).id) ∧ w'.cell? ⟨b, off + k * 8 + 1, none⟩ = some (.string (f k).name) ∧ w'.cell? ⟨b, off + k * 8 + 2, none⟩ = some (.string (f k).set) ∧ w'.cell? ⟨b, off + k * 8 + 3, none⟩ = some (.int .i64 (f k).prev) ∧ w'.cell? ⟨b, off + k * 8 + 4, none⟩ = some (.int .i64 (f k).time) ∧ w'.cell? ⟨b, off + k * 8 + 5, none⟩ = some (.int .i64 (f k).rs) ∧ w'.cell? ⟨b, off + k * 8 + 6, none⟩ = some (.int .i64 (f k).rb) ∧ w'.cell? ⟨b, off + k * 8 + 7, none⟩ = some (.slice da (f k).dn dc) ∧ w'.cell? ⟨b', off' + k * 8, none⟩ = some (.int .i64 (f k).id) ∧ w'.cell? ⟨b', off' + k * 8 + 1, none⟩ = some (.string (f k).name) ∧ w'.cell? ⟨b', off' + k * 8 + 2, none⟩ = some (.string (f k).set) ∧ w'.cell? ⟨b', off' + k * 8 + 3, none⟩ = some (.int .i64 (f k).prev) ∧ w'.cell? ⟨b', off' + k * 8 + 4, none⟩ = some (.int .i64 (f k).time) ∧ w'.cell? ⟨b', off' + k * 8 + 5, none⟩ = some (.int .i64 (f k).rs) ∧ w'.cell? ⟨b', off' + k * 8 + 6, none⟩ = some (.int .i64 (f k).rb) ∧ w'.cell? ⟨b', off' + k * 8 + 7, none⟩ = some (.slice ea (f k).dn ec)) (go_keep)
        (first
          | (go_at_call 65; refine (eqSnap_same _ _ lo hi lo' hi' (f k) _ (Hs.out.dead.below (Below.refl _ _).drew) (Ht.out.dead.below (Below.refl _ _).drew)).mono ?_; rintro e w1 ⟨rfl, hb1⟩; have hb1' := below_undrew hb1; have hs' := Hs.out; have ht' := Ht.out; have z0 := (hs'.below hb1').c0; have zz0 := (ht'.below hb1').c0; have z1 := (hs'.below hb1').c1; have zz1 := (ht'.below hb1').c1; have z2 := (hs'.below hb1').c2; have zz2 := (ht'.below hb1').c2; have z3 := (hs'.below hb1').c3; have zz3 := (ht'.below hb1').c3; have z4 := (hs'.below hb1').c4; have zz4 := (ht'.below hb1').c4; have z5 := (hs'.below hb1').c5; have zz5 := (ht'.below hb1').c5; have z6 := (hs'.below hb1').c6; have zz6 := (ht'.below hb1').c6; have z7 := (hs'.below hb1').c7; have zz7 := (ht'.below hb1').c7))
      have hb2 := below_next hb hb1'
      clear z0 zz0 q0 r0 z1 zz1 q1 r1 z2 zz2 q2 r2 z3 zz3 q3 r3 z4 zz4 q4 r4 z5 zz5 q5 r5 z6 zz6 q6 r6 z7 zz7 q7 r7 hs' ht' hb1 hb1'
      go_wp2
      go_roundw
      case rel => exact ⟨k + 1, by omega, by go_num, hb2⟩
      case measure => simp [intOf]; omega
    · go_wp2
      go_ret
      exact ⟨rfl, hb⟩

end Go.Proofs.YtebegmdbpapfgabGreat

namespace Go.Proofs.YtebegmdbpapfgabGreat
open Go.RowKit Go.Maps
set_option linter.unusedVariables false

set_option maxRecDepth 20000 in
set_option maxHeartbeats 400000 in
theorem eqWorld_same (v0 v1 v2 v3 u0 u1 u2 u3 : Value) (lo hi lo' hi' : Nat) (W : WorldD) (w : World) (h1 : WorldAt w lo hi v0 v1 v2 v3 W) (h2 : WorldAt w lo' hi' u0 u1 u2 u3 W) :
    Calls Tryz.prog 16 #[worldV v0 v1 v2 v3 W, worldV u0 u1 u2 u3 W] w fun e w' => e = .returned (.bool true) ∧ Below w.heap.size w w' := by
  have H1 := hideW h1
  have H2 := hideW h2
  clear h1 h2
  have ha := below_alloc w (.cells #[v0, v1, .int .i64 W.time, .int .i64 W.next, v2, v3] 40)
  have ha2 := below_alloc (w.alloc (.cells #[v0, v1, .int .i64 W.time, .int .i64 W.next, v2, v3] 40)) (.cells #[u0, u1, .int .i64 W.time, .int .i64 W.next, u2, u3] 40)
  have hA := below_next ha ha2
  have HX := hideW ((Box6.new w v0 v1 (.int .i64 W.time) (.int .i64 W.next) v2 v3 40).below ha2)
  have hy := Box6.new (w.alloc (.cells #[v0, v1, .int .i64 W.time, .int .i64 W.next, v2, v3] 40)) u0 u1 (.int .i64 W.time) (.int .i64 W.next) u2 u3 40
  rw [World.size_alloc] at hy
  have HY := hideW hy
  clear ha ha2 hy
  go_enter Tryz.func16, Tryz.ntmps16
  go_wp2_with fail
  generalize (w.alloc (.cells #[v0, v1, .int .i64 W.time, .int .i64 W.next, v2, v3] 40)).alloc (.cells #[u0, u1, .int .i64 W.time, .int .i64 W.next, u2, u3] 40) = W0 at HX HY hA ⊢
  refine (eqPool_any _ _ _ _ lo hi lo' hi' W.pool W.pool _ (H1.out.below hA).pool (H2.out.below hA).pool).mono ?_
  rintro e w1 ⟨⟨t, rfl, ht⟩, hb1⟩
  obtain rfl : t = true := ht.2 (PoolEq.refl W.pool)
  have HX1 := hideW (HX.out.below hb1)
  have HY1 := hideW (HY.out.below hb1)
  have hB1 := below_next hA hb1
  clear ht hb1 hA HX HY
  obtain ⟨⟨x0, -⟩, ⟨x1, -⟩, ⟨x2, -⟩, ⟨x3, -⟩, ⟨x4, -⟩, ⟨x5, -⟩⟩ := HX1.out
  obtain ⟨⟨y0, -⟩, ⟨y1, -⟩, ⟨y2, -⟩, ⟨y3, -⟩, ⟨y4, -⟩, ⟨y5, -⟩⟩ := HY1.out
  go_wp2_with fail
  refine (eqSetS_same _ _ W.sn lo hi lo' hi' W.sets _ (H1.out.below hB1).sets (H2.out.below hB1).sets).mono ?_
  rintro e w2 ⟨rfl, hb2⟩
  have HX2 := hideW (HX1.out.below hb2)
  have HY2 := hideW (HY1.out.below hb2)
  have hB2 := below_next hB1 hb2
  clear hb2 hB1 HX1 HY1 x0 x1 x2 x3 x4 x5 y0 y1 y2 y3 y4 y5
  obtain ⟨⟨x0, -⟩, ⟨x1, -⟩, ⟨x2, -⟩, ⟨x3, -⟩, ⟨x4, -⟩, ⟨x5, -⟩⟩ := HX2.out
  obtain ⟨⟨y0, -⟩, ⟨y1, -⟩, ⟨y2, -⟩, ⟨y3, -⟩, ⟨y4, -⟩, ⟨y5, -⟩⟩ := HY2.out
  go_wp2_with fail
  refine (eqSnapS_same _ _ W.pn lo hi lo' hi' W.snaps _ (H1.out.below hB2).snaps (H2.out.below hB2).snaps).mono ?_
  rintro e w3 ⟨rfl, hb3⟩
  have hB3 := below_next hB2 hb3
  clear hb3
  go_wp2
  go_ret
  exact ⟨rfl, hB3⟩

end Go.Proofs.YtebegmdbpapfgabGreat

namespace Go.Proofs.YtebegmdbpapfgabGreat
open Go.RowKit Go.Deep Go.Joins
open Go.ChangeShapes Go.WideShapes Go.ChangeAt
set_option linter.unusedVariables false
set_option maxRecDepth 20000

section
variable {H : Type} {enc : TypeId × Value → H} {W : World} {spare : Nat → Bool} {held : Bool}

theorem addr_of_cell {w : World} {a : Addr} {v : Value} (h : w.cell? a = some v) : ∃ b off, a = ⟨b, off, none⟩ := by
  obtain ⟨b, off, spot⟩ := a
  have hs : spot = none := by simpa using World.cell?_spot h
  subst hs
  exact ⟨b, off, rfl⟩

theorem slice_val {v : Value} {a : Option Addr} {n c : Nat} (h : [v] = [Value.slice a n c]) : v = .slice a n c := by simpa using h

theorem open_ints_at {fuel : Nat} {v : Value} {x : DataW H × List MemPlace} (h : DataW.trod enc Tryz.prog W 0 spare held fuel 23 [v] = some x) : ∃ n f, IntsAt W 0 W.heap.size v n f := by
  rcases open_slice1 (t := 23) (e := 2) (by kernel_rfl) (by kernel_rfl) h with ⟨hv, _⟩ | ⟨a, len, cap, m, n, V, D, Pl, hv, _, hl, hm, hmm, _, hx⟩
  · exact ⟨0, fun _ => 0, Nat.zero_le _, none, 0, slice_val hv, Nat.le_refl _, fun h => absurd h (Nat.lt_irrefl _)⟩
  · have hlm : len ≤ m := by rw [hmm]; split <;> omega
    have hV : ∀ i, i < len → ∃ z : Int, V i = .int .i64 z := fun i hi => by
      obtain ⟨_, ht⟩ := hx i (by omega)
      obtain ⟨z, hz, _⟩ := DataW.trod_int (show Tryz.prog.underlying 2 = some (.int .i64) by kernel_rfl) ht
      exact ⟨z, by simpa using hz⟩
    refine ⟨len, fun i => intOf (V i), by unfold maxLen at *; omega, some a, cap, slice_val hv, hl, fun h0 => ?_⟩
    have hc0 := (hx 0 (by omega)).1
    rw [show a.add 0 = a by simp [Addr.add]] at hc0
    obtain ⟨b, off, rfl⟩ := addr_of_cell hc0
    refine ⟨b, off, rfl, Nat.zero_le _, lt_of_cell hc0, fun i hi => ?_⟩
    have hc := (hx i (by omega)).1
    rw [Addr.add_mid] at hc
    obtain ⟨z, hz⟩ := hV i hi
    show _ = some (Value.int .i64 (intOf (V i)))
    rw [hc, hz]
    rfl

/-- A field of a struct that is read, by its place. -/
theorem field_of {t T o c i : Nat} {fuel : Nat} {cs : List Value} {x : DataW H × List MemPlace} (hs : Tryz.prog.underlying t = some (.struct (Tryz.prog.fieldsOf t))) (hf : ((Tryz.prog.fieldsOf t)[i]?).map (fun f => (f.type, f.offset)) = some (T, o))
    (hc : Tryz.prog.cellsOf T = c) (h : DataW.trod enc Tryz.prog W 0 spare held fuel t cs = some x) : ∃ n y, DataW.trod enc Tryz.prog W 0 spare held n T ((cs.drop o).take c) = some y := by
  obtain ⟨f, hf1, hf2⟩ := Option.map_eq_some_iff.1 hf
  simp only [Prod.mk.injEq] at hf2
  obtain ⟨rfl, rfl⟩ := hf2
  obtain ⟨xs, n, _, _, _, hxl, hfs⟩ := DataW.trod_struct hs h
  have hi : i < (Tryz.prog.fieldsOf t).size := (Array.getElem?_eq_some_iff.1 hf1).1
  have := hfs i f hf1
  rw [hc, List.getElem?_eq_getElem (by omega)] at this
  exact ⟨n, _, this⟩

theorem open_ptr_cells {fuel : Nat} {c0 c1 : Value} {x : DataW H × List MemPlace} (h : DataW.trod enc Tryz.prog W 0 spare held fuel 87 [c0, c1] = some x) : ∃ y z : Int, c0 = .int .i64 y ∧ c1 = .int .i64 z := by
  obtain ⟨n0, y0, h0⟩ := field_of (t := 87) (T := 2) (o := 0) (c := 1) (i := 0) (by kernel_rfl) (by kernel_rfl) (by kernel_rfl) h
  obtain ⟨n1, y1, h1⟩ := field_of (t := 87) (T := 2) (o := 1) (c := 1) (i := 1) (by kernel_rfl) (by kernel_rfl) (by kernel_rfl) h
  obtain ⟨y, hy, _⟩ := DataW.trod_int (show Tryz.prog.underlying 2 = some (.int .i64) by kernel_rfl) h0
  obtain ⟨z, hz, _⟩ := DataW.trod_int (show Tryz.prog.underlying 2 = some (.int .i64) by kernel_rfl) h1
  exact ⟨y, z, by simpa using hy, by simpa using hz⟩

theorem open_ptr {r : Reach} {b0 : Nat} {v : Value} {d : DataW H} {ps : List MemPlace} (hv : Value.okWide Tryz.prog W r b0 87 v) (h : DataW.Trod enc Tryz.prog W 0 spare held 87 v d ps) :
    ∃ x y : Int, v = .agg #[.int .i64 x, .int .i64 y] := by
  have hs : Tryz.prog.underlying 87 = some (.struct (Tryz.prog.fieldsOf 87)) := by kernel_rfl
  obtain ⟨cs, rfl, hsz⟩ := okWide_struct hs hv
  obtain ⟨c0, c1, rfl⟩ := array2 (hsz.trans (by kernel_rfl))
  obtain ⟨fuel, hf⟩ := h
  have hf' : DataW.trod enc Tryz.prog W 0 spare held fuel 87 [c0, c1] = some (d, ps) := by simpa [Value.cells] using hf
  obtain ⟨x, y, rfl, rfl⟩ := open_ptr_cells hf'
  exact ⟨x, y, rfl⟩

theorem open_ptrs_at {fuel : Nat} {v : Value} {x : DataW H × List MemPlace} (h : DataW.trod enc Tryz.prog W 0 spare held fuel 88 [v] = some x) : ∃ n f g, PtrsAt W 0 W.heap.size v n f g := by
  rcases open_slice (t := 88) (e := 87) (by kernel_rfl) h with ⟨hv, _⟩ | ⟨a, len, cap, m, n, D, Pl, hv, _, hl, hm, hmm, _, hx⟩
  · exact ⟨0, fun _ => 0, fun _ => 0, Nat.zero_le _, none, 0, slice_val hv, Nat.le_refl _, fun h => absurd h (Nat.lt_irrefl _)⟩
  · have hlm : len ≤ m := by rw [hmm]; split <;> omega
    have hc2 : Tryz.prog.cellsOf 87 = 2 := by kernel_rfl
    rw [hc2] at hx
    have hV : ∀ i, i < len → ∃ y z : Int, W.cell? (a.add (i * 2)) = some (.int .i64 y) ∧ W.cell? ((a.add (i * 2)).add 1) = some (.int .i64 z) := fun i hi => by
      obtain ⟨cs, hcs, ht⟩ := hx i (by omega)
      obtain ⟨_, hlen, hcell⟩ := World.cells?_some hcs
      match cs, hlen with
      | [c0, c1], _ =>
        obtain ⟨y, z, rfl, rfl⟩ := open_ptr_cells ht
        have q0 := hcell 0 (by omega)
        have q1 := hcell 1 (by omega)
        rw [show (a.add (i * 2)).add 0 = a.add (i * 2) by simp [Addr.add]] at q0
        exact ⟨y, z, by simpa using q0, by simpa using q1⟩
    refine ⟨len, fun i => intOf ((W.cell? (a.add (i * 2))).getD undef), fun i => intOf ((W.cell? ((a.add (i * 2)).add 1)).getD undef), by unfold maxLen at *; omega, some a, cap, slice_val hv, hl, fun h0 => ?_⟩
    obtain ⟨y, z, hc0, _⟩ := hV 0 h0
    rw [show a.add (0 * 2) = a by simp [Addr.add]] at hc0
    obtain ⟨b, off, rfl⟩ := addr_of_cell hc0
    refine ⟨b, off, rfl, Nat.zero_le _, lt_of_cell hc0, fun i hi => ?_⟩
    obtain ⟨y, z, q0, q1⟩ := hV i hi
    show _ = some (Value.int .i64 (intOf ((W.cell? _).getD undef))) ∧ _ = some (Value.int .i64 (intOf ((W.cell? _).getD undef)))
    rw [q0, q1]
    rw [Addr.add_mid, Addr.add_mid] at q1
    rw [Addr.add_mid] at q0
    exact ⟨q0, q1⟩

theorem open_slot_cells {fuel : Nat} {c0 c1 c2 : Value} {x : DataW H × List MemPlace} (h : DataW.trod enc Tryz.prog W 0 spare held fuel 116 [c0, c1, c2] = some x) : ∃ s, SlotAt W 0 W.heap.size c0 c1 c2 s := by
  obtain ⟨n0, y0, h0⟩ := field_of (t := 116) (T := 2) (o := 0) (c := 1) (i := 0) (by kernel_rfl) (by kernel_rfl) (by kernel_rfl) h
  obtain ⟨n1, y1, h1⟩ := field_of (t := 116) (T := 88) (o := 1) (c := 1) (i := 1) (by kernel_rfl) (by kernel_rfl) (by kernel_rfl) h
  obtain ⟨n2, y2, h2⟩ := field_of (t := 116) (T := 9) (o := 2) (c := 1) (i := 2) (by kernel_rfl) (by kernel_rfl) (by kernel_rfl) h
  obtain ⟨y, hy, _⟩ := DataW.trod_int (show Tryz.prog.underlying 2 = some (.int .i64) by kernel_rfl) h0
  obtain ⟨n, f, g, hp⟩ := open_ptrs_at (v := c1) (by simpa using h1)
  obtain ⟨d, hd, _, hsz⟩ := DataW.trod_string (show Tryz.prog.underlying 9 = some .string by kernel_rfl) h2
  exact ⟨⟨y, n, f, g, d⟩, by simpa using hy, hp, by simpa using hd, hsz⟩

theorem open_slots_at {fuel : Nat} {v : Value} {x : DataW H × List MemPlace} (h : DataW.trod enc Tryz.prog W 0 spare held fuel 22 [v] = some x) : ∃ n f, SlotsAt W 0 W.heap.size v n f := by
  rcases open_slice (t := 22) (e := 116) (by kernel_rfl) h with ⟨hv, _⟩ | ⟨a, len, cap, m, n, D, Pl, hv, _, hl, hm, hmm, _, hx⟩
  · exact ⟨0, fun _ => ⟨0, 0, fun _ => 0, fun _ => 0, ByteArray.empty⟩, Nat.zero_le _, none, 0, slice_val hv, Nat.le_refl _, fun h => absurd h (Nat.lt_irrefl _)⟩
  · have hlm : len ≤ m := by rw [hmm]; split <;> omega
    have hc3 : Tryz.prog.cellsOf 116 = 3 := by kernel_rfl
    rw [hc3] at hx
    have hV : ∀ i, i < len → ∃ s : SlotD, ∃ c0 c1 c2, W.cell? (a.add (i * 3)) = some c0 ∧ W.cell? ((a.add (i * 3)).add 1) = some c1 ∧ W.cell? ((a.add (i * 3)).add 2) = some c2 ∧ SlotAt W 0 W.heap.size c0 c1 c2 s := fun i hi => by
      obtain ⟨cs, hcs, ht⟩ := hx i (by omega)
      obtain ⟨_, hlen, hcell⟩ := World.cells?_some hcs
      match cs, hlen with
      | [c0, c1, c2], _ =>
        obtain ⟨s, hs⟩ := open_slot_cells ht
        have q0 := hcell 0 (by omega)
        have q1 := hcell 1 (by omega)
        have q2 := hcell 2 (by omega)
        rw [show (a.add (i * 3)).add 0 = a.add (i * 3) by simp [Addr.add]] at q0
        exact ⟨s, c0, c1, c2, by simpa using q0, by simpa using q1, by simpa using q2, hs⟩
    have hinh : Inhabited SlotD := ⟨⟨0, 0, fun _ => 0, fun _ => 0, ByteArray.empty⟩⟩
    obtain ⟨f, hf⟩ := choose_lt (α := SlotD) (p := fun i s => ∃ c0 c1 c2, W.cell? (a.add (i * 3)) = some c0 ∧ W.cell? ((a.add (i * 3)).add 1) = some c1 ∧ W.cell? ((a.add (i * 3)).add 2) = some c2 ∧ SlotAt W 0 W.heap.size c0 c1 c2 s) hV
    refine ⟨len, f, by unfold maxLen at *; omega, some a, cap, slice_val hv, hl, fun h0 => ?_⟩
    obtain ⟨c0, c1, c2, hc0, _⟩ := hf 0 h0
    rw [show a.add (0 * 3) = a by simp [Addr.add]] at hc0
    obtain ⟨b, off, rfl⟩ := addr_of_cell hc0
    refine ⟨b, off, rfl, Nat.zero_le _, lt_of_cell hc0, fun i hi => ?_⟩
    obtain ⟨c0, c1, c2, q0, q1, q2, hs⟩ := hf i hi
    rw [Addr.add_mid, Addr.add_mid] at q1 q2
    rw [Addr.add_mid] at q0
    exact ⟨c0, c1, c2, q0, q1, q2, hs⟩

theorem open_pool {r : Reach} {b0 : Nat} {v : Value} {d : DataW H} {ps : List MemPlace} (hv : Value.okWide Tryz.prog W r b0 25 v) (h : DataW.Trod enc Tryz.prog W 0 spare held 25 v d ps) :
    ∃ v0 v1 p, v = .agg #[v0, v1] ∧ PoolAt W 0 W.heap.size v0 v1 p := by
  have hs : Tryz.prog.underlying 25 = some (.struct (Tryz.prog.fieldsOf 25)) := by kernel_rfl
  obtain ⟨cs, rfl, hsz⟩ := okWide_struct hs hv
  obtain ⟨c0, c1, rfl⟩ := array2 (hsz.trans (by kernel_rfl))
  obtain ⟨fuel, hf⟩ := h
  have hf' : DataW.trod enc Tryz.prog W 0 spare held fuel 25 [c0, c1] = some (d, ps) := by simpa [Value.cells] using hf
  obtain ⟨n0, y0, h0⟩ := field_of (t := 25) (T := 22) (o := 0) (c := 1) (i := 0) (by kernel_rfl) (by kernel_rfl) (by kernel_rfl) hf'
  obtain ⟨n1, y1, h1⟩ := field_of (t := 25) (T := 23) (o := 1) (c := 1) (i := 1) (by kernel_rfl) (by kernel_rfl) (by kernel_rfl) hf'
  obtain ⟨n, f, hsl⟩ := open_slots_at (v := c0) (by simpa using h0)
  obtain ⟨hn, g, hin⟩ := open_ints_at (v := c1) (by simpa using h1)
  exact ⟨c0, c1, ⟨n, f, hn, g⟩, rfl, hsl, hin⟩

end

end Go.Proofs.YtebegmdbpapfgabGreat
