/- What spec.SnapOf and spec.SetOf answer. -/
import Derived.Test.YtjpbmpjddbekgaaGreatG29
import Derived.Test.YtjpbmpjddbekgaaGreatG16
import Derived.Test.YtjpbmpjddbekgaaGreatG6
import Derived.Test.YtjpbmpjddbekgaaGreatG23
import Derived.Test.YtjpbmpjddbekgaaGreatRows
import Derived.Test.YtjpbmpjddbekgaaGreatG1
namespace Go.Proofs.YtjpbmpjddbekgaaGreat
open Go.RowKit Go.Maps
set_option linter.unusedVariables false

set_option maxRecDepth 20000 in
set_option maxHeartbeats 1000000 in
theorem specSnapOf_any (v0 v1 v2 v3 : Value) (lo hi : Nat) (W : WorldD) (x : Int) (w : World) (h : WorldAt w lo hi v0 v1 v2 v3 W) (hN : DeadsN W) : Calls Tryz.prog 18 #[worldV v0 v1 v2 v3 W, .int .i64 x] w (NewSnap (snapAns W x) w) := by
  have Hp := hideW h
  have HN := hideW hN
  obtain ⟨m1, al, cl, rfl, ml, -⟩ := id h.snaps
  clear h hN
  unfold maxLen at m1
  have hst : ∀ Wa Wb : World, Wa = w.alloc (.cells #[v0, v1, .int .i64 W.time, .int .i64 W.next, v2, .slice al W.pn cl] 38) → Wb = Wa.alloc (.cells #[.int .i64 0, .string ⟨#[]⟩, .string ⟨#[]⟩, .int .i64 0, .int .i64 0, .int .i64 0, .int .i64 0, .slice none 0 0] 46) → Box6 Wb w.heap.size v0 v1 (.int .i64 W.time) (.int .i64 W.next) v2 (.slice al W.pn cl) ∧ Row8 Wb (w.heap.size + 1) (.int .i64 0) (.string ⟨#[]⟩) (.string ⟨#[]⟩) (.int .i64 0) (.int .i64 0) (.int .i64 0) (.int .i64 0) (.slice none 0 0) ∧ Below w.heap.size w Wb ∧ Wb.heap.size = w.heap.size + 1 + 1 := by
    rintro Wa Wb ea eb
    have ha := below_alloc w (.cells #[v0, v1, .int .i64 W.time, .int .i64 W.next, v2, .slice al W.pn cl] 38)
    have h1 := Box6.new w v0 v1 (.int .i64 W.time) (.int .i64 W.next) v2 (.slice al W.pn cl) 38
    have z1 : Wa.heap.size = w.heap.size + 1 := by rw [ea]; exact World.size_alloc _ _
    rw [← ea] at ha h1
    have hb := below_alloc Wa (.cells #[.int .i64 0, .string ⟨#[]⟩, .string ⟨#[]⟩, .int .i64 0, .int .i64 0, .int .i64 0, .int .i64 0, .slice none 0 0] 46)
    have h2 := Row8.new Wa (.int .i64 0) (.string ⟨#[]⟩) (.string ⟨#[]⟩) (.int .i64 0) (.int .i64 0) (.int .i64 0) (.int .i64 0) (.slice none 0 0) 46
    have z2 : Wb.heap.size = w.heap.size + 1 + 1 := by rw [eb, World.size_alloc, z1]
    rw [← eb, z1] at h2
    rw [← eb] at hb
    exact ⟨h1.below hb, h2, below_next ha hb, z2⟩
  obtain ⟨hX, hY, hbw, hsz⟩ := hst _ _ rfl rfl
  have HX := hideW hX
  have HY := hideW hY
  have HS := hideW hsz
  obtain ⟨⟨x0, -⟩, ⟨x1, -⟩, ⟨x2, -⟩, ⟨x3, -⟩, ⟨x4, -⟩, ⟨x5, -⟩⟩ := HX.out
  clear hst hX hY hsz
  go_enter Tryz.func18, Tryz.ntmps18
  go_wp2_with fail
  generalize (w.alloc (.cells #[v0, v1, .int .i64 W.time, .int .i64 W.next, v2, .slice al W.pn cl] 38)).alloc (.cells #[.int .i64 0, .string ⟨#[]⟩, .string ⟨#[]⟩, .int .i64 0, .int .i64 0, .int .i64 0, .int .i64 0, .slice none 0 0] 46) = W0 at HX HY HS hbw x0 x1 x2 x3 x4 x5 ⊢
  refine (l04Snap_any _ _ _ _ lo hi W x W0 (Hp.out.below hbw)).mono ?_
  rintro e w1 ⟨r, rfl, hr, hb1⟩
  have hB1 := below_next hbw hb1
  have HX1 := hideW (HX.out.below hb1)
  have HY1 := hideW (HY.out.below hb1)
  have HS1 := hideW (show w.heap.size + 1 + 1 ≤ w1.heap.size by have := HS.out; have := hb1.size; omega)
  clear x0 x1 x2 x3 x4 x5 hb1 hbw HX HY HS
  rcases hr with ⟨k, hk, hke, hkl, rfl⟩ | ⟨hno, rfl⟩
  rotate_left
  · have HA := hideW (show snapAns W x = zeroSnap from snapAns_none hno)
    clear hno
    obtain ⟨⟨y0, y0'⟩, ⟨y1, y1'⟩, ⟨y2, y2'⟩, ⟨y3, y3'⟩, ⟨y4, y4'⟩, ⟨y5, y5'⟩, ⟨y6, y6'⟩, ⟨y7, y7'⟩⟩ := HY1.out
    go_wp2
    have HR := HY1.out.put (.int .i64 0) (.string ⟨#[]⟩) (.string ⟨#[]⟩) (.int .i64 0) (.int .i64 0) (.int .i64 0) (.int .i64 0) (.slice none 0 0)
    refine bodyPost_ret (v := .agg #[.int .i64 0, .string ⟨#[]⟩, .string ⟨#[]⟩, .int .i64 0, .int .i64 0, .int .i64 0, .int .i64 0, .slice none 0 0]) (by simp [results, Tryz.results18, go_sem, HR.1.1, HR.2.1.1, HR.2.2.1.1, HR.2.2.2.1.1, HR.2.2.2.2.1.1, HR.2.2.2.2.2.1.1, HR.2.2.2.2.2.2.1.1, HR.2.2.2.2.2.2.2.1]) rfl ?_
    rw [HA.out]
    exact newSnap_zero ((hB1.trans ((Turned.putR8 w1 (w.heap.size + 1) (.int .i64 0) (.string ⟨#[]⟩) (.string ⟨#[]⟩) (.int .i64 0) (.int .i64 0) (.int .i64 0) (.int .i64 0) (.slice none 0 0)).below (B := w.heap.size) (by have := HS1.out; omega) (fun k e => by omega))))
  · have Hno := hideW (show SnapNo W x k from ⟨hk, hke, hkl⟩)
    have hk' : (k : Int) < (W.pn : Int) := by omega
    clear hke hkl
    obtain ⟨⟨x0, -⟩, ⟨x1, -⟩, ⟨x2, -⟩, ⟨x3, -⟩, ⟨x4, -⟩, ⟨x5, -⟩⟩ := HX1.out
    go_wp2_with fail
    refine (specWorldRight_any _ _ _ _ lo hi W w1 (Hp.out.below hB1)).mono ?_
    rintro e w2 ⟨⟨t, rfl, ht⟩, hb2⟩
    have Ht := hideW ht
    have hB2 := below_next hB1 hb2
    have HX2 := hideW (HX1.out.below hb2)
    have HY2 := hideW (HY1.out.below hb2)
    have HS2 := hideW (show w.heap.size + 1 + 1 ≤ w2.heap.size by have := HS1.out; have := hb2.size; omega)
    clear ht x0 x1 x2 x3 x4 x5 hb2 hB1 HX1 HY1 HS1
    cases t
    · have HA := hideW (show snapAns W x = zeroSnap from snapAns_no (fun h => absurd (Ht.out.2 h) (by simp)))
      obtain ⟨⟨y0, y0'⟩, ⟨y1, y1'⟩, ⟨y2, y2'⟩, ⟨y3, y3'⟩, ⟨y4, y4'⟩, ⟨y5, y5'⟩, ⟨y6, y6'⟩, ⟨y7, y7'⟩⟩ := HY2.out
      go_wp2
      have HR := HY2.out.put (.int .i64 0) (.string ⟨#[]⟩) (.string ⟨#[]⟩) (.int .i64 0) (.int .i64 0) (.int .i64 0) (.int .i64 0) (.slice none 0 0)
      refine bodyPost_ret (v := .agg #[.int .i64 0, .string ⟨#[]⟩, .string ⟨#[]⟩, .int .i64 0, .int .i64 0, .int .i64 0, .int .i64 0, .slice none 0 0]) (by simp [results, Tryz.results18, go_sem, HR.1.1, HR.2.1.1, HR.2.2.1.1, HR.2.2.2.1.1, HR.2.2.2.2.1.1, HR.2.2.2.2.2.1.1, HR.2.2.2.2.2.2.1.1, HR.2.2.2.2.2.2.2.1]) rfl ?_
      rw [HA.out]
      exact newSnap_zero ((hB2.trans ((Turned.putR8 w2 (w.heap.size + 1) (.int .i64 0) (.string ⟨#[]⟩) (.string ⟨#[]⟩) (.int .i64 0) (.int .i64 0) (.int .i64 0) (.int .i64 0) (.slice none 0 0)).below (B := w.heap.size) (by have := HS2.out; omega) (fun k e => by omega))))
    · have HA := hideW (show snapAns W x = W.snaps k by rw [snapAns_yes (Ht.out.1 rfl), aheadOf_at Hno.out])
      obtain ⟨b, off, vd, rfl, hs⟩ := (Hp.out.snaps.below hB2).cells hk
      obtain ⟨-, ad, cd, rfl, -, -⟩ := id hs.dead
      have Hs := hideW hs
      have q0 := hs.c0
      have q1 := hs.c1
      have q2 := hs.c2
      have q3 := hs.c3
      have q4 := hs.c4
      have q5 := hs.c5
      have q6 := hs.c6
      have q7 := hs.c7
      clear hs
      -- the variable, the new list
      have ha3 := below_alloc w2 (.cells #[.int .i64 (W.snaps k).id, .string (W.snaps k).name, .string (W.snaps k).set, .int .i64 (W.snaps k).prev, .int .i64 (W.snaps k).time, .int .i64 (W.snaps k).rs, .int .i64 (W.snaps k).rb, .slice ad (W.snaps k).dn cd] 46)
      have hZ := Row8.new w2 (.int .i64 (W.snaps k).id) (.string (W.snaps k).name) (.string (W.snaps k).set) (.int .i64 (W.snaps k).prev) (.int .i64 (W.snaps k).time) (.int .i64 (W.snaps k).rs) (.int .i64 (W.snaps k).rb) (.slice ad (W.snaps k).dn cd) 46
      have hz3 : (w2.alloc (.cells #[.int .i64 (W.snaps k).id, .string (W.snaps k).name, .string (W.snaps k).set, .int .i64 (W.snaps k).prev, .int .i64 (W.snaps k).time, .int .i64 (W.snaps k).rs, .int .i64 (W.snaps k).rb, .slice ad (W.snaps k).dn cd] 46)).heap.size = w2.heap.size + 1 := World.size_alloc _ _
      obtain ⟨a', c', kb, w3, hrun, hp3, hk3, hb3, hs3⟩ := run_copy_ptrs (w2.alloc (.cells #[.int .i64 (W.snaps k).id, .string (W.snaps k).name, .string (W.snaps k).set, .int .i64 (W.snaps k).prev, .int .i64 (W.snaps k).time, .int .i64 (W.snaps k).rs, .int .i64 (W.snaps k).rb, .slice ad (W.snaps k).dn cd] 46)) lo hi ad (W.snaps k).dn cd (W.snaps k).ds (W.snaps k).db (Hs.out.dead.below ha3) (HN.out.2 k hk) 44
      have ha4 := below_alloc (w2.alloc (.cells #[.int .i64 (W.snaps k).id, .string (W.snaps k).name, .string (W.snaps k).set, .int .i64 (W.snaps k).prev, .int .i64 (W.snaps k).time, .int .i64 (W.snaps k).rs, .int .i64 (W.snaps k).rb, .slice ad (W.snaps k).dn cd] 46)) (.cells #[] 43)
      obtain ⟨⟨z0, z0'⟩, ⟨z1, z1'⟩, ⟨z2, z2'⟩, ⟨z3, z3'⟩, ⟨z4, z4'⟩, ⟨z5, z5'⟩, ⟨z6, z6'⟩, ⟨z7, z7'⟩⟩ := hZ.below ha4
      have HZ3 := hideW (hZ.below hb3)
      have hB3 := below_next (below_next hB2 ha3) hb3
      have HY3 := hideW ((HY2.out.below ha3).below hb3)
      have HP3 := hideW hp3
      have HK3 := hideW hk3
      have HS3 := hideW (show w2.heap.size + 1 < w3.heap.size by omega)
      rw [hz3] at hrun hk3
      obtain ⟨⟨x0, -⟩, ⟨x1, -⟩, ⟨x2, -⟩, ⟨x3, -⟩, ⟨x4, -⟩, ⟨x5, -⟩⟩ := HX2.out
      obtain ⟨⟨X0, -⟩, ⟨X1, -⟩, ⟨X2, -⟩, ⟨X3, -⟩, ⟨X4, -⟩, ⟨X5, -⟩⟩ := (HX2.out.below ha3)
      obtain ⟨⟨p0, p0'⟩, ⟨p1, p1'⟩, ⟨p2, p2'⟩, ⟨p3, p3'⟩, ⟨p4, p4'⟩, ⟨p5, p5'⟩, ⟨p6, p6'⟩, ⟨p7, p7'⟩⟩ := HZ3.out
      obtain ⟨⟨y0, y0'⟩, ⟨y1, y1'⟩, ⟨y2, y2'⟩, ⟨y3, y3'⟩, ⟨y4, y4'⟩, ⟨y5, y5'⟩, ⟨y6, y6'⟩, ⟨y7, y7'⟩⟩ := HY3.out
      have Hz3 := hideW hz3
      have Hrun := hideW hrun
      have hV : w2.heap.size ≠ w.heap.size + 1 := by have := HS2.out; omega
      have hV' : w.heap.size + 1 ≠ w2.heap.size := by have := HS2.out; omega
      clear hp3 hk3 hb3 hs3 ha3 ha4 hZ hz3 hrun
      go_wp2_with (first
        | (at_builtin; refine wpList_append_run rfl _ _ 44 rfl _ _ _ rfl rfl Hrun.out ?_)
        | go_in)
      have hs2 := HS2.out
      have hs3 := HS3.out
      have T1 := Turned.put w3 w2.heap.size 7 (.slice a' (W.snaps k).dn c')
      have HR := (HY3.out.turned T1 (fun e => absurd e (by omega))).put (.int .i64 (W.snaps k).id) (.string (W.snaps k).name) (.string (W.snaps k).set) (.int .i64 (W.snaps k).prev) (.int .i64 (W.snaps k).time) (.int .i64 (W.snaps k).rs) (.int .i64 (W.snaps k).rb) (.slice a' (W.snaps k).dn c')
      have T2 := Turned.putR8 (w3.setCell ⟨w2.heap.size, 7, none⟩ (.slice a' (W.snaps k).dn c')) (w.heap.size + 1) (.int .i64 (W.snaps k).id) (.string (W.snaps k).name) (.string (W.snaps k).set) (.int .i64 (W.snaps k).prev) (.int .i64 (W.snaps k).time) (.int .i64 (W.snaps k).rs) (.int .i64 (W.snaps k).rb) (.slice a' (W.snaps k).dn c')
      have TT := (T1.mono (T := fun k => k = w.heap.size + 1 ∨ k = w2.heap.size) (fun k e => Or.inr e)).trans (T2.mono (fun k e => Or.inl e))
      refine bodyPost_ret (v := .agg #[.int .i64 (W.snaps k).id, .string (W.snaps k).name, .string (W.snaps k).set, .int .i64 (W.snaps k).prev, .int .i64 (W.snaps k).time, .int .i64 (W.snaps k).rs, .int .i64 (W.snaps k).rb, .slice a' (W.snaps k).dn c']) (by simp [results, Tryz.results18, go_sem, HR.1.1, HR.2.1.1, HR.2.2.1.1, HR.2.2.2.1.1, HR.2.2.2.2.1.1, HR.2.2.2.2.2.1.1, HR.2.2.2.2.2.2.1.1, HR.2.2.2.2.2.2.2.1]) rfl ?_
      rw [HA.out]
      refine ⟨.slice a' (W.snaps k).dn c', kb, rfl, HP3.out.turned TT (fun h0 e => by have h1 := HK3.out h0; have h2 := Hz3.out; omega), fun h0 => ?_, hB3.trans (TT.below (B := w.heap.size) (by omega) (fun k e => by omega))⟩
      have h1 := HK3.out h0
      have h2 := Hz3.out
      simp only [World.size_setCell]
      omega

set_option maxRecDepth 20000 in
set_option maxHeartbeats 1000000 in
theorem specSetOf_any (v0 v1 v2 v3 : Value) (lo hi : Nat) (W : WorldD) (x : ByteArray) (w : World) (h : WorldAt w lo hi v0 v1 v2 v3 W) (hN : DeadsN W) (hsx : x.size ≤ maxLen) : Calls Tryz.prog 24 #[worldV v0 v1 v2 v3 W, .string x] w (NewSet (setAns W x) w) := by
  have Hp := hideW h
  have HN := hideW hN
  obtain ⟨m1, al, cl, rfl, ml, -⟩ := id h.sets
  clear h hN
  unfold maxLen at m1
  have hst : ∀ Wa Wb : World, Wa = w.alloc (.cells #[v0, v1, .int .i64 W.time, .int .i64 W.next, .slice al W.sn cl, v3] 38) → Wb = Wa.alloc (.cells #[.string ⟨#[]⟩, .int .i64 0, .int .i64 0, .int .i64 0, .int .i64 0, .slice none 0 0] 53) → Box6 Wb w.heap.size v0 v1 (.int .i64 W.time) (.int .i64 W.next) (.slice al W.sn cl) v3 ∧ Box6 Wb (w.heap.size + 1) (.string ⟨#[]⟩) (.int .i64 0) (.int .i64 0) (.int .i64 0) (.int .i64 0) (.slice none 0 0) ∧ Below w.heap.size w Wb ∧ Wb.heap.size = w.heap.size + 1 + 1 := by
    rintro Wa Wb ea eb
    have ha := below_alloc w (.cells #[v0, v1, .int .i64 W.time, .int .i64 W.next, .slice al W.sn cl, v3] 38)
    have h1 := Box6.new w v0 v1 (.int .i64 W.time) (.int .i64 W.next) (.slice al W.sn cl) v3 38
    have z1 : Wa.heap.size = w.heap.size + 1 := by rw [ea]; exact World.size_alloc _ _
    rw [← ea] at ha h1
    have hb := below_alloc Wa (.cells #[.string ⟨#[]⟩, .int .i64 0, .int .i64 0, .int .i64 0, .int .i64 0, .slice none 0 0] 53)
    have h2 := Box6.new Wa (.string ⟨#[]⟩) (.int .i64 0) (.int .i64 0) (.int .i64 0) (.int .i64 0) (.slice none 0 0) 53
    have z2 : Wb.heap.size = w.heap.size + 1 + 1 := by rw [eb, World.size_alloc, z1]
    rw [← eb, z1] at h2
    rw [← eb] at hb
    exact ⟨h1.below hb, h2, below_next ha hb, z2⟩
  obtain ⟨hX, hY, hbw, hsz⟩ := hst _ _ rfl rfl
  have HX := hideW hX
  have HY := hideW hY
  have HS := hideW hsz
  obtain ⟨⟨x0, -⟩, ⟨x1, -⟩, ⟨x2, -⟩, ⟨x3, -⟩, ⟨x4, -⟩, ⟨x5, -⟩⟩ := HX.out
  clear hst hX hY hsz
  go_enter Tryz.func24, Tryz.ntmps24
  go_wp2_with fail
  generalize (w.alloc (.cells #[v0, v1, .int .i64 W.time, .int .i64 W.next, .slice al W.sn cl, v3] 38)).alloc (.cells #[.string ⟨#[]⟩, .int .i64 0, .int .i64 0, .int .i64 0, .int .i64 0, .slice none 0 0] 53) = W0 at HX HY HS hbw x0 x1 x2 x3 x4 x5 ⊢
  refine (l04Set_any _ _ _ _ lo hi W x W0 (Hp.out.below hbw)).mono ?_
  rintro e w1 ⟨r, rfl, hr, hb1⟩
  have hB1 := below_next hbw hb1
  have HX1 := hideW (HX.out.below hb1)
  have HY1 := hideW (HY.out.below hb1)
  have HS1 := hideW (show w.heap.size + 1 + 1 ≤ w1.heap.size by have := HS.out; have := hb1.size; omega)
  clear x0 x1 x2 x3 x4 x5 hb1 hbw HX HY HS
  by_cases hbig : 8000 < x.size
  · have hbig' : (8000 : Int) < (x.size : Int) := by omega
    have HA := hideW (show setAns W x = zeroSetD from setAns_long hbig)
    clear hr
    obtain ⟨⟨y0, y0'⟩, ⟨y1, y1'⟩, ⟨y2, y2'⟩, ⟨y3, y3'⟩, ⟨y4, y4'⟩, ⟨y5, y5'⟩⟩ := HY1.out
    go_wp2
    have HR := HY1.out.put (.string ⟨#[]⟩) (.int .i64 0) (.int .i64 0) (.int .i64 0) (.int .i64 0) (.slice none 0 0)
    refine bodyPost_ret (v := .agg #[.string ⟨#[]⟩, .int .i64 0, .int .i64 0, .int .i64 0, .int .i64 0, .slice none 0 0]) (by simp [results, Tryz.results24, go_sem, HR.1.1, HR.2.1.1, HR.2.2.1.1, HR.2.2.2.1.1, HR.2.2.2.2.1.1, HR.2.2.2.2.2.1]) rfl ?_
    rw [HA.out]
    exact newSet_zero ((hB1.trans ((Turned.put6 w1 (w.heap.size + 1) (.string ⟨#[]⟩) (.int .i64 0) (.int .i64 0) (.int .i64 0) (.int .i64 0) (.slice none 0 0)).below (B := w.heap.size) (by have := HS1.out; omega) (fun k e => by omega))))
  have hbig' : ¬ (8000 : Int) < (x.size : Int) := by omega
  unfold maxLen at hsx
  rcases hr with ⟨k, hk, hke, hkl, rfl⟩ | ⟨hno, rfl⟩
  rotate_left
  · have HA := hideW (show setAns W x = zeroSetD from setAns_none hno)
    clear hno
    obtain ⟨⟨y0, y0'⟩, ⟨y1, y1'⟩, ⟨y2, y2'⟩, ⟨y3, y3'⟩, ⟨y4, y4'⟩, ⟨y5, y5'⟩⟩ := HY1.out
    go_wp2
    have HR := HY1.out.put (.string ⟨#[]⟩) (.int .i64 0) (.int .i64 0) (.int .i64 0) (.int .i64 0) (.slice none 0 0)
    refine bodyPost_ret (v := .agg #[.string ⟨#[]⟩, .int .i64 0, .int .i64 0, .int .i64 0, .int .i64 0, .slice none 0 0]) (by simp [results, Tryz.results24, go_sem, HR.1.1, HR.2.1.1, HR.2.2.1.1, HR.2.2.2.1.1, HR.2.2.2.2.1.1, HR.2.2.2.2.2.1]) rfl ?_
    rw [HA.out]
    exact newSet_zero ((hB1.trans ((Turned.put6 w1 (w.heap.size + 1) (.string ⟨#[]⟩) (.int .i64 0) (.int .i64 0) (.int .i64 0) (.int .i64 0) (.slice none 0 0)).below (B := w.heap.size) (by have := HS1.out; omega) (fun k e => by omega))))
  · have Hno := hideW (show SetNo W x k from ⟨hk, hke, hkl⟩)
    have hk' : (k : Int) < (W.sn : Int) := by omega
    clear hke hkl
    obtain ⟨⟨x0, -⟩, ⟨x1, -⟩, ⟨x2, -⟩, ⟨x3, -⟩, ⟨x4, -⟩, ⟨x5, -⟩⟩ := HX1.out
    go_wp2_with fail
    refine (specWorldRight_any _ _ _ _ lo hi W w1 (Hp.out.below hB1)).mono ?_
    rintro e w2 ⟨⟨t, rfl, ht⟩, hb2⟩
    have Ht := hideW ht
    have hB2 := below_next hB1 hb2
    have HX2 := hideW (HX1.out.below hb2)
    have HY2 := hideW (HY1.out.below hb2)
    have HS2 := hideW (show w.heap.size + 1 + 1 ≤ w2.heap.size by have := HS1.out; have := hb2.size; omega)
    clear ht x0 x1 x2 x3 x4 x5 hb2 hB1 HX1 HY1 HS1
    cases t
    · have HA := hideW (show setAns W x = zeroSetD from setAns_no (fun h => absurd (Ht.out.2 h) (by simp)))
      obtain ⟨⟨y0, y0'⟩, ⟨y1, y1'⟩, ⟨y2, y2'⟩, ⟨y3, y3'⟩, ⟨y4, y4'⟩, ⟨y5, y5'⟩⟩ := HY2.out
      go_wp2
      have HR := HY2.out.put (.string ⟨#[]⟩) (.int .i64 0) (.int .i64 0) (.int .i64 0) (.int .i64 0) (.slice none 0 0)
      refine bodyPost_ret (v := .agg #[.string ⟨#[]⟩, .int .i64 0, .int .i64 0, .int .i64 0, .int .i64 0, .slice none 0 0]) (by simp [results, Tryz.results24, go_sem, HR.1.1, HR.2.1.1, HR.2.2.1.1, HR.2.2.2.1.1, HR.2.2.2.2.1.1, HR.2.2.2.2.2.1]) rfl ?_
      rw [HA.out]
      exact newSet_zero ((hB2.trans ((Turned.put6 w2 (w.heap.size + 1) (.string ⟨#[]⟩) (.int .i64 0) (.int .i64 0) (.int .i64 0) (.int .i64 0) (.slice none 0 0)).below (B := w.heap.size) (by have := HS2.out; omega) (fun k e => by omega))))
    · have HA := hideW (show setAns W x = W.sets k by rw [setAns_yes (Ht.out.1 rfl), setAt_at Hno.out])
      obtain ⟨b, off, vd, rfl, hs⟩ := (Hp.out.sets.below hB2).cells hk
      obtain ⟨-, ad, cd, rfl, -, -⟩ := id hs.dead
      have Hs := hideW hs
      have q0 := hs.c0
      have q1 := hs.c1
      have q2 := hs.c2
      have q3 := hs.c3
      have q4 := hs.c4
      have q5 := hs.c5
      clear hs
      -- the variable, the new list
      have ha3 := below_alloc w2 (.cells #[.string (W.sets k).name, .int .i64 (W.sets k).origin, .int .i64 (W.sets k).prev, .int .i64 (W.sets k).rs, .int .i64 (W.sets k).rb, .slice ad (W.sets k).dn cd] 53)
      have hZ := Box6.new w2 (.string (W.sets k).name) (.int .i64 (W.sets k).origin) (.int .i64 (W.sets k).prev) (.int .i64 (W.sets k).rs) (.int .i64 (W.sets k).rb) (.slice ad (W.sets k).dn cd) 53
      have hz3 : (w2.alloc (.cells #[.string (W.sets k).name, .int .i64 (W.sets k).origin, .int .i64 (W.sets k).prev, .int .i64 (W.sets k).rs, .int .i64 (W.sets k).rb, .slice ad (W.sets k).dn cd] 53)).heap.size = w2.heap.size + 1 := World.size_alloc _ _
      obtain ⟨a', c', kb, w3, hrun, hp3, hk3, hb3, hs3⟩ := run_copy_ptrs (w2.alloc (.cells #[.string (W.sets k).name, .int .i64 (W.sets k).origin, .int .i64 (W.sets k).prev, .int .i64 (W.sets k).rs, .int .i64 (W.sets k).rb, .slice ad (W.sets k).dn cd] 53)) lo hi ad (W.sets k).dn cd (W.sets k).ds (W.sets k).db (Hs.out.dead.below ha3) (HN.out.1 k hk) 44
      have ha4 := below_alloc (w2.alloc (.cells #[.string (W.sets k).name, .int .i64 (W.sets k).origin, .int .i64 (W.sets k).prev, .int .i64 (W.sets k).rs, .int .i64 (W.sets k).rb, .slice ad (W.sets k).dn cd] 53)) (.cells #[] 43)
      obtain ⟨⟨z0, z0'⟩, ⟨z1, z1'⟩, ⟨z2, z2'⟩, ⟨z3, z3'⟩, ⟨z4, z4'⟩, ⟨z5, z5'⟩⟩ := hZ.below ha4
      have HZ3 := hideW (hZ.below hb3)
      have hB3 := below_next (below_next hB2 ha3) hb3
      have HY3 := hideW ((HY2.out.below ha3).below hb3)
      have HP3 := hideW hp3
      have HK3 := hideW hk3
      have HS3 := hideW (show w2.heap.size + 1 < w3.heap.size by omega)
      rw [hz3] at hrun hk3
      obtain ⟨⟨x0, -⟩, ⟨x1, -⟩, ⟨x2, -⟩, ⟨x3, -⟩, ⟨x4, -⟩, ⟨x5, -⟩⟩ := HX2.out
      obtain ⟨⟨X0, -⟩, ⟨X1, -⟩, ⟨X2, -⟩, ⟨X3, -⟩, ⟨X4, -⟩, ⟨X5, -⟩⟩ := (HX2.out.below ha3)
      obtain ⟨⟨p0, p0'⟩, ⟨p1, p1'⟩, ⟨p2, p2'⟩, ⟨p3, p3'⟩, ⟨p4, p4'⟩, ⟨p5, p5'⟩⟩ := HZ3.out
      obtain ⟨⟨y0, y0'⟩, ⟨y1, y1'⟩, ⟨y2, y2'⟩, ⟨y3, y3'⟩, ⟨y4, y4'⟩, ⟨y5, y5'⟩⟩ := HY3.out
      have Hz3 := hideW hz3
      have Hrun := hideW hrun
      have hV : w2.heap.size ≠ w.heap.size + 1 := by have := HS2.out; omega
      have hV' : w.heap.size + 1 ≠ w2.heap.size := by have := HS2.out; omega
      clear hp3 hk3 hb3 hs3 ha3 ha4 hZ hz3 hrun
      go_wp2_with (first
        | (at_builtin; refine wpList_append_run rfl _ _ 44 rfl _ _ _ rfl rfl Hrun.out ?_)
        | go_in)
      have hs2 := HS2.out
      have hs3 := HS3.out
      have T1 := Turned.put w3 w2.heap.size 5 (.slice a' (W.sets k).dn c')
      have HR := (HY3.out.turned T1 (fun e => absurd e (by omega))).put (.string (W.sets k).name) (.int .i64 (W.sets k).origin) (.int .i64 (W.sets k).prev) (.int .i64 (W.sets k).rs) (.int .i64 (W.sets k).rb) (.slice a' (W.sets k).dn c')
      have T2 := Turned.put6 (w3.setCell ⟨w2.heap.size, 5, none⟩ (.slice a' (W.sets k).dn c')) (w.heap.size + 1) (.string (W.sets k).name) (.int .i64 (W.sets k).origin) (.int .i64 (W.sets k).prev) (.int .i64 (W.sets k).rs) (.int .i64 (W.sets k).rb) (.slice a' (W.sets k).dn c')
      have TT := (T1.mono (T := fun k => k = w.heap.size + 1 ∨ k = w2.heap.size) (fun k e => Or.inr e)).trans (T2.mono (fun k e => Or.inl e))
      refine bodyPost_ret (v := .agg #[.string (W.sets k).name, .int .i64 (W.sets k).origin, .int .i64 (W.sets k).prev, .int .i64 (W.sets k).rs, .int .i64 (W.sets k).rb, .slice a' (W.sets k).dn c']) (by simp [results, Tryz.results24, go_sem, HR.1.1, HR.2.1.1, HR.2.2.1.1, HR.2.2.2.1.1, HR.2.2.2.2.1.1, HR.2.2.2.2.2.1]) rfl ?_
      rw [HA.out]
      refine ⟨.slice a' (W.sets k).dn c', kb, rfl, HP3.out.turned TT (fun h0 e => by have h1 := HK3.out h0; have h2 := Hz3.out; omega), fun h0 => ?_, hB3.trans (TT.below (B := w.heap.size) (by omega) (fun k e => by omega))⟩
      have h1 := HK3.out h0
      have h2 := Hz3.out
      simp only [World.size_setCell]
      omega

end Go.Proofs.YtjpbmpjddbekgaaGreat

namespace Go.Proofs.YtjpbmpjddbekgaaGreat
open Go.RowKit
set_option linter.unusedVariables false

set_option maxRecDepth 20000 in
set_option maxHeartbeats 400000 in
theorem clonePtrs_any (v : Value) (n lo hi : Nat) (f g : Nat → Int) (w : World) (h1 : PtrsAt w lo hi v n f g) (hn : n ≤ 1048576) :
    Calls Tryz.prog 79 #[v] w fun e w' => (∃ v' kb, e = .returned v' ∧ PtrsOwn w' kb v' n f g ∧ (0 < n → w.heap.size ≤ kb ∧ kb < w'.heap.size)) ∧ Below w.heap.size w w' := by
  obtain ⟨m1, a, c, rfl, mc, g1⟩ := h1
  have G1 : Hid (0 < n → ∃ b off, a = some ⟨b, off, none⟩ ∧ lo ≤ b ∧ b < hi ∧ ∀ i, i < n → w.cell? ⟨b, off + i * 2, none⟩ = some (.int .i64 (f i)) ∧ w.cell? ⟨b, off + i * 2 + 1, none⟩ = some (.int .i64 (g i))) := g1
  have Hm : Hid (n ≤ maxLen) := m1
  clear g1 m1
  have heq := fun w => Lib.run_eql_slice_nil (P := Tryz.prog) w 44 43 a n c 0 0 (by kernel_rfl)
  cases a with
  | none =>
    have hn0 : n = 0 := by
      by_cases h : 0 < n
      · obtain ⟨b, off, ha, _⟩ := G1.out h; simp at ha
      · omega
    subst hn0
    go_enter Tryz.func79, Tryz.ntmps79
    go_wp2
    go_ret
    exact ⟨⟨_, 0, rfl, ⟨Nat.zero_le _, none, 0, rfl, Nat.le_refl _, fun h => absurd h (Nat.lt_irrefl _)⟩, fun h => absurd h (Nat.lt_irrefl _)⟩, Below.refl _ _⟩
  | some ad =>
    obtain ⟨i0, hi, hzz⟩ := Option.map_eq_some_iff.1 infoPtrT
    simp only [Prod.mk.injEq] at hzz
    obtain ⟨hz, hs, hby⟩ := hzz
    have hsrc : ∀ (w' : World), Below w.heap.size w w' → ∀ j u, (kc f g n)[j]? = some u → w'.cell? (ad.add j) = some u := fun w' hb j u hj => by
      by_cases h0 : 0 < n
      · obtain ⟨b, off, ha, _, _, hc⟩ := G1.out h0
        simp only [Option.some.injEq] at ha
        subst ha
        have := kc_cells hc j u hj
        have hadd : (⟨b, off, none⟩ : Addr).add j = ⟨b, off + j, none⟩ := by unfold Addr.add; split <;> simp_all
        rw [hadd] at this ⊢
        exact (hb.cell (lt_of_cell this)).trans this
      · obtain rfl : n = 0 := by omega
        simp [kc] at hj
    have Hsrc : Hid (∀ (w' : World), Below w.heap.size w w' → ∀ j u, (kc f g n)[j]? = some u → w'.cell? (ad.add j) = some u) := hsrc
    have HI : Hid (Tryz.prog.info? 43 = some i0 ∧ i0.zero = some (.agg #[.int .i64 0, .int .i64 0]) ∧ i0.size = 2 ∧ i0.bytes = 16) := ⟨hi, hz, hs, hby⟩
    have hown0 : (w.alloc (.cells #[] 43)).ownsRow w.heap.size 43 2 (.slice (some ⟨w.heap.size, 0, none⟩) 0 0) 0 [] := World.ownsRow_made w #[] 0 (Nat.le_refl _) (Nat.zero_le _) (by simp)
    have Hown0 : Hid ((w.alloc (.cells #[] 43)).ownsRow w.heap.size 43 2 (.slice (some ⟨w.heap.size, 0, none⟩) 0 0) 0 []) := hown0
    clear hi hz hs hby hsrc hown0
    go_enter Tryz.func79, Tryz.ntmps79
    go_wp2_with (first
      | (at_builtin; refine wpList_append_own _ rfl _ _ 44 rfl w.heap.size 43 i0 (.agg #[.int .i64 0, .int .i64 0]) 2 16 (by kernel_rfl) HI.out.1 HI.out.2.1 HI.out.2.2.1 HI.out.2.2.2 rfl (by decide) _ _ _ rfl Hown0.out ad n c (kc f g n) rfl (kc_len f g n) ?c1 (kc_one f g n) ?c3 ?c4 ?c5 ?_))
    case c1 => exact Hsrc.out _ ((Below.refl _ _).alloc (Nat.le_refl _) _)
    case c3 => unfold maxLen; omega
    case c4 => omega
    case c5 => simp
    intro v' w1 hown' hgrow hnil
    have hb1 : Below w.heap.size w w1 := ((Below.refl _ _).alloc (Nat.le_refl _) _).grown hgrow (by simp) (fun q hq => by have := Hown0.out.lt q hq; omega)
    have hown2 : w1.ownsRow w.heap.size 43 2 v' n (kc f g n) := by simpa using hown'
    obtain ⟨kb, hp, hk⟩ := ptrs_of_owns Hm.out hown2
    have Hp : Hid (PtrsOwn w1 kb v' n f g ∧ (0 < n → w.heap.size ≤ kb ∧ kb < w1.heap.size)) := ⟨hp, hk⟩
    clear hp hk hown' hown2 hgrow hnil
    go_wp2
    go_ret
    exact ⟨⟨v', kb, rfl, Hp.out.1, Hp.out.2⟩, hb1⟩

end Go.Proofs.YtjpbmpjddbekgaaGreat

namespace Go.Proofs.YtjpbmpjddbekgaaGreat
open Go.RowKit Go.Maps
set_option linter.unusedVariables false

set_option maxRecDepth 20000 in
set_option maxHeartbeats 1000000 in
theorem implSnapOf_any (v0 v1 v2 v3 : Value) (lo hi : Nat) (W : WorldD) (x : Int) (w : World) (h : WorldAt w lo hi v0 v1 v2 v3 W) (hwf : PrevsWf W) (hN : DeadsN W) (hx : (Lit.int .i64 x).wf = true) : Calls Tryz.prog 19 #[worldV v0 v1 v2 v3 W, .int .i64 x] w (NewSnap (snapAns W x) w) := by
  have Hp := hideW h
  have HN := hideW hN
  have Hwf := hideW hwf
  have Hkey := hideW (keyN_of hx)
  clear h hN hwf hx
  have hst : ∀ Wa Wb : World, Wa = w.alloc (.cells #[v0, v1, .int .i64 W.time, .int .i64 W.next, v2, v3] 38) → Wb = Wa.alloc (.cells #[.int .i64 0, .string ⟨#[]⟩, .string ⟨#[]⟩, .int .i64 0, .int .i64 0, .int .i64 0, .int .i64 0, .slice none 0 0] 46) → Box6 Wb w.heap.size v0 v1 (.int .i64 W.time) (.int .i64 W.next) v2 v3 ∧ Row8 Wb (w.heap.size + 1) (.int .i64 0) (.string ⟨#[]⟩) (.string ⟨#[]⟩) (.int .i64 0) (.int .i64 0) (.int .i64 0) (.int .i64 0) (.slice none 0 0) ∧ Below w.heap.size w Wb ∧ Wb.heap.size = w.heap.size + 1 + 1 := by
    rintro Wa Wb ea eb
    have ha := below_alloc w (.cells #[v0, v1, .int .i64 W.time, .int .i64 W.next, v2, v3] 38)
    have h1 := Box6.new w v0 v1 (.int .i64 W.time) (.int .i64 W.next) v2 v3 38
    have z1 : Wa.heap.size = w.heap.size + 1 := by rw [ea]; exact World.size_alloc _ _
    rw [← ea] at ha h1
    have hb := below_alloc Wa (.cells #[.int .i64 0, .string ⟨#[]⟩, .string ⟨#[]⟩, .int .i64 0, .int .i64 0, .int .i64 0, .int .i64 0, .slice none 0 0] 46)
    have h2 := Row8.new Wa (.int .i64 0) (.string ⟨#[]⟩) (.string ⟨#[]⟩) (.int .i64 0) (.int .i64 0) (.int .i64 0) (.int .i64 0) (.slice none 0 0) 46
    have z2 : Wb.heap.size = w.heap.size + 1 + 1 := by rw [eb, World.size_alloc, z1]
    rw [← eb, z1] at h2
    rw [← eb] at hb
    exact ⟨h1.below hb, h2, below_next ha hb, z2⟩
  obtain ⟨hX, hY, hbw, hsz⟩ := hst _ _ rfl rfl
  have HX := hideW hX
  have HY := hideW hY
  have HS := hideW hsz
  obtain ⟨⟨x0, -⟩, ⟨x1, -⟩, ⟨x2, -⟩, ⟨x3, -⟩, ⟨x4, -⟩, ⟨x5, -⟩⟩ := HX.out
  clear hst hX hY hsz
  go_enter Tryz.func19, Tryz.ntmps19
  go_wp2_with fail
  generalize (w.alloc (.cells #[v0, v1, .int .i64 W.time, .int .i64 W.next, v2, v3] 38)).alloc (.cells #[.int .i64 0, .string ⟨#[]⟩, .string ⟨#[]⟩, .int .i64 0, .int .i64 0, .int .i64 0, .int .i64 0, .slice none 0 0] 46) = W0 at HX HY HS hbw x0 x1 x2 x3 x4 x5 ⊢
  refine (implWorldRight_any v0 v1 v2 v3 lo hi W W0 (Hp.out.below hbw) Hwf.out).mono ?_
  rintro e w1 ⟨⟨t, rfl, ht⟩, hb1⟩
  have Ht := hideW (ht.trans (world_iff W))
  have hB1 := below_next hbw hb1
  have HX1 := hideW (HX.out.below hb1)
  have HY1 := hideW (HY.out.below hb1)
  have HS1 := hideW (show w.heap.size + 1 + 1 ≤ w1.heap.size by have := HS.out; have := hb1.size; omega)
  clear x0 x1 x2 x3 x4 x5 hb1 hbw HX HY HS ht
  cases t
  · have HA := hideW (show snapAns W x = zeroSnap from snapAns_no (fun h => absurd (Ht.out.2 h) (by simp)))
    obtain ⟨⟨y0, y0'⟩, ⟨y1, y1'⟩, ⟨y2, y2'⟩, ⟨y3, y3'⟩, ⟨y4, y4'⟩, ⟨y5, y5'⟩, ⟨y6, y6'⟩, ⟨y7, y7'⟩⟩ := HY1.out
    go_wp2
    have HR := HY1.out.put (.int .i64 0) (.string ⟨#[]⟩) (.string ⟨#[]⟩) (.int .i64 0) (.int .i64 0) (.int .i64 0) (.int .i64 0) (.slice none 0 0)
    refine bodyPost_ret (v := .agg #[.int .i64 0, .string ⟨#[]⟩, .string ⟨#[]⟩, .int .i64 0, .int .i64 0, .int .i64 0, .int .i64 0, .slice none 0 0]) (by simp [results, Tryz.results19, go_sem, HR.1.1, HR.2.1.1, HR.2.2.1.1, HR.2.2.2.1.1, HR.2.2.2.2.1.1, HR.2.2.2.2.2.1.1, HR.2.2.2.2.2.2.1.1, HR.2.2.2.2.2.2.2.1]) rfl ?_
    rw [HA.out]
    exact newSnap_zero ((hB1.trans ((Turned.putR8 w1 (w.heap.size + 1) (.int .i64 0) (.string ⟨#[]⟩) (.string ⟨#[]⟩) (.int .i64 0) (.int .i64 0) (.int .i64 0) (.int .i64 0) (.slice none 0 0)).below (B := w.heap.size) (by have := HS1.out; omega) (fun k e => by omega))))
  · have HW := hideW (Ht.out.1 rfl)
    have HA := hideW (show snapAns W x = aheadOf W x from snapAns_yes HW.out)
    have HD := hideW (show (aheadOf W x).dn ≤ 1048576 from aheadOf_dn HN.out x)
    obtain ⟨⟨x0, -⟩, ⟨x1, -⟩, ⟨x2, -⟩, ⟨x3, -⟩, ⟨x4, -⟩, ⟨x5, -⟩⟩ := HX1.out
    go_wp2_with fail
    refine (snapsById_any v0 v1 v2 v3 lo hi W w1 (Hp.out.below hB1) HW.out.names.2.2.2.1 ((world_iff W).2 HW.out).names.idsWf).mono ?_
    rintro e w2 ⟨vd, rfl, hm, hd, hb2⟩
    obtain ⟨a, c, hat, hp⟩ := snaps_look ((world_iff W).2 HW.out).names.dist hd x
    have Hat := hideW hat
    have HP := hideW (hp.below hb2)
    have HM := hideW hm
    have hB2 := below_next hB1 hb2
    have HX2 := hideW (HX1.out.below hb2)
    have HY2 := hideW (HY1.out.below hb2)
    have HS2 := hideW (show w.heap.size + 1 + 1 ≤ w2.heap.size by have := HS1.out; have := hb2.size; omega)
    clear hat hp hm hd x0 x1 x2 x3 x4 x5 hb2 hB1 HX1 HY1 HS1
    unfold snapV at Hat
    generalize aheadOf W x = S at *
    have ha3 := below_alloc w2 (.cells #[.int .i64 S.id, .string S.name, .string S.set, .int .i64 S.prev, .int .i64 S.time, .int .i64 S.rs, .int .i64 S.rb, .slice a S.dn c] 46)
    have hZ := Row8.new w2 (.int .i64 S.id) (.string S.name) (.string S.set) (.int .i64 S.prev) (.int .i64 S.time) (.int .i64 S.rs) (.int .i64 S.rb) (.slice a S.dn c) 46
    have HZ := hideW hZ
    have HB3 := hideW (below_next hB2 ha3)
    have HY3 := hideW (HY2.out.below ha3)
    have HP3 := hideW (HP.out.below ha3)
    have HS3 := hideW (show (w2.alloc (.cells #[.int .i64 S.id, .string S.name, .string S.set, .int .i64 S.prev, .int .i64 S.time, .int .i64 S.rs, .int .i64 S.rb, .slice a S.dn c] 46)).heap.size = w2.heap.size + 1 from World.size_alloc _ _)
    clear ha3 hZ
    obtain ⟨⟨z0, z0'⟩, ⟨z1, z1'⟩, ⟨z2, z2'⟩, ⟨z3, z3'⟩, ⟨z4, z4'⟩, ⟨z5, z5'⟩, ⟨z6, z6'⟩, ⟨z7, z7'⟩⟩ := HZ.out
    go_wp2_with (first
      | (at_lookup; refine wpList_lookup_raw _ rfl _ _ 98 rfl 2 46 lawI snapsT (zeroSnapV _) (w1.heap.size + 1) W.pn _ rfl HM.out _ _ rfl Hkey.out _ Hat.out ?_)
      | fail)
    clear z0 z0' z1 z1' z2 z2' z3 z3' z4 z4' z5 z5' z6 z6' z7 z7'
    generalize w2.alloc (.cells #[.int .i64 S.id, .string S.name, .string S.set, .int .i64 S.prev, .int .i64 S.time, .int .i64 S.rs, .int .i64 S.rb, .slice a S.dn c] 46) = W3 at HZ HB3 HY3 HP3 HS3 ⊢
    clear HY2 HX2 HP HM Hat Hkey hB2
    generalize w2.heap.size = V at HZ HS2 HS3 ⊢
    have hV : V ≠ w.heap.size + 1 := by have := HS2.out; omega
    have hV' : w.heap.size + 1 ≠ V := by have := HS2.out; omega
    refine (clonePtrs_any _ S.dn lo hi S.ds S.db W3 HP3.out HD.out).mono ?_
    rintro e w4 ⟨⟨v', kb, rfl, ho, hk⟩, hb4⟩
    obtain ⟨-, a', c', rfl, -⟩ := id ho
    have HO := hideW ho
    have HK := hideW hk
    have HB4 := hideW (below_next HB3.out hb4)
    have HZ4 := hideW (HZ.out.below hb4)
    have HY4 := hideW (HY3.out.below hb4)
    have HS4 := hideW (show V + 1 ≤ w4.heap.size by have := hb4.size; have := HS3.out; omega)
    clear ho hk hb4 HB3 HZ HY3
    obtain ⟨⟨z0, z0'⟩, ⟨z1, z1'⟩, ⟨z2, z2'⟩, ⟨z3, z3'⟩, ⟨z4, z4'⟩, ⟨z5, z5'⟩, ⟨z6, z6'⟩, ⟨z7, z7'⟩⟩ := HZ4.out
    obtain ⟨⟨y0, y0'⟩, ⟨y1, y1'⟩, ⟨y2, y2'⟩, ⟨y3, y3'⟩, ⟨y4, y4'⟩, ⟨y5, y5'⟩, ⟨y6, y6'⟩, ⟨y7, y7'⟩⟩ := HY4.out
    go_wp2
    have hs2 := HS2.out
    have hs3 := HS3.out
    have hs4 := HS4.out
    have T1 := Turned.put w4 V 7 (.slice a' S.dn c')
    have HR := (HY4.out.turned T1 (fun e => absurd e (by omega))).put (.int .i64 S.id) (.string S.name) (.string S.set) (.int .i64 S.prev) (.int .i64 S.time) (.int .i64 S.rs) (.int .i64 S.rb) (.slice a' S.dn c')
    have T2 := Turned.putR8 (w4.setCell ⟨V, 7, none⟩ (.slice a' S.dn c')) (w.heap.size + 1) (.int .i64 S.id) (.string S.name) (.string S.set) (.int .i64 S.prev) (.int .i64 S.time) (.int .i64 S.rs) (.int .i64 S.rb) (.slice a' S.dn c')
    have TT := (T1.mono (T := fun k => k = w.heap.size + 1 ∨ k = V) (fun k e => Or.inr e)).trans (T2.mono (fun k e => Or.inl e))
    refine bodyPost_ret (v := .agg #[.int .i64 S.id, .string S.name, .string S.set, .int .i64 S.prev, .int .i64 S.time, .int .i64 S.rs, .int .i64 S.rb, .slice a' S.dn c']) (by simp [results, Tryz.results19, go_sem, HR.1.1, HR.2.1.1, HR.2.2.1.1, HR.2.2.2.1.1, HR.2.2.2.2.1.1, HR.2.2.2.2.2.1.1, HR.2.2.2.2.2.2.1.1, HR.2.2.2.2.2.2.2.1]) rfl ?_
    rw [HA.out]
    refine ⟨.slice a' S.dn c', kb, rfl, HO.out.turned TT (fun h0 e => by have h1 := HK.out h0; omega), fun h0 => ?_, HB4.out.trans (TT.below (B := w.heap.size) (by omega) (fun k e => by omega))⟩
    have h1 := HK.out h0
    simp only [World.size_setCell]
    omega

set_option maxRecDepth 20000 in
set_option maxHeartbeats 1000000 in
theorem implSetOf_any (v0 v1 v2 v3 : Value) (lo hi : Nat) (W : WorldD) (x : ByteArray) (w : World) (h : WorldAt w lo hi v0 v1 v2 v3 W) (hwf : PrevsWf W) (hN : DeadsN W) (hx : x.size ≤ maxLen) : Calls Tryz.prog 25 #[worldV v0 v1 v2 v3 W, .string x] w (NewSet (setAns W x) w) := by
  have Hp := hideW h
  have HN := hideW hN
  have Hwf := hideW hwf
  have Hkey := hideW (keyS_of hx)
  clear h hN hwf hx
  have hst : ∀ Wa Wb : World, Wa = w.alloc (.cells #[v0, v1, .int .i64 W.time, .int .i64 W.next, v2, v3] 38) → Wb = Wa.alloc (.cells #[.string ⟨#[]⟩, .int .i64 0, .int .i64 0, .int .i64 0, .int .i64 0, .slice none 0 0] 53) → Box6 Wb w.heap.size v0 v1 (.int .i64 W.time) (.int .i64 W.next) v2 v3 ∧ Box6 Wb (w.heap.size + 1) (.string ⟨#[]⟩) (.int .i64 0) (.int .i64 0) (.int .i64 0) (.int .i64 0) (.slice none 0 0) ∧ Below w.heap.size w Wb ∧ Wb.heap.size = w.heap.size + 1 + 1 := by
    rintro Wa Wb ea eb
    have ha := below_alloc w (.cells #[v0, v1, .int .i64 W.time, .int .i64 W.next, v2, v3] 38)
    have h1 := Box6.new w v0 v1 (.int .i64 W.time) (.int .i64 W.next) v2 v3 38
    have z1 : Wa.heap.size = w.heap.size + 1 := by rw [ea]; exact World.size_alloc _ _
    rw [← ea] at ha h1
    have hb := below_alloc Wa (.cells #[.string ⟨#[]⟩, .int .i64 0, .int .i64 0, .int .i64 0, .int .i64 0, .slice none 0 0] 53)
    have h2 := Box6.new Wa (.string ⟨#[]⟩) (.int .i64 0) (.int .i64 0) (.int .i64 0) (.int .i64 0) (.slice none 0 0) 53
    have z2 : Wb.heap.size = w.heap.size + 1 + 1 := by rw [eb, World.size_alloc, z1]
    rw [← eb, z1] at h2
    rw [← eb] at hb
    exact ⟨h1.below hb, h2, below_next ha hb, z2⟩
  obtain ⟨hX, hY, hbw, hsz⟩ := hst _ _ rfl rfl
  have HX := hideW hX
  have HY := hideW hY
  have HS := hideW hsz
  obtain ⟨⟨x0, -⟩, ⟨x1, -⟩, ⟨x2, -⟩, ⟨x3, -⟩, ⟨x4, -⟩, ⟨x5, -⟩⟩ := HX.out
  clear hst hX hY hsz
  go_enter Tryz.func25, Tryz.ntmps25
  go_wp2_with fail
  generalize (w.alloc (.cells #[v0, v1, .int .i64 W.time, .int .i64 W.next, v2, v3] 38)).alloc (.cells #[.string ⟨#[]⟩, .int .i64 0, .int .i64 0, .int .i64 0, .int .i64 0, .slice none 0 0] 53) = W0 at HX HY HS hbw x0 x1 x2 x3 x4 x5 ⊢
  refine (implWorldRight_any v0 v1 v2 v3 lo hi W W0 (Hp.out.below hbw) Hwf.out).mono ?_
  rintro e w1 ⟨⟨t, rfl, ht⟩, hb1⟩
  have Ht := hideW (ht.trans (world_iff W))
  have hB1 := below_next hbw hb1
  have HX1 := hideW (HX.out.below hb1)
  have HY1 := hideW (HY.out.below hb1)
  have HS1 := hideW (show w.heap.size + 1 + 1 ≤ w1.heap.size by have := HS.out; have := hb1.size; omega)
  clear x0 x1 x2 x3 x4 x5 hb1 hbw HX HY HS ht
  cases t
  · have HA := hideW (show setAns W x = zeroSetD from setAns_no (fun h => absurd (Ht.out.2 h) (by simp)))
    obtain ⟨⟨y0, y0'⟩, ⟨y1, y1'⟩, ⟨y2, y2'⟩, ⟨y3, y3'⟩, ⟨y4, y4'⟩, ⟨y5, y5'⟩⟩ := HY1.out
    go_wp2
    have HR := HY1.out.put (.string ⟨#[]⟩) (.int .i64 0) (.int .i64 0) (.int .i64 0) (.int .i64 0) (.slice none 0 0)
    refine bodyPost_ret (v := .agg #[.string ⟨#[]⟩, .int .i64 0, .int .i64 0, .int .i64 0, .int .i64 0, .slice none 0 0]) (by simp [results, Tryz.results25, go_sem, HR.1.1, HR.2.1.1, HR.2.2.1.1, HR.2.2.2.1.1, HR.2.2.2.2.1.1, HR.2.2.2.2.2.1]) rfl ?_
    rw [HA.out]
    exact newSet_zero ((hB1.trans ((Turned.put6 w1 (w.heap.size + 1) (.string ⟨#[]⟩) (.int .i64 0) (.int .i64 0) (.int .i64 0) (.int .i64 0) (.slice none 0 0)).below (B := w.heap.size) (by have := HS1.out; omega) (fun k e => by omega))))
  · have HW := hideW (Ht.out.1 rfl)
    have HA := hideW (show setAns W x = setAt W x from setAns_yes HW.out)
    have HD := hideW (show (setAt W x).dn ≤ 1048576 from setAt_dn HN.out x)
    obtain ⟨⟨x0, -⟩, ⟨x1, -⟩, ⟨x2, -⟩, ⟨x3, -⟩, ⟨x4, -⟩, ⟨x5, -⟩⟩ := HX1.out
    go_wp2_with fail
    refine (setsByName_any v0 v1 v2 v3 lo hi W w1 (Hp.out.below hB1) HW.out.names.2.2.1).mono ?_
    rintro e w2 ⟨vd, rfl, hm, hd, hb2⟩
    obtain ⟨a, c, hat, hp⟩ := setNames_look (HW.out.names.dist) hd x
    have Hat := hideW hat
    have HP := hideW (hp.below hb2)
    have HM := hideW hm
    have hB2 := below_next hB1 hb2
    have HX2 := hideW (HX1.out.below hb2)
    have HY2 := hideW (HY1.out.below hb2)
    have HS2 := hideW (show w.heap.size + 1 + 1 ≤ w2.heap.size by have := HS1.out; have := hb2.size; omega)
    clear hat hp hm hd x0 x1 x2 x3 x4 x5 hb2 hB1 HX1 HY1 HS1
    unfold setV at Hat
    generalize setAt W x = S at *
    have ha3 := below_alloc w2 (.cells #[.string S.name, .int .i64 S.origin, .int .i64 S.prev, .int .i64 S.rs, .int .i64 S.rb, .slice a S.dn c] 53)
    have hZ := Box6.new w2 (.string S.name) (.int .i64 S.origin) (.int .i64 S.prev) (.int .i64 S.rs) (.int .i64 S.rb) (.slice a S.dn c) 53
    have HZ := hideW hZ
    have HB3 := hideW (below_next hB2 ha3)
    have HY3 := hideW (HY2.out.below ha3)
    have HP3 := hideW (HP.out.below ha3)
    have HS3 := hideW (show (w2.alloc (.cells #[.string S.name, .int .i64 S.origin, .int .i64 S.prev, .int .i64 S.rs, .int .i64 S.rb, .slice a S.dn c] 53)).heap.size = w2.heap.size + 1 from World.size_alloc _ _)
    clear ha3 hZ
    obtain ⟨⟨z0, z0'⟩, ⟨z1, z1'⟩, ⟨z2, z2'⟩, ⟨z3, z3'⟩, ⟨z4, z4'⟩, ⟨z5, z5'⟩⟩ := HZ.out
    go_wp2_with (first
      | (at_lookup; refine wpList_lookup_raw _ rfl _ _ 108 rfl 9 53 lawS setsT (zeroSetV _) (w1.heap.size + 1) W.sn _ rfl HM.out _ _ rfl Hkey.out _ Hat.out ?_)
      | fail)
    clear z0 z0' z1 z1' z2 z2' z3 z3' z4 z4' z5 z5'
    generalize w2.alloc (.cells #[.string S.name, .int .i64 S.origin, .int .i64 S.prev, .int .i64 S.rs, .int .i64 S.rb, .slice a S.dn c] 53) = W3 at HZ HB3 HY3 HP3 HS3 ⊢
    clear HY2 HX2 HP HM Hat Hkey hB2
    generalize w2.heap.size = V at HZ HS2 HS3 ⊢
    have hV : V ≠ w.heap.size + 1 := by have := HS2.out; omega
    have hV' : w.heap.size + 1 ≠ V := by have := HS2.out; omega
    refine (clonePtrs_any _ S.dn lo hi S.ds S.db W3 HP3.out HD.out).mono ?_
    rintro e w4 ⟨⟨v', kb, rfl, ho, hk⟩, hb4⟩
    obtain ⟨-, a', c', rfl, -⟩ := id ho
    have HO := hideW ho
    have HK := hideW hk
    have HB4 := hideW (below_next HB3.out hb4)
    have HZ4 := hideW (HZ.out.below hb4)
    have HY4 := hideW (HY3.out.below hb4)
    have HS4 := hideW (show V + 1 ≤ w4.heap.size by have := hb4.size; have := HS3.out; omega)
    clear ho hk hb4 HB3 HZ HY3
    obtain ⟨⟨z0, z0'⟩, ⟨z1, z1'⟩, ⟨z2, z2'⟩, ⟨z3, z3'⟩, ⟨z4, z4'⟩, ⟨z5, z5'⟩⟩ := HZ4.out
    obtain ⟨⟨y0, y0'⟩, ⟨y1, y1'⟩, ⟨y2, y2'⟩, ⟨y3, y3'⟩, ⟨y4, y4'⟩, ⟨y5, y5'⟩⟩ := HY4.out
    go_wp2
    have hs2 := HS2.out
    have hs3 := HS3.out
    have hs4 := HS4.out
    have T1 := Turned.put w4 V 5 (.slice a' S.dn c')
    have HR := (HY4.out.turned T1 (fun e => absurd e (by omega))).put (.string S.name) (.int .i64 S.origin) (.int .i64 S.prev) (.int .i64 S.rs) (.int .i64 S.rb) (.slice a' S.dn c')
    have T2 := Turned.put6 (w4.setCell ⟨V, 5, none⟩ (.slice a' S.dn c')) (w.heap.size + 1) (.string S.name) (.int .i64 S.origin) (.int .i64 S.prev) (.int .i64 S.rs) (.int .i64 S.rb) (.slice a' S.dn c')
    have TT := (T1.mono (T := fun k => k = w.heap.size + 1 ∨ k = V) (fun k e => Or.inr e)).trans (T2.mono (fun k e => Or.inl e))
    refine bodyPost_ret (v := .agg #[.string S.name, .int .i64 S.origin, .int .i64 S.prev, .int .i64 S.rs, .int .i64 S.rb, .slice a' S.dn c']) (by simp [results, Tryz.results25, go_sem, HR.1.1, HR.2.1.1, HR.2.2.1.1, HR.2.2.2.1.1, HR.2.2.2.2.1.1, HR.2.2.2.2.2.1]) rfl ?_
    rw [HA.out]
    refine ⟨.slice a' S.dn c', kb, rfl, HO.out.turned TT (fun h0 e => by have h1 := HK.out h0; omega), fun h0 => ?_, HB4.out.trans (TT.below (B := w.heap.size) (by omega) (fun k e => by omega))⟩
    have h1 := HK.out h0
    simp only [World.size_setCell]
    omega

end Go.Proofs.YtjpbmpjddbekgaaGreat

namespace Go.Proofs.YtjpbmpjddbekgaaGreat
open Go.RowKit
set_option linter.unusedVariables false

set_option maxRecDepth 20000 in
set_option maxHeartbeats 400000 in
theorem heldPtrS_any (v : Value) (n lo hi : Nat) (f g : Nat → Int) (k0 : Int) (w : World) (h1 : PtrsAt w lo hi v n f g) (hk0 : 0 ≤ k0) (hk1 : k0 + 2 * n ≤ 1000000000000) (hf : ∀ i, i < n → f i = k0 + 2 * i ∧ g i = k0 + 2 * i + 1) :
    Calls Tryz.prog 86 #[v, .int .i64 k0] w fun e w' => e = .returned (.int .i64 (k0 + 2 * n)) ∧ Below w.heap.size w w' := by
  obtain ⟨m1, a, c, rfl, mc, g1⟩ := h1
  unfold maxLen at m1
  have Hf : Hid (∀ i, i < n → f i = k0 + 2 * i ∧ g i = k0 + 2 * i + 1) := hf
  clear hf
  go_enter Tryz.func86, Tryz.ntmps86
  go_wp2
  go_loopw [1, 5] (fun m i wr => ∃ k : Nat, k ≤ n ∧ i = .int .i64 k ∧ m = .int .i64 (k0 + 2 * k) ∧ Below w.heap.size w wr) (fun _ i _ => n - (intOf i).toNat)
  case atStart => exact ⟨0, Nat.zero_le _, rfl, by simp, Below.refl _ _⟩
  case round =>
    obtain ⟨k, hk, rfl, rfl, hb⟩ := hrel
    by_cases hlt : k < n
    · have hlt' : (k : Int) < (n : Int) := by omega
      obtain ⟨b, off, rfl, _, _, k1⟩ := g1 (by omega)
      have hc1 : wr.cell? ⟨b, off + k * 2, none⟩ = some (.int .i64 (k0 + 2 * k)) := by rw [← (Hf.out k hlt).1]; exact (hb.cell (lt_of_cell (k1 k hlt).1)).trans (k1 k hlt).1
      have hc2 : wr.cell? ⟨b, off + k * 2 + 1, none⟩ = some (.int .i64 (k0 + 2 * k + 1)) := by rw [← (Hf.out k hlt).2]; exact (hb.cell (lt_of_cell (k1 k hlt).2)).trans (k1 k hlt).2
      clear k1 g1
      go_wp2
      go_roundw
      case rel => exact ⟨k + 1, by omega, by go_num, by go_num, hb⟩
      case measure => simp [intOf]; omega
    · obtain rfl : k = n := by omega
      go_wp2
      go_ret
      exact ⟨rfl, hb⟩

end Go.Proofs.YtjpbmpjddbekgaaGreat
