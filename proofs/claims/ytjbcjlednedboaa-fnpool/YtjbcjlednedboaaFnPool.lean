/- For every two texts of bytes that come in the law FnPool returns true: what a drawn pool takes is where it is told, all else as it was; what is held is there till the pool is synced, and free then, unless another one points at it; impl answers as spec. No condition. -/
import Derived.Test.YtjbcjlednedboaaFnPoolA
import Derived.ProofKit
import Derived.OpenShut
import Derived.ChangeOld
import Derived.Deep.Slices
import Derived.Lib.SmallJoins
namespace Go.Proofs.Ytjbcjlednedboaa
open Go.ChangeShapes Go.WideShapes Go.ChangeAt Go.RowKit
set_option linter.unusedVariables false

set_option maxRecDepth 20000 in
set_option maxHeartbeats 8000000 in
theorem fnPool_walk (a0 a1 : Option Addr) (n0 c0 n1 c1 : Nat) (w : World) (hb0 : BytesAt w w.heap.size a0 n0) (hb1 : BytesAt w w.heap.size a1 n1) (hc0 : n0 ≤ c0) (hc1 : n1 ≤ c1) (hm0 : n0 ≤ maxLen) (hm1 : n1 ≤ maxLen) :
    Calls Try.prog 3 #[.slice a0 n0 c0, .slice a1 n1 c1] w fun e w' => e = .returned (.bool true) ∧ Below w.heap.size w w' := by
  have Hb0 := hide hb0
  have Hb1 := hide hb1
  unfold maxLen at hm0 hm1
  clear hb0 hb1
  go_enter Try.func3, Try.ntmps3
  by_cases hn0 : (1048576 : Int) < n0
  · go_wp2
    go_ret
    exact ⟨rfl, Below.refl _ _⟩
  by_cases hn1 : (1048576 : Int) < n1
  · go_wp2
    go_ret
    exact ⟨rfl, Below.refl _ _⟩
  go_wp2_with fail
  refine (drawPoolTake_any a0 n0 c0 w Hb0.out (by omega) hc0).mono ?_
  rintro e w1 ⟨q, s, v0, v1, kv, kb, rfl, ho, hks, hpl, hq, hsb, hbw⟩
  obtain ⟨qa, qc, qa', qc', rfl, rfl⟩ := ho.form
  obtain ⟨_, ka, kc, rfl, _⟩ := id hks
  have HN := hide (show poolN q + slotN s ≤ 1048576 by have := hq.small (by omega) (by omega); have := hsb.1; have := hsb.2; unfold slotN; omega)
  have HN2 := hide (show poolN q ≤ 1048576 by have := hq.small (by omega) (by omega); omega)
  have ha1 := below_alloc w1 (.cells #[.slice qa q.n qc, .slice qa' q.hn qc'] 26)
  have ha2 := below_alloc (w1.alloc (.cells #[.slice qa q.n qc, .slice qa' q.hn qc'] 26)) (.cells #[.int .i64 s.birth, .slice ka s.kn kc, .string s.data] 29)
  have HP := hide ((pv_new (t := 26) ho).below ha2)
  have hsv : SV ((w1.alloc (.cells #[.slice qa q.n qc, .slice qa' q.hn qc'] 26)).alloc (.cells #[.int .i64 s.birth, .slice ka s.kn kc, .string s.data] 29)) (w1.heap.size + 1) w1.heap.size (.slice ka s.kn kc) s := by
    refine ⟨?_, ⟨rfl, (hks.at (fun h0 => ⟨Nat.zero_le _, (hpl h0).2⟩)).below (below_next ha1 ha2), rfl, by have := hsb.2; unfold maxLen; omega⟩⟩
    have := Box3.new (w1.alloc (.cells #[.slice qa q.n qc, .slice qa' q.hn qc'] 26)) (.int .i64 s.birth) (.slice ka s.kn kc) (.string s.data) 29
    rw [World.size_alloc] at this
    exact this
  have HS := hide hsv
  have hB2 := below_next (below_next hbw ha1) ha2
  clear ho hks hpl hq hsb hbw ha1 ha2 hsv
  go_wp2_with fail
  generalize hW : (w1.alloc (.cells #[.slice qa q.n qc, .slice qa' q.hn qc'] 26)).alloc (.cells #[.int .i64 s.birth, .slice ka s.kn kc, .string s.data] 29) = w2 at HP HS hB2 ⊢
  have hz2 : w1.heap.size + 2 = w2.heap.size := by rw [← hW, World.size_alloc, World.size_alloc]
  clear hW
  generalize w1.heap.size = P at HP HS hz2 ⊢
  -- impl.PoolTake
  refine (implPoolTake_any _ _ _ 0 P 0 P q s w2 HP.out.at' HS.out.at' HN.out).mono ?_
  rintro e w3 ⟨v0, v1, rfl, ho, hb3⟩
  have Hc : Hid ((takeP q s).code = 0 → Right (takeP q s).pool ∧ atP (takeP q s).pool (takeP q s).ps (takeP q s).pb = s ∧ roomP (takeP q s).pool = roomP q - 1) := taken
  have HSP := hide (specPoolTake_any (.slice qa q.n qc) (.slice qa' q.hn qc') (.slice ka s.kn kc) 0 P 0 P q s)
  generalize takeP q s = o at ho Hc HSP ⊢
  obtain ⟨xa, xc, xa', xc', rfl, rfl⟩ := ho.form
  have hal := below_alloc w3 (.cells #[.slice xa o.pool.n xc, .slice xa' o.pool.hn xc', .int .i64 o.ps, .int .i64 o.pb, .int .i64 o.code] 35)
  have HX := hide (ov_new (t := 35) ho)
  have hb4 := below_next hb3 hal
  have HP4 := hide (HP.out.below hb4)
  have HS4 := hide (HS.out.below hb4)
  have hB4 := below_next hB2 hb4
  have hz4 : w3.heap.size + 1 = (w3.alloc (.cells #[.slice xa o.pool.n xc, .slice xa' o.pool.hn xc', .int .i64 o.ps, .int .i64 o.pb, .int .i64 o.code] 35)).heap.size := by rw [World.size_alloc]
  have hX0 : w2.heap.size ≤ w3.heap.size := hb3.size
  clear ho hb3 hal hb4 HP HS hB2
  obtain ⟨⟨x0, x1⟩, ⟨x2, x3⟩⟩ := HP4.out.box
  obtain ⟨⟨y0, y1⟩, ⟨y2, y3⟩, ⟨y4, y5⟩⟩ := HS4.out.box
  go_wp2_with fail
  generalize w3.alloc (.cells #[.slice xa o.pool.n xc, .slice xa' o.pool.hn xc', .int .i64 o.ps, .int .i64 o.pb, .int .i64 o.code] 35) = w4 at HX HP4 HS4 hB4 hz4 x0 x1 x2 x3 y0 y1 y2 y3 y4 y5 ⊢
  generalize w3.heap.size = X at HX hz4 hX0 ⊢
  clear x0 x1 x2 x3 y0 y1 y2 y3 y4 y5
  -- spec.PoolTake
  refine (HSP.out w4 HP4.out.at' HS4.out.at' HN.out).mono ?_
  rintro e w5 ⟨v0, v1, rfl, ho, hb5⟩
  obtain ⟨za, zc, za', zc', rfl, rfl⟩ := ho.form
  have hal := below_alloc w5 (.cells #[.slice za o.pool.n zc, .slice za' o.pool.hn zc', .int .i64 o.ps, .int .i64 o.pb, .int .i64 o.code] 35)
  have HZ := hide (ov_new (t := 35) ho)
  have hb6 := below_next hb5 hal
  have HP6 := hide (HP4.out.below hb6)
  have HS6 := hide (HS4.out.below hb6)
  have HX6 := hide (HX.out.below hb6)
  have hB6 := below_next hB4 hb6
  have hZ0 : w4.heap.size ≤ w5.heap.size := hb5.size
  obtain ⟨tR, htR⟩ := right_bool q
  have HtR := hide htR
  clear ho hb5 hal hb6 HP4 HS4 HX hB4 htR HSP
  go_upto_region 6 with fail
  generalize w5.alloc (.cells #[.slice za o.pool.n zc, .slice za' o.pool.hn zc', .int .i64 o.ps, .int .i64 o.pb, .int .i64 o.code] 35) = w6 at HZ HP6 HS6 HX6 hB6 ⊢
  generalize w5.heap.size = Z at HZ hZ0 ⊢
  have e1 : (o.code != o.code) = false := by simp
  have e2 : (o.ps != o.ps) = false := by simp
  have e3 : (o.pb != o.pb) = false := by simp
  have e4 : (tR != tR) = false := by simp
  obtain ⟨⟨x0, x1⟩, ⟨x2, x3⟩⟩ := HP6.out.box
  obtain ⟨⟨y0, y1⟩, ⟨y2, y3⟩, ⟨y4, y5⟩, ⟨y6, y7⟩, ⟨y8, y9⟩⟩ := HX6.out.box
  obtain ⟨⟨z0, z1⟩, ⟨z2, z3⟩, ⟨z4, z5⟩, ⟨z6, z7⟩, ⟨z8, z9⟩⟩ := HZ.out.box
  go_region_held3 (fun w' => w'.cell? ⟨P, 0, none⟩ = some (.slice qa q.n qc) ∧ w'.cell? ⟨P, 1, none⟩ = some (.slice qa' q.hn qc') ∧ w'.cell? ⟨X, 0, none⟩ = some (.slice xa o.pool.n xc) ∧ w'.cell? ⟨X, 1, none⟩ = some (.slice xa' o.pool.hn xc') ∧ w'.cell? ⟨X, 2, none⟩ = some (.int .i64 o.ps) ∧ w'.cell? ⟨X, 3, none⟩ = some (.int .i64 o.pb) ∧ w'.cell? ⟨X, 4, none⟩ = some (.int .i64 o.code) ∧ w'.cell? ⟨Z, 0, none⟩ = some (.slice za o.pool.n zc) ∧ w'.cell? ⟨Z, 1, none⟩ = some (.slice za' o.pool.hn zc') ∧ w'.cell? ⟨Z, 2, none⟩ = some (.int .i64 o.ps) ∧ w'.cell? ⟨Z, 3, none⟩ = some (.int .i64 o.pb) ∧ w'.cell? ⟨Z, 4, none⟩ = some (.int .i64 o.code)) (go_keep)
    (first
      | (go_at_call 8
         refine (lwPool_same _ _ _ _ 0 X 0 Z o.pool _ ?_ ?_).mono ?_
         (first | exact HX6.out.at' | exact HX6.out.at'.below (Below.refl _ _).drew)
         (first | exact HZ.out.at' | exact HZ.out.at'.below (Below.refl _ _).drew)
         rintro e w7 ⟨rfl, hb7⟩
         have hC7 : Below w6.heap.size w6 w7 := (by first | exact hb7 | exact below_undrew hb7)
         obtain ⟨⟨k0, _⟩, ⟨k1, _⟩⟩ := (HP6.out.below hC7).box
         obtain ⟨⟨l0, _⟩, ⟨l1, _⟩, ⟨l2, _⟩, ⟨l3, _⟩, ⟨l4, _⟩⟩ := (HX6.out.below hC7).box
         obtain ⟨⟨m0, _⟩, ⟨m1, _⟩, ⟨m2, _⟩, ⟨m3, _⟩, ⟨m4, _⟩⟩ := (HZ.out.below hC7).box)
      | (go_at_call 9
         refine (implPoolRight_any _ _ 0 P q _ ?_).mono ?_
         (first | exact (HP6.out.below hC7).at')
         rintro e w8 ⟨⟨t8, rfl, ht8⟩, hb8⟩
         obtain rfl := BoolIs.same HtR.out ht8
         clear ht8
         have hC8 := below_next hC7 hb8
         obtain ⟨⟨p0, _⟩, ⟨p1, _⟩⟩ := (HP6.out.below hC8).box
         obtain ⟨⟨q0, _⟩, ⟨q1, _⟩, ⟨q2, _⟩, ⟨q3, _⟩, ⟨q4, _⟩⟩ := (HX6.out.below hC8).box
         obtain ⟨⟨r0, _⟩, ⟨r1, _⟩, ⟨r2, _⟩, ⟨r3, _⟩, ⟨r4, _⟩⟩ := (HZ.out.below hC8).box)
      | (go_at_call 10
         refine (specPoolRight_any _ _ 0 P q _ ?_).mono ?_
         (first | exact (HP6.out.below hC8).at')
         rintro e w9 ⟨⟨t9, rfl, ht9⟩, hb9⟩
         obtain rfl := BoolIs.same HtR.out ht9
         clear ht9
         have hC9 := below_next hC8 hb9
         obtain ⟨⟨s0, _⟩, ⟨s1, _⟩⟩ := (HP6.out.below hC9).box
         obtain ⟨⟨t0, _⟩, ⟨t1, _⟩, ⟨t2, _⟩, ⟨t3, _⟩, ⟨t4, _⟩⟩ := (HX6.out.below hC9).box
         obtain ⟨⟨n0', _⟩, ⟨n1', _⟩, ⟨n2', _⟩, ⟨n3', _⟩, ⟨n4', _⟩⟩ := (HZ.out.below hC9).box))
  have HP9 := hide (HP6.out.below hC9)
  have HS9 := hide (HS6.out.below hC9)
  have HX9 := hide (HX6.out.below hC9)
  have hB9 := below_next hB6 hC9
  clear x0 x1 x2 x3 y0 y1 y2 y3 y4 y5 y6 y7 y8 y9 z0 z1 z2 z3 z4 z5 z6 z7 z8 z9 k0 k1 l0 l1 l2 l3 l4 m0 m1 m2 m3 m4 p0 p1 q0 q1 q2 q3 q4 r0 r1 r2 r3 r4 s0 s1 t0 t1 t2 t3 t4 n0' n1' n2' n3' n4' HP6 HS6 HX6 HZ hB6 hC7 hC8 hC9 hb7 hb8 hb9 HN HN2 HtR e1 e2 e3 e4
  go_upto_region 8 with fail
  go_cut [87] (fun v wc => v = .bool false ∧ Below w9.heap.size w9 wc)
  case first =>
    obtain ⟨⟨x0, x1⟩, ⟨x2, x3⟩⟩ := HP9.out.box
    obtain ⟨⟨y0, y1⟩, ⟨y2, y3⟩, ⟨y4, y5⟩, ⟨y6, y7⟩, ⟨y8, y9⟩⟩ := HX9.out.box
    obtain ⟨⟨z0, z1⟩, ⟨z2, z3⟩, ⟨z4, z5⟩⟩ := HS9.out.box
    by_cases e0 : o.code = 0
    · have f0 : (o.code == 0) = true := by simp [e0]
      obtain ⟨hRo, hat, hroom⟩ := Hc.out e0
      have HRo := hide hRo
      have HSA : Hid (∀ kv kb w8, PtrsOwn w8 kb kv (atP o.pool o.ps o.pb).kn (atP o.pool o.ps o.pb).ks (atP o.pool o.ps o.pb).kb → (0 < (atP o.pool o.ps o.pb).kn → kb < w8.heap.size) → SlotAt w8 0 w8.heap.size (.int .i64 (atP o.pool o.ps o.pb).birth) kv (.string (atP o.pool o.ps o.pb).data) s) := fun kv kb w8 h1 h2 => by
        rw [hat] at h1 h2 ⊢
        exact ⟨rfl, h1.at (fun h0 => ⟨Nat.zero_le _, h2 h0⟩), rfl, HS9.out.at'.2.2.2⟩
      have hrb := room_bounds hRo
      have hrw : IntKind.i64.wrap (roomP q - 1) = roomP o.pool := by
        rw [hroom] at hrb ⊢
        rw [IntKind.wrap_i64]
        omega
      have hrn : (roomP o.pool != roomP o.pool) = false := by simp
      clear hat hroom hRo hrb
      go_region_held3 (fun w' => w'.cell? ⟨P, 0, none⟩ = some (.slice qa q.n qc) ∧ w'.cell? ⟨P, 1, none⟩ = some (.slice qa' q.hn qc') ∧ w'.cell? ⟨P + 1, 0, none⟩ = some (.int .i64 s.birth) ∧ w'.cell? ⟨P + 1, 1, none⟩ = some (.slice ka s.kn kc) ∧ w'.cell? ⟨P + 1, 2, none⟩ = some (.string s.data) ∧ w'.cell? ⟨X, 0, none⟩ = some (.slice xa o.pool.n xc) ∧ w'.cell? ⟨X, 1, none⟩ = some (.slice xa' o.pool.hn xc') ∧ w'.cell? ⟨X, 2, none⟩ = some (.int .i64 o.ps) ∧ w'.cell? ⟨X, 3, none⟩ = some (.int .i64 o.pb) ∧ w'.cell? ⟨X, 4, none⟩ = some (.int .i64 o.code)) (go_keep)
        (first
          | (go_at_call 12
             refine (implPoolAt_any _ _ 0 X o.pool o.ps o.pb _ ?_).mono ?_
             (first | exact HX9.out.at' | exact HX9.out.at'.below (Below.refl _ _).drew)
             rintro e wA ⟨kvA, kbA, rfl, hkA, hplA, hbA⟩
             obtain ⟨_, kaA, kcA, rfl, _⟩ := id hkA
             have hCA : Below w9.heap.size w9 wA := (by first | exact hbA | exact below_undrew hbA)
             have hSA := HSA.out _ _ _ hkA (fun h0 => (hplA h0).2)
             obtain ⟨⟨k0, _⟩, ⟨k1, _⟩⟩ := (HP9.out.below hCA).box
             obtain ⟨⟨k2, _⟩, ⟨k3, _⟩, ⟨k4, _⟩⟩ := (HS9.out.below hCA).box
             obtain ⟨⟨l0, _⟩, ⟨l1, _⟩, ⟨l2, _⟩, ⟨l3, _⟩, ⟨l4, _⟩⟩ := (HX9.out.below hCA).box)
          | (go_at_call 11
             refine (lwSlot_same _ _ _ _ _ _ 0 _ 0 P s _ hSA ?_).mono ?_
             exact (HS9.out.below hCA).at'
             rintro e wB ⟨rfl, hbB⟩
             have hCB := below_next hCA hbB
             obtain ⟨⟨m0, _⟩, ⟨m1, _⟩⟩ := (HP9.out.below hCB).box
             obtain ⟨⟨m2, _⟩, ⟨m3, _⟩, ⟨m4, _⟩⟩ := (HS9.out.below hCB).box
             obtain ⟨⟨p0, _⟩, ⟨p1, _⟩, ⟨p2, _⟩, ⟨p3, _⟩, ⟨p4, _⟩⟩ := (HX9.out.below hCB).box)
          | (go_at_call 13
             refine (implPoolRoom_any _ _ 0 X o.pool _ ?_).mono ?_
             exact (HX9.out.below hCB).at'
             rintro e wC ⟨rfl, hbC⟩
             have hCC := below_next hCB hbC
             obtain ⟨⟨q0, _⟩, ⟨q1, _⟩⟩ := (HP9.out.below hCC).box
             obtain ⟨⟨q2, _⟩, ⟨q3, _⟩, ⟨q4, _⟩⟩ := (HS9.out.below hCC).box
             obtain ⟨⟨r0, _⟩, ⟨r1, _⟩, ⟨r2, _⟩, ⟨r3, _⟩, ⟨r4, _⟩⟩ := (HX9.out.below hCC).box)
          | (go_at_call 13
             refine (implPoolRoom_any _ _ 0 P q _ ?_).mono ?_
             exact (HP9.out.below hCC).at'
             rintro e wD ⟨rfl, hbD⟩
             have hCD := below_next hCC hbD
             obtain ⟨⟨s0, _⟩, ⟨s1, _⟩⟩ := (HP9.out.below hCD).box
             obtain ⟨⟨s2, _⟩, ⟨s3, _⟩, ⟨s4, _⟩⟩ := (HS9.out.below hCD).box
             obtain ⟨⟨t0, _⟩, ⟨t1, _⟩, ⟨t2, _⟩, ⟨t3, _⟩, ⟨t4, _⟩⟩ := (HX9.out.below hCD).box)
          | (go_at_call 10
             refine (specPoolRight_any _ _ 0 X o.pool _ ?_).mono ?_
             exact (HX9.out.below hCD).at'
             rintro e wE ⟨⟨tE, rfl, htE⟩, hbE⟩
             obtain rfl : tE = true := htE.2 HRo.out
             clear htE
             have hCE := below_next hCD hbE
             obtain ⟨⟨aa0, _⟩, ⟨aa1, _⟩⟩ := (HP9.out.below hCE).box
             obtain ⟨⟨aa2, _⟩, ⟨aa3, _⟩, ⟨aa4, _⟩⟩ := (HS9.out.below hCE).box
             obtain ⟨⟨ab0, _⟩, ⟨ab1, _⟩, ⟨ab2, _⟩, ⟨ab3, _⟩, ⟨ab4, _⟩⟩ := (HX9.out.below hCE).box))
      go_wp2_with fail
      go_meet
      case rel => exact ⟨rfl, hCE⟩
    · have f0 : (o.code == 0) = false := by simp [e0]
      go_quiet (fail)
      go_wp2_with fail
      go_meet
      case rel => exact ⟨rfl, below_drewN (Below.refl _ _) _⟩
  case rest =>
    obtain ⟨rfl, hCc⟩ := hcut
    obtain ⟨wn, rfl⟩ : ∃ x, x = wc := ⟨_, rfl⟩
    have hBn := below_next hB9 hCc
    clear hCc hB9 HP9 HS9 HX9 Hc
    go_wp2_with fail
    refine (drawPoolHold_any a1 n1 c1 wn (bytes_below Hb1.out hBn) (by omega) hc1).mono ?_
    rintro e w10 ⟨p, v0, v1, xs, xb, rfl, ho, hp, hb10⟩
    obtain ⟨pa, pc, pa', pc', rfl, rfl⟩ := ho.form
    have HN := hide (show poolN p ≤ 1000000 by have := hp.small (by omega) (by omega); omega)
    have hpn : p.n ≤ 12 := hp.2.1
    have hphn : p.hn ≤ 21 := hp.2.2.2
    have ha1 := below_alloc w10 (.cells #[.slice pa p.n pc, .slice pa' p.hn pc'] 26)
    have ha2 := below_alloc (w10.alloc (.cells #[.slice pa p.n pc, .slice pa' p.hn pc'] 26)) (.cells #[.int .i64 xs, .int .i64 xb] 33)
    have HQ := hide ((pv_new (t := 26) ho).below ha2)
    have hyv := Box2.new (w10.alloc (.cells #[.slice pa p.n pc, .slice pa' p.hn pc'] 26)) (.int .i64 xs) (.int .i64 xb) 33
    rw [World.size_alloc] at hyv
    have HY := hide hyv
    have hB11 := below_next (below_next (below_next hBn hb10) ha1) ha2
    clear ho hp hb10 ha1 ha2 hyv hBn
    go_wp2_with fail
    generalize (w10.alloc (.cells #[.slice pa p.n pc, .slice pa' p.hn pc'] 26)).alloc (.cells #[.int .i64 xs, .int .i64 xb] 33) = w11 at HQ HY hB11 ⊢
    generalize w10.heap.size = Q at HQ HY ⊢
    -- impl.PoolHold
    refine (implPoolHold_any _ _ 0 Q p xs xb w11 HQ.out.at' (by have := HN.out; omega)).mono ?_
    rintro e w12 ⟨v0, v1, rfl, ho, hb12⟩
    have Hc : Hid ((holdP p xs xb).code = 0 → Right p ∧ Points p xs xb ∧ ¬ Has p.hn p.h xs ∧ holdP p xs xb = ⟨holdD p xs, 0, 0, 0⟩) := held
    have HSP := hide (specPoolHold_any (.slice pa p.n pc) (.slice pa' p.hn pc') 0 Q p xs xb)
    generalize holdP p xs xb = o2 at ho Hc HSP ⊢
    obtain ⟨xa2, xc2, xa2', xc2', rfl, rfl⟩ := ho.form
    have hal := below_alloc w12 (.cells #[.slice xa2 o2.pool.n xc2, .slice xa2' o2.pool.hn xc2', .int .i64 o2.ps, .int .i64 o2.pb, .int .i64 o2.code] 35)
    have HZ := hide (ov_new (t := 35) ho)
    have hb13 := below_next hb12 hal
    have HQ3 := hide (HQ.out.below hb13)
    have HY3 := hide (HY.out.below hb13)
    have hB13 := below_next hB11 hb13
    clear ho hb12 hal hb13 HQ HY hB11
    go_upto_region 12 with fail
    generalize w12.alloc (.cells #[.slice xa2 o2.pool.n xc2, .slice xa2' o2.pool.hn xc2', .int .i64 o2.ps, .int .i64 o2.pb, .int .i64 o2.code] 35) = w13 at HZ HQ3 HY3 hB13 ⊢
    generalize w12.heap.size = Z2 at HZ ⊢
    have g1 : (o2.code != o2.code) = false := by simp
    have hfd := fieldCode
    obtain ⟨⟨x0, x1⟩, ⟨x2, x3⟩⟩ := HQ3.out.box
    obtain ⟨⟨z0, z1⟩, ⟨z2, z3⟩⟩ := HY3.out
    obtain ⟨⟨y0, y1⟩, ⟨y2, y3⟩, ⟨y4, y5⟩, ⟨y6, y7⟩, ⟨y8, y9⟩⟩ := HZ.out.box
    go_region_held3 (fun w' => w'.cell? ⟨Q, 0, none⟩ = some (.slice pa p.n pc) ∧ w'.cell? ⟨Q, 1, none⟩ = some (.slice pa' p.hn pc') ∧ w'.cell? ⟨Q + 1, 0, none⟩ = some (.int .i64 xs) ∧ w'.cell? ⟨Q + 1, 1, none⟩ = some (.int .i64 xb) ∧ w'.cell? ⟨Z2, 0, none⟩ = some (.slice xa2 o2.pool.n xc2) ∧ w'.cell? ⟨Z2, 1, none⟩ = some (.slice xa2' o2.pool.hn xc2') ∧ w'.cell? ⟨Z2, 4, none⟩ = some (.int .i64 o2.code)) (go_keep)
      (first
        | (go_at_call 16
           refine (HSP.out _ ?_ (by have := HN.out; omega)).mono ?_
           (first | exact HQ3.out.at' | exact HQ3.out.at'.below (Below.refl _ _).drew)
           rintro e w14 ⟨u0, u1, rfl, ho14, hb14⟩
           obtain ⟨oa, oc, ob, od, rfl, rfl⟩ := ho14.form
           have hC14 : Below w13.heap.size w13 w14 := (by first | exact hb14 | exact below_undrew hb14)
           obtain ⟨⟨k0, _⟩, ⟨k1, _⟩⟩ := (HQ3.out.below hC14).box
           obtain ⟨⟨k2, _⟩, ⟨k3, _⟩⟩ := HY3.out.below hC14
           obtain ⟨⟨l0, _⟩, ⟨l1, _⟩, ⟨l2, _⟩, ⟨l3, _⟩, ⟨l4, _⟩⟩ := (HZ.out.below hC14).box))
    have HQ4 := hide (HQ3.out.below hC14)
    have HY4 := hide (HY3.out.below hC14)
    have HZ4 := hide (HZ.out.below hC14)
    have hB14 := below_next hB13 hC14
    clear x0 x1 x2 x3 z0 z1 z2 z3 y0 y1 y2 y3 y4 y5 y6 y7 y8 y9 k0 k1 k2 k3 l0 l1 l2 l3 l4 HQ3 HY3 HZ hB13 hC14 hb14 ho14 HSP hfd g1
    obtain ⟨⟨x0, x1⟩, ⟨x2, x3⟩⟩ := HQ4.out.box
    go_wp2_with fail
    -- impl.PoolSync
    refine (implPoolSync_any _ _ 0 Q p w14 HQ4.out.at' (by have := HN.out; omega)).mono ?_
    rintro e w15 ⟨v0, v1, rfl, ho, hb15⟩
    have HSS := hide (specPoolSync_any (.slice pa p.n pc) (.slice pa' p.hn pc') 0 Q p)
    generalize syncP p = y at ho HSS ⊢
    obtain ⟨ua, uc, ua', uc', rfl, rfl⟩ := ho.form
    have hal := below_alloc w15 (.cells #[.slice ua y.n uc, .slice ua' y.hn uc'] 26)
    have HU := hide (pv_new (t := 26) ho)
    have hb16 := below_next hb15 hal
    have HQ5 := hide (HQ4.out.below hb16)
    have HY5 := hide (HY4.out.below hb16)
    have HZ5 := hide (HZ4.out.below hb16)
    have hB16 := below_next hB14 hb16
    clear ho hb15 hal hb16 HQ4 HY4 HZ4 hB14 x0 x1 x2 x3
    go_upto_region 15 with fail
    generalize w15.alloc (.cells #[.slice ua y.n uc, .slice ua' y.hn uc'] 26) = w16 at HU HQ5 HY5 HZ5 hB16 ⊢
    generalize w15.heap.size = U at HU ⊢
    obtain ⟨⟨x0, x1⟩, ⟨x2, x3⟩⟩ := HQ5.out.box
    obtain ⟨⟨z0, z1⟩, ⟨z2, z3⟩⟩ := HU.out.box
    obtain ⟨⟨y0, y1⟩, ⟨y2, y3⟩, ⟨y4, y5⟩, ⟨y6, y7⟩, ⟨y8, y9⟩⟩ := HZ5.out.box
    go_region_held3 (fun w' => w'.cell? ⟨Q, 0, none⟩ = some (.slice pa p.n pc) ∧ w'.cell? ⟨Q, 1, none⟩ = some (.slice pa' p.hn pc') ∧ w'.cell? ⟨U, 0, none⟩ = some (.slice ua y.n uc) ∧ w'.cell? ⟨U, 1, none⟩ = some (.slice ua' y.hn uc') ∧ w'.cell? ⟨Z2, 4, none⟩ = some (.int .i64 o2.code)) (go_keep)
      (first
        | (go_at_call 18
           refine (HSS.out _ ?_ (by have := HN.out; omega)).mono ?_
           (first | exact HQ5.out.at' | exact HQ5.out.at'.below (Below.refl _ _).drew)
           rintro e w17 ⟨u0, u1, rfl, ho17, hb17⟩
           obtain ⟨oa, oc, ob, od, rfl, rfl⟩ := ho17.form
           have hC17 : Below w16.heap.size w16 w17 := (by first | exact hb17 | exact below_undrew hb17)
           obtain ⟨⟨k0, _⟩, ⟨k1, _⟩⟩ := (HQ5.out.below hC17).box
           obtain ⟨⟨k2, _⟩, ⟨k3, _⟩⟩ := (HU.out.below hC17).box
           obtain ⟨⟨l0, _⟩, ⟨l1, _⟩, ⟨l2, _⟩, ⟨l3, _⟩, ⟨l4, _⟩⟩ := (HZ5.out.below hC17).box)
        | (go_at_call 8
           refine (lwPool_same _ _ _ _ 0 U 0 _ y _ (HU.out.below hC17).at' ho17.at00).mono ?_
           rintro e w18 ⟨rfl, hb18⟩
           have hC18 := below_next hC17 hb18
           obtain ⟨⟨m0, _⟩, ⟨m1, _⟩⟩ := (HQ5.out.below hC18).box
           obtain ⟨⟨m2, _⟩, ⟨m3, _⟩⟩ := (HU.out.below hC18).box
           obtain ⟨⟨q0, _⟩, ⟨q1, _⟩, ⟨q2, _⟩, ⟨q3, _⟩, ⟨q4, _⟩⟩ := (HZ5.out.below hC18).box))
    have HQ6 := hide (HQ5.out.below hC18)
    have HY6 := hide (HY5.out.below hC18)
    have HZ6 := hide (HZ5.out.below hC18)
    have HU6 := hide (HU.out.below hC18)
    have hB18 := below_next hB16 hC18
    clear x0 x1 x2 x3 z0 z1 z2 z3 y0 y1 y2 y3 y4 y5 y6 y7 y8 y9 k0 k1 k2 k3 l0 l1 l2 l3 l4 m0 m1 m2 m3 q0 q1 q2 q3 q4 HQ5 HY5 HZ5 HU hB16 hC17 hC18 hb17 hb18 ho17
    obtain ⟨⟨x0, x1⟩, ⟨x2, x3⟩⟩ := HQ6.out.box
    obtain ⟨⟨z0, z1⟩, ⟨z2, z3⟩⟩ := HU6.out.box
    obtain ⟨⟨y0, y1⟩, ⟨y2, y3⟩, ⟨y4, y5⟩, ⟨y6, y7⟩, ⟨y8, y9⟩⟩ := HZ6.out.box
    by_cases e0 : o2.code = 0
    · have f0 : (o2.code != 0) = false := by simp [e0]
      obtain ⟨hR, hPt, hH, hO⟩ := Hc.out e0
      have hOp : o2.pool = holdD p xs := by rw [hO]
      have Hat := hide (show atP o2.pool xs xb = p.s xs.toNat by rw [hOp]; exact at_hold hR hPt hH)
      have Hsy := hide (show ((syncP o2.pool).hn = 0 ∧ (atP (syncP o2.pool) xs xb).birth = 0) ∨ syncP o2.pool = o2.pool by rw [hOp]; exact sync_hold hPt)
      have HN3 := hide (show poolN o2.pool ≤ 1048576 by rw [hOp]; have := HN.out; unfold poolN at this ⊢; show p.n + slotsN p.s p.n + (p.hn + 1) ≤ _; omega)
      have hon : ((o2.pool.hn : Int) == 0) = false := by rw [hOp]; show (((p.hn + 1 : Nat) : Int) == 0) = false; simp; omega
      obtain ⟨k, rfl⟩ := Int.eq_ofNat_of_zero_le hPt.2.1
      have hk : k < p.n := by have := hPt.2.2.1; omega
      have hk' : (k : Int) < (p.n : Int) := by omega
      rw [Int.toNat_natCast] at Hat
      clear hR hPt hH hO hOp Hc
      go_wp2_with fail
      refine (implPoolSync_any _ _ 0 Z2 o2.pool w18 HZ6.out.at' HN3.out).mono ?_
      rintro e w19 ⟨v0, v1, rfl, ho, hb19⟩
      generalize syncP o2.pool = yy at ho Hsy ⊢
      obtain ⟨va, vc, va', vc', rfl, rfl⟩ := ho.form
      have hal := below_alloc w19 (.cells #[.slice va yy.n vc, .slice va' yy.hn vc'] 26)
      have HV := hide (pv_new (t := 26) ho)
      have hb20 := below_next hb19 hal
      have HQ7 := hide (HQ6.out.below hb20)
      have HY7 := hide (HY6.out.below hb20)
      have HZ7 := hide (HZ6.out.below hb20)
      have hB20 := below_next hB18 hb20
      clear ho hb19 hal hb20 HQ6 HY6 HZ6 HU6 hB18 x0 x1 x2 x3 z0 z1 z2 z3 y0 y1 y2 y3 y4 y5 y6 y7 y8 y9
      go_upto_region 18 with fail
      generalize w19.alloc (.cells #[.slice va yy.n vc, .slice va' yy.hn vc'] 26) = w20 at HV HQ7 HY7 HZ7 hB20 ⊢
      generalize w19.heap.size = V at HV ⊢
      have hfb := fieldBirth
      obtain ⟨⟨x0, x1⟩, ⟨x2, x3⟩⟩ := HQ7.out.box
      obtain ⟨⟨z0, z1⟩, ⟨z2, z3⟩⟩ := HY7.out
      obtain ⟨⟨y0, y1⟩, ⟨y2, y3⟩, ⟨y4, y5⟩, ⟨y6, y7⟩, ⟨y8, y9⟩⟩ := HZ7.out.box
      obtain ⟨⟨u0, u1⟩, ⟨u2, u3⟩⟩ := HV.out.box
      obtain ⟨bb, off, ka2, kc2, rfl, hs⟩ := HQ7.out.at'.1.cells hk
      have HSC := hide hs
      obtain ⟨g0, g1, g2, _⟩ := hs
      have HSA : Hid (∀ kv kb w8, PtrsOwn w8 kb kv (atP o2.pool k xb).kn (atP o2.pool k xb).ks (atP o2.pool k xb).kb → (0 < (atP o2.pool k xb).kn → kb < w8.heap.size) → SlotAt w8 0 w8.heap.size (.int .i64 (atP o2.pool k xb).birth) kv (.string (atP o2.pool k xb).data) (p.s k)) := fun kv kb w8 h1 h2 => by
        rw [Hat.out] at h1 h2 ⊢
        exact ⟨rfl, h1.at (fun h0 => ⟨Nat.zero_le _, h2 h0⟩), rfl, HSC.out.slot.2.2.2⟩
      rcases Hsy.out with ⟨hA1, hA2⟩ | rfl
      · have hA1' : ((yy.hn : Int) == 0) = true := by simp [hA1]
        have hA2' : ((atP yy k xb).birth == 0) = true := by simp [hA2]
        clear hA1 hA2
        refine wp_region_held_drew (S := fun w' => w'.cell? ⟨Q, 0, none⟩ = some (.slice (some ⟨bb, off, none⟩) p.n pc) ∧ w'.cell? ⟨Q, 1, none⟩ = some (.slice pa' p.hn pc') ∧ w'.cell? ⟨Q + 1, 0, none⟩ = some (.int .i64 (k : Int)) ∧ w'.cell? ⟨Q + 1, 1, none⟩ = some (.int .i64 xb) ∧ w'.cell? ⟨Z2, 0, none⟩ = some (.slice xa2 o2.pool.n xc2) ∧ w'.cell? ⟨Z2, 1, none⟩ = some (.slice xa2' o2.pool.hn xc2') ∧ w'.cell? ⟨V, 0, none⟩ = some (.slice va yy.n vc) ∧ w'.cell? ⟨V, 1, none⟩ = some (.slice va' yy.hn vc') ∧ w'.cell? ⟨bb, off + k * 3, none⟩ = some (.int .i64 (p.s k).birth) ∧ w'.cell? ⟨bb, off + k * 3 + 1, none⟩ = some (.slice ka2 (p.s k).kn kc2) ∧ w'.cell? ⟨bb, off + k * 3 + 2, none⟩ = some (.string (p.s k).data)) (by kernel_rfl) ?_ (fun hHeld => ?_)
        · (try dsimp only)
          go_keep
        refine wpAnyH_take (i := 0) (oi := ({ dst := some 122, op := Op.fieldAddr 35 (Operand.tmp 11) 0, type := 0, pos := "laws.go:70", after := #[], guard := none } : Oper)) (v := ?_) rfl (by kernel_rfl) (by kernel_rfl) (by kernel_rfl) (fun _ _ _ h => h) (Or.inl ⟨by rfl, ?_⟩) (by assumption) ?_
        rotate_left
        · (intro w hSw; (try dsimp only at hSw); go_simp; try with_reducible rfl)
        try simp only [Act.put, List.setIfInBounds_toArray, List.set_cons_zero, List.set_cons_succ]
        refine wpAnyH_take (i := 1) (oi := ({ dst := some 123, op := Op.load 26 (Operand.tmp 122), type := 26, pos := "laws.go:70", after := #[{ on := 0, ground := Ground.data }], guard := none } : Oper)) (v := ?_) rfl (by kernel_rfl) (by kernel_rfl) (by kernel_rfl) (fun _ _ _ h => h) (Or.inl ⟨by rfl, ?_⟩) (by assumption) ?_
        rotate_left
        · (intro w hSw; (try dsimp only at hSw); go_simp; try with_reducible rfl)
        try simp only [Act.put, List.setIfInBounds_toArray, List.set_cons_zero, List.set_cons_succ]
        refine wpAnyH_take (i := 2) (oi := ({ dst := some 124, op := Op.load 33 (Operand.tmp 10), type := 33, pos := "laws.go:70", after := #[], guard := none } : Oper)) (v := ?_) rfl (by kernel_rfl) (by kernel_rfl) (by kernel_rfl) (fun _ _ _ h => h) (Or.inl ⟨by rfl, ?_⟩) (by assumption) ?_
        rotate_left
        · (intro w hSw; (try dsimp only at hSw); go_simp; try with_reducible rfl)
        try simp only [Act.put, List.setIfInBounds_toArray, List.set_cons_zero, List.set_cons_succ]
        refine wpAnyH_take (i := 4) (oi := ({ dst := some 126, op := Op.fieldAddr 26 (Operand.tmp 9) 0, type := 0, pos := "laws.go:70", after := #[], guard := none } : Oper)) (v := ?_) rfl (by kernel_rfl) (by kernel_rfl) (by kernel_rfl) (fun _ _ _ h => h) (Or.inl ⟨by rfl, ?_⟩) (by assumption) ?_
        rotate_left
        · (intro w hSw; (try dsimp only at hSw); go_simp; try with_reducible rfl)
        try simp only [Act.put, List.setIfInBounds_toArray, List.set_cons_zero, List.set_cons_succ]
        refine wpAnyH_take (i := 5) (oi := ({ dst := some 127, op := Op.load 23 (Operand.tmp 126), type := 23, pos := "laws.go:70", after := #[{ on := 4, ground := Ground.data }], guard := none } : Oper)) (v := ?_) rfl (by kernel_rfl) (by kernel_rfl) (by kernel_rfl) (fun _ _ _ h => h) (Or.inl ⟨by rfl, ?_⟩) (by assumption) ?_
        rotate_left
        · (intro w hSw; (try dsimp only at hSw); go_simp; try with_reducible rfl)
        try simp only [Act.put, List.setIfInBounds_toArray, List.set_cons_zero, List.set_cons_succ]
        refine wpAnyH_take (i := 6) (oi := ({ dst := some 128, op := Op.fieldAddr 33 (Operand.tmp 10) 0, type := 0, pos := "laws.go:70", after := #[], guard := none } : Oper)) (v := ?_) rfl (by kernel_rfl) (by kernel_rfl) (by kernel_rfl) (fun _ _ _ h => h) (Or.inl ⟨by rfl, ?_⟩) (by assumption) ?_
        rotate_left
        · (intro w hSw; (try dsimp only at hSw); go_simp; try with_reducible rfl)
        try simp only [Act.put, List.setIfInBounds_toArray, List.set_cons_zero, List.set_cons_succ]
        refine wpAnyH_take (i := 7) (oi := ({ dst := some 129, op := Op.load 2 (Operand.tmp 128), type := 2, pos := "laws.go:70", after := #[{ on := 6, ground := Ground.data }], guard := none } : Oper)) (v := ?_) rfl (by kernel_rfl) (by kernel_rfl) (by kernel_rfl) (fun _ _ _ h => h) (Or.inl ⟨by rfl, ?_⟩) (by assumption) ?_
        rotate_left
        · (intro w hSw; (try dsimp only at hSw); go_simp; try with_reducible rfl)
        try simp only [Act.put, List.setIfInBounds_toArray, List.set_cons_zero, List.set_cons_succ]
        refine wpAnyH_take (i := 8) (oi := ({ dst := some 130, op := Op.indexAddr 23 (Operand.tmp 127) (Operand.tmp 129), type := 0, pos := "laws.go:70", after := #[{ on := 5, ground := Ground.data }, { on := 7, ground := Ground.data }], guard := none } : Oper)) (v := ?_) rfl (by kernel_rfl) (by kernel_rfl) (by kernel_rfl) (fun _ _ _ h => h) (Or.inl ⟨by rfl, ?_⟩) (by assumption) ?_
        rotate_left
        · (intro w hSw; (try dsimp only at hSw); go_simp; try with_reducible rfl)
        try simp only [Act.put, List.setIfInBounds_toArray, List.set_cons_zero, List.set_cons_succ]
        refine wpAnyH_take (i := 9) (oi := ({ dst := some 131, op := Op.load 29 (Operand.tmp 130), type := 29, pos := "laws.go:70", after := #[{ on := 8, ground := Ground.data }], guard := none } : Oper)) (v := ?_) rfl (by kernel_rfl) (by kernel_rfl) (by kernel_rfl) (fun _ _ _ h => h) (Or.inl ⟨by rfl, ?_⟩) (by assumption) ?_
        rotate_left
        · (intro w hSw; (try dsimp only at hSw); go_simp; try with_reducible rfl)
        try simp only [Act.put, List.setIfInBounds_toArray, List.set_cons_zero, List.set_cons_succ]
        refine wpAnyH_ready (rs := [3]) (by kernel_rfl) (by simp) ?_
        refine AllReadyH.cons (o := ({ dst := some 125, op := Op.call { callee := Callee.value (Operand.func 12), args := #[Operand.tmp 123, Operand.tmp 124], argTypes := #[26, 33] }, type := 29, pos := "laws.go:70", after := #[{ on := 1, ground := Ground.data }, { on := 2, ground := Ground.data }], guard := none } : Oper)) rfl (fun K hK => ?_) AllReadyH.nil
        go_simp
        go_at_call 12
        refine (implPoolAt_any _ _ 0 Z2 o2.pool k xb _ ?_).mono ?_
        · first | exact HZ7.out.at' | exact HZ7.out.at'.below (Below.refl _ _).drew
        rintro e wA ⟨kvA, kbA, rfl, hkA, hplA, hbA⟩
        obtain ⟨_, kaA, kcA, rfl, _⟩ := id hkA
        have hCA : Below w20.heap.size w20 wA := (by first | exact hbA | exact below_undrew hbA)
        have hSA := HSA.out _ _ _ hkA (fun h0 => (hplA h0).2)
        obtain ⟨⟨k0, _⟩, ⟨k1, _⟩⟩ := (HQ7.out.below hCA).box
        obtain ⟨⟨k2, _⟩, ⟨k3, _⟩⟩ := HY7.out.below hCA
        obtain ⟨⟨k4, _⟩, ⟨k5, _⟩, _⟩ := (HZ7.out.below hCA).box
        obtain ⟨⟨k6, _⟩, ⟨k7, _⟩⟩ := (HV.out.below hCA).box
        obtain ⟨k8, k9, k10, _⟩ := HSC.out.below hCA
        (try go_wp2_with fail)
        refine hK.out _ _ ?_ (fun hHeld => ?_)
        · (try dsimp only)
          go_keep
        clear hK K
        try simp only [Act.put, List.setIfInBounds_toArray, List.set_cons_zero, List.set_cons_succ]
        refine wpAnyH_ready (rs := [10]) (by kernel_rfl) (by simp) ?_
        refine AllReadyH.cons (o := ({ dst := some 132, op := Op.call { callee := Callee.value (Operand.func 11), args := #[Operand.tmp 125, Operand.tmp 131], argTypes := #[29, 29] }, type := 4, pos := "laws.go:70", after := #[{ on := 3, ground := Ground.data }, { on := 9, ground := Ground.data }, { on := 3, ground := Ground.chain }], guard := none } : Oper)) rfl (fun K hK => ?_) AllReadyH.nil
        go_simp
        go_at_call 11
        refine (lwSlot_same _ _ _ _ _ _ 0 _ 0 Q (p.s k) _ hSA ?_).mono ?_
        · exact (HSC.out.below hCA).slot
        rintro e wB ⟨rfl, hbB⟩
        have hCB := below_next hCA hbB
        obtain ⟨⟨m0, _⟩, ⟨m1, _⟩⟩ := (HQ7.out.below hCB).box
        obtain ⟨⟨m2, _⟩, ⟨m3, _⟩⟩ := HY7.out.below hCB
        obtain ⟨⟨m4, _⟩, ⟨m5, _⟩, _⟩ := (HZ7.out.below hCB).box
        obtain ⟨⟨m6, _⟩, ⟨m7, _⟩⟩ := (HV.out.below hCB).box
        obtain ⟨m8, m9, m10, _⟩ := HSC.out.below hCB
        (try go_wp2_with fail)
        refine hK.out _ _ ?_ (fun hHeld => ?_)
        · (try dsimp only)
          go_keep
        clear hK K
        try simp only [Act.put, List.setIfInBounds_toArray, List.set_cons_zero, List.set_cons_succ]
        refine wpAnyH_take (i := 11) (oi := ({ dst := some 133, op := Op.move (Operand.tmp 132), type := 4, pos := "laws.go:70", after := #[{ on := 10, ground := Ground.data }, { on := 10, ground := Ground.chain }], guard := none } : Oper)) (v := ?_) rfl (by kernel_rfl) (by kernel_rfl) (by kernel_rfl) (fun _ _ _ h => h) (Or.inl ⟨by rfl, ?_⟩) (by assumption) ?_
        rotate_left
        · (intro w hSw; (try dsimp only at hSw); go_simp; try with_reducible rfl)
        try simp only [Act.put, List.setIfInBounds_toArray, List.set_cons_zero, List.set_cons_succ]
        refine wpAnyH_take (i := 12) (oi := ({ dst := some 134, op := Op.fieldAddr 26 (Operand.tmp 13) 1, type := 0, pos := "laws.go:70", after := #[{ on := 11, ground := Ground.guard }], guard := some (11, true) } : Oper)) (v := ?_) rfl (by kernel_rfl) (by kernel_rfl) (by kernel_rfl) (fun _ _ _ h => h) (Or.inl ⟨by rfl, ?_⟩) (by assumption) ?_
        rotate_left
        · (intro w hSw; (try dsimp only at hSw); go_simp; try with_reducible rfl)
        try simp only [Act.put, List.setIfInBounds_toArray, List.set_cons_zero, List.set_cons_succ]
        refine wpAnyH_take (i := 13) (oi := ({ dst := some 135, op := Op.load 24 (Operand.tmp 134), type := 24, pos := "laws.go:70", after := #[{ on := 12, ground := Ground.data }, { on := 11, ground := Ground.guard }], guard := some (11, true) } : Oper)) (v := ?_) rfl (by kernel_rfl) (by kernel_rfl) (by kernel_rfl) (fun _ _ _ h => h) (Or.inl ⟨by rfl, ?_⟩) (by assumption) ?_
        rotate_left
        · (intro w hSw; (try dsimp only at hSw); go_simp; try with_reducible rfl)
        try simp only [Act.put, List.setIfInBounds_toArray, List.set_cons_zero, List.set_cons_succ]
        refine wpAnyH_take (i := 14) (oi := ({ dst := some 136, op := Op.call { callee := Callee.builtin Builtin.len, args := #[Operand.tmp 135], argTypes := #[24] }, type := 3, pos := "laws.go:70", after := #[{ on := 13, ground := Ground.data }, { on := 11, ground := Ground.guard }], guard := some (11, true) } : Oper)) (v := ?_) rfl (by kernel_rfl) (by kernel_rfl) (by kernel_rfl) (fun _ _ _ h => h) (Or.inl ⟨by rfl, ?_⟩) (by assumption) ?_
        rotate_left
        · (intro w hSw; (try dsimp only at hSw); go_simp; try with_reducible rfl)
        try simp only [Act.put, List.setIfInBounds_toArray, List.set_cons_zero, List.set_cons_succ]
        refine wpAnyH_take (i := 15) (oi := ({ dst := some 137, op := Op.binOp BinOp.eql 3 (Operand.tmp 136) (Operand.const (Value.int IntKind.i64 0)) 3, type := 4, pos := "laws.go:70", after := #[{ on := 14, ground := Ground.data }, { on := 11, ground := Ground.guard }], guard := some (11, true) } : Oper)) (v := ?_) rfl (by kernel_rfl) (by kernel_rfl) (by kernel_rfl) (fun _ _ _ h => h) (Or.inl ⟨by rfl, ?_⟩) (by assumption) ?_
        rotate_left
        · (intro w hSw; (try dsimp only at hSw); go_simp; try with_reducible rfl)
        try simp only [Act.put, List.setIfInBounds_toArray, List.set_cons_zero, List.set_cons_succ]
        refine wpAnyH_take (i := 16) (oi := ({ dst := some 138, op := Op.move (Operand.tmp 137), type := 4, pos := "laws.go:70", after := #[{ on := 15, ground := Ground.data }, { on := 11, ground := Ground.chain }, { on := 11, ground := Ground.guard }], guard := some (11, true) } : Oper)) (v := ?_) rfl (by kernel_rfl) (by kernel_rfl) (by kernel_rfl) (fun _ _ _ h => h) (Or.inl ⟨by rfl, ?_⟩) (by assumption) ?_
        rotate_left
        · (intro w hSw; (try dsimp only at hSw); go_simp; try with_reducible rfl)
        try simp only [Act.put, List.setIfInBounds_toArray, List.set_cons_zero, List.set_cons_succ]
        refine wpAnyH_take (i := 17) (oi := ({ dst := some 139, op := Op.load 26 (Operand.tmp 13), type := 26, pos := "laws.go:70", after := #[{ on := 16, ground := Ground.guard }], guard := some (16, true) } : Oper)) (v := ?_) rfl (by kernel_rfl) (by kernel_rfl) (by kernel_rfl) (fun _ _ _ h => h) (Or.inl ⟨by rfl, ?_⟩) (by assumption) ?_
        rotate_left
        · (intro w hSw; (try dsimp only at hSw); go_simp; try with_reducible rfl)
        try simp only [Act.put, List.setIfInBounds_toArray, List.set_cons_zero, List.set_cons_succ]
        refine wpAnyH_take (i := 18) (oi := ({ dst := some 140, op := Op.load 33 (Operand.tmp 10), type := 33, pos := "laws.go:70", after := #[{ on := 16, ground := Ground.guard }], guard := some (16, true) } : Oper)) (v := ?_) rfl (by kernel_rfl) (by kernel_rfl) (by kernel_rfl) (fun _ _ _ h => h) (Or.inl ⟨by rfl, ?_⟩) (by assumption) ?_
        rotate_left
        · (intro w hSw; (try dsimp only at hSw); go_simp; try with_reducible rfl)
        try simp only [Act.put, List.setIfInBounds_toArray, List.set_cons_zero, List.set_cons_succ]
        refine wpAnyH_ready (rs := [19]) (by kernel_rfl) (by simp) ?_
        refine AllReadyH.cons (o := ({ dst := some 141, op := Op.call { callee := Callee.value (Operand.func 12), args := #[Operand.tmp 139, Operand.tmp 140], argTypes := #[26, 33] }, type := 29, pos := "laws.go:70", after := #[{ on := 17, ground := Ground.data }, { on := 18, ground := Ground.data }, { on := 16, ground := Ground.chain }, { on := 16, ground := Ground.guard }], guard := some (16, true) } : Oper)) rfl (fun K hK => ?_) AllReadyH.nil
        go_simp
        go_at_call 12
        refine (implPoolAt_any _ _ 0 V yy k xb _ ?_).mono ?_
        · exact (HV.out.below hCB).at'
        rintro e wC ⟨kvC, kbC, rfl, hkC, hplC, hbC⟩
        obtain ⟨_, kaC, kcC, rfl, _⟩ := id hkC
        have hCC := below_next hCB hbC
        obtain ⟨⟨r0, _⟩, ⟨r1, _⟩⟩ := (HQ7.out.below hCC).box
        obtain ⟨⟨r2, _⟩, ⟨r3, _⟩⟩ := HY7.out.below hCC
        obtain ⟨⟨r4, _⟩, ⟨r5, _⟩, _⟩ := (HZ7.out.below hCC).box
        obtain ⟨⟨r6, _⟩, ⟨r7, _⟩⟩ := (HV.out.below hCC).box
        obtain ⟨r8, r9, r10, _⟩ := HSC.out.below hCC
        (try go_wp2_with fail)
        refine hK.out _ _ ?_ (fun hHeld => ?_)
        · (try dsimp only)
          go_keep
        clear hK K
        try simp only [Act.put, List.setIfInBounds_toArray, List.set_cons_zero, List.set_cons_succ]
        refine wpAnyH_take (i := 20) (oi := ({ dst := some 142, op := Op.field 29 (Operand.tmp 141) 0, type := 2, pos := "laws.go:70", after := #[{ on := 19, ground := Ground.data }, { on := 16, ground := Ground.guard }], guard := some (16, true) } : Oper)) (v := ?_) rfl (by kernel_rfl) (by kernel_rfl) (by kernel_rfl) (fun _ _ _ h => h) (Or.inl ⟨by rfl, ?_⟩) (by assumption) ?_
        rotate_left
        · (intro w hSw; (try dsimp only at hSw); go_simp; try with_reducible rfl)
        try simp only [Act.put, List.setIfInBounds_toArray, List.set_cons_zero, List.set_cons_succ]
        refine wpAnyH_take (i := 21) (oi := ({ dst := some 143, op := Op.binOp BinOp.eql 2 (Operand.tmp 142) (Operand.const (Value.int IntKind.i64 0)) 2, type := 4, pos := "laws.go:70", after := #[{ on := 20, ground := Ground.data }, { on := 16, ground := Ground.guard }], guard := some (16, true) } : Oper)) (v := ?_) rfl (by kernel_rfl) (by kernel_rfl) (by kernel_rfl) (fun _ _ _ h => h) (Or.inl ⟨by rfl, ?_⟩) (by assumption) ?_
        rotate_left
        · (intro w hSw; (try dsimp only at hSw); go_simp; try with_reducible rfl)
        try simp only [Act.put, List.setIfInBounds_toArray, List.set_cons_zero, List.set_cons_succ]
        refine wpAnyH_take (i := 22) (oi := ({ dst := some 144, op := Op.pick (Operand.tmp 138) (Operand.tmp 143) (Operand.const (Value.bool false)), type := 4, pos := "laws.go:70", after := #[{ on := 16, ground := Ground.data }, { on := 21, ground := Ground.data }, { on := 11, ground := Ground.guard }], guard := some (11, true) } : Oper)) (v := ?_) rfl (by kernel_rfl) (by kernel_rfl) (by kernel_rfl) (fun _ _ _ h => h) (Or.inl ⟨by rfl, ?_⟩) (by assumption) ?_
        rotate_left
        · (intro w hSw; (try dsimp only at hSw); go_simp; try with_reducible rfl)
        try simp only [Act.put, List.setIfInBounds_toArray, List.set_cons_zero, List.set_cons_succ]
        refine wpAnyH_take (i := 23) (oi := ({ dst := some 145, op := Op.move (Operand.tmp 144), type := 4, pos := "laws.go:70", after := #[{ on := 22, ground := Ground.data }, { on := 19, ground := Ground.chain }, { on := 11, ground := Ground.guard }], guard := some (11, true) } : Oper)) (v := ?_) rfl (by kernel_rfl) (by kernel_rfl) (by kernel_rfl) (fun _ _ _ h => h) (Or.inl ⟨by rfl, ?_⟩) (by assumption) ?_
        rotate_left
        · (intro w hSw; (try dsimp only at hSw); go_simp; try with_reducible rfl)
        try simp only [Act.put, List.setIfInBounds_toArray, List.set_cons_zero, List.set_cons_succ]
        refine wpAnyH_take (i := 24) (oi := ({ dst := some 146, op := Op.load 26 (Operand.tmp 13), type := 26, pos := "laws.go:70", after := #[{ on := 23, ground := Ground.guard }], guard := some (23, false) } : Oper)) (v := undef) rfl (by kernel_rfl) (by kernel_rfl) (by kernel_rfl) (fun _ _ _ h => h) (Or.inr ⟨by rfl, rfl⟩) (by assumption) ?_
        try simp only [Act.put, List.setIfInBounds_toArray, List.set_cons_zero, List.set_cons_succ]
        refine wpAnyH_take (i := 25) (oi := ({ dst := some 147, op := Op.fieldAddr 35 (Operand.tmp 11) 0, type := 0, pos := "laws.go:70", after := #[{ on := 23, ground := Ground.guard }], guard := some (23, false) } : Oper)) (v := undef) rfl (by kernel_rfl) (by kernel_rfl) (by kernel_rfl) (fun _ _ _ h => h) (Or.inr ⟨by rfl, rfl⟩) (by assumption) ?_
        try simp only [Act.put, List.setIfInBounds_toArray, List.set_cons_zero, List.set_cons_succ]
        refine wpAnyH_take (i := 26) (oi := ({ dst := some 148, op := Op.load 26 (Operand.tmp 147), type := 26, pos := "laws.go:70", after := #[{ on := 25, ground := Ground.data }, { on := 23, ground := Ground.guard }], guard := some (23, false) } : Oper)) (v := undef) rfl (by kernel_rfl) (by kernel_rfl) (by kernel_rfl) (fun _ _ _ h => h) (Or.inr ⟨by rfl, rfl⟩) (by assumption) ?_
        try simp only [Act.put, List.setIfInBounds_toArray, List.set_cons_zero, List.set_cons_succ]
        refine wpAnyH_ready (rs := [27]) (by kernel_rfl) (by simp) ?_
        refine AllReadyH.cons (o := ({ dst := some 149, op := Op.call { callee := Callee.value (Operand.func 8), args := #[Operand.tmp 146, Operand.tmp 148], argTypes := #[26, 26] }, type := 4, pos := "laws.go:70", after := #[{ on := 24, ground := Ground.data }, { on := 26, ground := Ground.data }, { on := 23, ground := Ground.chain }, { on := 23, ground := Ground.guard }], guard := some (23, false) } : Oper)) rfl (fun K hK => ?_) AllReadyH.nil
        split
        · rename_i hwt
          exact absurd (show false = true from hwt) Bool.false_ne_true
        refine hK.out _ _ (by assumption) (fun hHeld => ?_)
        clear hK K
        try simp only [Act.put, List.setIfInBounds_toArray, List.set_cons_zero, List.set_cons_succ]
        refine wpAnyH_take (i := 28) (oi := ({ dst := some 150, op := Op.pick (Operand.tmp 145) (Operand.const (Value.bool true)) (Operand.tmp 149), type := 4, pos := "laws.go:70", after := #[{ on := 23, ground := Ground.data }, { on := 27, ground := Ground.data }, { on := 11, ground := Ground.guard }], guard := some (11, true) } : Oper)) (v := ?_) rfl (by kernel_rfl) (by kernel_rfl) (by kernel_rfl) (fun _ _ _ h => h) (Or.inl ⟨by rfl, ?_⟩) (by assumption) ?_
        rotate_left
        · (intro w hSw; (try dsimp only at hSw); go_simp; try with_reducible rfl)
        try simp only [Act.put, List.setIfInBounds_toArray, List.set_cons_zero, List.set_cons_succ]
        refine wpAnyH_take (i := 29) (oi := ({ dst := some 151, op := Op.pick (Operand.tmp 133) (Operand.tmp 150) (Operand.const (Value.bool false)), type := 4, pos := "laws.go:70", after := #[{ on := 11, ground := Ground.data }, { on := 28, ground := Ground.data }], guard := none } : Oper)) (v := ?_) rfl (by kernel_rfl) (by kernel_rfl) (by kernel_rfl) (fun _ _ _ h => h) (Or.inl ⟨by rfl, ?_⟩) (by assumption) ?_
        rotate_left
        · (intro w hSw; (try dsimp only at hSw); go_simp; try with_reducible rfl)
        try simp only [Act.put, List.setIfInBounds_toArray, List.set_cons_zero, List.set_cons_succ]
        refine wpAnyH_take (i := 30) (oi := ({ dst := some 4, op := Op.assign (Operand.tmp 151), type := 4, pos := "laws.go:70", after := #[{ on := 29, ground := Ground.data }, { on := 27, ground := Ground.chain }, { on := 0, ground := Ground.phase }, { on := 1, ground := Ground.phase }, { on := 2, ground := Ground.phase }, { on := 3, ground := Ground.phase }, { on := 4, ground := Ground.phase }, { on := 5, ground := Ground.phase }, { on := 6, ground := Ground.phase }, { on := 7, ground := Ground.phase }, { on := 8, ground := Ground.phase }, { on := 9, ground := Ground.phase }, { on := 10, ground := Ground.phase }, { on := 11, ground := Ground.phase }, { on := 12, ground := Ground.phase }, { on := 13, ground := Ground.phase }, { on := 14, ground := Ground.phase }, { on := 15, ground := Ground.phase }, { on := 16, ground := Ground.phase }, { on := 17, ground := Ground.phase }, { on := 18, ground := Ground.phase }, { on := 19, ground := Ground.phase }, { on := 20, ground := Ground.phase }, { on := 21, ground := Ground.phase }, { on := 22, ground := Ground.phase }, { on := 23, ground := Ground.phase }, { on := 24, ground := Ground.phase }, { on := 25, ground := Ground.phase }, { on := 26, ground := Ground.phase }, { on := 27, ground := Ground.phase }, { on := 28, ground := Ground.phase }, { on := 29, ground := Ground.phase }], guard := none } : Oper)) (v := ?_) rfl (by kernel_rfl) (by kernel_rfl) (by kernel_rfl) (fun _ _ _ h => h) (Or.inl ⟨by rfl, ?_⟩) (by assumption) ?_
        rotate_left
        · (intro w hSw; (try dsimp only at hSw); go_simp; try with_reducible rfl)
        try simp only [Act.put, List.setIfInBounds_toArray, List.set_cons_zero, List.set_cons_succ]
        refine wpAnyH_done (by kernel_rfl) ?_ _
        have hB23 := below_next hB20 hCC
        go_wp2
        go_ret
        exact ⟨rfl, hB23⟩
      · skip
        refine wp_region_held_drew (S := fun w' => w'.cell? ⟨Q, 0, none⟩ = some (.slice (some ⟨bb, off, none⟩) p.n pc) ∧ w'.cell? ⟨Q, 1, none⟩ = some (.slice pa' p.hn pc') ∧ w'.cell? ⟨Q + 1, 0, none⟩ = some (.int .i64 (k : Int)) ∧ w'.cell? ⟨Q + 1, 1, none⟩ = some (.int .i64 xb) ∧ w'.cell? ⟨Z2, 0, none⟩ = some (.slice xa2 o2.pool.n xc2) ∧ w'.cell? ⟨Z2, 1, none⟩ = some (.slice xa2' o2.pool.hn xc2') ∧ w'.cell? ⟨V, 0, none⟩ = some (.slice va o2.pool.n vc) ∧ w'.cell? ⟨V, 1, none⟩ = some (.slice va' o2.pool.hn vc') ∧ w'.cell? ⟨bb, off + k * 3, none⟩ = some (.int .i64 (p.s k).birth) ∧ w'.cell? ⟨bb, off + k * 3 + 1, none⟩ = some (.slice ka2 (p.s k).kn kc2) ∧ w'.cell? ⟨bb, off + k * 3 + 2, none⟩ = some (.string (p.s k).data)) (by kernel_rfl) ?_ (fun hHeld => ?_)
        · (try dsimp only)
          go_keep
        refine wpAnyH_take (i := 0) (oi := ({ dst := some 122, op := Op.fieldAddr 35 (Operand.tmp 11) 0, type := 0, pos := "laws.go:70", after := #[], guard := none } : Oper)) (v := ?_) rfl (by kernel_rfl) (by kernel_rfl) (by kernel_rfl) (fun _ _ _ h => h) (Or.inl ⟨by rfl, ?_⟩) (by assumption) ?_
        rotate_left
        · (intro w hSw; (try dsimp only at hSw); go_simp; try with_reducible rfl)
        try simp only [Act.put, List.setIfInBounds_toArray, List.set_cons_zero, List.set_cons_succ]
        refine wpAnyH_take (i := 1) (oi := ({ dst := some 123, op := Op.load 26 (Operand.tmp 122), type := 26, pos := "laws.go:70", after := #[{ on := 0, ground := Ground.data }], guard := none } : Oper)) (v := ?_) rfl (by kernel_rfl) (by kernel_rfl) (by kernel_rfl) (fun _ _ _ h => h) (Or.inl ⟨by rfl, ?_⟩) (by assumption) ?_
        rotate_left
        · (intro w hSw; (try dsimp only at hSw); go_simp; try with_reducible rfl)
        try simp only [Act.put, List.setIfInBounds_toArray, List.set_cons_zero, List.set_cons_succ]
        refine wpAnyH_take (i := 2) (oi := ({ dst := some 124, op := Op.load 33 (Operand.tmp 10), type := 33, pos := "laws.go:70", after := #[], guard := none } : Oper)) (v := ?_) rfl (by kernel_rfl) (by kernel_rfl) (by kernel_rfl) (fun _ _ _ h => h) (Or.inl ⟨by rfl, ?_⟩) (by assumption) ?_
        rotate_left
        · (intro w hSw; (try dsimp only at hSw); go_simp; try with_reducible rfl)
        try simp only [Act.put, List.setIfInBounds_toArray, List.set_cons_zero, List.set_cons_succ]
        refine wpAnyH_take (i := 4) (oi := ({ dst := some 126, op := Op.fieldAddr 26 (Operand.tmp 9) 0, type := 0, pos := "laws.go:70", after := #[], guard := none } : Oper)) (v := ?_) rfl (by kernel_rfl) (by kernel_rfl) (by kernel_rfl) (fun _ _ _ h => h) (Or.inl ⟨by rfl, ?_⟩) (by assumption) ?_
        rotate_left
        · (intro w hSw; (try dsimp only at hSw); go_simp; try with_reducible rfl)
        try simp only [Act.put, List.setIfInBounds_toArray, List.set_cons_zero, List.set_cons_succ]
        refine wpAnyH_take (i := 5) (oi := ({ dst := some 127, op := Op.load 23 (Operand.tmp 126), type := 23, pos := "laws.go:70", after := #[{ on := 4, ground := Ground.data }], guard := none } : Oper)) (v := ?_) rfl (by kernel_rfl) (by kernel_rfl) (by kernel_rfl) (fun _ _ _ h => h) (Or.inl ⟨by rfl, ?_⟩) (by assumption) ?_
        rotate_left
        · (intro w hSw; (try dsimp only at hSw); go_simp; try with_reducible rfl)
        try simp only [Act.put, List.setIfInBounds_toArray, List.set_cons_zero, List.set_cons_succ]
        refine wpAnyH_take (i := 6) (oi := ({ dst := some 128, op := Op.fieldAddr 33 (Operand.tmp 10) 0, type := 0, pos := "laws.go:70", after := #[], guard := none } : Oper)) (v := ?_) rfl (by kernel_rfl) (by kernel_rfl) (by kernel_rfl) (fun _ _ _ h => h) (Or.inl ⟨by rfl, ?_⟩) (by assumption) ?_
        rotate_left
        · (intro w hSw; (try dsimp only at hSw); go_simp; try with_reducible rfl)
        try simp only [Act.put, List.setIfInBounds_toArray, List.set_cons_zero, List.set_cons_succ]
        refine wpAnyH_take (i := 7) (oi := ({ dst := some 129, op := Op.load 2 (Operand.tmp 128), type := 2, pos := "laws.go:70", after := #[{ on := 6, ground := Ground.data }], guard := none } : Oper)) (v := ?_) rfl (by kernel_rfl) (by kernel_rfl) (by kernel_rfl) (fun _ _ _ h => h) (Or.inl ⟨by rfl, ?_⟩) (by assumption) ?_
        rotate_left
        · (intro w hSw; (try dsimp only at hSw); go_simp; try with_reducible rfl)
        try simp only [Act.put, List.setIfInBounds_toArray, List.set_cons_zero, List.set_cons_succ]
        refine wpAnyH_take (i := 8) (oi := ({ dst := some 130, op := Op.indexAddr 23 (Operand.tmp 127) (Operand.tmp 129), type := 0, pos := "laws.go:70", after := #[{ on := 5, ground := Ground.data }, { on := 7, ground := Ground.data }], guard := none } : Oper)) (v := ?_) rfl (by kernel_rfl) (by kernel_rfl) (by kernel_rfl) (fun _ _ _ h => h) (Or.inl ⟨by rfl, ?_⟩) (by assumption) ?_
        rotate_left
        · (intro w hSw; (try dsimp only at hSw); go_simp; try with_reducible rfl)
        try simp only [Act.put, List.setIfInBounds_toArray, List.set_cons_zero, List.set_cons_succ]
        refine wpAnyH_take (i := 9) (oi := ({ dst := some 131, op := Op.load 29 (Operand.tmp 130), type := 29, pos := "laws.go:70", after := #[{ on := 8, ground := Ground.data }], guard := none } : Oper)) (v := ?_) rfl (by kernel_rfl) (by kernel_rfl) (by kernel_rfl) (fun _ _ _ h => h) (Or.inl ⟨by rfl, ?_⟩) (by assumption) ?_
        rotate_left
        · (intro w hSw; (try dsimp only at hSw); go_simp; try with_reducible rfl)
        try simp only [Act.put, List.setIfInBounds_toArray, List.set_cons_zero, List.set_cons_succ]
        refine wpAnyH_ready (rs := [3]) (by kernel_rfl) (by simp) ?_
        refine AllReadyH.cons (o := ({ dst := some 125, op := Op.call { callee := Callee.value (Operand.func 12), args := #[Operand.tmp 123, Operand.tmp 124], argTypes := #[26, 33] }, type := 29, pos := "laws.go:70", after := #[{ on := 1, ground := Ground.data }, { on := 2, ground := Ground.data }], guard := none } : Oper)) rfl (fun K hK => ?_) AllReadyH.nil
        go_simp
        go_at_call 12
        refine (implPoolAt_any _ _ 0 Z2 o2.pool k xb _ ?_).mono ?_
        · first | exact HZ7.out.at' | exact HZ7.out.at'.below (Below.refl _ _).drew
        rintro e wA ⟨kvA, kbA, rfl, hkA, hplA, hbA⟩
        obtain ⟨_, kaA, kcA, rfl, _⟩ := id hkA
        have hCA : Below w20.heap.size w20 wA := (by first | exact hbA | exact below_undrew hbA)
        have hSA := HSA.out _ _ _ hkA (fun h0 => (hplA h0).2)
        obtain ⟨⟨k0, _⟩, ⟨k1, _⟩⟩ := (HQ7.out.below hCA).box
        obtain ⟨⟨k2, _⟩, ⟨k3, _⟩⟩ := HY7.out.below hCA
        obtain ⟨⟨k4, _⟩, ⟨k5, _⟩, _⟩ := (HZ7.out.below hCA).box
        obtain ⟨⟨k6, _⟩, ⟨k7, _⟩⟩ := (HV.out.below hCA).box
        obtain ⟨k8, k9, k10, _⟩ := HSC.out.below hCA
        (try go_wp2_with fail)
        refine hK.out _ _ ?_ (fun hHeld => ?_)
        · (try dsimp only)
          go_keep
        clear hK K
        try simp only [Act.put, List.setIfInBounds_toArray, List.set_cons_zero, List.set_cons_succ]
        refine wpAnyH_ready (rs := [10]) (by kernel_rfl) (by simp) ?_
        refine AllReadyH.cons (o := ({ dst := some 132, op := Op.call { callee := Callee.value (Operand.func 11), args := #[Operand.tmp 125, Operand.tmp 131], argTypes := #[29, 29] }, type := 4, pos := "laws.go:70", after := #[{ on := 3, ground := Ground.data }, { on := 9, ground := Ground.data }, { on := 3, ground := Ground.chain }], guard := none } : Oper)) rfl (fun K hK => ?_) AllReadyH.nil
        go_simp
        go_at_call 11
        refine (lwSlot_same _ _ _ _ _ _ 0 _ 0 Q (p.s k) _ hSA ?_).mono ?_
        · exact (HSC.out.below hCA).slot
        rintro e wB ⟨rfl, hbB⟩
        have hCB := below_next hCA hbB
        obtain ⟨⟨m0, _⟩, ⟨m1, _⟩⟩ := (HQ7.out.below hCB).box
        obtain ⟨⟨m2, _⟩, ⟨m3, _⟩⟩ := HY7.out.below hCB
        obtain ⟨⟨m4, _⟩, ⟨m5, _⟩, _⟩ := (HZ7.out.below hCB).box
        obtain ⟨⟨m6, _⟩, ⟨m7, _⟩⟩ := (HV.out.below hCB).box
        obtain ⟨m8, m9, m10, _⟩ := HSC.out.below hCB
        (try go_wp2_with fail)
        refine hK.out _ _ ?_ (fun hHeld => ?_)
        · (try dsimp only)
          go_keep
        clear hK K
        try simp only [Act.put, List.setIfInBounds_toArray, List.set_cons_zero, List.set_cons_succ]
        refine wpAnyH_take (i := 11) (oi := ({ dst := some 133, op := Op.move (Operand.tmp 132), type := 4, pos := "laws.go:70", after := #[{ on := 10, ground := Ground.data }, { on := 10, ground := Ground.chain }], guard := none } : Oper)) (v := ?_) rfl (by kernel_rfl) (by kernel_rfl) (by kernel_rfl) (fun _ _ _ h => h) (Or.inl ⟨by rfl, ?_⟩) (by assumption) ?_
        rotate_left
        · (intro w hSw; (try dsimp only at hSw); go_simp; try with_reducible rfl)
        try simp only [Act.put, List.setIfInBounds_toArray, List.set_cons_zero, List.set_cons_succ]
        refine wpAnyH_take (i := 12) (oi := ({ dst := some 134, op := Op.fieldAddr 26 (Operand.tmp 13) 1, type := 0, pos := "laws.go:70", after := #[{ on := 11, ground := Ground.guard }], guard := some (11, true) } : Oper)) (v := ?_) rfl (by kernel_rfl) (by kernel_rfl) (by kernel_rfl) (fun _ _ _ h => h) (Or.inl ⟨by rfl, ?_⟩) (by assumption) ?_
        rotate_left
        · (intro w hSw; (try dsimp only at hSw); go_simp; try with_reducible rfl)
        try simp only [Act.put, List.setIfInBounds_toArray, List.set_cons_zero, List.set_cons_succ]
        refine wpAnyH_take (i := 13) (oi := ({ dst := some 135, op := Op.load 24 (Operand.tmp 134), type := 24, pos := "laws.go:70", after := #[{ on := 12, ground := Ground.data }, { on := 11, ground := Ground.guard }], guard := some (11, true) } : Oper)) (v := ?_) rfl (by kernel_rfl) (by kernel_rfl) (by kernel_rfl) (fun _ _ _ h => h) (Or.inl ⟨by rfl, ?_⟩) (by assumption) ?_
        rotate_left
        · (intro w hSw; (try dsimp only at hSw); go_simp; try with_reducible rfl)
        try simp only [Act.put, List.setIfInBounds_toArray, List.set_cons_zero, List.set_cons_succ]
        refine wpAnyH_take (i := 14) (oi := ({ dst := some 136, op := Op.call { callee := Callee.builtin Builtin.len, args := #[Operand.tmp 135], argTypes := #[24] }, type := 3, pos := "laws.go:70", after := #[{ on := 13, ground := Ground.data }, { on := 11, ground := Ground.guard }], guard := some (11, true) } : Oper)) (v := ?_) rfl (by kernel_rfl) (by kernel_rfl) (by kernel_rfl) (fun _ _ _ h => h) (Or.inl ⟨by rfl, ?_⟩) (by assumption) ?_
        rotate_left
        · (intro w hSw; (try dsimp only at hSw); go_simp; try with_reducible rfl)
        try simp only [Act.put, List.setIfInBounds_toArray, List.set_cons_zero, List.set_cons_succ]
        refine wpAnyH_take (i := 15) (oi := ({ dst := some 137, op := Op.binOp BinOp.eql 3 (Operand.tmp 136) (Operand.const (Value.int IntKind.i64 0)) 3, type := 4, pos := "laws.go:70", after := #[{ on := 14, ground := Ground.data }, { on := 11, ground := Ground.guard }], guard := some (11, true) } : Oper)) (v := ?_) rfl (by kernel_rfl) (by kernel_rfl) (by kernel_rfl) (fun _ _ _ h => h) (Or.inl ⟨by rfl, ?_⟩) (by assumption) ?_
        rotate_left
        · (intro w hSw; (try dsimp only at hSw); go_simp; try with_reducible rfl)
        try simp only [Act.put, List.setIfInBounds_toArray, List.set_cons_zero, List.set_cons_succ]
        refine wpAnyH_take (i := 16) (oi := ({ dst := some 138, op := Op.move (Operand.tmp 137), type := 4, pos := "laws.go:70", after := #[{ on := 15, ground := Ground.data }, { on := 11, ground := Ground.chain }, { on := 11, ground := Ground.guard }], guard := some (11, true) } : Oper)) (v := ?_) rfl (by kernel_rfl) (by kernel_rfl) (by kernel_rfl) (fun _ _ _ h => h) (Or.inl ⟨by rfl, ?_⟩) (by assumption) ?_
        rotate_left
        · (intro w hSw; (try dsimp only at hSw); go_simp; try with_reducible rfl)
        try simp only [Act.put, List.setIfInBounds_toArray, List.set_cons_zero, List.set_cons_succ]
        refine wpAnyH_take (i := 17) (oi := ({ dst := some 139, op := Op.load 26 (Operand.tmp 13), type := 26, pos := "laws.go:70", after := #[{ on := 16, ground := Ground.guard }], guard := some (16, true) } : Oper)) (v := undef) rfl (by kernel_rfl) (by kernel_rfl) (by kernel_rfl) (fun _ _ _ h => h) (Or.inr ⟨by rfl, rfl⟩) (by assumption) ?_
        try simp only [Act.put, List.setIfInBounds_toArray, List.set_cons_zero, List.set_cons_succ]
        refine wpAnyH_take (i := 18) (oi := ({ dst := some 140, op := Op.load 33 (Operand.tmp 10), type := 33, pos := "laws.go:70", after := #[{ on := 16, ground := Ground.guard }], guard := some (16, true) } : Oper)) (v := undef) rfl (by kernel_rfl) (by kernel_rfl) (by kernel_rfl) (fun _ _ _ h => h) (Or.inr ⟨by rfl, rfl⟩) (by assumption) ?_
        try simp only [Act.put, List.setIfInBounds_toArray, List.set_cons_zero, List.set_cons_succ]
        refine wpAnyH_ready (rs := [19]) (by kernel_rfl) (by simp) ?_
        refine AllReadyH.cons (o := ({ dst := some 141, op := Op.call { callee := Callee.value (Operand.func 12), args := #[Operand.tmp 139, Operand.tmp 140], argTypes := #[26, 33] }, type := 29, pos := "laws.go:70", after := #[{ on := 17, ground := Ground.data }, { on := 18, ground := Ground.data }, { on := 16, ground := Ground.chain }, { on := 16, ground := Ground.guard }], guard := some (16, true) } : Oper)) rfl (fun K hK => ?_) AllReadyH.nil
        split
        · rename_i hwt
          exact absurd (show false = true from hwt) Bool.false_ne_true
        refine hK.out _ _ (by assumption) (fun hHeld => ?_)
        clear hK K
        try simp only [Act.put, List.setIfInBounds_toArray, List.set_cons_zero, List.set_cons_succ]
        refine wpAnyH_take (i := 20) (oi := ({ dst := some 142, op := Op.field 29 (Operand.tmp 141) 0, type := 2, pos := "laws.go:70", after := #[{ on := 19, ground := Ground.data }, { on := 16, ground := Ground.guard }], guard := some (16, true) } : Oper)) (v := undef) rfl (by kernel_rfl) (by kernel_rfl) (by kernel_rfl) (fun _ _ _ h => h) (Or.inr ⟨by rfl, rfl⟩) (by assumption) ?_
        try simp only [Act.put, List.setIfInBounds_toArray, List.set_cons_zero, List.set_cons_succ]
        refine wpAnyH_take (i := 21) (oi := ({ dst := some 143, op := Op.binOp BinOp.eql 2 (Operand.tmp 142) (Operand.const (Value.int IntKind.i64 0)) 2, type := 4, pos := "laws.go:70", after := #[{ on := 20, ground := Ground.data }, { on := 16, ground := Ground.guard }], guard := some (16, true) } : Oper)) (v := undef) rfl (by kernel_rfl) (by kernel_rfl) (by kernel_rfl) (fun _ _ _ h => h) (Or.inr ⟨by rfl, rfl⟩) (by assumption) ?_
        try simp only [Act.put, List.setIfInBounds_toArray, List.set_cons_zero, List.set_cons_succ]
        refine wpAnyH_take (i := 22) (oi := ({ dst := some 144, op := Op.pick (Operand.tmp 138) (Operand.tmp 143) (Operand.const (Value.bool false)), type := 4, pos := "laws.go:70", after := #[{ on := 16, ground := Ground.data }, { on := 21, ground := Ground.data }, { on := 11, ground := Ground.guard }], guard := some (11, true) } : Oper)) (v := ?_) rfl (by kernel_rfl) (by kernel_rfl) (by kernel_rfl) (fun _ _ _ h => h) (Or.inl ⟨by rfl, ?_⟩) (by assumption) ?_
        rotate_left
        · (intro w hSw; (try dsimp only at hSw); go_simp; try with_reducible rfl)
        try simp only [Act.put, List.setIfInBounds_toArray, List.set_cons_zero, List.set_cons_succ]
        refine wpAnyH_take (i := 23) (oi := ({ dst := some 145, op := Op.move (Operand.tmp 144), type := 4, pos := "laws.go:70", after := #[{ on := 22, ground := Ground.data }, { on := 19, ground := Ground.chain }, { on := 11, ground := Ground.guard }], guard := some (11, true) } : Oper)) (v := ?_) rfl (by kernel_rfl) (by kernel_rfl) (by kernel_rfl) (fun _ _ _ h => h) (Or.inl ⟨by rfl, ?_⟩) (by assumption) ?_
        rotate_left
        · (intro w hSw; (try dsimp only at hSw); go_simp; try with_reducible rfl)
        try simp only [Act.put, List.setIfInBounds_toArray, List.set_cons_zero, List.set_cons_succ]
        refine wpAnyH_take (i := 24) (oi := ({ dst := some 146, op := Op.load 26 (Operand.tmp 13), type := 26, pos := "laws.go:70", after := #[{ on := 23, ground := Ground.guard }], guard := some (23, false) } : Oper)) (v := ?_) rfl (by kernel_rfl) (by kernel_rfl) (by kernel_rfl) (fun _ _ _ h => h) (Or.inl ⟨by rfl, ?_⟩) (by assumption) ?_
        rotate_left
        · (intro w hSw; (try dsimp only at hSw); go_simp; try with_reducible rfl)
        try simp only [Act.put, List.setIfInBounds_toArray, List.set_cons_zero, List.set_cons_succ]
        refine wpAnyH_take (i := 25) (oi := ({ dst := some 147, op := Op.fieldAddr 35 (Operand.tmp 11) 0, type := 0, pos := "laws.go:70", after := #[{ on := 23, ground := Ground.guard }], guard := some (23, false) } : Oper)) (v := ?_) rfl (by kernel_rfl) (by kernel_rfl) (by kernel_rfl) (fun _ _ _ h => h) (Or.inl ⟨by rfl, ?_⟩) (by assumption) ?_
        rotate_left
        · (intro w hSw; (try dsimp only at hSw); go_simp; try with_reducible rfl)
        try simp only [Act.put, List.setIfInBounds_toArray, List.set_cons_zero, List.set_cons_succ]
        refine wpAnyH_take (i := 26) (oi := ({ dst := some 148, op := Op.load 26 (Operand.tmp 147), type := 26, pos := "laws.go:70", after := #[{ on := 25, ground := Ground.data }, { on := 23, ground := Ground.guard }], guard := some (23, false) } : Oper)) (v := ?_) rfl (by kernel_rfl) (by kernel_rfl) (by kernel_rfl) (fun _ _ _ h => h) (Or.inl ⟨by rfl, ?_⟩) (by assumption) ?_
        rotate_left
        · (intro w hSw; (try dsimp only at hSw); go_simp; try with_reducible rfl)
        try simp only [Act.put, List.setIfInBounds_toArray, List.set_cons_zero, List.set_cons_succ]
        refine wpAnyH_ready (rs := [27]) (by kernel_rfl) (by simp) ?_
        refine AllReadyH.cons (o := ({ dst := some 149, op := Op.call { callee := Callee.value (Operand.func 8), args := #[Operand.tmp 146, Operand.tmp 148], argTypes := #[26, 26] }, type := 4, pos := "laws.go:70", after := #[{ on := 24, ground := Ground.data }, { on := 26, ground := Ground.data }, { on := 23, ground := Ground.chain }, { on := 23, ground := Ground.guard }], guard := some (23, false) } : Oper)) rfl (fun K hK => ?_) AllReadyH.nil
        go_simp
        go_at_call 8
        refine (lwPool_same _ _ _ _ 0 V 0 Z2 o2.pool _ (HV.out.below hCB).at' (HZ7.out.below hCB).at').mono ?_
        rintro e wC ⟨rfl, hbC⟩
        have hCC := below_next hCB hbC
        obtain ⟨⟨r0, _⟩, ⟨r1, _⟩⟩ := (HQ7.out.below hCC).box
        obtain ⟨⟨r2, _⟩, ⟨r3, _⟩⟩ := HY7.out.below hCC
        obtain ⟨⟨r4, _⟩, ⟨r5, _⟩, _⟩ := (HZ7.out.below hCC).box
        obtain ⟨⟨r6, _⟩, ⟨r7, _⟩⟩ := (HV.out.below hCC).box
        obtain ⟨r8, r9, r10, _⟩ := HSC.out.below hCC
        (try go_wp2_with fail)
        refine hK.out _ _ ?_ (fun hHeld => ?_)
        · (try dsimp only)
          go_keep
        clear hK K
        try simp only [Act.put, List.setIfInBounds_toArray, List.set_cons_zero, List.set_cons_succ]
        refine wpAnyH_take (i := 28) (oi := ({ dst := some 150, op := Op.pick (Operand.tmp 145) (Operand.const (Value.bool true)) (Operand.tmp 149), type := 4, pos := "laws.go:70", after := #[{ on := 23, ground := Ground.data }, { on := 27, ground := Ground.data }, { on := 11, ground := Ground.guard }], guard := some (11, true) } : Oper)) (v := ?_) rfl (by kernel_rfl) (by kernel_rfl) (by kernel_rfl) (fun _ _ _ h => h) (Or.inl ⟨by rfl, ?_⟩) (by assumption) ?_
        rotate_left
        · (intro w hSw; (try dsimp only at hSw); go_simp; try with_reducible rfl)
        try simp only [Act.put, List.setIfInBounds_toArray, List.set_cons_zero, List.set_cons_succ]
        refine wpAnyH_take (i := 29) (oi := ({ dst := some 151, op := Op.pick (Operand.tmp 133) (Operand.tmp 150) (Operand.const (Value.bool false)), type := 4, pos := "laws.go:70", after := #[{ on := 11, ground := Ground.data }, { on := 28, ground := Ground.data }], guard := none } : Oper)) (v := ?_) rfl (by kernel_rfl) (by kernel_rfl) (by kernel_rfl) (fun _ _ _ h => h) (Or.inl ⟨by rfl, ?_⟩) (by assumption) ?_
        rotate_left
        · (intro w hSw; (try dsimp only at hSw); go_simp; try with_reducible rfl)
        try simp only [Act.put, List.setIfInBounds_toArray, List.set_cons_zero, List.set_cons_succ]
        refine wpAnyH_take (i := 30) (oi := ({ dst := some 4, op := Op.assign (Operand.tmp 151), type := 4, pos := "laws.go:70", after := #[{ on := 29, ground := Ground.data }, { on := 27, ground := Ground.chain }, { on := 0, ground := Ground.phase }, { on := 1, ground := Ground.phase }, { on := 2, ground := Ground.phase }, { on := 3, ground := Ground.phase }, { on := 4, ground := Ground.phase }, { on := 5, ground := Ground.phase }, { on := 6, ground := Ground.phase }, { on := 7, ground := Ground.phase }, { on := 8, ground := Ground.phase }, { on := 9, ground := Ground.phase }, { on := 10, ground := Ground.phase }, { on := 11, ground := Ground.phase }, { on := 12, ground := Ground.phase }, { on := 13, ground := Ground.phase }, { on := 14, ground := Ground.phase }, { on := 15, ground := Ground.phase }, { on := 16, ground := Ground.phase }, { on := 17, ground := Ground.phase }, { on := 18, ground := Ground.phase }, { on := 19, ground := Ground.phase }, { on := 20, ground := Ground.phase }, { on := 21, ground := Ground.phase }, { on := 22, ground := Ground.phase }, { on := 23, ground := Ground.phase }, { on := 24, ground := Ground.phase }, { on := 25, ground := Ground.phase }, { on := 26, ground := Ground.phase }, { on := 27, ground := Ground.phase }, { on := 28, ground := Ground.phase }, { on := 29, ground := Ground.phase }], guard := none } : Oper)) (v := ?_) rfl (by kernel_rfl) (by kernel_rfl) (by kernel_rfl) (fun _ _ _ h => h) (Or.inl ⟨by rfl, ?_⟩) (by assumption) ?_
        rotate_left
        · (intro w hSw; (try dsimp only at hSw); go_simp; try with_reducible rfl)
        try simp only [Act.put, List.setIfInBounds_toArray, List.set_cons_zero, List.set_cons_succ]
        refine wpAnyH_done (by kernel_rfl) ?_ _
        have hB23 := below_next hB20 hCC
        go_wp2
        go_ret
        exact ⟨rfl, hB23⟩
    · have f0 : (o2.code != 0) = true := by simp [e0]
      go_wp2_with fail
      go_region_held3 (fun w' => w'.cell? ⟨Q, 0, none⟩ = some (.slice pa p.n pc) ∧ w'.cell? ⟨Q, 1, none⟩ = some (.slice pa' p.hn pc') ∧ w'.cell? ⟨U, 0, none⟩ = some (.slice ua y.n uc) ∧ w'.cell? ⟨U, 1, none⟩ = some (.slice ua' y.hn uc')) (go_keep)
        (first
          | (go_at_call 18
             refine (HSS.out _ ?_ (by have := HN.out; omega)).mono ?_
             (first | exact HQ6.out.at' | exact HQ6.out.at'.below (Below.refl _ _).drew)
             rintro e w21 ⟨u0, u1, rfl, ho21, hb21⟩
             obtain ⟨oa, oc, ob, od, rfl, rfl⟩ := ho21.form
             have hC21 : Below w18.heap.size w18 w21 := (by first | exact hb21 | exact below_undrew hb21)
             obtain ⟨⟨k0, _⟩, ⟨k1, _⟩⟩ := (HQ6.out.below hC21).box
             obtain ⟨⟨k2, _⟩, ⟨k3, _⟩⟩ := (HU6.out.below hC21).box)
          | (go_at_call 8
             refine (lwPool_same _ _ _ _ 0 U 0 _ y _ (HU6.out.below hC21).at' ho21.at00).mono ?_
             rintro e w22 ⟨rfl, hb22⟩
             have hC22 := below_next hC21 hb22
             obtain ⟨⟨m0, _⟩, ⟨m1, _⟩⟩ := (HQ6.out.below hC22).box
             obtain ⟨⟨m2, _⟩, ⟨m3, _⟩⟩ := (HU6.out.below hC22).box))
      have hB22 := below_next hB18 hC22
      go_wp2
      go_ret
      exact ⟨rfl, hB22⟩

end Go.Proofs.Ytjbcjlednedboaa
