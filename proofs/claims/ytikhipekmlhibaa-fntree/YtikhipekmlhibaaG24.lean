/- What impl.TreeWrite answers. -/
import Derived.Test.YtikhipekmlhibaaG23
namespace Go.Proofs.Ytikhipekmlhibaa
open Go Go.RowKit
set_option linter.unusedVariables false

/-- A page. -/
def slotG (b : Int) (d : ByteArray) : SlotD := { birth := b, kn := 0, ks := fun _ => 0, kb := fun _ => 0, data := d }
open Classical in
/-- What TreeWrite tells. -/
noncomputable def writeT (p : PoolD) (xs xb page : Int) (d : ByteArray) (b : Int) : TOutD :=
  if 8000 < d.size then treeErr 2 else if TreeR p xs xb ∧ BornOk xb b then (if PageNo page ∧ d.size = 16 then (if (takeP p (slotG b d)).code = 0 then layP p xs xb page.toNat b ⟨(takeP p (slotG b d)).pool, (takeP p (slotG b d)).ps, (takeP p (slotG b d)).pb, 0⟩ else treeErr (takeP p (slotG b d)).code) else treeErr 8) else treeErr 1
theorem write_size {p : PoolD} {xs xb page b : Int} {d : ByteArray} (h : 8000 < d.size) : writeT p xs xb page d b = treeErr 2 := if_pos h
theorem write_form {p : PoolD} {xs xb page b : Int} {d : ByteArray} (h0 : ¬ 8000 < d.size) (h : ¬ (TreeR p xs xb ∧ BornOk xb b)) : writeT p xs xb page d b = treeErr 1 := (if_neg h0).trans (if_neg h)
theorem write_range {p : PoolD} {xs xb page b : Int} {d : ByteArray} (h0 : ¬ 8000 < d.size) (h : TreeR p xs xb ∧ BornOk xb b) (h2 : ¬ (PageNo page ∧ d.size = 16)) : writeT p xs xb page d b = treeErr 8 := ((if_neg h0).trans (if_pos h)).trans (if_neg h2)
theorem write_take {p : PoolD} {xs xb page b : Int} {d : ByteArray} (h0 : ¬ 8000 < d.size) (h : TreeR p xs xb ∧ BornOk xb b) (h2 : PageNo page ∧ d.size = 16) (h3 : (takeP p (slotG b d)).code ≠ 0) : writeT p xs xb page d b = treeErr (takeP p (slotG b d)).code := (((if_neg h0).trans (if_pos h)).trans (if_pos h2)).trans (if_neg h3)
theorem write_lay {p : PoolD} {xs xb page b : Int} {d : ByteArray} (h0 : ¬ 8000 < d.size) (h : TreeR p xs xb ∧ BornOk xb b) (h2 : PageNo page ∧ d.size = 16) (h3 : (takeP p (slotG b d)).code = 0) : writeT p xs xb page d b = layP p xs xb page.toNat b ⟨(takeP p (slotG b d)).pool, (takeP p (slotG b d)).ps, (takeP p (slotG b d)).pb, 0⟩ := (((if_neg h0).trans (if_pos h)).trans (if_pos h2)).trans (if_pos h3)

set_option maxRecDepth 20000 in
set_option maxHeartbeats 4000000 in
theorem implTreeWrite_any (v0 v1 : Value) (lo hi : Nat) (p : PoolD) (xs xb page b : Int) (d : ByteArray) (w : World) (h1 : PoolAt w lo hi v0 v1 p) :
    Calls Try.prog 21 #[.agg #[v0, v1], .agg #[.int .i64 xs, .int .i64 xb], .int .i64 page, .string d, .int .i64 b] w (NewTree (writeT p xs xb page d b) w) := by
  have Hp := hideT h1
  obtain ⟨a, c, a', c', rfl, rfl⟩ := h1.form
  clear h1
  have hst := startT w (.slice a p.n c) (.slice a' p.hn c') (.int .i64 xs) (.int .i64 xb) 26 33 50
  go_enter Try.func21, Try.ntmps21
  go_upto_region 1 with fail
  generalize ((w.alloc (.cells #[.slice a p.n c, .slice a' p.hn c'] 26)).alloc (.cells #[.int .i64 xs, .int .i64 xb] 33)).alloc (.cells #[.slice none 0 0, .slice none 0 0, .int .i64 0, .int .i64 0, .slice none 0 0, .int .i64 0] 50) = W at hst ⊢
  obtain ⟨hB, hX, hR, hba, hz⟩ := hst
  by_cases hd0 : 8000 < d.size
  · have Hd0 := hideT hd0
    have hd1 : (8000 : Int) < (d.size : Int) := by omega
    have HR := hideT hR
    obtain ⟨⟨r0, r1⟩, ⟨r2, r3⟩, ⟨r4, r5⟩, ⟨r6, r7⟩, ⟨r8, r9⟩, ⟨r10, r11⟩⟩ := HR.out
    try go_wp2
    have HR8 := HR.out.put (.slice none 0 0) (.slice none 0 0) (.int .i64 0) (.int .i64 0) (.slice none 0 0) (.int .i64 2)
    have hpr := err_ret (R := w.heap.size + 1 + 1) (c := 2) (by omega) hba
    rw [write_size Hd0.out]
    exact bodyPost_ret (v := .agg #[.slice none 0 0, .slice none 0 0, .int .i64 0, .int .i64 0, .slice none 0 0, .int .i64 2]) (by simp [results, Try.results21, go_sem, HR8.1.1, HR8.2.1.1, HR8.2.2.1.1, HR8.2.2.2.1.1, HR8.2.2.2.2.1.1, HR8.2.2.2.2.2.1]) rfl hpr
  · have Hd0 := hideT hd0
    have hd1 : ¬ (8000 : Int) < (d.size : Int) := by omega
    clear hd0
    obtain ⟨⟨x0, x1⟩, ⟨x2, x3⟩⟩ := id hB
    obtain ⟨⟨y0, y1⟩, ⟨y2, y3⟩⟩ := id hX
    go_wp2_with fail
    refine (implTreeRight_any _ _ lo hi p xs xb W (Hp.out.below hba)).mono ?_
    rintro e w1 ⟨⟨t, rfl, ht⟩, hb1⟩
    have HB1 := hideT (hB.below hb1)
    have HX1 := hideT (hX.below hb1)
    have HR1 := hideT (hR.below hb1)
    have hB1 := below_next hba hb1
    have hz1 : w.heap.size + 3 ≤ w1.heap.size := by have := hb1.size; omega
    clear hB hX hR hba hb1 hz x0 x1 x2 x3 y0 y1 y2 y3
    by_cases hRt : TreeR p xs xb
    · have HRt := hideT hRt
      obtain rfl : t = true := ht.2 hRt
      clear ht hRt
      obtain ⟨⟨y0, y1⟩, ⟨y2, y3⟩⟩ := HX1.out
      go_wp2_with fail
      refine (bornLast_any xs xb b w1).mono ?_
      rintro e w2 ⟨⟨t, rfl, ht⟩, hb2⟩
      have HB2 := hideT (HB1.out.below hb2)
      have HX2 := hideT (HX1.out.below hb2)
      have HR2 := hideT (HR1.out.below hb2)
      have hB2 := below_next hB1 hb2
      have hz2 : w.heap.size + 3 ≤ w2.heap.size := by have := hb2.size; omega
      clear hb2 hB1 HB1 HX1 HR1 hz1 y0 y1 y2 y3
      by_cases hBo : BornOk xb b
      · have HTB := hideT (And.intro HRt.out hBo)
        obtain rfl : t = true := ht.2 hBo
        clear ht hBo
        obtain ⟨⟨r0, r1⟩, ⟨r2, r3⟩, ⟨r4, r5⟩, ⟨r6, r7⟩, ⟨r8, r9⟩, ⟨r10, r11⟩⟩ := HR2.out
        by_cases hN : PageNo page
        · have HNo := hideT hN
          obtain ⟨n, rfl⟩ := Int.eq_ofNat_of_zero_le hN.1
          have hn64 : n < 64 := by have := hN.2; omega
          clear hN
          by_cases hd16 : d.size = 16
          · have HPD := hideT (And.intro HNo.out hd16)
            have hd2 : ((d.size : Int) != 16) = false := by simp; omega
            have Hd16 := hideT hd16
            clear hd16 r0 r1 r2 r3 r4 r5 r6 r7 r8 r9 r10 r11
            obtain ⟨⟨x0, x1⟩, ⟨x2, x3⟩⟩ := HB2.out
            go_wp2_with (first | (go_at_call 70; refine (pageNumber_any _ _).mono ?_; rintro e w9 ⟨⟨t2, rfl, ht2⟩, rfl⟩; obtain rfl : t2 = true := ht2.2 HNo.out; clear ht2) | fail)
            go_wp2_with fail
            have HS : Hid (SlotAt w9 0 0 (.int .i64 (slotG b d).birth) (.slice none 0 0) (.string (slotG b d).data) (slotG b d)) := ⟨rfl, ⟨Nat.zero_le _, none, 0, rfl, Nat.le_refl _, fun h => absurd h (Nat.lt_irrefl _)⟩, rfl, by show d.size ≤ maxLen; rw [Hd16.out]; unfold maxLen; omega⟩
            have hrs := right_small HRt.out.1
            refine (implPoolTake_any _ _ _ lo hi 0 0 p (slotG b d) w9 (Hp.out.below hB2) HS.out (by show poolN p + (0 + d.size) ≤ _; rw [Hd16.out]; omega)).mono ?_
            rintro e w3 ⟨t0, t1, rfl, ho3, hb3⟩
            have HE1 : Hid ((takeP p (slotG b d)).code ≠ 0 → writeT p xs xb (n : Int) d b = treeErr (takeP p (slotG b d)).code) := fun h => write_take Hd0.out HTB.out HPD.out h
            have HE2 : Hid ((takeP p (slotG b d)).code = 0 → writeT p xs xb (n : Int) d b = layP p xs xb n b ⟨(takeP p (slotG b d)).pool, (takeP p (slotG b d)).ps, (takeP p (slotG b d)).pb, 0⟩) := fun h => write_lay Hd0.out HTB.out HPD.out h
            have Hsm : Hid (poolN (takeP p (slotG b d)).pool + 16 ≤ 1048576) := by
              have h1 := take_small p (slotG b d)
              have h2 : slotN (slotG b d) = 16 := by show 0 + d.size = 16; rw [Hd16.out]
              show _ ≤ _
              omega
            generalize takeP p (slotG b d) = od at ho3 HE1 HE2 Hsm ⊢
            obtain ⟨ta, tc, ta', tc', rfl, rfl⟩ := ho3.form
            have halT := below_alloc w3 (.cells #[.slice ta od.pool.n tc, .slice ta' od.pool.hn tc', .int .i64 od.ps, .int .i64 od.pb, .int .i64 od.code] 35)
            have hCT := below_next hb3 halT
            have HoD := hideT (ho3.below halT)
            have HT5 := hideT (Box5.new w3 (.slice ta od.pool.n tc) (.slice ta' od.pool.hn tc') (.int .i64 od.ps) (.int .i64 od.pb) (.int .i64 od.code) 35)
            have HBD := hideT (HB2.out.below hCT)
            have HXD := hideT (HX2.out.below hCT)
            have HRD := hideT (HR2.out.below hCT)
            have hBD := below_next hB2 hCT
            have hzC := hb3.size
            have hzT : w3.heap.size < (w3.alloc (.cells #[.slice ta od.pool.n tc, .slice ta' od.pool.hn tc', .int .i64 od.ps, .int .i64 od.pb, .int .i64 od.code] 35)).heap.size := by rw [World.size_alloc]; omega
            clear ho3 hb3 halT hCT x0 x1 x2 x3 HB2 HX2 HR2 hB2 HS hrs
            go_upto_region 8 with fail
            generalize w3.alloc (.cells #[.slice ta od.pool.n tc, .slice ta' od.pool.hn tc', .int .i64 od.ps, .int .i64 od.pb, .int .i64 od.code] 35) = wD at HoD HT5 HBD HXD HRD hBD hzT ⊢
            generalize w3.heap.size = T at HoD HT5 hzC hzT ⊢
            obtain ⟨⟨t0, t1⟩, ⟨t2, t3⟩, ⟨t4, t5⟩, ⟨t6, t7⟩, ⟨t8, t9⟩⟩ := HT5.out
            by_cases hc : od.code = 0
            · have hne : (od.code != 0) = false := by simp [hc]
              have HEl := hideT (HE2.out hc)
              clear hc HE1 HE2
              obtain ⟨⟨x0, x1⟩, ⟨x2, x3⟩⟩ := HBD.out
              obtain ⟨⟨y0, y1⟩, ⟨y2, y3⟩⟩ := HXD.out
              go_upto_region 10 with fail
              by_cases hcl : (layP p xs xb n b ⟨od.pool, od.ps, od.pb, 0⟩).code = 0
              · have HC := hideT hcl
                clear hcl
                refine wp_region_held_drew (S := (fun w' => w'.cell? ⟨T, 0, none⟩ = some (.slice ta od.pool.n tc) ∧ w'.cell? ⟨T, 1, none⟩ = some (.slice ta' od.pool.hn tc') ∧ w'.cell? ⟨T, 2, none⟩ = some (.int .i64 od.ps) ∧ w'.cell? ⟨T, 3, none⟩ = some (.int .i64 od.pb) ∧ w'.cell? ⟨w.heap.size, 0, none⟩ = some (.slice a p.n c) ∧ w'.cell? ⟨w.heap.size + 1, 0, none⟩ = some (.int .i64 xs) ∧ w'.cell? ⟨w.heap.size + 1, 1, none⟩ = some (.int .i64 xb))) (by kernel_rfl) ?_ (fun hHeld => ?_)
                · (try dsimp only)
                  go_keep
                refine wpAnyH_take (i := 0) (oi := ({ dst := some 47, op := Op.fieldAddr 35 (Operand.tmp 11) 0, type := 0, pos := "l02_tree.go:66", after := #[], guard := none } : Oper)) (v := ?_) rfl (by kernel_rfl) (by kernel_rfl) (by kernel_rfl) (fun _ _ _ h => h) (Or.inl ⟨by rfl, ?_⟩) (by assumption) ?_
                rotate_left
                · (intro w hSw; (try dsimp only at hSw); go_simp; try with_reducible rfl)
                try simp only [Act.put, List.setIfInBounds_toArray, List.set_cons_zero, List.set_cons_succ]
                refine wpAnyH_take (i := 1) (oi := ({ dst := some 48, op := Op.load 26 (Operand.tmp 47), type := 26, pos := "l02_tree.go:66", after := #[{ on := 0, ground := Ground.data }], guard := none } : Oper)) (v := ?_) rfl (by kernel_rfl) (by kernel_rfl) (by kernel_rfl) (fun _ _ _ h => h) (Or.inl ⟨by rfl, ?_⟩) (by assumption) ?_
                rotate_left
                · (intro w hSw; (try dsimp only at hSw); go_simp; try with_reducible rfl)
                try simp only [Act.put, List.setIfInBounds_toArray, List.set_cons_zero, List.set_cons_succ]
                refine wpAnyH_take (i := 2) (oi := ({ dst := some 49, op := Op.fieldAddr 26 (Operand.tmp 5) 0, type := 0, pos := "l02_tree.go:66", after := #[], guard := none } : Oper)) (v := ?_) rfl (by kernel_rfl) (by kernel_rfl) (by kernel_rfl) (fun _ _ _ h => h) (Or.inl ⟨by rfl, ?_⟩) (by assumption) ?_
                rotate_left
                · (intro w hSw; (try dsimp only at hSw); go_simp; try with_reducible rfl)
                try simp only [Act.put, List.setIfInBounds_toArray, List.set_cons_zero, List.set_cons_succ]
                refine wpAnyH_take (i := 3) (oi := ({ dst := some 50, op := Op.load 23 (Operand.tmp 49), type := 23, pos := "l02_tree.go:66", after := #[{ on := 2, ground := Ground.data }], guard := none } : Oper)) (v := ?_) rfl (by kernel_rfl) (by kernel_rfl) (by kernel_rfl) (fun _ _ _ h => h) (Or.inl ⟨by rfl, ?_⟩) (by assumption) ?_
                rotate_left
                · (intro w hSw; (try dsimp only at hSw); go_simp; try with_reducible rfl)
                try simp only [Act.put, List.setIfInBounds_toArray, List.set_cons_zero, List.set_cons_succ]
                refine wpAnyH_take (i := 4) (oi := ({ dst := some 51, op := Op.load 33 (Operand.tmp 6), type := 33, pos := "l02_tree.go:66", after := #[], guard := none } : Oper)) (v := ?_) rfl (by kernel_rfl) (by kernel_rfl) (by kernel_rfl) (fun _ _ _ h => h) (Or.inl ⟨by rfl, ?_⟩) (by assumption) ?_
                rotate_left
                · (intro w hSw; (try dsimp only at hSw); go_simp; try with_reducible rfl)
                try simp only [Act.put, List.setIfInBounds_toArray, List.set_cons_zero, List.set_cons_succ]
                refine wpAnyH_take (i := 5) (oi := ({ dst := some 52, op := Op.move (Operand.tmp 2), type := 2, pos := "l02_tree.go:66", after := #[], guard := none } : Oper)) (v := ?_) rfl (by kernel_rfl) (by kernel_rfl) (by kernel_rfl) (fun _ _ _ h => h) (Or.inl ⟨by rfl, ?_⟩) (by assumption) ?_
                rotate_left
                · (intro w hSw; (try dsimp only at hSw); go_simp; try with_reducible rfl)
                try simp only [Act.put, List.setIfInBounds_toArray, List.set_cons_zero, List.set_cons_succ]
                refine wpAnyH_take (i := 7) (oi := ({ dst := some 54, op := Op.fieldAddr 35 (Operand.tmp 11) 1, type := 0, pos := "l02_tree.go:66", after := #[], guard := none } : Oper)) (v := ?_) rfl (by kernel_rfl) (by kernel_rfl) (by kernel_rfl) (fun _ _ _ h => h) (Or.inl ⟨by rfl, ?_⟩) (by assumption) ?_
                rotate_left
                · (intro w hSw; (try dsimp only at hSw); go_simp; try with_reducible rfl)
                try simp only [Act.put, List.setIfInBounds_toArray, List.set_cons_zero, List.set_cons_succ]
                refine wpAnyH_take (i := 8) (oi := ({ dst := some 55, op := Op.load 33 (Operand.tmp 54), type := 33, pos := "l02_tree.go:66", after := #[{ on := 7, ground := Ground.data }], guard := none } : Oper)) (v := ?_) rfl (by kernel_rfl) (by kernel_rfl) (by kernel_rfl) (fun _ _ _ h => h) (Or.inl ⟨by rfl, ?_⟩) (by assumption) ?_
                rotate_left
                · (intro w hSw; (try dsimp only at hSw); go_simp; try with_reducible rfl)
                try simp only [Act.put, List.setIfInBounds_toArray, List.set_cons_zero, List.set_cons_succ]
                refine wpAnyH_take (i := 9) (oi := ({ dst := some 56, op := Op.move (Operand.tmp 4), type := 2, pos := "l02_tree.go:66", after := #[], guard := none } : Oper)) (v := ?_) rfl (by kernel_rfl) (by kernel_rfl) (by kernel_rfl) (fun _ _ _ h => h) (Or.inl ⟨by rfl, ?_⟩) (by assumption) ?_
                rotate_left
                · (intro w hSw; (try dsimp only at hSw); go_simp; try with_reducible rfl)
                try simp only [Act.put, List.setIfInBounds_toArray, List.set_cons_zero, List.set_cons_succ]
                refine wpAnyH_ready (rs := [6]) (by kernel_rfl) (by simp) ?_
                refine AllReadyH.cons (o := ({ dst := some 53, op := Op.call { callee := Callee.value (Operand.func 72), args := #[Operand.tmp 50, Operand.tmp 51, Operand.tmp 52], argTypes := #[23, 33, 2] }, type := 98, pos := "l02_tree.go:66", after := #[{ on := 3, ground := Ground.data }, { on := 4, ground := Ground.data }, { on := 5, ground := Ground.data }], guard := none } : Oper)) rfl (fun K hK => ?_) AllReadyH.nil
                go_simp
                go_at_call 72
                refine (wayTo_any _ lo hi p xs xb n _ ?_ HRt.out hn64).mono ?_
                · first | exact (Hp.out.below hBD).1 | exact (Hp.out.below hBD.drew).1
                rintro e wa ⟨o, rfl, hro, hba⟩
                obtain ⟨oa2, oc2, rfl, _⟩ := owns_form hro
                have Hroa := hideT hro
                clear hro
                have hCa : Below wD.heap.size wD wa := (by first | exact hba | exact below_undrew hba)
                obtain ⟨⟨k0, _⟩, ⟨k1, _⟩, ⟨k2, _⟩, ⟨k3, _⟩, _⟩ := HT5.out.below hCa
                obtain ⟨⟨k4, _⟩, _⟩ := HBD.out.below hCa
                obtain ⟨⟨k5, _⟩, ⟨k6, _⟩⟩ := HXD.out.below hCa
                (try go_wp2_with fail)
                refine hK.out _ _ ?_ (fun hHeldN => ?_)
                · (try dsimp only)
                  go_keep
                clear hK K hHeld
                have hHeld := hHeldN
                clear hHeldN
                try simp only [Act.put, List.setIfInBounds_toArray, List.set_cons_zero, List.set_cons_succ]
                refine wpAnyH_ready (rs := [10]) (by kernel_rfl) (by simp) ?_
                refine AllReadyH.cons (o := ({ dst := some 57, op := Op.call { callee := Callee.value (Operand.func 71), args := #[Operand.tmp 48, Operand.tmp 53, Operand.tmp 55, Operand.tmp 56], argTypes := #[26, 98, 33, 2] }, type := 50, pos := "l02_tree.go:66", after := #[{ on := 1, ground := Ground.data }, { on := 6, ground := Ground.data }, { on := 8, ground := Ground.data }, { on := 9, ground := Ground.data }, { on := 6, ground := Ground.chain }], guard := none } : Oper)) rfl (fun K hK => ?_) AllReadyH.nil
                go_simp
                go_at_call 71
                refine (layAnew_any _ _ _ _ p od.pool xs xb od.ps od.pb b n _ wa (HoD.out.below hCa).at hn64 Hsm.out (Hroa.out.mono (Nat.zero_le _))).mono ?_
                rintro e wb (⟨hc6, he6, hbb⟩ | ⟨hc6, s0, s1, he6, ho6, hbb⟩)
                · exact absurd HC.out hc6
                subst he6
                have hCb := below_next hCa hbb
                obtain ⟨a5, c5, a6, c6, rfl, rfl⟩ := ho6.form
                obtain ⟨⟨l0, _⟩, ⟨l1, _⟩, ⟨l2, _⟩, ⟨l3, _⟩, _⟩ := HT5.out.below hCb
                obtain ⟨⟨l4, _⟩, _⟩ := HBD.out.below hCb
                obtain ⟨⟨l5, _⟩, ⟨l6, _⟩⟩ := HXD.out.below hCb
                have HR6 := hideT (HRD.out.below hCb)
                obtain ⟨⟨r0, r1⟩, ⟨r2, r3⟩, ⟨r4, r5⟩, ⟨r6, r7⟩, ⟨r8, r9⟩, ⟨r10, r11⟩⟩ := HR6.out
                have Hkeep : Hid (∀ (u0 u1 u2 u3 u4 u5 : Value), (fun (w' : World) => w'.cell? ⟨T, 0, none⟩ = some (.slice ta od.pool.n tc) ∧ w'.cell? ⟨T, 1, none⟩ = some (.slice ta' od.pool.hn tc') ∧ w'.cell? ⟨T, 2, none⟩ = some (.int .i64 od.ps) ∧ w'.cell? ⟨T, 3, none⟩ = some (.int .i64 od.pb) ∧ w'.cell? ⟨w.heap.size, 0, none⟩ = some (.slice a p.n c) ∧ w'.cell? ⟨w.heap.size + 1, 0, none⟩ = some (.int .i64 xs) ∧ w'.cell? ⟨w.heap.size + 1, 1, none⟩ = some (.int .i64 xb)) (put6 wb (w.heap.size + 1 + 1) u0 u1 u2 u3 u4 u5)) := by
                  intro u0 u1 u2 u3 u4 u5
                  have t := Turned.put6 wb (w.heap.size + 1 + 1) u0 u1 u2 u3 u4 u5
                  have g1 := (HT5.out.below hCb).turned t (by omega)
                  have g2 := (HBD.out.below hCb).turned t (by omega)
                  have g3 := (HXD.out.below hCb).turned t (by omega)
                  exact ⟨g1.1.1, g1.2.1.1, g1.2.2.1.1, g1.2.2.2.1.1, g2.1.1, g3.1.1, g3.2.1⟩
                (try go_wp2_with fail)
                refine hK.out _ _ ?_ (fun hHeldN => ?_)
                · (try dsimp only)
                  go_keep
                clear hK K hHeld
                have hHeld := hHeldN
                clear hHeldN
                try simp only [Act.put, List.setIfInBounds_toArray, List.set_cons_zero, List.set_cons_succ]
                refine wpAnyH_ready (rs := [11]) (by kernel_rfl) (by simp) ?_
                refine AllReadyH.cons (o := ({ dst := none, op := Op.store 50 (Operand.tmp 10) (Operand.tmp 57), type := 0, pos := "l02_tree.go:66", after := #[{ on := 10, ground := Ground.data }, { on := 10, ground := Ground.chain }, { on := 0, ground := Ground.phase }, { on := 1, ground := Ground.phase }, { on := 2, ground := Ground.phase }, { on := 3, ground := Ground.phase }, { on := 4, ground := Ground.phase }, { on := 5, ground := Ground.phase }, { on := 6, ground := Ground.phase }, { on := 7, ground := Ground.phase }, { on := 8, ground := Ground.phase }, { on := 9, ground := Ground.phase }, { on := 10, ground := Ground.phase }], guard := none } : Oper)) rfl (fun K hK => ?_) AllReadyH.nil
                go_simp

                (try go_wp2_with fail)
                refine hK.out _ _ ?_ (fun hHeldN => ?_)
                · (try dsimp only)
                  exact Hkeep.out _ _ _ _ _ _
                clear hK K hHeld
                have hHeld := hHeldN
                clear hHeldN
                try simp only [Act.put, List.setIfInBounds_toArray, List.set_cons_zero, List.set_cons_succ]
                refine wpAnyH_done (by kernel_rfl) ?_ _
                have HR8 := HR6.out.put (.slice a5 (layS p xs xb n b ⟨od.pool, od.ps, od.pb, 0⟩ 2).pool.n c5) (.slice a6 (layS p xs xb n b ⟨od.pool, od.ps, od.pb, 0⟩ 2).pool.hn c6) (.int .i64 (layS p xs xb n b ⟨od.pool, od.ps, od.pb, 0⟩ 2).ps) (.int .i64 (layS p xs xb n b ⟨od.pool, od.ps, od.pb, 0⟩ 2).pb) (.slice oa2 (oldW p xs xb n 3).length oc2) (.int .i64 0)
                have htp := Turned.put6 wb (w.heap.size + 1 + 1) (.slice a5 (layS p xs xb n b ⟨od.pool, od.ps, od.pb, 0⟩ 2).pool.n c5) (.slice a6 (layS p xs xb n b ⟨od.pool, od.ps, od.pb, 0⟩ 2).pool.hn c6) (.int .i64 (layS p xs xb n b ⟨od.pool, od.ps, od.pb, 0⟩ 2).ps) (.int .i64 (layS p xs xb n b ⟨od.pool, od.ps, od.pb, 0⟩ 2).pb) (.slice oa2 (oldW p xs xb n 3).length oc2) (.int .i64 0)
                have hBb := below_next hBD hCb
                have Ho6 := hideT ho6
                have HzD : Hid (w.heap.size + 3 ≤ wD.heap.size) := by show _ ≤ _; omega
                have Hza := hideT hCa.size
                have Hbb := hideT hbb
                clear hHeld Hkeep l0 l1 l2 l3 l4 l5 l6 k0 k1 k2 k3 k4 k5 k6 ho6 hbb
                go_wp2
                have hE := HEl.out.trans (lay_ok HC.out)
                rw [hE]
                have hzD := HzD.out
                have hza := Hza.out
                exact bodyPost_ret (v := .agg #[.slice a5 (layS p xs xb n b ⟨od.pool, od.ps, od.pb, 0⟩ 2).pool.n c5, .slice a6 (layS p xs xb n b ⟨od.pool, od.ps, od.pb, 0⟩ 2).pool.hn c6, .int .i64 (layS p xs xb n b ⟨od.pool, od.ps, od.pb, 0⟩ 2).ps, .int .i64 (layS p xs xb n b ⟨od.pool, od.ps, od.pb, 0⟩ 2).pb, .slice oa2 (oldW p xs xb n 3).length oc2, .int .i64 0]) (by simp [results, Try.results21, go_sem, HR8.1.1, HR8.2.1.1, HR8.2.2.1.1, HR8.2.2.2.1.1, HR8.2.2.2.2.1.1, HR8.2.2.2.2.2.1]) rfl ⟨_, _, _, wa.heap.size, wb.heap.size, rfl, by omega, htp.size, Ho6.out.turned htp (by intro k hk; omega), (((((((Hroa.out.below Hbb.out).put (show w.heap.size + 1 + 1 < wD.heap.size by omega) _).put (show w.heap.size + 1 + 1 < wD.heap.size by omega) _).put (show w.heap.size + 1 + 1 < wD.heap.size by omega) _).put (show w.heap.size + 1 + 1 < wD.heap.size by omega) _).put (show w.heap.size + 1 + 1 < wD.heap.size by omega) _).put (show w.heap.size + 1 + 1 < wD.heap.size by omega) _).mono (show w.heap.size ≤ wD.heap.size by omega), fun k hk => Or.inl (Hroa.out.lt hk).2, hBb.trans (htp.below (B := w.heap.size) hBb.size (by intro k hk; omega))⟩
              · have HC := hideT hcl
                clear hcl
                refine wp_region_held_drew (S := (fun w' => w'.cell? ⟨T, 0, none⟩ = some (.slice ta od.pool.n tc) ∧ w'.cell? ⟨T, 1, none⟩ = some (.slice ta' od.pool.hn tc') ∧ w'.cell? ⟨T, 2, none⟩ = some (.int .i64 od.ps) ∧ w'.cell? ⟨T, 3, none⟩ = some (.int .i64 od.pb) ∧ w'.cell? ⟨w.heap.size, 0, none⟩ = some (.slice a p.n c) ∧ w'.cell? ⟨w.heap.size + 1, 0, none⟩ = some (.int .i64 xs) ∧ w'.cell? ⟨w.heap.size + 1, 1, none⟩ = some (.int .i64 xb))) (by kernel_rfl) ?_ (fun hHeld => ?_)
                · (try dsimp only)
                  go_keep
                refine wpAnyH_take (i := 0) (oi := ({ dst := some 47, op := Op.fieldAddr 35 (Operand.tmp 11) 0, type := 0, pos := "l02_tree.go:66", after := #[], guard := none } : Oper)) (v := ?_) rfl (by kernel_rfl) (by kernel_rfl) (by kernel_rfl) (fun _ _ _ h => h) (Or.inl ⟨by rfl, ?_⟩) (by assumption) ?_
                rotate_left
                · (intro w hSw; (try dsimp only at hSw); go_simp; try with_reducible rfl)
                try simp only [Act.put, List.setIfInBounds_toArray, List.set_cons_zero, List.set_cons_succ]
                refine wpAnyH_take (i := 1) (oi := ({ dst := some 48, op := Op.load 26 (Operand.tmp 47), type := 26, pos := "l02_tree.go:66", after := #[{ on := 0, ground := Ground.data }], guard := none } : Oper)) (v := ?_) rfl (by kernel_rfl) (by kernel_rfl) (by kernel_rfl) (fun _ _ _ h => h) (Or.inl ⟨by rfl, ?_⟩) (by assumption) ?_
                rotate_left
                · (intro w hSw; (try dsimp only at hSw); go_simp; try with_reducible rfl)
                try simp only [Act.put, List.setIfInBounds_toArray, List.set_cons_zero, List.set_cons_succ]
                refine wpAnyH_take (i := 2) (oi := ({ dst := some 49, op := Op.fieldAddr 26 (Operand.tmp 5) 0, type := 0, pos := "l02_tree.go:66", after := #[], guard := none } : Oper)) (v := ?_) rfl (by kernel_rfl) (by kernel_rfl) (by kernel_rfl) (fun _ _ _ h => h) (Or.inl ⟨by rfl, ?_⟩) (by assumption) ?_
                rotate_left
                · (intro w hSw; (try dsimp only at hSw); go_simp; try with_reducible rfl)
                try simp only [Act.put, List.setIfInBounds_toArray, List.set_cons_zero, List.set_cons_succ]
                refine wpAnyH_take (i := 3) (oi := ({ dst := some 50, op := Op.load 23 (Operand.tmp 49), type := 23, pos := "l02_tree.go:66", after := #[{ on := 2, ground := Ground.data }], guard := none } : Oper)) (v := ?_) rfl (by kernel_rfl) (by kernel_rfl) (by kernel_rfl) (fun _ _ _ h => h) (Or.inl ⟨by rfl, ?_⟩) (by assumption) ?_
                rotate_left
                · (intro w hSw; (try dsimp only at hSw); go_simp; try with_reducible rfl)
                try simp only [Act.put, List.setIfInBounds_toArray, List.set_cons_zero, List.set_cons_succ]
                refine wpAnyH_take (i := 4) (oi := ({ dst := some 51, op := Op.load 33 (Operand.tmp 6), type := 33, pos := "l02_tree.go:66", after := #[], guard := none } : Oper)) (v := ?_) rfl (by kernel_rfl) (by kernel_rfl) (by kernel_rfl) (fun _ _ _ h => h) (Or.inl ⟨by rfl, ?_⟩) (by assumption) ?_
                rotate_left
                · (intro w hSw; (try dsimp only at hSw); go_simp; try with_reducible rfl)
                try simp only [Act.put, List.setIfInBounds_toArray, List.set_cons_zero, List.set_cons_succ]
                refine wpAnyH_take (i := 5) (oi := ({ dst := some 52, op := Op.move (Operand.tmp 2), type := 2, pos := "l02_tree.go:66", after := #[], guard := none } : Oper)) (v := ?_) rfl (by kernel_rfl) (by kernel_rfl) (by kernel_rfl) (fun _ _ _ h => h) (Or.inl ⟨by rfl, ?_⟩) (by assumption) ?_
                rotate_left
                · (intro w hSw; (try dsimp only at hSw); go_simp; try with_reducible rfl)
                try simp only [Act.put, List.setIfInBounds_toArray, List.set_cons_zero, List.set_cons_succ]
                refine wpAnyH_take (i := 7) (oi := ({ dst := some 54, op := Op.fieldAddr 35 (Operand.tmp 11) 1, type := 0, pos := "l02_tree.go:66", after := #[], guard := none } : Oper)) (v := ?_) rfl (by kernel_rfl) (by kernel_rfl) (by kernel_rfl) (fun _ _ _ h => h) (Or.inl ⟨by rfl, ?_⟩) (by assumption) ?_
                rotate_left
                · (intro w hSw; (try dsimp only at hSw); go_simp; try with_reducible rfl)
                try simp only [Act.put, List.setIfInBounds_toArray, List.set_cons_zero, List.set_cons_succ]
                refine wpAnyH_take (i := 8) (oi := ({ dst := some 55, op := Op.load 33 (Operand.tmp 54), type := 33, pos := "l02_tree.go:66", after := #[{ on := 7, ground := Ground.data }], guard := none } : Oper)) (v := ?_) rfl (by kernel_rfl) (by kernel_rfl) (by kernel_rfl) (fun _ _ _ h => h) (Or.inl ⟨by rfl, ?_⟩) (by assumption) ?_
                rotate_left
                · (intro w hSw; (try dsimp only at hSw); go_simp; try with_reducible rfl)
                try simp only [Act.put, List.setIfInBounds_toArray, List.set_cons_zero, List.set_cons_succ]
                refine wpAnyH_take (i := 9) (oi := ({ dst := some 56, op := Op.move (Operand.tmp 4), type := 2, pos := "l02_tree.go:66", after := #[], guard := none } : Oper)) (v := ?_) rfl (by kernel_rfl) (by kernel_rfl) (by kernel_rfl) (fun _ _ _ h => h) (Or.inl ⟨by rfl, ?_⟩) (by assumption) ?_
                rotate_left
                · (intro w hSw; (try dsimp only at hSw); go_simp; try with_reducible rfl)
                try simp only [Act.put, List.setIfInBounds_toArray, List.set_cons_zero, List.set_cons_succ]
                refine wpAnyH_ready (rs := [6]) (by kernel_rfl) (by simp) ?_
                refine AllReadyH.cons (o := ({ dst := some 53, op := Op.call { callee := Callee.value (Operand.func 72), args := #[Operand.tmp 50, Operand.tmp 51, Operand.tmp 52], argTypes := #[23, 33, 2] }, type := 98, pos := "l02_tree.go:66", after := #[{ on := 3, ground := Ground.data }, { on := 4, ground := Ground.data }, { on := 5, ground := Ground.data }], guard := none } : Oper)) rfl (fun K hK => ?_) AllReadyH.nil
                go_simp
                go_at_call 72
                refine (wayTo_any _ lo hi p xs xb n _ ?_ HRt.out hn64).mono ?_
                · first | exact (Hp.out.below hBD).1 | exact (Hp.out.below hBD.drew).1
                rintro e wa ⟨o, rfl, hro, hba⟩
                obtain ⟨oa2, oc2, rfl, _⟩ := owns_form hro
                have Hroa := hideT hro
                clear hro
                have hCa : Below wD.heap.size wD wa := (by first | exact hba | exact below_undrew hba)
                obtain ⟨⟨k0, _⟩, ⟨k1, _⟩, ⟨k2, _⟩, ⟨k3, _⟩, _⟩ := HT5.out.below hCa
                obtain ⟨⟨k4, _⟩, _⟩ := HBD.out.below hCa
                obtain ⟨⟨k5, _⟩, ⟨k6, _⟩⟩ := HXD.out.below hCa
                (try go_wp2_with fail)
                refine hK.out _ _ ?_ (fun hHeldN => ?_)
                · (try dsimp only)
                  go_keep
                clear hK K hHeld
                have hHeld := hHeldN
                clear hHeldN
                try simp only [Act.put, List.setIfInBounds_toArray, List.set_cons_zero, List.set_cons_succ]
                refine wpAnyH_ready (rs := [10]) (by kernel_rfl) (by simp) ?_
                refine AllReadyH.cons (o := ({ dst := some 57, op := Op.call { callee := Callee.value (Operand.func 71), args := #[Operand.tmp 48, Operand.tmp 53, Operand.tmp 55, Operand.tmp 56], argTypes := #[26, 98, 33, 2] }, type := 50, pos := "l02_tree.go:66", after := #[{ on := 1, ground := Ground.data }, { on := 6, ground := Ground.data }, { on := 8, ground := Ground.data }, { on := 9, ground := Ground.data }, { on := 6, ground := Ground.chain }], guard := none } : Oper)) rfl (fun K hK => ?_) AllReadyH.nil
                go_simp
                go_at_call 71
                refine (layAnew_any _ _ _ _ p od.pool xs xb od.ps od.pb b n _ wa (HoD.out.below hCa).at hn64 Hsm.out (Hroa.out.mono (Nat.zero_le _))).mono ?_
                rintro e wb (⟨hc6, he6, hbb⟩ | ⟨hc6, s0, s1, he6, ho6, hbb⟩)
                rotate_left
                · exact absurd hc6 HC.out

                subst he6
                have hCb := below_next hCa hbb

                obtain ⟨⟨l0, _⟩, ⟨l1, _⟩, ⟨l2, _⟩, ⟨l3, _⟩, _⟩ := HT5.out.below hCb
                obtain ⟨⟨l4, _⟩, _⟩ := HBD.out.below hCb
                obtain ⟨⟨l5, _⟩, ⟨l6, _⟩⟩ := HXD.out.below hCb
                have HR6 := hideT (HRD.out.below hCb)
                obtain ⟨⟨r0, r1⟩, ⟨r2, r3⟩, ⟨r4, r5⟩, ⟨r6, r7⟩, ⟨r8, r9⟩, ⟨r10, r11⟩⟩ := HR6.out
                have Hkeep : Hid (∀ (u0 u1 u2 u3 u4 u5 : Value), (fun (w' : World) => w'.cell? ⟨T, 0, none⟩ = some (.slice ta od.pool.n tc) ∧ w'.cell? ⟨T, 1, none⟩ = some (.slice ta' od.pool.hn tc') ∧ w'.cell? ⟨T, 2, none⟩ = some (.int .i64 od.ps) ∧ w'.cell? ⟨T, 3, none⟩ = some (.int .i64 od.pb) ∧ w'.cell? ⟨w.heap.size, 0, none⟩ = some (.slice a p.n c) ∧ w'.cell? ⟨w.heap.size + 1, 0, none⟩ = some (.int .i64 xs) ∧ w'.cell? ⟨w.heap.size + 1, 1, none⟩ = some (.int .i64 xb)) (put6 wb (w.heap.size + 1 + 1) u0 u1 u2 u3 u4 u5)) := by
                  intro u0 u1 u2 u3 u4 u5
                  have t := Turned.put6 wb (w.heap.size + 1 + 1) u0 u1 u2 u3 u4 u5
                  have g1 := (HT5.out.below hCb).turned t (by omega)
                  have g2 := (HBD.out.below hCb).turned t (by omega)
                  have g3 := (HXD.out.below hCb).turned t (by omega)
                  exact ⟨g1.1.1, g1.2.1.1, g1.2.2.1.1, g1.2.2.2.1.1, g2.1.1, g3.1.1, g3.2.1⟩
                (try go_wp2_with fail)
                refine hK.out _ _ ?_ (fun hHeldN => ?_)
                · (try dsimp only)
                  go_keep
                clear hK K hHeld
                have hHeld := hHeldN
                clear hHeldN
                try simp only [Act.put, List.setIfInBounds_toArray, List.set_cons_zero, List.set_cons_succ]
                refine wpAnyH_ready (rs := [11]) (by kernel_rfl) (by simp) ?_
                refine AllReadyH.cons (o := ({ dst := none, op := Op.store 50 (Operand.tmp 10) (Operand.tmp 57), type := 0, pos := "l02_tree.go:66", after := #[{ on := 10, ground := Ground.data }, { on := 10, ground := Ground.chain }, { on := 0, ground := Ground.phase }, { on := 1, ground := Ground.phase }, { on := 2, ground := Ground.phase }, { on := 3, ground := Ground.phase }, { on := 4, ground := Ground.phase }, { on := 5, ground := Ground.phase }, { on := 6, ground := Ground.phase }, { on := 7, ground := Ground.phase }, { on := 8, ground := Ground.phase }, { on := 9, ground := Ground.phase }, { on := 10, ground := Ground.phase }], guard := none } : Oper)) rfl (fun K hK => ?_) AllReadyH.nil
                go_simp

                (try go_wp2_with fail)
                refine hK.out _ _ ?_ (fun hHeldN => ?_)
                · (try dsimp only)
                  exact Hkeep.out _ _ _ _ _ _
                clear hK K hHeld
                have hHeld := hHeldN
                clear hHeldN
                try simp only [Act.put, List.setIfInBounds_toArray, List.set_cons_zero, List.set_cons_succ]
                refine wpAnyH_done (by kernel_rfl) ?_ _
                have HR8 := HR6.out.put (.slice none 0 0) (.slice none 0 0) (.int .i64 0) (.int .i64 0) (.slice none 0 0) (.int .i64 (layP p xs xb n b ⟨od.pool, od.ps, od.pb, 0⟩).code)
                have hpr := err_ret (R := w.heap.size + 1 + 1) (c := (layP p xs xb n b ⟨od.pool, od.ps, od.pb, 0⟩).code) (by omega) (below_next hBD hCb)
                have Hpr := hideT hpr
                clear hHeld Hkeep l0 l1 l2 l3 l4 l5 l6 k0 k1 k2 k3 k4 k5 k6 hpr
                go_wp2
                have hE := HEl.out.trans (lay_code HC.out)
                rw [hE]
                exact bodyPost_ret (v := .agg #[.slice none 0 0, .slice none 0 0, .int .i64 0, .int .i64 0, .slice none 0 0, .int .i64 (layP p xs xb n b ⟨od.pool, od.ps, od.pb, 0⟩).code]) (by simp [results, Try.results21, go_sem, HR8.1.1, HR8.2.1.1, HR8.2.2.1.1, HR8.2.2.2.1.1, HR8.2.2.2.2.1.1, HR8.2.2.2.2.2.1]) rfl Hpr.out
            · have hne : (od.code != 0) = true := by simp [hc]
              have HEl := hideT (HE1.out hc)
              clear hc HE1 HE2
              obtain ⟨⟨r0, r1⟩, ⟨r2, r3⟩, ⟨r4, r5⟩, ⟨r6, r7⟩, ⟨r8, r9⟩, ⟨r10, r11⟩⟩ := HRD.out
              try go_wp2
              have HR8 := HRD.out.put (.slice none 0 0) (.slice none 0 0) (.int .i64 0) (.int .i64 0) (.slice none 0 0) (.int .i64 od.code)
              have hpr := err_ret (R := w.heap.size + 1 + 1) (c := od.code) (by omega) hBD
              rw [HEl.out]
              exact bodyPost_ret (v := .agg #[.slice none 0 0, .slice none 0 0, .int .i64 0, .int .i64 0, .slice none 0 0, .int .i64 od.code]) (by simp [results, Try.results21, go_sem, HR8.1.1, HR8.2.1.1, HR8.2.2.1.1, HR8.2.2.2.1.1, HR8.2.2.2.2.1.1, HR8.2.2.2.2.2.1]) rfl hpr
          · have HPD : Hid (¬ (PageNo (n : Int) ∧ d.size = 16)) := fun h => hd16 h.2
            have hd2 : ((d.size : Int) != 16) = true := by simp; omega
            clear hd16
            go_wp2_with (first | (go_at_call 70; refine (pageNumber_any _ _).mono ?_; rintro e w9 ⟨⟨t2, rfl, ht2⟩, rfl⟩; obtain rfl : t2 = true := ht2.2 HNo.out; clear ht2) | fail)
            obtain ⟨⟨r0, r1⟩, ⟨r2, r3⟩, ⟨r4, r5⟩, ⟨r6, r7⟩, ⟨r8, r9⟩, ⟨r10, r11⟩⟩ := HR2.out
            try go_wp2
            have HR8 := HR2.out.put (.slice none 0 0) (.slice none 0 0) (.int .i64 0) (.int .i64 0) (.slice none 0 0) (.int .i64 8)
            have hpr := err_ret (R := w.heap.size + 1 + 1) (c := 8) (by omega) hB2
            rw [write_range Hd0.out HTB.out HPD.out]
            exact bodyPost_ret (v := .agg #[.slice none 0 0, .slice none 0 0, .int .i64 0, .int .i64 0, .slice none 0 0, .int .i64 8]) (by simp [results, Try.results21, go_sem, HR8.1.1, HR8.2.1.1, HR8.2.2.1.1, HR8.2.2.2.1.1, HR8.2.2.2.2.1.1, HR8.2.2.2.2.2.1]) rfl hpr
        · have HNo := hideT hN
          clear hN
          go_wp2_with (first | (go_at_call 70; refine (pageNumber_any _ _).mono ?_; rintro e w9 ⟨⟨t2, rfl, ht2⟩, rfl⟩; obtain rfl : t2 = false := bool_no ht2 HNo.out; clear ht2) | fail)
          obtain ⟨⟨r0, r1⟩, ⟨r2, r3⟩, ⟨r4, r5⟩, ⟨r6, r7⟩, ⟨r8, r9⟩, ⟨r10, r11⟩⟩ := HR2.out
          try go_wp2
          have HR8 := HR2.out.put (.slice none 0 0) (.slice none 0 0) (.int .i64 0) (.int .i64 0) (.slice none 0 0) (.int .i64 8)
          have hpr := err_ret (R := w.heap.size + 1 + 1) (c := 8) (by omega) hB2
          rw [write_range Hd0.out HTB.out (fun h => HNo.out h.1)]
          exact bodyPost_ret (v := .agg #[.slice none 0 0, .slice none 0 0, .int .i64 0, .int .i64 0, .slice none 0 0, .int .i64 8]) (by simp [results, Try.results21, go_sem, HR8.1.1, HR8.2.1.1, HR8.2.2.1.1, HR8.2.2.2.1.1, HR8.2.2.2.2.1.1, HR8.2.2.2.2.2.1]) rfl hpr
      · have HBo := hideT hBo
        obtain rfl : t = false := bool_no ht hBo
        clear ht hBo
        obtain ⟨⟨r0, r1⟩, ⟨r2, r3⟩, ⟨r4, r5⟩, ⟨r6, r7⟩, ⟨r8, r9⟩, ⟨r10, r11⟩⟩ := HR2.out
        try go_wp2
        have HR8 := HR2.out.put (.slice none 0 0) (.slice none 0 0) (.int .i64 0) (.int .i64 0) (.slice none 0 0) (.int .i64 1)
        have hpr := err_ret (R := w.heap.size + 1 + 1) (c := 1) (by omega) hB2
        rw [write_form Hd0.out (fun h => HBo.out h.2)]
        exact bodyPost_ret (v := .agg #[.slice none 0 0, .slice none 0 0, .int .i64 0, .int .i64 0, .slice none 0 0, .int .i64 1]) (by simp [results, Try.results21, go_sem, HR8.1.1, HR8.2.1.1, HR8.2.2.1.1, HR8.2.2.2.1.1, HR8.2.2.2.2.1.1, HR8.2.2.2.2.2.1]) rfl hpr
    · have HRt := hideT hRt
      obtain rfl : t = false := bool_no ht hRt
      clear ht hRt
      obtain ⟨⟨r0, r1⟩, ⟨r2, r3⟩, ⟨r4, r5⟩, ⟨r6, r7⟩, ⟨r8, r9⟩, ⟨r10, r11⟩⟩ := HR1.out
      try go_wp2
      have HR8 := HR1.out.put (.slice none 0 0) (.slice none 0 0) (.int .i64 0) (.int .i64 0) (.slice none 0 0) (.int .i64 1)
      have hpr := err_ret (R := w.heap.size + 1 + 1) (c := 1) (by omega) hB1
      rw [write_form Hd0.out (fun h => HRt.out h.1)]
      exact bodyPost_ret (v := .agg #[.slice none 0 0, .slice none 0 0, .int .i64 0, .int .i64 0, .slice none 0 0, .int .i64 1]) (by simp [results, Try.results21, go_sem, HR8.1.1, HR8.2.1.1, HR8.2.2.1.1, HR8.2.2.2.1.1, HR8.2.2.2.2.1.1, HR8.2.2.2.2.2.1]) rfl hpr

end Go.Proofs.Ytikhipekmlhibaa

namespace Go.Proofs.Ytikhipekmlhibaa
open Go Go.RowKit
set_option linter.unusedVariables false

theorem lay_pool (p : PoolD) (xs xb : Int) (n : Nat) (b : Int) (o : OutD) : poolN (layP p xs xb n b o).pool ≤ poolN o.pool + 16 ∧ (layP p xs xb n b o).old.length ≤ 3 := by
  have h2 := lay_small p xs xb n b o 2
  have h3 : (oldW p xs xb n 3).length ≤ 3 := kidsUp_len _ _ 3
  unfold layP
  split
  · exact ⟨Nat.zero_le _, Nat.zero_le _⟩
  · split
    · exact ⟨Nat.zero_le _, Nat.zero_le _⟩
    · exact ⟨by show poolN (layS p xs xb n b o 2).pool ≤ _; omega, h3⟩
theorem write_small (p : PoolD) (xs xb page : Int) (d : ByteArray) (b : Int) : poolN (writeT p xs xb page d b).pool ≤ poolN p + 40 ∧ (writeT p xs xb page d b).old.length ≤ 3 := by
  unfold writeT
  split
  · exact ⟨Nat.zero_le _, Nat.zero_le _⟩
  · split
    · split
      · rename_i hd
        split
        · have h1 := lay_pool p xs xb page.toNat b ⟨(takeP p (slotG b d)).pool, (takeP p (slotG b d)).ps, (takeP p (slotG b d)).pb, 0⟩
          have h2 := take_small p (slotG b d)
          have h3 : slotN (slotG b d) = 16 := by show 0 + d.size = 16; rw [hd.2]
          exact ⟨by have h4 := h1.1; simp only at h4; omega, h1.2⟩
        · exact ⟨Nat.zero_le _, Nat.zero_le _⟩
      · exact ⟨Nat.zero_le _, Nat.zero_le _⟩
    · exact ⟨Nat.zero_le _, Nat.zero_le _⟩
theorem trim_small (p : PoolD) (xs xb page b : Int) : poolN (trimT p xs xb page b).pool ≤ poolN p + 40 ∧ (trimT p xs xb page b).old.length ≤ 3 := by
  unfold trimT
  split
  · split
    · split
      · exact ⟨Nat.zero_le _, Nat.zero_le _⟩
      · have h1 := lay_pool p xs xb page.toNat b ⟨p, 0, 0, 0⟩
        exact ⟨by have h4 := h1.1; simp only at h4; omega, h1.2⟩
    · exact ⟨Nat.zero_le _, Nat.zero_le _⟩
  · exact ⟨Nat.zero_le _, Nat.zero_le _⟩

end Go.Proofs.Ytikhipekmlhibaa
