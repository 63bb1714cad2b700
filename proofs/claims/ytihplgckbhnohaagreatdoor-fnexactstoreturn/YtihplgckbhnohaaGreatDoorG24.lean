/- What spec.StoreRight answers. -/
import Derived.Test.YtihplgckbhnohaaGreatDoorG3
import Derived.Test.YtihplgckbhnohaaGreatDoorG2
import Derived.Test.YtihplgckbhnohaaGreatDoorG10
import Derived.Test.YtihplgckbhnohaaGreatDoorG19
import Derived.Test.YtihplgckbhnohaaGreatDoorG23
import Derived.WideKeyEntry
import Derived.Test.YtihplgckbhnohaaGreatDoorG14
import Derived.Test.YtihplgckbhnohaaGreatDoorG6
import Derived.Test.YtihplgckbhnohaaGreatDoorG9
namespace Go.Proofs.YtihplgckbhnohaaGreatDoor
open Go.RowKit Go.Maps
set_option linter.unusedVariables false
structure StoreOk (S:StoreD):Prop where
 live:SpecW S.live
 safe:SpecW S.safe
 many:S.live.pool.n=S.safe.pool.n
 held:S.safe.pool.hn=0
 time:S.safe.time≤S.live.time
 next:S.safe.next≤S.live.next
 slots:∀i,i<S.safe.pool.n→¬Free (S.safe.pool.s i)→SlotEq (S.safe.pool.s i) (S.live.pool.s i)
set_option maxRecDepth 20000 in
set_option maxHeartbeats 4000000 in
theorem specStoreRight_any(v0 v1 v2 v3 sv0 sv1 sv2 sv3:Value)(lo hi:Nat)(S:StoreD)(w:World)(h:StoreAt w lo hi v0 v1 v2 v3 sv0 sv1 sv2 sv3 S) :
  Calls Tryz.prog 23 #[storeV v0 v1 v2 v3 sv0 sv1 sv2 sv3 S] w fun e w'=>BoolIs (StoreOk S) e∧Below w.heap.size w w':=by
 have Hp:=hideW h
 obtain⟨m1,la,lc,rfl,ml,-⟩:=id h.live.pool.1
 obtain⟨m2,sa,sc,rfl,ms,-⟩:=id h.safe.pool.1
 obtain⟨m3,ha,hc,rfl,mh,-⟩:=id h.safe.pool.2
 unfold maxLen at m1 m2 m3
 clear h
 have hal:=below_alloc w (.cells #[.slice la S.live.pool.n lc,v1,.int .i64 S.live.time,.int .i64 S.live.next,v2,v3,.slice sa S.safe.pool.n sc,.slice ha S.safe.pool.hn hc,.int .i64 S.safe.time,.int .i64 S.safe.next,sv2,sv3] 41)
 have HB:=hideW (Box12.new w (.slice la S.live.pool.n lc) v1 (.int .i64 S.live.time) (.int .i64 S.live.next) v2 v3 (.slice sa S.safe.pool.n sc) (.slice ha S.safe.pool.hn hc) (.int .i64 S.safe.time) (.int .i64 S.safe.next) sv2 sv3 41)
 obtain⟨⟨x0,-⟩,⟨x1,-⟩,⟨x2,-⟩,⟨x3,-⟩,⟨x4,-⟩,⟨x5,-⟩,⟨x6,-⟩,⟨x7,-⟩,⟨x8,-⟩,⟨x9,-⟩,⟨x10,-⟩,⟨x11,-⟩⟩:=HB.out
 go_enter Tryz.func23,Tryz.ntmps23
 go_wp2_with fail
 generalize w.alloc (.cells #[.slice la S.live.pool.n lc,v1,.int .i64 S.live.time,.int .i64 S.live.next,v2,v3,.slice sa S.safe.pool.n sc,.slice ha S.safe.pool.hn hc,.int .i64 S.safe.time,.int .i64 S.safe.next,sv2,sv3] 41)=W0 at hal HB x0 x1 x2 x3 x4 x5 x6 x7 x8 x9 x10 x11 ⊢
 refine(specWorldRight_any _ _ _ _ lo hi S.live W0 (Hp.out.live.below hal)).mono ?_
 rintro e w1 ⟨⟨t,rfl,ht⟩,hb1⟩
 have Ht:=hideW ht
 have hB1:=below_next hal hb1
 have HB1:=hideW (HB.out.below hb1)
 clear ht x0 x1 x2 x3 x4 x5 x6 x7 x8 x9 x10 x11 hb1 hal HB
 obtain⟨⟨x0,-⟩,⟨x1,-⟩,⟨x2,-⟩,⟨x3,-⟩,⟨x4,-⟩,⟨x5,-⟩,⟨x6,-⟩,⟨x7,-⟩,⟨x8,-⟩,⟨x9,-⟩,⟨x10,-⟩,⟨x11,-⟩⟩:=HB1.out
 cases t
 ·go_wp2
  go_ret
  exact⟨BoolIs.no fun h=>absurd (Ht.out.2 h.live) (by simp),hB1⟩
 have HL:=hideW (Ht.out.1 rfl)
 clear Ht
 go_wp2_with fail
 refine(specWorldRight_any _ _ _ _ lo hi S.safe w1 (Hp.out.safe.below hB1)).mono ?_
 rintro e w2 ⟨⟨t,rfl,ht⟩,hb2⟩
 have Ht:=hideW ht
 have hB2:=below_next hB1 hb2
 have HB2:=hideW (HB1.out.below hb2)
 clear ht x0 x1 x2 x3 x4 x5 x6 x7 x8 x9 x10 x11 hb2 hB1 HB1
 obtain⟨⟨x0,-⟩,⟨x1,-⟩,⟨x2,-⟩,⟨x3,-⟩,⟨x4,-⟩,⟨x5,-⟩,⟨x6,-⟩,⟨x7,-⟩,⟨x8,-⟩,⟨x9,-⟩,⟨x10,-⟩,⟨x11,-⟩⟩:=HB2.out
 cases t
 ·go_wp2
  go_ret
  exact⟨BoolIs.no fun h=>absurd (Ht.out.2 h.safe) (by simp),hB2⟩
 have HF:=hideW (Ht.out.1 rfl)
 clear Ht
 by_cases e1:S.live.pool.n=S.safe.pool.n
 rotate_left
 ·obtain⟨i1,i2,i3⟩:=int_spelt (show ¬(S.live.pool.n:Int)=(S.safe.pool.n:Int)by omega)
  have H:=hideW e1
  clear e1
  go_wp2
  go_ret
  exact⟨BoolIs.no fun h=>H.out h.many,hB2⟩
 obtain⟨i1,i2,i3⟩:=int_spell (show(S.live.pool.n:Int)=(S.safe.pool.n:Int)by omega)
 have E1:=hideW e1
 clear e1
 by_cases e2:S.safe.pool.hn=0
 rotate_left
 ·have i4:(0:Int)<(S.safe.pool.hn:Int):=by omega
  have H:=hideW e2
  clear e2
  go_wp2
  go_ret
  exact⟨BoolIs.no fun h=>H.out h.held,hB2⟩
 have i4:¬(0:Int)<(S.safe.pool.hn:Int):=by omega
 have E2:=hideW e2
 clear e2
 by_cases e3:S.live.time<S.safe.time
 ·have H:=hideW e3
  go_wp2
  go_ret
  exact⟨BoolIs.no fun h=>by have:=h.time; have:=H.out; omega,hB2⟩
 have E3:=hideW (show S.safe.time≤S.live.time by omega)
 by_cases e4:S.live.next<S.safe.next
 ·have H:=hideW e4
  go_wp2
  go_ret
  exact⟨BoolIs.no fun h=>by have:=h.next; have:=H.out; omega,hB2⟩
 have E4:=hideW (show S.safe.next≤S.live.next by omega)
 go_wp2
 clear x0 x1 x2 x3 x4 x5 x6 x7 x8 x9 x10 x11 i1 i2 i3 i4 e3 e4
 go_loopw [3] (fun i wr=>∃k:Nat,k≤S.safe.pool.n∧i = .int .i64 k∧(∀j,j<k→¬Free (S.safe.pool.s j)→SlotEq (S.safe.pool.s j) (S.live.pool.s j))∧Box12 wr w.heap.size (.slice la S.live.pool.n lc) v1 (.int .i64 S.live.time) (.int .i64 S.live.next) v2 v3 (.slice sa S.safe.pool.n sc) (.slice ha S.safe.pool.hn hc) (.int .i64 S.safe.time) (.int .i64 S.safe.next) sv2 sv3∧Below w.heap.size w wr) (fun i _=>S.safe.pool.n - (intOf i).toNat)
 case atStart=>exact⟨0,Nat.zero_le _,rfl,fun j h=>absurd h (Nat.not_lt_zero _),HB2.out,hB2⟩
 case round=>
  obtain⟨k,hk,rfl,hall,hX,hb⟩:=hrel
  have Hall:=hideW hall
  have HX:=hideW hX
  clear hall hX
  by_cases hlt:k<S.safe.pool.n
  ·have hlt':(k:Int)<(S.safe.pool.n:Int):=by omega
   have hlt2:k<S.live.pool.n:=by have:=E1.out; omega
   have hlt3:(k:Int)<(S.live.pool.n:Int):=by omega
   obtain⟨b,off,ka,kc,rfl,hs⟩:=(Hp.out.safe.pool.1.below hb).cells hlt
   obtain⟨b',off',pa,pc,rfl,hs'⟩:=(Hp.out.live.pool.1.below hb).cells hlt2
   obtain⟨q0,q1,q2,hsl⟩:=hs
   obtain⟨r0,r1,r2,hsl'⟩:=hs'
   have hal:=below_alloc wr (.cells #[.int .i64 (S.safe.pool.s k).birth,.slice ka (S.safe.pool.s k).kn kc,.string (S.safe.pool.s k).data] 66)
   have HV:=hideW (Box3.new wr (.int .i64 (S.safe.pool.s k).birth) (.slice ka (S.safe.pool.s k).kn kc) (.string (S.safe.pool.s k).data) 66)
   have HXs:=hideW (HX.out.below hal)
   have HSl:=hideW (hsl.below hal)
   have HSl':=hideW (hsl'.below hal)
   have hbs:=below_next hb hal
   have R0:=(hal.cell (lt_of_cell r0)).trans r0
   have R1:=(hal.cell (lt_of_cell r1)).trans r1
   have R2:=(hal.cell (lt_of_cell r2)).trans r2
   clear hsl hsl' r0 r1 r2
   obtain⟨⟨x0,-⟩,⟨x1,-⟩,⟨x2,-⟩,⟨x3,-⟩,⟨x4,-⟩,⟨x5,-⟩,⟨x6,-⟩,⟨x7,-⟩,⟨x8,-⟩,⟨x9,-⟩,⟨x10,-⟩,⟨x11,-⟩⟩:=HX.out
   obtain⟨⟨z0,-⟩,⟨z1,-⟩,⟨z2,-⟩⟩:=HV.out
   go_wp2_with fail
   clear x0 x1 x2 x3 x4 x5 x6 x7 x8 x9 x10 x11 q0 q1 q2 hal
   generalize wr.alloc (.cells #[.int .i64 (S.safe.pool.s k).birth,.slice ka (S.safe.pool.s k).kn kc,.string (S.safe.pool.s k).data] 66)=W5 at HV HXs HSl HSl' hbs R0 R1 R2 z0 z1 z2 ⊢
   generalize wr.heap.size=V at HV z0 z1 z2 ⊢
   obtain⟨⟨x0,-⟩,⟨x1,-⟩,⟨x2,-⟩,⟨x3,-⟩,⟨x4,-⟩,⟨x5,-⟩,⟨x6,-⟩,⟨x7,-⟩,⟨x8,-⟩,⟨x9,-⟩,⟨x10,-⟩,⟨x11,-⟩⟩:=HXs.out
   by_cases hfr:Free (S.safe.pool.s k)
   ·have Hfr:=hideW hfr
    clear hfr
    refine wp_region_held_drew (S:=(fun w'=>w'.cell? ⟨w.heap.size,0,none⟩=some (.slice (some ⟨b',off',none⟩) S.live.pool.n lc)∧w'.cell? ⟨w.heap.size,1,none⟩=some (v1)∧w'.cell? ⟨w.heap.size,2,none⟩=some (.int .i64 S.live.time)∧w'.cell? ⟨w.heap.size,3,none⟩=some (.int .i64 S.live.next)∧w'.cell? ⟨w.heap.size,4,none⟩=some (v2)∧w'.cell? ⟨w.heap.size,5,none⟩=some (v3)∧w'.cell? ⟨w.heap.size,6,none⟩=some (.slice (some ⟨b,off,none⟩) S.safe.pool.n sc)∧w'.cell? ⟨w.heap.size,7,none⟩=some (.slice ha S.safe.pool.hn hc)∧w'.cell? ⟨w.heap.size,8,none⟩=some (.int .i64 S.safe.time)∧w'.cell? ⟨w.heap.size,9,none⟩=some (.int .i64 S.safe.next)∧w'.cell? ⟨w.heap.size,10,none⟩=some (sv2)∧w'.cell? ⟨w.heap.size,11,none⟩=some (sv3)∧w'.cell? ⟨V,0,none⟩=some (.int .i64 (S.safe.pool.s k).birth)∧w'.cell? ⟨V,1,none⟩=some (.slice ka (S.safe.pool.s k).kn kc)∧w'.cell? ⟨V,2,none⟩=some (.string (S.safe.pool.s k).data)∧w'.cell? ⟨b',off'+k*3,none⟩=some (.int .i64 (S.live.pool.s k).birth)∧w'.cell? ⟨b',off'+k*3+1,none⟩=some (.slice pa (S.live.pool.s k).kn pc)∧w'.cell? ⟨b',off'+k*3+2,none⟩=some (.string (S.live.pool.s k).data))) (by kernel_rfl) ?_ (fun hHeld=>?_)
    ·(try dsimp only)
     go_keep
    refine tk 0 (h:=?_)
    refine rd [1] (rc (fun K hK=>?_) .nil)
    go_simp
    go_at_call 28
    refine(l01Free_any _ _ _ lo hi (S.safe.pool.s k) _ ?_).mono ?_
    ·exact HSl.out.below (below_drewN (Below.refl _ _) 1)
    rintro e w6 ⟨⟨t6,rfl,ht6⟩,hb6⟩
    obtain rfl:t6=true:=ht6.2 Hfr.out
    clear ht6
    have hC6:Below W5.heap.size W5 w6:=(by first | exact hb6 | exact below_undrew hb6)
    obtain⟨⟨m0,-⟩,⟨m1,-⟩,⟨m2,-⟩,⟨m3,-⟩,⟨m4,-⟩,⟨m5,-⟩,⟨m6,-⟩,⟨m7,-⟩,⟨m8,-⟩,⟨m9,-⟩,⟨m10,-⟩,⟨m11,-⟩⟩:=HXs.out.below hC6
    obtain⟨⟨Z0,-⟩,⟨Z1,-⟩,⟨Z2,-⟩⟩:=HV.out.below hC6
    have RR0:=(hC6.cell (lt_of_cell R0)).trans R0
    have RR1:=(hC6.cell (lt_of_cell R1)).trans R1
    have RR2:=(hC6.cell (lt_of_cell R2)).trans R2
    (try go_wp2_with fail)
    refine hK.out _ _ (by(try dsimp only); go_keep) ?_
    clear hK K hHeld
    intro hHeld
    try simp only [Act.put,s1,s2,s3]
    refine tk 2 (h:=tk 3 (h:=ts 4 (h:=ts 5 (h:=ts 6 (h:=ts 7 (h:=ts 8 (h:=ts 9 (h:=ts 10 (h:=ts 11 (h:=?_))))))))))
    refine rd [12] (rc (fun K hK=>?_) .nil)
    split
    ·rename_i hwt
     exact absurd (show false=true from hwt) Bool.false_ne_true
    refine hK.out _ _ (by assumption) (fun hHeld=>?_)
    clear hK K
    try simp only [Act.put,s1,s2,s3]
    refine ts 13 (h:=tk 14 (h:=?_))
    refine wpAnyH_done (by kernel_rfl) ?_ _
    go_wp2
    go_roundw
    case rel=>
     refine⟨k+1,by omega,by go_num,?_,HXs.out.below hC6,below_next hbs hC6⟩
     intro j hj hn
     by_cases e:j=k
     ·subst e; exact absurd Hfr.out hn
     ·exact Hall.out j (by omega) hn
    case measure=>simp [intOf]; omega
   ·have Hfr:=hideW hfr
    clear hfr
    by_cases hq:SlotEq (S.safe.pool.s k) (S.live.pool.s k)
    ·have Hq:=hideW hq
     clear hq
     refine wp_region_held_drew (S:=(fun w'=>w'.cell? ⟨w.heap.size,0,none⟩=some (.slice (some ⟨b',off',none⟩) S.live.pool.n lc)∧w'.cell? ⟨w.heap.size,1,none⟩=some (v1)∧w'.cell? ⟨w.heap.size,2,none⟩=some (.int .i64 S.live.time)∧w'.cell? ⟨w.heap.size,3,none⟩=some (.int .i64 S.live.next)∧w'.cell? ⟨w.heap.size,4,none⟩=some (v2)∧w'.cell? ⟨w.heap.size,5,none⟩=some (v3)∧w'.cell? ⟨w.heap.size,6,none⟩=some (.slice (some ⟨b,off,none⟩) S.safe.pool.n sc)∧w'.cell? ⟨w.heap.size,7,none⟩=some (.slice ha S.safe.pool.hn hc)∧w'.cell? ⟨w.heap.size,8,none⟩=some (.int .i64 S.safe.time)∧w'.cell? ⟨w.heap.size,9,none⟩=some (.int .i64 S.safe.next)∧w'.cell? ⟨w.heap.size,10,none⟩=some (sv2)∧w'.cell? ⟨w.heap.size,11,none⟩=some (sv3)∧w'.cell? ⟨V,0,none⟩=some (.int .i64 (S.safe.pool.s k).birth)∧w'.cell? ⟨V,1,none⟩=some (.slice ka (S.safe.pool.s k).kn kc)∧w'.cell? ⟨V,2,none⟩=some (.string (S.safe.pool.s k).data)∧w'.cell? ⟨b',off'+k*3,none⟩=some (.int .i64 (S.live.pool.s k).birth)∧w'.cell? ⟨b',off'+k*3+1,none⟩=some (.slice pa (S.live.pool.s k).kn pc)∧w'.cell? ⟨b',off'+k*3+2,none⟩=some (.string (S.live.pool.s k).data))) (by kernel_rfl) ?_ (fun hHeld=>?_)
     ·(try dsimp only)
      go_keep
     refine tk 0 (h:=?_)
     refine rd [1] (rc (fun K hK=>?_) .nil)
     go_simp
     go_at_call 28
     refine(l01Free_any _ _ _ lo hi (S.safe.pool.s k) _ ?_).mono ?_
     ·exact HSl.out.below (below_drewN (Below.refl _ _) 1)
     rintro e w6 ⟨⟨t6,rfl,ht6⟩,hb6⟩
     obtain rfl:t6=false:=bool_no ht6 Hfr.out
     clear ht6
     have hC6:Below W5.heap.size W5 w6:=(by first | exact hb6 | exact below_undrew hb6)
     obtain⟨⟨m0,-⟩,⟨m1,-⟩,⟨m2,-⟩,⟨m3,-⟩,⟨m4,-⟩,⟨m5,-⟩,⟨m6,-⟩,⟨m7,-⟩,⟨m8,-⟩,⟨m9,-⟩,⟨m10,-⟩,⟨m11,-⟩⟩:=HXs.out.below hC6
     obtain⟨⟨Z0,-⟩,⟨Z1,-⟩,⟨Z2,-⟩⟩:=HV.out.below hC6
     have RR0:=(hC6.cell (lt_of_cell R0)).trans R0
     have RR1:=(hC6.cell (lt_of_cell R1)).trans R1
     have RR2:=(hC6.cell (lt_of_cell R2)).trans R2
     (try go_wp2_with fail)
     refine hK.out _ _ (by(try dsimp only); go_keep) ?_
     clear hK K hHeld
     intro hHeld
     try simp only [Act.put,s1,s2,s3]
     refine tk 2 (h:=tk 3 (h:=tk 4 (h:=tk 5 (h:=tk 6 (h:=tk 7 (h:=tk 8 (h:=tk 9 (h:=tk 10 (h:=tk 11 (h:=?_))))))))))
     refine rd [12] (rc (fun K hK=>?_) .nil)
     go_simp
     go_at_call 43
     refine(l07Same_any lo hi lo hi (S.safe.pool.s k) (S.live.pool.s k) ka pa kc pc _ ?_ ?_).mono ?_
     ·exact HSl.out.below hC6
     ·exact HSl'.out.below hC6
     rintro e w7 ⟨⟨t7,rfl,ht7⟩,hb7⟩
     obtain rfl:t7=true:=ht7.2 Hq.out
     clear ht7
     have hC7:=below_next hC6 hb7
     obtain⟨⟨n0,-⟩,⟨n1,-⟩,⟨n2,-⟩,⟨n3,-⟩,⟨n4,-⟩,⟨n5,-⟩,⟨n6,-⟩,⟨n7,-⟩,⟨n8,-⟩,⟨n9,-⟩,⟨n10,-⟩,⟨n11,-⟩⟩:=HXs.out.below hC7
     obtain⟨⟨y0,-⟩,⟨y1,-⟩,⟨y2,-⟩⟩:=HV.out.below hC7
     have sq0:=(hC7.cell (lt_of_cell R0)).trans R0
     have sq1:=(hC7.cell (lt_of_cell R1)).trans R1
     have sq2:=(hC7.cell (lt_of_cell R2)).trans R2
     (try go_wp2_with fail)
     refine hK.out _ _ (by(try dsimp only); go_keep) ?_
     clear hK K hHeld
     intro hHeld
     try simp only [Act.put,s1,s2,s3]
     refine tk 13 (h:=tk 14 (h:=?_))
     refine wpAnyH_done (by kernel_rfl) ?_ _
     go_wp2
     go_roundw
     case rel=>
      refine⟨k+1,by omega,by go_num,?_,HXs.out.below hC7,below_next hbs hC7⟩
      intro j hj hn
      by_cases e:j=k
      ·subst e; exact Hq.out
      ·exact Hall.out j (by omega) hn
     case measure=>simp [intOf]; omega
    ·have Hq:=hideW hq
     clear hq
     refine wp_region_held_drew (S:=(fun w'=>w'.cell? ⟨w.heap.size,0,none⟩=some (.slice (some ⟨b',off',none⟩) S.live.pool.n lc)∧w'.cell? ⟨w.heap.size,1,none⟩=some (v1)∧w'.cell? ⟨w.heap.size,2,none⟩=some (.int .i64 S.live.time)∧w'.cell? ⟨w.heap.size,3,none⟩=some (.int .i64 S.live.next)∧w'.cell? ⟨w.heap.size,4,none⟩=some (v2)∧w'.cell? ⟨w.heap.size,5,none⟩=some (v3)∧w'.cell? ⟨w.heap.size,6,none⟩=some (.slice (some ⟨b,off,none⟩) S.safe.pool.n sc)∧w'.cell? ⟨w.heap.size,7,none⟩=some (.slice ha S.safe.pool.hn hc)∧w'.cell? ⟨w.heap.size,8,none⟩=some (.int .i64 S.safe.time)∧w'.cell? ⟨w.heap.size,9,none⟩=some (.int .i64 S.safe.next)∧w'.cell? ⟨w.heap.size,10,none⟩=some (sv2)∧w'.cell? ⟨w.heap.size,11,none⟩=some (sv3)∧w'.cell? ⟨V,0,none⟩=some (.int .i64 (S.safe.pool.s k).birth)∧w'.cell? ⟨V,1,none⟩=some (.slice ka (S.safe.pool.s k).kn kc)∧w'.cell? ⟨V,2,none⟩=some (.string (S.safe.pool.s k).data)∧w'.cell? ⟨b',off'+k*3,none⟩=some (.int .i64 (S.live.pool.s k).birth)∧w'.cell? ⟨b',off'+k*3+1,none⟩=some (.slice pa (S.live.pool.s k).kn pc)∧w'.cell? ⟨b',off'+k*3+2,none⟩=some (.string (S.live.pool.s k).data))) (by kernel_rfl) ?_ (fun hHeld=>?_)
     ·(try dsimp only)
      go_keep
     refine tk 0 (h:=?_)
     refine rd [1] (rc (fun K hK=>?_) .nil)
     go_simp
     go_at_call 28
     refine(l01Free_any _ _ _ lo hi (S.safe.pool.s k) _ ?_).mono ?_
     ·exact HSl.out.below (below_drewN (Below.refl _ _) 1)
     rintro e w6 ⟨⟨t6,rfl,ht6⟩,hb6⟩
     obtain rfl:t6=false:=bool_no ht6 Hfr.out
     clear ht6
     have hC6:Below W5.heap.size W5 w6:=(by first | exact hb6 | exact below_undrew hb6)
     obtain⟨⟨m0,-⟩,⟨m1,-⟩,⟨m2,-⟩,⟨m3,-⟩,⟨m4,-⟩,⟨m5,-⟩,⟨m6,-⟩,⟨m7,-⟩,⟨m8,-⟩,⟨m9,-⟩,⟨m10,-⟩,⟨m11,-⟩⟩:=HXs.out.below hC6
     obtain⟨⟨Z0,-⟩,⟨Z1,-⟩,⟨Z2,-⟩⟩:=HV.out.below hC6
     have RR0:=(hC6.cell (lt_of_cell R0)).trans R0
     have RR1:=(hC6.cell (lt_of_cell R1)).trans R1
     have RR2:=(hC6.cell (lt_of_cell R2)).trans R2
     (try go_wp2_with fail)
     refine hK.out _ _ (by(try dsimp only); go_keep) ?_
     clear hK K hHeld
     intro hHeld
     try simp only [Act.put,s1,s2,s3]
     refine tk 2 (h:=tk 3 (h:=tk 4 (h:=tk 5 (h:=tk 6 (h:=tk 7 (h:=tk 8 (h:=tk 9 (h:=tk 10 (h:=tk 11 (h:=?_))))))))))
     refine rd [12] (rc (fun K hK=>?_) .nil)
     go_simp
     go_at_call 43
     refine(l07Same_any lo hi lo hi (S.safe.pool.s k) (S.live.pool.s k) ka pa kc pc _ ?_ ?_).mono ?_
     ·exact HSl.out.below hC6
     ·exact HSl'.out.below hC6
     rintro e w7 ⟨⟨t7,rfl,ht7⟩,hb7⟩
     obtain rfl:t7=false:=bool_no ht7 Hq.out
     clear ht7
     have hC7:=below_next hC6 hb7
     obtain⟨⟨n0,-⟩,⟨n1,-⟩,⟨n2,-⟩,⟨n3,-⟩,⟨n4,-⟩,⟨n5,-⟩,⟨n6,-⟩,⟨n7,-⟩,⟨n8,-⟩,⟨n9,-⟩,⟨n10,-⟩,⟨n11,-⟩⟩:=HXs.out.below hC7
     obtain⟨⟨y0,-⟩,⟨y1,-⟩,⟨y2,-⟩⟩:=HV.out.below hC7
     have sq0:=(hC7.cell (lt_of_cell R0)).trans R0
     have sq1:=(hC7.cell (lt_of_cell R1)).trans R1
     have sq2:=(hC7.cell (lt_of_cell R2)).trans R2
     (try go_wp2_with fail)
     refine hK.out _ _ (by(try dsimp only); go_keep) ?_
     clear hK K hHeld
     intro hHeld
     try simp only [Act.put,s1,s2,s3]
     refine tk 13 (h:=tk 14 (h:=?_))
     refine wpAnyH_done (by kernel_rfl) ?_ _
     go_wp2
     go_ret
     exact⟨BoolIs.no fun h=>Hq.out (h.slots k hlt Hfr.out),below_next hbs hC7⟩
  ·obtain rfl:k=S.safe.pool.n:=by omega
   obtain⟨⟨x0,-⟩,⟨x1,-⟩,⟨x2,-⟩,⟨x3,-⟩,⟨x4,-⟩,⟨x5,-⟩,⟨x6,-⟩,⟨x7,-⟩,⟨x8,-⟩,⟨x9,-⟩,⟨x10,-⟩,⟨x11,-⟩⟩:=HX.out
   go_wp2
   go_ret
   exact⟨BoolIs.yes ⟨HL.out,HF.out,E1.out,E2.out,E3.out,E4.out,Hall.out⟩,hb⟩
end Go.Proofs.YtihplgckbhnohaaGreatDoor

namespace Go.Proofs.YtihplgckbhnohaaGreatDoor
open Go Go.RowKit Go.Maps
open Go.ChangeMaps Go.MapKept
open Go.WideElems (Fit rd rg pl rd_val elemAt findIdx_arr findIdx_born modify_last set_self)
open Go.WideMaps (KeyLaw)
set_option linter.unusedVariables false
theorem setBlock_twice(w:World)(b:Nat)(o o':Obj):setBlock (setBlock w b o) b o'=setBlock w b o':=by simp [setBlock]
theorem setBlock_same{w:World}{b:Nat}{o:Obj}(h:w.heap[b]?=some o):setBlock w b o=w:=by
 have e:w.heap.setIfInBounds b o=w.heap:=by
  apply Array.ext_getElem?
  intro i
  by_cases hi:i=b
  ·subst hi
   rw [Array.getElem?_setIfInBounds_self_of_lt (Array.getElem?_eq_some_iff.1 h).1]
   exact h.symm
  ·rw [Array.getElem?_setIfInBounds_ne (fun e=>hi e.symm)]
 unfold setBlock
 rw [e]
theorem grown_setBlock{w:World}{b:Nat}{es es':Array MapEntry}{c c':Nat}(hb:w.heap[b]?=some (.map es c)):w.grownBy (setBlock w b (.map es' c')) (some b):=
 ⟨rfl,rfl,rfl,by simp [setBlock],fun i _ hi=>heap_setBlock_other hb _ (fun e=>hi (by rw [e]))⟩
theorem entry_own{P:Program}{k e t:TypeId}{w:World}{b n:Nat}{D:DataW Value}(h:w.ownsMap P k rawE b n D)(K0:KeyLaw P k)(ht:P.underlying t=some (.map k e))(hn:n<maxLen){z:Value}(hz:∀u:World,(zeroValue e).run P u = .ok z u)
  {key val v:Value} {kl:Lit} (hkey:keyOf P k key=some kl) (hat:D.atKey kl (.held z) = .held v) :
  ∃(v0:Value) (st:Nat) (w1 w2:World),(Instr.mapEntry t (.map (some b)) key).run P w = .ok (.tuple #[v0,goInt st]) w1∧(Instr.lookup t (.map (some b)) key false).run P w1 = .ok v w1∧(Instr.entryStore t (.map (some b)) (goInt st) val).run P w1 = .ok () w2∧w2.ownsMap P k rawE b (n+1) (D.put kl (.held val))∧w.grownBy w1 (some b)∧w.grownBy w2 (some b):=by
 have K:=Keyed.of_law K0
 obtain⟨w',hup,hown',hg'⟩:=h.update K ht hn hkey (rawE_mk val)
 obtain⟨wz,hupz,hownz,hgz⟩:=h.update K ht hn hkey (rawE_mk z)
 have hlook:=h.lookup K ht (hz w) (rawE_mk z) hkey
 obtain⟨es,clock,hb,F,hs,hD⟩:=h
 obtain⟨v0,st,es1,c1,hent,hor,hst⟩:=WideElems.entry_then_store K0 ht hz hb F hkey
 have hb1:(setBlock w b (.map es1 c1)).heap[b]?=some (.map es1 c1):=heap_setBlock_same hb _
 obtain⟨es2,c2,hr2,hu2⟩:=hst _ val hb1
 have e2:setBlock (setBlock w b (.map es1 c1)) b (.map es2 c2)=w':=by
  rw [setBlock_twice]
  rw [hu2] at hup
  injection hup
 refine⟨v0,st,setBlock w b (.map es1 c1),w',hent,?_,by rw [←e2]; exact hr2,hown',grown_setBlock hb,hg'⟩
 obtain⟨v',ps,hl,hv'⟩:=hlook
 have ev:v'=v:=by
  have e1:=rawE_inv hv'
  rw [hat] at e1
  injection e1 with e1
  exact e1.symm
 subst ev
 suffices hh:∀ww:World,ww=setBlock w b (.map es1 c1)→(Instr.lookup t (.map (some b)) key false).run P ww = .ok v' ww from hh _ rfl
 intro ww hww
 rcases K0.find w hkey es.toList F.keys with⟨h1,h2⟩ | ⟨j,e0,h1,h2,h3⟩
 ·-- it was not there: behind the entry it is there with the zero value
  have hz1:setBlock w b (.map es1 c1)=wz:=by
   have hm:(Instr.mapEntry t (.map (some b)) key).run P w = .ok (.tuple #[z,goInt clock]) (setBlock w b (.map (es.push ⟨key,z,clock⟩) (clock+1))):=by
    simp [Instr.mapEntry,run_underlying ht,MapKept.run_getObj_map hb,K0.check w false hkey,h1,hz,MapKept.run_setObj_map _ hb,Result.andThen,setBlock]
   have hu:(Instr.mapUpdate t (.map (some b)) key z).run P w = .ok () (setBlock w b (.map (es.push ⟨key,z,clock⟩) (clock+1))):=by
    simp [Instr.mapUpdate,run_underlying ht,MapKept.run_getObj_map hb,K0.check w false hkey,h1,MapKept.run_setObj_map _ hb,Result.andThen,setBlock]
   rw [hent] at hm
   rw [hupz] at hu
   injection hm with _ hm
   injection hu with _ hu
   rw [hm,hu]
  obtain rfl:ww=wz:=hww.trans hz1
  obtain⟨v2,ps2,hl2,hv2⟩:=hownz.lookup K ht (hz _) (rawE_mk z) hkey
  have e3:=rawE_inv hv2
  rw [atKey_put_same (show IsMap D from⟨_,hD⟩) (K.key hkey)] at e3
  replace e3:=DataW.held.inj e3
  have e4:v'=z:=by
   have hl0:(Instr.lookup t (.map (some b)) key false).run P w = .ok z w:=by
    rcases Maps.fit_look false K ht (hz w) hb F hkey with⟨hrun,_,_⟩ | ⟨e0,y,hm0,hk0,_,_,_,_⟩
    ·exact hrun
    ·exact absurd hk0 (h2 e0 hm0)
   rw [hl0] at hl
   injection hl with hl _
   exact hl.symm
  subst e3
  subst e4
  exact hl2
 ·-- it was there: the entry leaves the map as it was
  have hj:es[j]?=some e0:=by simpa using h2
  have hsame:es.modify j (fun e=>{e with key:=key})=es:=by
   apply Array.ext'
   rw [Array.toList_modify,modify_eq_set _ _ _ _ h2]
   have:({e0 with key:=key}:MapEntry)=e0:=by rw [←h3]
   rw [this]
   exact set_self _ _ _ h2
  have hm:(Instr.mapEntry t (.map (some b)) key).run P w = .ok (.tuple #[e0.val,goInt e0.born]) (setBlock w b (.map es clock)):=by
   simp [Instr.mapEntry,run_underlying ht,MapKept.run_getObj_map hb,K0.check w false hkey,h1,hj,h3,K0.stays w hkey,hsame,MapKept.run_setObj_map _ hb,Result.andThen,setBlock]
  rw [hent,setBlock_same hb] at hm
  obtain rfl:ww=w:=hww.trans (Result.ok.inj hm).2
  exact hl
end Go.Proofs.YtihplgckbhnohaaGreatDoor

namespace Go.Proofs.YtihplgckbhnohaaGreatDoor
open Go.RowKit Go.Maps
set_option linter.unusedVariables false
theorem youngM_len (W : WorldD) (m : MemD) : (youngM W m).length ≤ 73 := by
  unfold youngM youngF treeM
  exact Nat.le_trans (List.length_filter_le _ _) (treeL_len _ _ _)
theorem homes_len (W : WorldD) : ∀ k, (homesL W k).length ≤ 73 * k
  | 0 => by simp [homesL]
  | k + 1 => by
    have h1 := homes_len W k
    have h2 := youngM_len W (memOf W k)
    unfold homesL
    rw [List.length_append]
    omega
theorem homes_pre (W : WorldD) {k : Nat} : ∀ {n : Nat}, k ≤ n → ∃ l, homesL W n = homesL W k ++ l
  | 0, h => ⟨[], by obtain rfl : k = 0 := by omega
                    simp⟩
  | n + 1, h => by
    by_cases e : k = n + 1
    · subst e; exact ⟨[], by simp⟩
    · obtain ⟨l, hl⟩ := homes_pre W (k := k) (n := n) (by omega)
      exact ⟨l ++ youngM W (memOf W n), by rw [show homesL W (n + 1) = homesL W n ++ youngM W (memOf W n) from rfl, hl, List.append_assoc]⟩
theorem homes_at (W : WorldD) {k n j : Nat} (hk : k < n) (hj : j < (youngM W (memOf W k)).length) : (homesL W k).length + j < (homesL W n).length ∧ (homesL W n).getD ((homesL W k).length + j) (0, 0) = (youngM W (memOf W k)).getD j (0, 0) := by
  obtain ⟨l, hl⟩ := homes_pre W (k := k + 1) (n := n) (by omega)
  rw [hl, show homesL W (k + 1) = homesL W k ++ youngM W (memOf W k) from rfl]
  constructor
  · simp only [List.length_append]; omega
  · rw [List.getD_eq_getElem?_getD, List.getD_eq_getElem?_getD, List.append_assoc, List.getElem?_append_right (by omega), show (homesL W k).length + j - (homesL W k).length = j by omega, List.getElem?_append_left hj]
def pairV (x : Int × Int) : Value := .agg #[.int .i64 x.1, .int .i64 x.2]
/-- The keys of the homes, one behind the other. -/
structure HomeKeys (W : WorldD) (key : Nat → Lit) : Prop where
  ok : KeysOk key
  at_ : ∀ i, i < (homesL W (memN W)).length → keyOf Tryz.prog 88 (pairV ((homesL W (memN W)).getD i (0, 0))) = some (key i)
theorem homes_points {W : WorldD} (hR : Right W.pool) (hT : ∀ i, i < memN W → TreeOk W.pool (memOf W i).rs (memOf W i).rb) {x : Int × Int} (hx : x ∈ homesL W (memN W)) : Points W.pool x.1 x.2 := by
  obtain ⟨i, hi, h⟩ := mem_homes.1 hx
  unfold youngM youngF treeM at h
  exact (tree_mem hR (hT i hi) (List.mem_filter.1 h).1).1
theorem getD_mem {l : List (Int × Int)} {i : Nat} (h : i < l.length) : l.getD i (0, 0) ∈ l := by
  rw [List.getD_eq_getElem?_getD, List.getElem?_eq_getElem h, Option.getD_some]
  exact List.getElem_mem h
theorem home_keys {W : WorldD} (hR : Right W.pool) (hT : ∀ i, i < memN W → TreeOk W.pool (memOf W i).rs (memOf W i).rb) : ∃ key, HomeKeys W key := by
  have hkx : ∀ i, ∃ l, WideAt.IsKeyLit l ∧ (i < (homesL W (memN W)).length → keyOf Tryz.prog 88 (pairV ((homesL W (memN W)).getD i (0, 0))) = some l) := fun i => by
    by_cases hi' : i < (homesL W (memN W)).length
    · have hp := homes_points hR hT (getD_mem hi')
      generalize (homesL W (memN W)).getD i (0, 0) = x at hp ⊢
      have hf := (points_fits hR hp).1
      have h200 := hR.1
      obtain ⟨h1, h2, h3, h4⟩ := hp
      rw [h4] at hf
      obtain ⟨f1, f2⟩ := hf
      obtain ⟨l, hl⟩ := keyP_of (x := x.1) (y := x.2) (WalkArith.wf_i64 (by omega)) (WalkArith.wf_i64 (by omega))
      exact ⟨l, lawP.key hl, fun _ => hl⟩
    · exact ⟨.string [], trivial, fun h => absurd h hi'⟩
  exact ⟨fun i => (hkx i).choose, fun i => (hkx i).choose_spec.1, fun i => (hkx i).choose_spec.2⟩
theorem pairV_inj {x y : Int × Int} (h : pairV x = pairV y) : x = y := by
  unfold pairV at h
  simp only [Value.agg.injEq, Array.mk.injEq, List.cons.injEq, Value.int.injEq, true_and, and_true] at h
  exact Prod.ext h.1 h.2
theorem HomeKeys.same {W : WorldD} {key : Nat → Lit} (h : HomeKeys W key) {i j : Nat} (hi : i < (homesL W (memN W)).length) (hj : j < (homesL W (memN W)).length) : key i = key j ↔ (homesL W (memN W)).getD i (0, 0) = (homesL W (memN W)).getD j (0, 0) := by
  have h1 := h.at_ i hi
  have h2 := h.at_ j hj
  constructor
  · intro e
    rw [e] at h1
    exact pairV_inj (lawP.inj h1 h2)
  · intro e
    rw [e, h2] at h1
    exact (Option.some.inj h1).symm
theorem HomeKeys.dist {W : WorldD} {key : Nat → Lit} (h : HomeKeys W key) : DistL (homesL W (memN W)).length key ↔ (homesL W (memN W)).Nodup := by
  rw [List.Nodup, List.pairwise_iff_getElem]
  have hg : ∀ i (hi : i < (homesL W (memN W)).length), (homesL W (memN W)).getD i (0, 0) = (homesL W (memN W))[i] := fun i hi => by rw [List.getD_eq_getElem?_getD, List.getElem?_eq_getElem hi, Option.getD_some]
  constructor
  · intro hd i j hi hj hij e
    refine hd j hj i hij ((h.same hi hj).2 ?_)
    rw [hg i hi, hg j hj]
    exact e
  · intro hd i hi k hk e
    have := (h.same (by omega) hi).1 e
    rw [hg k (by omega), hg i hi] at this
    exact hd k i (by omega) hi hk this
/-- The map behind the first p homes. -/
def homeD (key : Nat → Lit) (p : Nat) : DataW Value := putD key (fun _ => .int .i64 1) p
theorem HomeKeys.new {W : WorldD} {key : Nat → Lit} {p : Nat} (hn : ∀ i, i < p → key i ≠ key p) (h : HomeKeys W key) : (homeD key p).atKey (key p) (.held (.int .i64 0)) = .held (.int .i64 0) := putD_none h.ok _ hn _
theorem HomeKeys.old {W : WorldD} {key : Nat → Lit} {p i : Nat} (hi : i < p) (he : key i = key p) (hd : DistL p key) (h : HomeKeys W key) : (homeD key p).atKey (key p) (.held (.int .i64 0)) = .held (.int .i64 1) := by
  rw [← he]
  exact putD_at h.ok _ _ p i hi (fun j h1 h2 e => hd j h2 i h1 e.symm)
theorem HomeKeys.put {W : WorldD} {key : Nat → Lit} (h : HomeKeys W key) (p : Nat) (v : Value) : ((homeD key p).put (key p) (.held v)).atKey (key p) (.held (.int .i64 0)) = .held v := atKey_put_same (putD_tidy h.ok _ p).isMap (h.ok p) _ _
theorem HomeKeys.not_nodup {W : WorldD} {key : Nat → Lit} {p i : Nat} (hi : i < p) (hp : p < (homesL W (memN W)).length) (he : key i = key p) (h : HomeKeys W key) : ¬ (homesL W (memN W)).Nodup := fun hn => h.dist.2 hn p hp i hi he
theorem HomeKeys.size {W : WorldD} {key : Nat → Lit} (h : HomeKeys W key) {p : Nat} (hd : DistL p key) : Maps.size (homeD key p) = p := (putD_size h.ok _ p).2.2 hd
end Go.Proofs.YtihplgckbhnohaaGreatDoor

namespace Go.Proofs.YtihplgckbhnohaaGreatDoor
open Go.RowKit
set_option linter.unusedVariables false
set_option maxRecDepth 20000 in
set_option maxHeartbeats 1000000 in
theorem implPoolRoom_any(v0 v1:Value)(lo hi:Nat)(p:PoolD)(w:World)(h1:PoolAt w lo hi v0 v1 p) :
  Calls Tryz.prog 145 #[.agg #[v0,v1]] w fun e w'=>e = .returned (.int .i64 (roomP p))∧Below w.heap.size w w':=by
 have Hp:Hid (PoolAt w lo hi v0 v1 p):=h1
 obtain⟨⟨m1,a,c,rfl,mc,g1⟩,⟨m2,a',c',rfl,mc',g2⟩⟩:=h1
 unfold maxLen at m1 m2
 clear g1 g2
 have ha:=below_alloc w (.cells #[.slice a p.n c,.slice a' p.hn c'] 35)
 go_enter Tryz.func145,Tryz.ntmps145
 go_wp2_with fail
 refine(implPoolRight_any _ _ lo hi p _ (Hp.out.below ha)).mono ?_
 rintro e w1 ⟨⟨t,rfl,ht⟩,hb1⟩
 have Hx:Hid (Box2 w1 w.heap.size (.slice a p.n c) (.slice a' p.hn c')):=(Box2.new w _ _ _).below hb1
 have hbn:=below_next ha hb1
 clear ha hb1
 by_cases hR:Right p
 ·obtain rfl:t=true:=ht.2 hR
  have HR:Hid (Right p):=hR
  have hn200:(p.n:Int)≤200:=by have:=hR.1; omega
  clear ht hR
  obtain⟨⟨y0,y1⟩,⟨y2,y3⟩⟩:=Hx.out
  have HRo:Hid (roomP p=(roomN p.s p.n:Int)):=if_pos HR.out
  have HB:Hid (Below w.heap.size w w1):=hbn
  go_wp2
  clear y0 y1 y2 y3 hbn
  go_loopw [3,12] (fun m i wr=>∃k:Nat,k≤p.n∧i = .int .i64 k∧m = .int .i64 (roomN p.s k:Int)∧Below w.heap.size w wr) (fun _ i _=>p.n - (intOf i).toNat)
  case atStart=>exact⟨0,Nat.zero_le _,rfl,rfl,HB.out⟩
  case round=>
   obtain⟨k,hk,rfl,rfl,hb⟩:=hrel
   have hrn:=roomN_le p.s k
   by_cases hlt:k<p.n
   ·have hlt':(k:Int)<(p.n:Int):=by omega
    obtain⟨b,off,ka,kc,rfl,hs⟩:=(Hp.out.1.below hb).cells hlt
    have Hs:Hid (SlotCells wr b (off+k*3) lo hi ka kc (p.s k)):=hs
    obtain⟨q0,q1,q2,_⟩:=hs
    go_wp2_with fail
    have hal:=below_alloc wr (.cells #[.int .i64 (p.s k).birth,.slice ka (p.s k).kn kc,.string (p.s k).data] 66)
    refine(isFree_any _ _ _ lo hi (p.s k) _ (Hs.out.slot.below hal)).mono ?_
    rintro e w2 ⟨⟨t,rfl,ht⟩,hb1⟩
    have hbm:=below_next hb (below_next hal hb1)
    clear hb1 q0 q1 q2 Hs hal
    by_cases hf:Free (p.s k)
    ·obtain rfl:t=true:=ht.2 hf
     have HF:Hid (Free (p.s k)):=hf
     clear ht hf
     go_wp2
     go_roundw
     case rel=>exact⟨k+1,by omega,by go_num,congrArg (Value.int .i64) (by rw [roomN_yes HF.out]; omega),hbm⟩
     case measure=>simp [intOf]; omega
    ·obtain rfl:t=false:=bool_no ht hf
     have HF:Hid (¬Free (p.s k)):=hf
     clear ht hf
     go_wp2
     go_roundw
     case rel=>exact⟨k+1,by omega,by go_num,congrArg (Value.int .i64) (by rw [roomN_no HF.out]),hbm⟩
     case measure=>simp [intOf]; omega
   ·obtain rfl:k=p.n:=by omega
    go_wp2
    go_ret
    exact⟨by rw [HRo.out]; rfl,hb⟩
 ·obtain rfl:t=false:=bool_no ht hR
  have HR:Hid (¬Right p):=hR
  clear ht hR
  go_wp2
  go_ret
  refine⟨?_,hbn⟩
  have e:roomP p=0:=if_neg HR.out
  rw [e]
  rfl
end Go.Proofs.YtihplgckbhnohaaGreatDoor
