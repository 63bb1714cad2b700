/- What spec.WorldRight answers. -/
import Derived.Test.YtmgeglgboadfiaaGreatDoorP12
import Derived.Test.YtmgeglgboadfiaaGreatDoorP4
import Derived.Test.YtmgeglgboadfiaaGreatDoorP10
import Derived.Test.YtmgeglgboadfiaaGreatDoorP11
import Derived.Test.YtmgeglgboadfiaaGreatDoorP32
import Derived.Test.YtmgeglgboadfiaaGreatDoorP5
import Derived.Test.YtmgeglgboadfiaaGreatDoorP8
import Derived.Deep.RegionHeld3
namespace Go.Proofs.YtmgeglgboadfiaaGreatDoor
open Go.RowKit Go.Maps
set_option linter.unusedVariables false
set_option maxRecDepth 20000 in
set_option maxHeartbeats 8000000 in
theorem specWorldRight_any(v0 v1 v2 v3:Value)(lo hi:Nat)(W:WorldD)(w:World)(h:WorldAt w lo hi v0 v1 v2 v3 W) :
  Calls Tryz.prog 26 #[worldV v0 v1 v2 v3 W] w fun e w'=>BoolIs (SpecW W) e∧Below w.heap.size w w':=by
 have Hp:=hideW h
 obtain⟨m1,a,c,rfl,mc,-⟩:=id h.snaps
 obtain⟨m2,a',c',rfl,mc',-⟩:=id h.sets
 obtain⟨m0,a0,c0,rfl,mc0,-⟩:=id h.pool.1
 obtain⟨m3,a1,c1,rfl,mc1,-⟩:=id h.pool.2
 unfold maxLen at m0 m1 m2 m3
 clear h
 have ha:=below_alloc w (.cells #[.slice a0 W.pool.n c0,.slice a1 W.pool.hn c1,.int .i64 W.time,.int .i64 W.next,.slice a' W.sn c',.slice a W.pn c] 37)
 have HB:=hideW (Box6.new w (.slice a0 W.pool.n c0) (.slice a1 W.pool.hn c1) (.int .i64 W.time) (.int .i64 W.next) (.slice a' W.sn c') (.slice a W.pn c) 37)
 obtain⟨⟨x0,-⟩,⟨x2,-⟩,⟨x4,-⟩,⟨x6,-⟩,⟨x8,-⟩,⟨x10,-⟩⟩:=HB.out
 go_enter Tryz.func26,Tryz.ntmps26
 go_wp2_with fail
 clear x0 x2 x4 x6 x8 x10
 generalize w.alloc (.cells #[.slice a0 W.pool.n c0,.slice a1 W.pool.hn c1,.int .i64 W.time,.int .i64 W.next,.slice a' W.sn c',.slice a W.pn c] 37)=W0 at ha HB ⊢
 refine(specPoolRight_any _ _ lo hi W.pool W0 (Hp.out.pool.below ha)).mono ?_
 rintro e w1 ⟨⟨t1,rfl,ht1⟩,hb1⟩
 have HX1:=hideW (HB.out.below hb1)
 have hB1:=below_next ha hb1
 clear ha HB hb1
 by_cases hR:Right W.pool
 rotate_left
 ·have HR:=hideW hR
  obtain rfl:t1=false:=bool_no ht1 hR
  clear ht1 hR
  go_wp2
  go_ret
  exact⟨BoolIs.no fun h=>HR.out h.right,hB1⟩
 have HR:=hideW hR
 obtain rfl:t1=true:=ht1.2 hR
 have hpn:W.pool.n≤200:=hR.1
 clear ht1 hR
 obtain⟨⟨x0,-⟩,⟨x2,-⟩,⟨x4,-⟩,⟨x6,-⟩,⟨x8,-⟩,⟨x10,-⟩⟩:=HX1.out
 go_wp2_with fail
 clear x0 x2 x4 x6 x8 x10
 refine(l04Names_any _ _ _ _ lo hi W w1 (Hp.out.below hB1)).mono ?_
 rintro e w2 ⟨⟨t2,rfl,ht2⟩,hb2⟩
 have HX2:=hideW (HX1.out.below hb2)
 have hB2:=below_next hB1 hb2
 clear HX1 hB1 hb2
 by_cases hN:SpecNames W
 rotate_left
 ·have HN:=hideW hN
  obtain rfl:t2=false:=bool_no ht2 hN
  clear ht2 hN
  go_wp2
  go_ret
  exact⟨BoolIs.no fun h=>HN.out h.names,hB2⟩
 have HN:=hideW hN
 obtain rfl:t2=true:=ht2.2 hN
 have hsn:W.sn≤8:=hN.2.2.1
 have hsp:W.pn≤20:=hN.2.2.2.1
 clear ht2 hN
 obtain⟨⟨x0,-⟩,⟨x2,-⟩,⟨x4,-⟩,⟨x6,-⟩,⟨x8,-⟩,⟨x10,-⟩⟩:=HX2.out
 go_wp2_with fail
 clear x0 x2 x4 x6 x8 x10
 refine(l04Chains_any _ _ _ _ lo hi W w2 (Hp.out.below hB2) HN.out.prevOk hsn hsp).mono ?_
 rintro e w3 ⟨⟨t3,rfl,ht3⟩,hb3⟩
 have HX3:=hideW (HX2.out.below hb3)
 have hB3:=below_next hB2 hb3
 clear HX2 hB2 hb3
 by_cases hL:∀i,i<W.sn→LineOk W (W.sets i).name (W.sets i).prev (W.sets i).origin
 rotate_left
 ·have HL:=hideW hL
  obtain rfl:t3=false:=bool_no ht3 hL
  clear ht3 hL
  go_wp2
  go_ret
  exact⟨BoolIs.no fun h=>HL.out h.lines,hB3⟩
 have HL:=hideW hL
 obtain rfl:t3=true:=ht3.2 hL
 clear ht3 hL
 go_wp2
 go_loopw [3] (fun i wr=>∃k:Nat,k≤W.pn∧i = .int .i64 k∧(∀j,j<k→TreeOk W.pool (W.snaps j).rs (W.snaps j).rb)∧Box6 wr w.heap.size (.slice a0 W.pool.n c0) (.slice a1 W.pool.hn c1) (.int .i64 W.time) (.int .i64 W.next) (.slice a' W.sn c') (.slice a W.pn c)∧Below w.heap.size w wr) (fun i _=>W.pn - (intOf i).toNat)
 case atStart=>exact⟨0,Nat.zero_le _,rfl,fun j hj=>absurd hj (Nat.not_lt_zero _),HX3.out,hB3⟩
 case round=>
  clear HX3 hB3
  obtain⟨k,hk,rfl,hall,hX,hb⟩:=hrel
  have Hall:=hideW hall
  have HX:=hideW hX
  clear hall hX
  obtain⟨⟨x0,-⟩,⟨x2,-⟩,⟨x4,-⟩,⟨x6,-⟩,⟨x8,-⟩,⟨x10,-⟩⟩:=HX.out
  by_cases hlt:k<W.pn
  ·have hlt':(k:Int)<(W.pn:Int):=by omega
   obtain⟨b,off,vd,rfl,hs⟩:=(Hp.out.snaps.below hb).cells hlt
   have q5:=hs.c5
   have q6:=hs.c6
   clear hs
   go_wp2_with fail
   go_region_held3 (fun w'=>w'.cell? ⟨w.heap.size,0,none⟩=some (.slice a0 W.pool.n c0)∧w'.cell? ⟨w.heap.size,1,none⟩=some (.slice a1 W.pool.hn c1)∧w'.cell? ⟨w.heap.size,2,none⟩=some (.int .i64 W.time)∧w'.cell? ⟨w.heap.size,3,none⟩=some (.int .i64 W.next)∧w'.cell? ⟨w.heap.size,4,none⟩=some (.slice a' W.sn c')∧w'.cell? ⟨w.heap.size,5,none⟩=some (.slice (some ⟨b,off,none⟩) W.pn c)∧w'.cell? ⟨b,off+k*8+5,none⟩=some (.int .i64 (W.snaps k).rs)∧w'.cell? ⟨b,off+k*8+6,none⟩=some (.int .i64 (W.snaps k).rb)) (go_keep)
    (first | (go_at_call 71; refine(l02Right_any _ _ lo hi W.pool (W.snaps k).rs (W.snaps k).rb _ ?_ HR.out).mono ?_; (exact(Hp.out.pool.below hb).below (Below.refl _ _).drew); rintro e w6 ⟨⟨t6,rfl,ht6⟩,hb6⟩; obtain⟨⟨y0,_⟩,⟨y1,_⟩,⟨y2,_⟩,⟨y3,_⟩,⟨y4,_⟩,⟨y5,_⟩⟩:=HX.out.below (below_undrew hb6); have z5:=(hb6.cell (p:=⟨b,off+k*8+5,none⟩) (lt_of_cell q5)).trans q5; have z6:=(hb6.cell (p:=⟨b,off+k*8+6,none⟩) (lt_of_cell q6)).trans q6))
   have hb7:=below_call hb hb6
   have HX7:=hideW (HX.out.below (below_undrew hb6))
   have Ht:=hideW ht6
   clear ht6 hb6 z5 z6 y0 y1 y2 y3 y4 y5 q5 q6 HX x0 x2 x4 x6 x8 x10
   cases t6
   ·have Hn:=hideW (show ¬TreeOk W.pool (W.snaps k).rs (W.snaps k).rb from fun hA=>absurd (Ht.out.2 hA) (by simp))
    clear Ht
    go_wp2
    go_ret
    exact⟨BoolIs.no fun hA=>Hn.out (hA.snaps k hlt),hb7⟩
   ·have Hn:=hideW (Ht.out.1 rfl)
    clear Ht
    go_wp2
    go_roundw
    case rel=>exact⟨k+1,by omega,by go_num,relNext hlt Hall.out Hn.out,HX7.out,hb7⟩
    case measure=>simp [intOf]; omega
  obtain rfl:k=W.pn:=by omega
  have HTs:=hideW Hall.out
  clear Hall
  go_wp2
  clear x0 x2 x4 x6 x8 x10
  go_loopw [4] (fun i wr=>∃k:Nat,k≤W.sn∧i = .int .i64 k∧(∀j,j<k→TreeOk W.pool (W.sets j).rs (W.sets j).rb∧DeadOf W (W.pn+j))∧Box6 wr w.heap.size (.slice a0 W.pool.n c0) (.slice a1 W.pool.hn c1) (.int .i64 W.time) (.int .i64 W.next) (.slice a' W.sn c') (.slice a W.pn c)∧Below w.heap.size w wr) (fun i _=>W.sn - (intOf i).toNat)
  case atStart=>exact⟨0,Nat.zero_le _,rfl,fun j hj=>absurd hj (Nat.not_lt_zero _),HX.out,hb⟩
  case round=>
   clear HX hb hlt hk
   obtain⟨k,hk,rfl,hall,hX,hb⟩:=hrel
   have Hall:=hideW hall
   have HX:=hideW hX
   clear hall hX
   obtain⟨⟨x0,-⟩,⟨x2,-⟩,⟨x4,-⟩,⟨x6,-⟩,⟨x8,-⟩,⟨x10,-⟩⟩:=HX.out
   by_cases hlt:k<W.sn
   ·have hlt':(k:Int)<(W.sn:Int):=by omega
    obtain⟨b,off,vd,rfl,hs⟩:=(Hp.out.sets.below hb).cells hlt
    have q3:=hs.c2
    have q5:=hs.c3
    have q6:=hs.c4
    have q7:=hs.c5
    have Hdd:=hideW hs.dead
    clear hs
    by_cases htk:TreeOk W.pool (W.sets k).rs (W.sets k).rb
    rotate_left
    ·have Htk:=hideW htk
     clear htk
     go_wp2_with fail
     refine wp_region_held_drew (S:=(fun w'=>w'.cell? ⟨w.heap.size,0,none⟩=some (.slice a0 W.pool.n c0)∧w'.cell? ⟨w.heap.size,1,none⟩=some (.slice a1 W.pool.hn c1)∧w'.cell? ⟨w.heap.size,2,none⟩=some (.int .i64 W.time)∧w'.cell? ⟨w.heap.size,3,none⟩=some (.int .i64 W.next)∧w'.cell? ⟨w.heap.size,4,none⟩=some (.slice (some ⟨b,off,none⟩) W.sn c')∧w'.cell? ⟨w.heap.size,5,none⟩=some (.slice a W.pn c)∧w'.cell? ⟨b,off+k*6+3,none⟩=some (.int .i64 (W.sets k).rs)∧w'.cell? ⟨b,off+k*6+4,none⟩=some (.int .i64 (W.sets k).rb))) (by kernel_rfl) ?_ (fun hHeld=>?_)
     ·(try dsimp only)
      go_keep
     refine tk 0 (h:=tk 1 (h:=tk 2 (h:=tk 3 (h:=tk 4 (h:=tk 5 (h:=tk 6 (h:=tk 7 (h:=?_))))))))
     refine rd [8] (rc (fun K hK=>?_) .nil)
     go_simp
     go_at_call 71
     refine(l02Right_any _ _ lo hi W.pool (W.sets k).rs (W.sets k).rb _ ?_ HR.out).mono ?_
     ·first | exact Hp.out.pool.below hb | exact Hp.out.pool.below hb.drew
     rintro e w6 ⟨⟨t6,rfl,ht6⟩,hb6⟩
     obtain rfl:t6=false:=bool_no ht6 Htk.out
     clear ht6
     have hC6:Below wr.heap.size wr w6:=(by first | exact hb6 | exact below_undrew hb6)
     obtain⟨⟨y0,_⟩,⟨y1,_⟩,⟨y2,_⟩,⟨y3,_⟩,⟨y4,_⟩,⟨y5,_⟩⟩:=HX.out.below hC6
     have z5:=(hC6.cell (lt_of_cell q5)).trans q5
     have z6:=(hC6.cell (lt_of_cell q6)).trans q6
     (try go_wp2_with fail)
     refine hK.out _ _ (by(try dsimp only); go_keep) ?_
     clear hK K hHeld
     intro hHeld
     try simp only [Act.put,s1,s2,s3]
     refine tk 9 (h:=tk 10 (h:=ts 11 (h:=ts 12 (h:=ts 13 (h:=ts 14 (h:=ts 15 (h:=ts 16 (h:=ts 17 (h:=ts 18 (h:=ts 19 (h:=ts 20 (h:=ts 21 (h:=ts 22 (h:=ts 23 (h:=ts 24 (h:=ts 25 (h:=ts 26 (h:=ts 27 (h:=ts 28 (h:=ts 29 (h:=?_)))))))))))))))))))))
     refine rd [30] (rc (fun K hK=>?_) .nil)
     split
     ·rename_i hwt
      exact absurd (show false=true from hwt) Bool.false_ne_true
     refine hK.out _ _ (by assumption) (fun hHeld=>?_)
     clear hK K
     try simp only [Act.put,s1,s2,s3]
     refine ts 31 (h:=tk 32 (h:=?_))
     refine wpAnyH_done (by kernel_rfl) ?_ _
     have hb7:=below_next hb hC6
     clear hC6 y0 y1 y2 y3 y4 y5 z5 z6
     go_wp2
     go_ret
     exact⟨BoolIs.no fun hA=>Htk.out (hA.sets k hlt).1,hb7⟩
    have Htk:=hideW htk
    clear htk
    have Hc:=hideW (dead_set (Hp.out.below hb) HR.out HTs.out HN.out.prevOk.pos Htk.out Hdd.out)
    go_wp2_with fail
    go_region_held3 (fun w'=>w'.cell? ⟨w.heap.size,0,none⟩=some (.slice a0 W.pool.n c0)∧w'.cell? ⟨w.heap.size,1,none⟩=some (.slice a1 W.pool.hn c1)∧w'.cell? ⟨w.heap.size,2,none⟩=some (.int .i64 W.time)∧w'.cell? ⟨w.heap.size,3,none⟩=some (.int .i64 W.next)∧w'.cell? ⟨w.heap.size,4,none⟩=some (.slice (some ⟨b,off,none⟩) W.sn c')∧w'.cell? ⟨w.heap.size,5,none⟩=some (.slice a W.pn c)∧w'.cell? ⟨b,off+k*6+2,none⟩=some (.int .i64 (W.sets k).prev)∧w'.cell? ⟨b,off+k*6+3,none⟩=some (.int .i64 (W.sets k).rs)∧w'.cell? ⟨b,off+k*6+4,none⟩=some (.int .i64 (W.sets k).rb)∧w'.cell? ⟨b,off+k*6+5,none⟩=some vd) (go_keep)
     (first
      | (go_at_call 71; refine(l02Right_any _ _ lo hi W.pool (W.sets k).rs (W.sets k).rb _ ?_ HR.out).mono ?_; (exact(Hp.out.pool.below hb).below (Below.refl _ _).drew); rintro e w6 ⟨⟨t6,rfl,ht6⟩,hb6⟩; obtain rfl:t6=true:=ht6.2 Htk.out; clear ht6; obtain⟨⟨y0,_⟩,⟨y1,_⟩,⟨y2,_⟩,⟨y3,_⟩,⟨y4,_⟩,⟨y5,_⟩⟩:=HX.out.below (below_undrew hb6); have z3:=(hb6.cell (p:=⟨b,off+k*6+2,none⟩) (lt_of_cell q3)).trans q3; have z5:=(hb6.cell (p:=⟨b,off+k*6+3,none⟩) (lt_of_cell q5)).trans q5; have z6:=(hb6.cell (p:=⟨b,off+k*6+4,none⟩) (lt_of_cell q6)).trans q6; have z7:=(hb6.cell (p:=⟨b,off+k*6+5,none⟩) (lt_of_cell q7)).trans q7)
      | (go_at_call 72; refine(Hc.out _ (below_undrew hb6)).mono ?_; rintro e w7 ⟨⟨t7,rfl,ht7⟩,hb7⟩; obtain⟨⟨g0,_⟩,⟨g1,_⟩,⟨g2,_⟩,⟨g3,_⟩,⟨g4,_⟩,⟨g5,_⟩⟩:=(HX.out.below (below_undrew hb6)).below hb7; have j3:=(hb7.cell (lt_of_cell z3)).trans z3; have j5:=(hb7.cell (lt_of_cell z5)).trans z5; have j6:=(hb7.cell (lt_of_cell z6)).trans z6; have j7:=(hb7.cell (lt_of_cell z7)).trans z7))
    have hb8:=below_next (below_call hb hb6) hb7
    have HX8:=hideW ((HX.out.below (below_undrew hb6)).below hb7)
    have Ht:=hideW ht7
    clear ht7 hb6 hb7 z3 z5 z6 z7 y0 y1 y2 y3 y4 y5 g0 g1 g2 g3 g4 g5 j3 j5 j6 j7 q3 q5 q6 q7 HX x0 x2 x4 x6 x8 x10 Hc
    cases t7
    ·have Hn:=hideW (show ¬DeadOf W (W.pn+k)from fun hA=>absurd (Ht.out.2 hA) (by simp))
     clear Ht
     go_wp2
     go_ret
     exact⟨BoolIs.no fun hA=>Hn.out (hA.sets k hlt).2,hb8⟩
    ·have Hn:=hideW (Ht.out.1 rfl)
     clear Ht
     go_wp2
     go_roundw
     case rel=>exact⟨k+1,by omega,by go_num,relNext hlt Hall.out ⟨Htk.out,Hn.out⟩,HX8.out,hb8⟩
     case measure=>simp [intOf]; omega
   obtain rfl:k=W.sn:=by omega
   have HSt:=hideW Hall.out
   clear Hall
   go_wp2
   clear x0 x2 x4 x6 x8 x10
   go_loopw [5] (fun i wr=>∃k:Nat,k≤W.pn∧i = .int .i64 k∧(∀j,j<k→DeadOf W j)∧Box6 wr w.heap.size (.slice a0 W.pool.n c0) (.slice a1 W.pool.hn c1) (.int .i64 W.time) (.int .i64 W.next) (.slice a' W.sn c') (.slice a W.pn c)∧Below w.heap.size w wr) (fun i _=>W.pn - (intOf i).toNat)
   case atStart=>exact⟨0,Nat.zero_le _,rfl,fun j hj=>absurd hj (Nat.not_lt_zero _),HX.out,hb⟩
   case round=>
    clear HX hb hlt hk
    obtain⟨k,hk,rfl,hall,hX,hb⟩:=hrel
    have Hall:=hideW hall
    have HX:=hideW hX
    clear hall hX
    obtain⟨⟨x0,-⟩,⟨x2,-⟩,⟨x4,-⟩,⟨x6,-⟩,⟨x8,-⟩,⟨x10,-⟩⟩:=HX.out
    by_cases hlt:k<W.pn
    ·have hlt':(k:Int)<(W.pn:Int):=by omega
     obtain⟨b,off,vd,rfl,hs⟩:=(Hp.out.snaps.below hb).cells hlt
     have q3:=hs.c3
     have q5:=hs.c5
     have q6:=hs.c6
     have q7:=hs.c7
     have Hc:=hideW (dead_snap (Hp.out.below hb) HR.out HTs.out HN.out.prevOk.pos hlt hs.dead)
     clear hs
     go_wp2_with fail
     go_region_held3 (fun w'=>w'.cell? ⟨w.heap.size,0,none⟩=some (.slice a0 W.pool.n c0)∧w'.cell? ⟨w.heap.size,1,none⟩=some (.slice a1 W.pool.hn c1)∧w'.cell? ⟨w.heap.size,2,none⟩=some (.int .i64 W.time)∧w'.cell? ⟨w.heap.size,3,none⟩=some (.int .i64 W.next)∧w'.cell? ⟨w.heap.size,4,none⟩=some (.slice a' W.sn c')∧w'.cell? ⟨w.heap.size,5,none⟩=some (.slice (some ⟨b,off,none⟩) W.pn c)∧w'.cell? ⟨b,off+k*8+3,none⟩=some (.int .i64 (W.snaps k).prev)∧w'.cell? ⟨b,off+k*8+5,none⟩=some (.int .i64 (W.snaps k).rs)∧w'.cell? ⟨b,off+k*8+6,none⟩=some (.int .i64 (W.snaps k).rb)∧w'.cell? ⟨b,off+k*8+7,none⟩=some vd) (go_keep)
      (first | (go_at_call 72; refine(Hc.out _ ?_).mono ?_; (exact(Below.refl _ _).drew); rintro e w6 ⟨⟨t6,rfl,ht6⟩,hb6⟩; obtain⟨⟨y0,_⟩,⟨y1,_⟩,⟨y2,_⟩,⟨y3,_⟩,⟨y4,_⟩,⟨y5,_⟩⟩:=HX.out.below (below_undrew hb6); have z3:=(hb6.cell (p:=⟨b,off+k*8+3,none⟩) (lt_of_cell q3)).trans q3; have z5:=(hb6.cell (p:=⟨b,off+k*8+5,none⟩) (lt_of_cell q5)).trans q5; have z6:=(hb6.cell (p:=⟨b,off+k*8+6,none⟩) (lt_of_cell q6)).trans q6; have z7:=(hb6.cell (p:=⟨b,off+k*8+7,none⟩) (lt_of_cell q7)).trans q7))
     have hb7:=below_call hb hb6
     have HX7:=hideW (HX.out.below (below_undrew hb6))
     have Ht:=hideW ht6
     clear ht6 hb6 z3 z5 z6 z7 y0 y1 y2 y3 y4 y5 q3 q5 q6 q7 HX x0 x2 x4 x6 x8 x10 Hc
     cases t6
     ·have Hn:=hideW (show ¬DeadOf W k from fun hA=>absurd (Ht.out.2 hA) (by simp))
      clear Ht
      go_wp2
      go_ret
      exact⟨BoolIs.no fun hA=>Hn.out (hA.dead k hlt),hb7⟩
     ·have Hn:=hideW (Ht.out.1 rfl)
      clear Ht
      go_wp2
      go_roundw
      case rel=>exact⟨k+1,by omega,by go_num,relNext hlt Hall.out Hn.out,HX7.out,hb7⟩
      case measure=>simp [intOf]; omega
    obtain rfl:k=W.pn:=by omega
    have HDs:=hideW Hall.out
    have HTr:=hideW (trees_of HR.out HN.out HTs.out (fun i hi=>(HSt.out i hi).1))
    clear Hall
    go_wp2_with fail
    clear x0 x2 x4 x6 x8 x10
    refine(l04Reach_any _ _ _ _ lo hi W _ (Hp.out.below hb) HTr.out hsn hsp).mono ?_
    rintro e w4 ⟨R,f,rfl,hRl,hRb,hRf,hb4⟩
    have HX4:=hideW (HX.out.below hb4)
    have HRb:=hideW hRb
    have HRf:=hideW hRf
    have hB4:=below_next hb hb4
    have hRw:w.heap.size≤R:=by have:=hb.size; omega
    clear HX hb hb4 hRb hRf hlt hk hRl
    go_wp2
    go_loopw [7] (fun i wr=>∃k:Nat,k≤W.pool.n∧i = .int .i64 k∧(∀j,j<k→(InSome W j↔(¬Free (W.pool.s j)∧¬Has W.pool.hn W.pool.h j)))∧Box6 wr w.heap.size (.slice a0 W.pool.n c0) (.slice a1 W.pool.hn c1) (.int .i64 W.time) (.int .i64 W.next) (.slice a' W.sn c') (.slice a W.pn c)∧BoolsC wr R W.pool.n f∧Below w.heap.size w wr) (fun i _=>W.pool.n - (intOf i).toNat)
    case atStart=>exact⟨0,Nat.zero_le _,rfl,fun j hj=>absurd hj (Nat.not_lt_zero _),HX4.out,HRb.out,hB4⟩
    case round=>
     clear HX4 HRb hB4
     obtain⟨k,hk,rfl,hall,hX,hRb,hb⟩:=hrel
     have Hall:=hideW hall
     have HX:=hideW hX
     have HRb:=hideW hRb
     clear hall hX hRb
     obtain⟨⟨x0,-⟩,⟨x2,-⟩,⟨x4,-⟩,⟨x6,-⟩,⟨x8,-⟩,⟨x10,-⟩⟩:=HX.out
     by_cases hlt:k<W.pool.n
     ·have hlt':(k:Int)<(W.pool.n:Int):=by omega
      obtain⟨b,off,ka,kc,rfl,hsc⟩:=(Hp.out.pool.1.below hb).cells hlt
      have q0:=hsc.c0
      have q1:=hsc.c1
      have q2:=hsc.c2
      have Hsl:=hideW hsc.slot
      have qr:=(HRb.out k hlt).1
      clear hsc
      have HHd:=hideW (Hp.out.pool.2.below hb)
      have Hrk:=hideW (HRf.out k)
      by_cases hfr:Free (W.pool.s k)
      ·have Hfr:=hideW hfr
       clear hfr
       go_wp2_with fail
       refine wp_region_held_drew (S:=(fun w'=>w'.cell? ⟨w.heap.size,0,none⟩=some (.slice (some ⟨b,off,none⟩) W.pool.n c0)∧w'.cell? ⟨w.heap.size,1,none⟩=some (.slice a1 W.pool.hn c1)∧w'.cell? ⟨w.heap.size,2,none⟩=some (.int .i64 W.time)∧w'.cell? ⟨w.heap.size,3,none⟩=some (.int .i64 W.next)∧w'.cell? ⟨w.heap.size,4,none⟩=some (.slice a' W.sn c')∧w'.cell? ⟨w.heap.size,5,none⟩=some (.slice a W.pn c)∧w'.cell? ⟨R,k,none⟩=some (.bool (f k))∧w'.cell? ⟨b,off+k*3,none⟩=some (.int .i64 (W.pool.s k).birth)∧w'.cell? ⟨b,off+k*3+1,none⟩=some (.slice ka (W.pool.s k).kn kc)∧w'.cell? ⟨b,off+k*3+2,none⟩=some (.string (W.pool.s k).data))) (by kernel_rfl) ?_ (fun hHeld=>?_)
       ·(try dsimp only)
        go_keep
       refine tk 0 (h:=tk 1 (h:=tk 2 (h:=tk 3 (h:=tk 4 (h:=tk 5 (h:=tk 6 (h:=tk 7 (h:=tk 8 (h:=tk 9 (h:=?_))))))))))
       refine rd [10] (rc (fun K hK=>?_) .nil)
       go_simp
       go_at_call 74
       refine(l01Free_any _ _ _ lo hi (W.pool.s k) _ ?_).mono ?_
       ·exact Hsl.out.below (below_drewN (Below.refl _ _) 1)
       rintro e w6 ⟨⟨t6,rfl,ht6⟩,hb6⟩
       obtain rfl:t6=true:=ht6.2 Hfr.out
       clear ht6
       have hC6:Below wr.heap.size wr w6:=(by first | exact hb6 | exact below_undrew hb6)
       obtain⟨⟨y0,_⟩,⟨y1,_⟩,⟨y2,_⟩,⟨y3,_⟩,⟨y4,_⟩,⟨y5,_⟩⟩:=HX.out.below hC6
       have z0:=(hC6.cell (lt_of_cell q0)).trans q0
       have z1:=(hC6.cell (lt_of_cell q1)).trans q1
       have z2:=(hC6.cell (lt_of_cell q2)).trans q2
       have z3:=(hC6.cell (lt_of_cell qr)).trans qr
       (try go_wp2_with fail)
       refine hK.out _ _ (by(try dsimp only); go_keep) ?_
       clear hK K hHeld
       intro hHeld
       try simp only [Act.put,s1,s2,s3]
       refine tk 11 (h:=tk 12 (h:=ts 13 (h:=ts 14 (h:=ts 15 (h:=ts 16 (h:=?_))))))
       refine rd [17] (rc (fun K hK=>?_) .nil)
       split
       ·rename_i hwt
        exact absurd (show false=true from hwt) Bool.false_ne_true
       refine hK.out _ _ (by assumption) (fun hHeld=>?_)
       clear hK K
       try simp only [Act.put,s1,s2,s3]
       refine ts 18 (h:=tk 19 (h:=tk 20 (h:=?_)))
       refine wpAnyH_done (by kernel_rfl) ?_ _
       have hb7:=below_next hb hC6
       have HX7:=hideW (HX.out.below hC6)
       have HR7:=hideW (HRb.out.below hC6)
       clear hC6 y0 y1 y2 y3 y4 y5 z0 z1 z2 z3
       cases hfk:f k
       ·have Hok:=hideW (show InSome W k↔(¬Free (W.pool.s k)∧¬Has W.pool.hn W.pool.h k)from⟨fun h=>absurd (Hrk.out.2 h) (by simp [hfk]),fun h=>absurd Hfr.out h.1⟩)
        rw [hfk] at *
        go_wp2
        go_roundw
        case rel=>exact⟨k+1,by omega,by go_num,relNext hlt Hall.out Hok.out,HX7.out,HR7.out,hb7⟩
        case measure=>simp [intOf]; omega
       ·have Hno:=hideW (show ¬ReachEq W from fun h=>((h k hlt).1 (Hrk.out.1 hfk)).1 Hfr.out)
        rw [hfk] at *
        go_wp2
        go_ret
        exact⟨BoolIs.no fun hA=>Hno.out hA.reach,hb7⟩
      ·have Hfr:=hideW hfr
       clear hfr
       by_cases hhd:Has W.pool.hn W.pool.h k
       ·have Hhd:=hideW hhd
        clear hhd
        go_wp2_with fail
        go_region_held3 (fun w'=>w'.cell? ⟨w.heap.size,0,none⟩=some (.slice (some ⟨b,off,none⟩) W.pool.n c0)∧w'.cell? ⟨w.heap.size,1,none⟩=some (.slice a1 W.pool.hn c1)∧w'.cell? ⟨w.heap.size,2,none⟩=some (.int .i64 W.time)∧w'.cell? ⟨w.heap.size,3,none⟩=some (.int .i64 W.next)∧w'.cell? ⟨w.heap.size,4,none⟩=some (.slice a' W.sn c')∧w'.cell? ⟨w.heap.size,5,none⟩=some (.slice a W.pn c)∧w'.cell? ⟨R,k,none⟩=some (.bool (f k))∧w'.cell? ⟨b,off+k*3,none⟩=some (.int .i64 (W.pool.s k).birth)∧w'.cell? ⟨b,off+k*3+1,none⟩=some (.slice ka (W.pool.s k).kn kc)∧w'.cell? ⟨b,off+k*3+2,none⟩=some (.string (W.pool.s k).data)) (go_keep)
         (first
          | (go_at_call 74; refine(l01Free_any _ _ _ lo hi (W.pool.s k) _ ?_).mono ?_; (exact Hsl.out.below (Below.refl _ _).drew); rintro e w6 ⟨⟨t6,rfl,ht6⟩,hb6⟩; obtain rfl:t6=false:=bool_no ht6 Hfr.out; clear ht6; have hC6:=below_undrew hb6; obtain⟨⟨y0,_⟩,⟨y1,_⟩,⟨y2,_⟩,⟨y3,_⟩,⟨y4,_⟩,⟨y5,_⟩⟩:=HX.out.below hC6; have z0:=(hC6.cell (lt_of_cell q0)).trans q0; have z1:=(hC6.cell (lt_of_cell q1)).trans q1; have z2:=(hC6.cell (lt_of_cell q2)).trans q2; have z3:=(hC6.cell (lt_of_cell qr)).trans qr)
          | (go_at_call 75; refine(l01Has_any _ W.pool.hn lo hi W.pool.h k _ (HHd.out.below hC6)).mono ?_; rintro e w8 ⟨⟨t8,rfl,ht8⟩,rfl⟩; obtain rfl:t8=true:=ht8.2 Hhd.out; clear ht8))
        have hb7:=below_next hb hC6
        have HX7:=hideW (HX.out.below hC6)
        have HR7:=hideW (HRb.out.below hC6)
        clear hC6 y0 y1 y2 y3 y4 y5 z0 z1 z2 z3
        cases hfk:f k
        ·have Hok:=hideW (show InSome W k↔(¬Free (W.pool.s k)∧¬Has W.pool.hn W.pool.h k)from⟨fun h=>absurd (Hrk.out.2 h) (by simp [hfk]),fun h=>absurd Hhd.out h.2⟩)
         rw [hfk] at *
         go_wp2
         go_roundw
         case rel=>exact⟨k+1,by omega,by go_num,relNext hlt Hall.out Hok.out,HX7.out,HR7.out,hb7⟩
         case measure=>simp [intOf]; omega
        ·have Hno:=hideW (show ¬ReachEq W from fun h=>((h k hlt).1 (Hrk.out.1 hfk)).2 Hhd.out)
         rw [hfk] at *
         go_wp2
         go_ret
         exact⟨BoolIs.no fun hA=>Hno.out hA.reach,hb7⟩
       ·have Hhd:=hideW hhd
        clear hhd
        go_wp2_with fail
        go_region_held3 (fun w'=>w'.cell? ⟨w.heap.size,0,none⟩=some (.slice (some ⟨b,off,none⟩) W.pool.n c0)∧w'.cell? ⟨w.heap.size,1,none⟩=some (.slice a1 W.pool.hn c1)∧w'.cell? ⟨w.heap.size,2,none⟩=some (.int .i64 W.time)∧w'.cell? ⟨w.heap.size,3,none⟩=some (.int .i64 W.next)∧w'.cell? ⟨w.heap.size,4,none⟩=some (.slice a' W.sn c')∧w'.cell? ⟨w.heap.size,5,none⟩=some (.slice a W.pn c)∧w'.cell? ⟨R,k,none⟩=some (.bool (f k))∧w'.cell? ⟨b,off+k*3,none⟩=some (.int .i64 (W.pool.s k).birth)∧w'.cell? ⟨b,off+k*3+1,none⟩=some (.slice ka (W.pool.s k).kn kc)∧w'.cell? ⟨b,off+k*3+2,none⟩=some (.string (W.pool.s k).data)) (go_keep)
         (first
          | (go_at_call 74; refine(l01Free_any _ _ _ lo hi (W.pool.s k) _ ?_).mono ?_; (exact Hsl.out.below (Below.refl _ _).drew); rintro e w6 ⟨⟨t6,rfl,ht6⟩,hb6⟩; obtain rfl:t6=false:=bool_no ht6 Hfr.out; clear ht6; have hC6:=below_undrew hb6; obtain⟨⟨y0,_⟩,⟨y1,_⟩,⟨y2,_⟩,⟨y3,_⟩,⟨y4,_⟩,⟨y5,_⟩⟩:=HX.out.below hC6; have z0:=(hC6.cell (lt_of_cell q0)).trans q0; have z1:=(hC6.cell (lt_of_cell q1)).trans q1; have z2:=(hC6.cell (lt_of_cell q2)).trans q2; have z3:=(hC6.cell (lt_of_cell qr)).trans qr)
          | (go_at_call 75; refine(l01Has_any _ W.pool.hn lo hi W.pool.h k _ (HHd.out.below hC6)).mono ?_; rintro e w8 ⟨⟨t8,rfl,ht8⟩,rfl⟩; obtain rfl:t8=false:=bool_no ht8 Hhd.out; clear ht8))
        have hb7:=below_next hb hC6
        have HX7:=hideW (HX.out.below hC6)
        have HR7:=hideW (HRb.out.below hC6)
        clear hC6 y0 y1 y2 y3 y4 y5 z0 z1 z2 z3
        cases hfk:f k
        ·have Hno:=hideW (show ¬ReachEq W from fun h=>absurd (Hrk.out.2 ((h k hlt).2 ⟨Hfr.out,Hhd.out⟩)) (by simp [hfk]))
         rw [hfk] at *
         go_wp2
         go_ret
         exact⟨BoolIs.no fun hA=>Hno.out hA.reach,hb7⟩
        ·have Hok:=hideW (show InSome W k↔(¬Free (W.pool.s k)∧¬Has W.pool.hn W.pool.h k)from⟨fun _=>⟨Hfr.out,Hhd.out⟩,fun _=>Hrk.out.1 hfk⟩)
         rw [hfk] at *
         go_wp2
         go_roundw
         case rel=>exact⟨k+1,by omega,by go_num,relNext hlt Hall.out Hok.out,HX7.out,HR7.out,hb7⟩
         case measure=>simp [intOf]; omega
     ·obtain rfl:k=W.pool.n:=by omega
      have HRe:=hideW (show ReachEq W from Hall.out)
      clear Hall
      go_wp2_with fail
      clear x0 x2 x4 x6 x8 x10
      refine(l04Born_any _ _ _ _ lo hi W _ (Hp.out.below hb) HTr.out HN.out.prevOk.pos).mono ?_
      rintro e w5 ⟨⟨t5,rfl,ht5⟩,hb5⟩
      have HX5:=hideW (HX.out.below hb5)
      have hB5:=below_next hb hb5
      clear HX hb hb5
      by_cases hbn:∀i,i<memN W→BornOf W i
      rotate_left
      ·have Hbn:=hideW hbn
       obtain rfl:t5=false:=bool_no ht5 hbn
       clear ht5 hbn
       go_wp2
       go_ret
       exact⟨BoolIs.no fun hA=>Hbn.out hA.born,hB5⟩
      have Hbn:=hideW hbn
      obtain rfl:t5=true:=ht5.2 hbn
      clear ht5 hbn
      obtain⟨⟨x0,-⟩,⟨x2,-⟩,⟨x4,-⟩,⟨x6,-⟩,⟨x8,-⟩,⟨x10,-⟩⟩:=HX5.out
      go_wp2_with fail
      clear x0 x2 x4 x6 x8 x10
      refine(l04Apart_any _ _ _ _ lo hi W _ (Hp.out.below hB5) HTr.out HN.out.prevOk.pos hsn hsp).mono ?_
      rintro e w6 ⟨⟨t6,rfl,ht6⟩,hb6⟩
      have Ht:=hideW ht6
      clear ht6
      go_wp2
      go_ret
      exact⟨⟨t6,rfl,Ht.out.trans ⟨fun hA=>⟨HR.out,HN.out,HL.out,HTs.out,HSt.out,HDs.out,HRe.out,Hbn.out,hA⟩,fun hA=>hA.apart⟩⟩,below_next hB5 hb6⟩
end Go.Proofs.YtmgeglgboadfiaaGreatDoor
