/- What spec.WorldRight answers. -/
import Derived.Test.YtihplgckbhnohaaGreatDoorG3
import Derived.Test.YtihplgckbhnohaaGreatDoorG15
import Derived.Test.YtihplgckbhnohaaGreatDoorG16
import Derived.Test.YtihplgckbhnohaaGreatDoorG17
import Derived.Test.YtihplgckbhnohaaGreatDoorG18
import Derived.Test.YtihplgckbhnohaaGreatDoorG9
import Derived.Test.YtihplgckbhnohaaGreatDoorG13
import Derived.Deep.RegionHeld3
import Derived.Test.YtihplgckbhnohaaGreatDoorG6
import Derived.Test.YtihplgckbhnohaaGreatDoorProg
import GoSem.ClaimJoined
import GoSem.ClaimMapViews
import Derived.JoinedTies
import Derived.KernelRfl
import Derived.RowKit
import Derived.WideKeyPair
import Derived.DeepKeys4
import Derived.WalkKit
namespace Go.Proofs.YtihplgckbhnohaaGreatDoor
open Go.RowKit Go.Maps
set_option linter.unusedVariables false
def DeadOf(W:WorldD)(i:Nat):Prop:=PSameL (memOf W i).dn (memOf W i).ds (memOf W i).db (lack (oldM W (memOf W i)) (treeM W (memOf W i)))
structure SpecW (W:WorldD):Prop where
 right:Right W.pool
 names:SpecNames W
 lines:∀i,i<W.sn→LineOk W (W.sets i).name (W.sets i).prev (W.sets i).origin
 snaps:∀i,i<W.pn→TreeOk W.pool (W.snaps i).rs (W.snaps i).rb
 sets:∀i,i<W.sn→TreeOk W.pool (W.sets i).rs (W.sets i).rb∧DeadOf W (W.pn+i)
 dead:∀i,i<W.pn→DeadOf W i
 reach:ReachEq W
 born:∀i,i<memN W→BornOf W i
 apart:ApartM W
theorem old_ok{W:WorldD}(h:∀k,k<W.pn→TreeOk W.pool (W.snaps k).rs (W.snaps k).rb)(x:Int):TreeOk W.pool (aheadOf W x).rs (aheadOf W x).rb:=by
 by_cases hx:∃k,SnapNo W x k
 ·obtain⟨k,hk⟩:=hx
  rw [aheadOf_at hk]
  exact h k hk.1
 ·have:aheadOf W x=zeroSnap:=by
   unfold aheadOf
   rw [dif_neg hx]
  rw [this]
  exact Or.inl ⟨rfl,rfl⟩
theorem trees_of{W:WorldD}(hR:Right W.pool)(hN:SpecNames W)(h1:∀i,i<W.pn→TreeOk W.pool (W.snaps i).rs (W.snaps i).rb)(h2:∀i,i<W.sn→TreeOk W.pool (W.sets i).rs (W.sets i).rb):Trees W where
 right:=hR
 ids:=hN.prevOk.less
 tree:=fun i hi=>by
  by_cases hp:i<W.pn
  ·rw [memOf_snap hp]; exact h1 i hp
  ·have e:=memOf_set W (i - W.pn)
   rw [show W.pn+(i - W.pn)=i by omega] at e
   rw [e]
   unfold memN at hi
   exact h2 _ (by omega)
 time:=fun i hi=>by
  by_cases hp:i<W.pn
  ·rw [memOf_snap hp]
   have:1≤(W.snaps i).time:=(hN.2.2.2.2.2 i hp).1.2.2.1
   show 0≤(W.snaps i).time
   omega
  ·have e:=memOf_set W (i - W.pn)
   rw [show W.pn+(i - W.pn)=i by omega] at e
   rw [e]
   have:1≤W.time:=hN.1.1
   show 0≤W.time
   omega
theorem dead_snap{v0 v1 v2 v3 vd:Value}{lo hi:Nat}{W:WorldD}{w:World}(h:WorldAt w lo hi v0 v1 v2 v3 W)(hR:Right W.pool)(hO:∀k,k<W.pn→TreeOk W.pool (W.snaps k).rs (W.snaps k).rb)(hP:IdsPos W){k:Nat}(hk:k<W.pn)(hD:PtrsAt w lo hi vd (W.snaps k).dn (W.snaps k).ds (W.snaps k).db)(w':World)(hb:Below w.heap.size w w') :
  Calls Tryz.prog 70 #[worldV v0 v1 v2 v3 W,.int .i64 (W.snaps k).prev,.agg #[.int .i64 (W.snaps k).rs,.int .i64 (W.snaps k).rb],vd] w' fun e w''=>BoolIs (DeadOf W k) e∧Below w'.heap.size w' w'':=by
 unfold DeadOf
 rw [memOf_snap hk]
 exact l04Dead_any v0 v1 v2 v3 vd lo hi lo hi _ _ _ W _ _ _ _ _ w' (h.below hb) (hD.below hb) hR (hO k hk) (old_ok hO _) hP rfl rfl
theorem dead_set{v0 v1 v2 v3 vd:Value}{lo hi:Nat}{W:WorldD}{w:World}(h:WorldAt w lo hi v0 v1 v2 v3 W)(hR:Right W.pool)(hO:∀k,k<W.pn→TreeOk W.pool (W.snaps k).rs (W.snaps k).rb)(hP:IdsPos W){k:Nat}(hT:TreeOk W.pool (W.sets k).rs (W.sets k).rb)(hD:PtrsAt w lo hi vd (W.sets k).dn (W.sets k).ds (W.sets k).db)(w':World)(hb:Below w.heap.size w w') :
  Calls Tryz.prog 70 #[worldV v0 v1 v2 v3 W,.int .i64 (W.sets k).prev,.agg #[.int .i64 (W.sets k).rs,.int .i64 (W.sets k).rb],vd] w' fun e w''=>BoolIs (DeadOf W (W.pn+k)) e∧Below w'.heap.size w' w'':=by
 unfold DeadOf
 rw [memOf_set]
 exact l04Dead_any v0 v1 v2 v3 vd lo hi lo hi _ _ _ W _ _ _ _ _ w' (h.below hb) (hD.below hb) hR hT (old_ok hO _) hP rfl rfl
set_option maxRecDepth 20000 in
set_option maxHeartbeats 8000000 in
theorem specWorldRight_any(v0 v1 v2 v3:Value)(lo hi:Nat)(W:WorldD)(w:World)(h:WorldAt w lo hi v0 v1 v2 v3 W) :
  Calls Tryz.prog 42 #[worldV v0 v1 v2 v3 W] w fun e w'=>BoolIs (SpecW W) e∧Below w.heap.size w w':=by
 have Hp:=hideW h
 obtain⟨m1,a,c,rfl,mc,-⟩:=id h.snaps
 obtain⟨m2,a',c',rfl,mc',-⟩:=id h.sets
 obtain⟨m0,a0,c0,rfl,mc0,-⟩:=id h.pool.1
 obtain⟨m3,a1,c1,rfl,mc1,-⟩:=id h.pool.2
 unfold maxLen at m0 m1 m2 m3
 clear h
 have ha:=below_alloc w (.cells #[.slice a0 W.pool.n c0,.slice a1 W.pool.hn c1,.int .i64 W.time,.int .i64 W.next,.slice a' W.sn c',.slice a W.pn c] 39)
 have HB:=hideW (Box6.new w (.slice a0 W.pool.n c0) (.slice a1 W.pool.hn c1) (.int .i64 W.time) (.int .i64 W.next) (.slice a' W.sn c') (.slice a W.pn c) 39)
 obtain⟨⟨x0,-⟩,⟨x2,-⟩,⟨x4,-⟩,⟨x6,-⟩,⟨x8,-⟩,⟨x10,-⟩⟩:=HB.out
 go_enter Tryz.func42,Tryz.ntmps42
 go_wp2_with fail
 clear x0 x2 x4 x6 x8 x10
 generalize w.alloc (.cells #[.slice a0 W.pool.n c0,.slice a1 W.pool.hn c1,.int .i64 W.time,.int .i64 W.next,.slice a' W.sn c',.slice a W.pn c] 39)=W0 at ha HB ⊢
 refine(specPoolRight_any _ _ lo hi W.pool W0 (Hp.out.pool.below ha)).mono ?_
 rintro e w1 ⟨⟨t1,rfl,ht1⟩,hb1⟩
 have HX1:=hideW (HB.out.below hb1)
 have hB1:=below_next ha hb1
 clear ha HB hb1
 by_cases hR:Right W.pool
 rotate_left
 ·have HR:=hideW hR
  obtain rfl:t1=false:=bool_no ht1 hR
  clear ht1 hR
  go_wp2
  go_ret
  exact⟨BoolIs.no fun h=>HR.out h.right,hB1⟩
 have HR:=hideW hR
 obtain rfl:t1=true:=ht1.2 hR
 have hpn:W.pool.n≤200:=hR.1
 clear ht1 hR
 obtain⟨⟨x0,-⟩,⟨x2,-⟩,⟨x4,-⟩,⟨x6,-⟩,⟨x8,-⟩,⟨x10,-⟩⟩:=HX1.out
 go_wp2_with fail
 clear x0 x2 x4 x6 x8 x10
 refine(l04Names_any _ _ _ _ lo hi W w1 (Hp.out.below hB1)).mono ?_
 rintro e w2 ⟨⟨t2,rfl,ht2⟩,hb2⟩
 have HX2:=hideW (HX1.out.below hb2)
 have hB2:=below_next hB1 hb2
 clear HX1 hB1 hb2
 by_cases hN:SpecNames W
 rotate_left
 ·have HN:=hideW hN
  obtain rfl:t2=false:=bool_no ht2 hN
  clear ht2 hN
  go_wp2
  go_ret
  exact⟨BoolIs.no fun h=>HN.out h.names,hB2⟩
 have HN:=hideW hN
 obtain rfl:t2=true:=ht2.2 hN
 have hsn:W.sn≤8:=hN.2.2.1
 have hsp:W.pn≤20:=hN.2.2.2.1
 clear ht2 hN
 obtain⟨⟨x0,-⟩,⟨x2,-⟩,⟨x4,-⟩,⟨x6,-⟩,⟨x8,-⟩,⟨x10,-⟩⟩:=HX2.out
 go_wp2_with fail
 clear x0 x2 x4 x6 x8 x10
 refine(l04Chains_any _ _ _ _ lo hi W w2 (Hp.out.below hB2) HN.out.prevOk hsn hsp).mono ?_
 rintro e w3 ⟨⟨t3,rfl,ht3⟩,hb3⟩
 have HX3:=hideW (HX2.out.below hb3)
 have hB3:=below_next hB2 hb3
 clear HX2 hB2 hb3
 by_cases hL:∀i,i<W.sn→LineOk W (W.sets i).name (W.sets i).prev (W.sets i).origin
 rotate_left
 ·have HL:=hideW hL
  obtain rfl:t3=false:=bool_no ht3 hL
  clear ht3 hL
  go_wp2
  go_ret
  exact⟨BoolIs.no fun h=>HL.out h.lines,hB3⟩
 have HL:=hideW hL
 obtain rfl:t3=true:=ht3.2 hL
 clear ht3 hL
 go_wp2
 go_loopw [3] (fun i wr=>∃k:Nat,k≤W.pn∧i = .int .i64 k∧(∀j,j<k→TreeOk W.pool (W.snaps j).rs (W.snaps j).rb)∧Box6 wr w.heap.size (.slice a0 W.pool.n c0) (.slice a1 W.pool.hn c1) (.int .i64 W.time) (.int .i64 W.next) (.slice a' W.sn c') (.slice a W.pn c)∧Below w.heap.size w wr) (fun i _=>W.pn - (intOf i).toNat)
 case atStart=>exact⟨0,Nat.zero_le _,rfl,fun j hj=>absurd hj (Nat.not_lt_zero _),HX3.out,hB3⟩
 case round=>
  clear HX3 hB3
  obtain⟨k,hk,rfl,hall,hX,hb⟩:=hrel
  have Hall:=hideW hall
  have HX:=hideW hX
  clear hall hX
  obtain⟨⟨x0,-⟩,⟨x2,-⟩,⟨x4,-⟩,⟨x6,-⟩,⟨x8,-⟩,⟨x10,-⟩⟩:=HX.out
  by_cases hlt:k<W.pn
  ·have hlt':(k:Int)<(W.pn:Int):=by omega
   obtain⟨b,off,vd,rfl,hs⟩:=(Hp.out.snaps.below hb).cells hlt
   have q5:=hs.c5
   have q6:=hs.c6
   clear hs
   go_wp2_with fail
   go_region_held3 (fun w'=>w'.cell? ⟨w.heap.size,0,none⟩=some (.slice a0 W.pool.n c0)∧w'.cell? ⟨w.heap.size,1,none⟩=some (.slice a1 W.pool.hn c1)∧w'.cell? ⟨w.heap.size,2,none⟩=some (.int .i64 W.time)∧w'.cell? ⟨w.heap.size,3,none⟩=some (.int .i64 W.next)∧w'.cell? ⟨w.heap.size,4,none⟩=some (.slice a' W.sn c')∧w'.cell? ⟨w.heap.size,5,none⟩=some (.slice (some ⟨b,off,none⟩) W.pn c)∧w'.cell? ⟨b,off+k*8+5,none⟩=some (.int .i64 (W.snaps k).rs)∧w'.cell? ⟨b,off+k*8+6,none⟩=some (.int .i64 (W.snaps k).rb)) (go_keep)
    (first | (go_at_call 69; refine(l02Right_any _ _ lo hi W.pool (W.snaps k).rs (W.snaps k).rb _ ?_ HR.out).mono ?_; (exact(Hp.out.pool.below hb).below (Below.refl _ _).drew); rintro e w6 ⟨⟨t6,rfl,ht6⟩,hb6⟩; obtain⟨⟨y0,_⟩,⟨y1,_⟩,⟨y2,_⟩,⟨y3,_⟩,⟨y4,_⟩,⟨y5,_⟩⟩:=HX.out.below (below_undrew hb6); have z5:=(hb6.cell (p:=⟨b,off+k*8+5,none⟩) (lt_of_cell q5)).trans q5; have z6:=(hb6.cell (p:=⟨b,off+k*8+6,none⟩) (lt_of_cell q6)).trans q6))
   have hb7:=below_call hb hb6
   have HX7:=hideW (HX.out.below (below_undrew hb6))
   have Ht:=hideW ht6
   clear ht6 hb6 z5 z6 y0 y1 y2 y3 y4 y5 q5 q6 HX x0 x2 x4 x6 x8 x10
   cases t6
   ·have Hn:=hideW (show ¬TreeOk W.pool (W.snaps k).rs (W.snaps k).rb from fun hA=>absurd (Ht.out.2 hA) (by simp))
    clear Ht
    go_wp2
    go_ret
    exact⟨BoolIs.no fun hA=>Hn.out (hA.snaps k hlt),hb7⟩
   ·have Hn:=hideW (Ht.out.1 rfl)
    clear Ht
    go_wp2
    go_roundw
    case rel=>exact⟨k+1,by omega,by go_num,relNext hlt Hall.out Hn.out,HX7.out,hb7⟩
    case measure=>simp [intOf]; omega
  obtain rfl:k=W.pn:=by omega
  have HTs:=hideW Hall.out
  clear Hall
  go_wp2
  clear x0 x2 x4 x6 x8 x10
  go_loopw [4] (fun i wr=>∃k:Nat,k≤W.sn∧i = .int .i64 k∧(∀j,j<k→TreeOk W.pool (W.sets j).rs (W.sets j).rb∧DeadOf W (W.pn+j))∧Box6 wr w.heap.size (.slice a0 W.pool.n c0) (.slice a1 W.pool.hn c1) (.int .i64 W.time) (.int .i64 W.next) (.slice a' W.sn c') (.slice a W.pn c)∧Below w.heap.size w wr) (fun i _=>W.sn - (intOf i).toNat)
  case atStart=>exact⟨0,Nat.zero_le _,rfl,fun j hj=>absurd hj (Nat.not_lt_zero _),HX.out,hb⟩
  case round=>
   clear HX hb hlt hk
   obtain⟨k,hk,rfl,hall,hX,hb⟩:=hrel
   have Hall:=hideW hall
   have HX:=hideW hX
   clear hall hX
   obtain⟨⟨x0,-⟩,⟨x2,-⟩,⟨x4,-⟩,⟨x6,-⟩,⟨x8,-⟩,⟨x10,-⟩⟩:=HX.out
   by_cases hlt:k<W.sn
   ·have hlt':(k:Int)<(W.sn:Int):=by omega
    obtain⟨b,off,vd,rfl,hs⟩:=(Hp.out.sets.below hb).cells hlt
    have q3:=hs.c2
    have q5:=hs.c3
    have q6:=hs.c4
    have q7:=hs.c5
    have Hdd:=hideW hs.dead
    clear hs
    by_cases htk:TreeOk W.pool (W.sets k).rs (W.sets k).rb
    rotate_left
    ·have Htk:=hideW htk
     clear htk
     go_wp2_with fail
     refine wp_region_held_drew (S:=(fun w'=>w'.cell? ⟨w.heap.size,0,none⟩=some (.slice a0 W.pool.n c0)∧w'.cell? ⟨w.heap.size,1,none⟩=some (.slice a1 W.pool.hn c1)∧w'.cell? ⟨w.heap.size,2,none⟩=some (.int .i64 W.time)∧w'.cell? ⟨w.heap.size,3,none⟩=some (.int .i64 W.next)∧w'.cell? ⟨w.heap.size,4,none⟩=some (.slice (some ⟨b,off,none⟩) W.sn c')∧w'.cell? ⟨w.heap.size,5,none⟩=some (.slice a W.pn c)∧w'.cell? ⟨b,off+k*6+3,none⟩=some (.int .i64 (W.sets k).rs)∧w'.cell? ⟨b,off+k*6+4,none⟩=some (.int .i64 (W.sets k).rb))) (by kernel_rfl) ?_ (fun hHeld=>?_)
     ·(try dsimp only)
      go_keep
     refine tk 0 (h:=tk 1 (h:=tk 2 (h:=tk 3 (h:=tk 4 (h:=tk 5 (h:=tk 6 (h:=tk 7 (h:=?_))))))))
     refine rd [8] (rc (fun K hK=>?_) .nil)
     go_simp
     go_at_call 69
     refine(l02Right_any _ _ lo hi W.pool (W.sets k).rs (W.sets k).rb _ ?_ HR.out).mono ?_
     ·first | exact Hp.out.pool.below hb | exact Hp.out.pool.below hb.drew
     rintro e w6 ⟨⟨t6,rfl,ht6⟩,hb6⟩
     obtain rfl:t6=false:=bool_no ht6 Htk.out
     clear ht6
     have hC6:Below wr.heap.size wr w6:=(by first | exact hb6 | exact below_undrew hb6)
     obtain⟨⟨y0,_⟩,⟨y1,_⟩,⟨y2,_⟩,⟨y3,_⟩,⟨y4,_⟩,⟨y5,_⟩⟩:=HX.out.below hC6
     have z5:=(hC6.cell (lt_of_cell q5)).trans q5
     have z6:=(hC6.cell (lt_of_cell q6)).trans q6
     (try go_wp2_with fail)
     refine hK.out _ _ (by(try dsimp only); go_keep) ?_
     clear hK K hHeld
     intro hHeld
     try simp only [Act.put,s1,s2,s3]
     refine tk 9 (h:=tk 10 (h:=ts 11 (h:=ts 12 (h:=ts 13 (h:=ts 14 (h:=ts 15 (h:=ts 16 (h:=ts 17 (h:=ts 18 (h:=ts 19 (h:=ts 20 (h:=ts 21 (h:=ts 22 (h:=ts 23 (h:=ts 24 (h:=ts 25 (h:=ts 26 (h:=ts 27 (h:=ts 28 (h:=ts 29 (h:=?_)))))))))))))))))))))
     refine rd [30] (rc (fun K hK=>?_) .nil)
     split
     ·rename_i hwt
      exact absurd (show false=true from hwt) Bool.false_ne_true
     refine hK.out _ _ (by assumption) (fun hHeld=>?_)
     clear hK K
     try simp only [Act.put,s1,s2,s3]
     refine ts 31 (h:=tk 32 (h:=?_))
     refine wpAnyH_done (by kernel_rfl) ?_ _
     have hb7:=below_next hb hC6
     clear hC6 y0 y1 y2 y3 y4 y5 z5 z6
     go_wp2
     go_ret
     exact⟨BoolIs.no fun hA=>Htk.out (hA.sets k hlt).1,hb7⟩
    have Htk:=hideW htk
    clear htk
    have Hc:=hideW (dead_set (Hp.out.below hb) HR.out HTs.out HN.out.prevOk.pos Htk.out Hdd.out)
    go_wp2_with fail
    go_region_held3 (fun w'=>w'.cell? ⟨w.heap.size,0,none⟩=some (.slice a0 W.pool.n c0)∧w'.cell? ⟨w.heap.size,1,none⟩=some (.slice a1 W.pool.hn c1)∧w'.cell? ⟨w.heap.size,2,none⟩=some (.int .i64 W.time)∧w'.cell? ⟨w.heap.size,3,none⟩=some (.int .i64 W.next)∧w'.cell? ⟨w.heap.size,4,none⟩=some (.slice (some ⟨b,off,none⟩) W.sn c')∧w'.cell? ⟨w.heap.size,5,none⟩=some (.slice a W.pn c)∧w'.cell? ⟨b,off+k*6+2,none⟩=some (.int .i64 (W.sets k).prev)∧w'.cell? ⟨b,off+k*6+3,none⟩=some (.int .i64 (W.sets k).rs)∧w'.cell? ⟨b,off+k*6+4,none⟩=some (.int .i64 (W.sets k).rb)∧w'.cell? ⟨b,off+k*6+5,none⟩=some vd) (go_keep)
     (first
      | (go_at_call 69; refine(l02Right_any _ _ lo hi W.pool (W.sets k).rs (W.sets k).rb _ ?_ HR.out).mono ?_; (exact(Hp.out.pool.below hb).below (Below.refl _ _).drew); rintro e w6 ⟨⟨t6,rfl,ht6⟩,hb6⟩; obtain rfl:t6=true:=ht6.2 Htk.out; clear ht6; obtain⟨⟨y0,_⟩,⟨y1,_⟩,⟨y2,_⟩,⟨y3,_⟩,⟨y4,_⟩,⟨y5,_⟩⟩:=HX.out.below (below_undrew hb6); have z3:=(hb6.cell (p:=⟨b,off+k*6+2,none⟩) (lt_of_cell q3)).trans q3; have z5:=(hb6.cell (p:=⟨b,off+k*6+3,none⟩) (lt_of_cell q5)).trans q5; have z6:=(hb6.cell (p:=⟨b,off+k*6+4,none⟩) (lt_of_cell q6)).trans q6; have z7:=(hb6.cell (p:=⟨b,off+k*6+5,none⟩) (lt_of_cell q7)).trans q7)
      | (go_at_call 70; refine(Hc.out _ (below_undrew hb6)).mono ?_; rintro e w7 ⟨⟨t7,rfl,ht7⟩,hb7⟩; obtain⟨⟨g0,_⟩,⟨g1,_⟩,⟨g2,_⟩,⟨g3,_⟩,⟨g4,_⟩,⟨g5,_⟩⟩:=(HX.out.below (below_undrew hb6)).below hb7; have j3:=(hb7.cell (lt_of_cell z3)).trans z3; have j5:=(hb7.cell (lt_of_cell z5)).trans z5; have j6:=(hb7.cell (lt_of_cell z6)).trans z6; have j7:=(hb7.cell (lt_of_cell z7)).trans z7))
    have hb8:=below_next (below_call hb hb6) hb7
    have HX8:=hideW ((HX.out.below (below_undrew hb6)).below hb7)
    have Ht:=hideW ht7
    clear ht7 hb6 hb7 z3 z5 z6 z7 y0 y1 y2 y3 y4 y5 g0 g1 g2 g3 g4 g5 j3 j5 j6 j7 q3 q5 q6 q7 HX x0 x2 x4 x6 x8 x10 Hc
    cases t7
    ·have Hn:=hideW (show ¬DeadOf W (W.pn+k)from fun hA=>absurd (Ht.out.2 hA) (by simp))
     clear Ht
     go_wp2
     go_ret
     exact⟨BoolIs.no fun hA=>Hn.out (hA.sets k hlt).2,hb8⟩
    ·have Hn:=hideW (Ht.out.1 rfl)
     clear Ht
     go_wp2
     go_roundw
     case rel=>exact⟨k+1,by omega,by go_num,relNext hlt Hall.out ⟨Htk.out,Hn.out⟩,HX8.out,hb8⟩
     case measure=>simp [intOf]; omega
   obtain rfl:k=W.sn:=by omega
   have HSt:=hideW Hall.out
   clear Hall
   go_wp2
   clear x0 x2 x4 x6 x8 x10
   go_loopw [5] (fun i wr=>∃k:Nat,k≤W.pn∧i = .int .i64 k∧(∀j,j<k→DeadOf W j)∧Box6 wr w.heap.size (.slice a0 W.pool.n c0) (.slice a1 W.pool.hn c1) (.int .i64 W.time) (.int .i64 W.next) (.slice a' W.sn c') (.slice a W.pn c)∧Below w.heap.size w wr) (fun i _=>W.pn - (intOf i).toNat)
   case atStart=>exact⟨0,Nat.zero_le _,rfl,fun j hj=>absurd hj (Nat.not_lt_zero _),HX.out,hb⟩
   case round=>
    clear HX hb hlt hk
    obtain⟨k,hk,rfl,hall,hX,hb⟩:=hrel
    have Hall:=hideW hall
    have HX:=hideW hX
    clear hall hX
    obtain⟨⟨x0,-⟩,⟨x2,-⟩,⟨x4,-⟩,⟨x6,-⟩,⟨x8,-⟩,⟨x10,-⟩⟩:=HX.out
    by_cases hlt:k<W.pn
    ·have hlt':(k:Int)<(W.pn:Int):=by omega
     obtain⟨b,off,vd,rfl,hs⟩:=(Hp.out.snaps.below hb).cells hlt
     have q3:=hs.c3
     have q5:=hs.c5
     have q6:=hs.c6
     have q7:=hs.c7
     have Hc:=hideW (dead_snap (Hp.out.below hb) HR.out HTs.out HN.out.prevOk.pos hlt hs.dead)
     clear hs
     go_wp2_with fail
     go_region_held3 (fun w'=>w'.cell? ⟨w.heap.size,0,none⟩=some (.slice a0 W.pool.n c0)∧w'.cell? ⟨w.heap.size,1,none⟩=some (.slice a1 W.pool.hn c1)∧w'.cell? ⟨w.heap.size,2,none⟩=some (.int .i64 W.time)∧w'.cell? ⟨w.heap.size,3,none⟩=some (.int .i64 W.next)∧w'.cell? ⟨w.heap.size,4,none⟩=some (.slice a' W.sn c')∧w'.cell? ⟨w.heap.size,5,none⟩=some (.slice (some ⟨b,off,none⟩) W.pn c)∧w'.cell? ⟨b,off+k*8+3,none⟩=some (.int .i64 (W.snaps k).prev)∧w'.cell? ⟨b,off+k*8+5,none⟩=some (.int .i64 (W.snaps k).rs)∧w'.cell? ⟨b,off+k*8+6,none⟩=some (.int .i64 (W.snaps k).rb)∧w'.cell? ⟨b,off+k*8+7,none⟩=some vd) (go_keep)
      (first | (go_at_call 70; refine(Hc.out _ ?_).mono ?_; (exact(Below.refl _ _).drew); rintro e w6 ⟨⟨t6,rfl,ht6⟩,hb6⟩; obtain⟨⟨y0,_⟩,⟨y1,_⟩,⟨y2,_⟩,⟨y3,_⟩,⟨y4,_⟩,⟨y5,_⟩⟩:=HX.out.below (below_undrew hb6); have z3:=(hb6.cell (p:=⟨b,off+k*8+3,none⟩) (lt_of_cell q3)).trans q3; have z5:=(hb6.cell (p:=⟨b,off+k*8+5,none⟩) (lt_of_cell q5)).trans q5; have z6:=(hb6.cell (p:=⟨b,off+k*8+6,none⟩) (lt_of_cell q6)).trans q6; have z7:=(hb6.cell (p:=⟨b,off+k*8+7,none⟩) (lt_of_cell q7)).trans q7))
     have hb7:=below_call hb hb6
     have HX7:=hideW (HX.out.below (below_undrew hb6))
     have Ht:=hideW ht6
     clear ht6 hb6 z3 z5 z6 z7 y0 y1 y2 y3 y4 y5 q3 q5 q6 q7 HX x0 x2 x4 x6 x8 x10 Hc
     cases t6
     ·have Hn:=hideW (show ¬DeadOf W k from fun hA=>absurd (Ht.out.2 hA) (by simp))
      clear Ht
      go_wp2
      go_ret
      exact⟨BoolIs.no fun hA=>Hn.out (hA.dead k hlt),hb7⟩
     ·have Hn:=hideW (Ht.out.1 rfl)
      clear Ht
      go_wp2
      go_roundw
      case rel=>exact⟨k+1,by omega,by go_num,relNext hlt Hall.out Hn.out,HX7.out,hb7⟩
      case measure=>simp [intOf]; omega
    obtain rfl:k=W.pn:=by omega
    have HDs:=hideW Hall.out
    have HTr:=hideW (trees_of HR.out HN.out HTs.out (fun i hi=>(HSt.out i hi).1))
    clear Hall
    go_wp2_with fail
    clear x0 x2 x4 x6 x8 x10
    refine(l04Reach_any _ _ _ _ lo hi W _ (Hp.out.below hb) HTr.out hsn hsp).mono ?_
    rintro e w4 ⟨R,f,rfl,hRl,hRb,hRf,hb4⟩
    have HX4:=hideW (HX.out.below hb4)
    have HRb:=hideW hRb
    have HRf:=hideW hRf
    have hB4:=below_next hb hb4
    have hRw:w.heap.size≤R:=by have:=hb.size; omega
    clear HX hb hb4 hRb hRf hlt hk hRl
    go_wp2
    go_loopw [7] (fun i wr=>∃k:Nat,k≤W.pool.n∧i = .int .i64 k∧(∀j,j<k→(InSome W j↔(¬Free (W.pool.s j)∧¬Has W.pool.hn W.pool.h j)))∧Box6 wr w.heap.size (.slice a0 W.pool.n c0) (.slice a1 W.pool.hn c1) (.int .i64 W.time) (.int .i64 W.next) (.slice a' W.sn c') (.slice a W.pn c)∧BoolsC wr R W.pool.n f∧Below w.heap.size w wr) (fun i _=>W.pool.n - (intOf i).toNat)
    case atStart=>exact⟨0,Nat.zero_le _,rfl,fun j hj=>absurd hj (Nat.not_lt_zero _),HX4.out,HRb.out,hB4⟩
    case round=>
     clear HX4 HRb hB4
     obtain⟨k,hk,rfl,hall,hX,hRb,hb⟩:=hrel
     have Hall:=hideW hall
     have HX:=hideW hX
     have HRb:=hideW hRb
     clear hall hX hRb
     obtain⟨⟨x0,-⟩,⟨x2,-⟩,⟨x4,-⟩,⟨x6,-⟩,⟨x8,-⟩,⟨x10,-⟩⟩:=HX.out
     by_cases hlt:k<W.pool.n
     ·have hlt':(k:Int)<(W.pool.n:Int):=by omega
      obtain⟨b,off,ka,kc,rfl,hsc⟩:=(Hp.out.pool.1.below hb).cells hlt
      have q0:=hsc.c0
      have q1:=hsc.c1
      have q2:=hsc.c2
      have Hsl:=hideW hsc.slot
      have qr:=(HRb.out k hlt).1
      clear hsc
      have HHd:=hideW (Hp.out.pool.2.below hb)
      have Hrk:=hideW (HRf.out k)
      by_cases hfr:Free (W.pool.s k)
      ·have Hfr:=hideW hfr
       clear hfr
       go_wp2_with fail
       refine wp_region_held_drew (S:=(fun w'=>w'.cell? ⟨w.heap.size,0,none⟩=some (.slice (some ⟨b,off,none⟩) W.pool.n c0)∧w'.cell? ⟨w.heap.size,1,none⟩=some (.slice a1 W.pool.hn c1)∧w'.cell? ⟨w.heap.size,2,none⟩=some (.int .i64 W.time)∧w'.cell? ⟨w.heap.size,3,none⟩=some (.int .i64 W.next)∧w'.cell? ⟨w.heap.size,4,none⟩=some (.slice a' W.sn c')∧w'.cell? ⟨w.heap.size,5,none⟩=some (.slice a W.pn c)∧w'.cell? ⟨R,k,none⟩=some (.bool (f k))∧w'.cell? ⟨b,off+k*3,none⟩=some (.int .i64 (W.pool.s k).birth)∧w'.cell? ⟨b,off+k*3+1,none⟩=some (.slice ka (W.pool.s k).kn kc)∧w'.cell? ⟨b,off+k*3+2,none⟩=some (.string (W.pool.s k).data))) (by kernel_rfl) ?_ (fun hHeld=>?_)
       ·(try dsimp only)
        go_keep
       refine tk 0 (h:=tk 1 (h:=tk 2 (h:=tk 3 (h:=tk 4 (h:=tk 5 (h:=tk 6 (h:=tk 7 (h:=tk 8 (h:=tk 9 (h:=?_))))))))))
       refine rd [10] (rc (fun K hK=>?_) .nil)
       go_simp
       go_at_call 28
       refine(l01Free_any _ _ _ lo hi (W.pool.s k) _ ?_).mono ?_
       ·exact Hsl.out.below (below_drewN (Below.refl _ _) 1)
       rintro e w6 ⟨⟨t6,rfl,ht6⟩,hb6⟩
       obtain rfl:t6=true:=ht6.2 Hfr.out
       clear ht6
       have hC6:Below wr.heap.size wr w6:=(by first | exact hb6 | exact below_undrew hb6)
       obtain⟨⟨y0,_⟩,⟨y1,_⟩,⟨y2,_⟩,⟨y3,_⟩,⟨y4,_⟩,⟨y5,_⟩⟩:=HX.out.below hC6
       have z0:=(hC6.cell (lt_of_cell q0)).trans q0
       have z1:=(hC6.cell (lt_of_cell q1)).trans q1
       have z2:=(hC6.cell (lt_of_cell q2)).trans q2
       have z3:=(hC6.cell (lt_of_cell qr)).trans qr
       (try go_wp2_with fail)
       refine hK.out _ _ (by(try dsimp only); go_keep) ?_
       clear hK K hHeld
       intro hHeld
       try simp only [Act.put,s1,s2,s3]
       refine tk 11 (h:=tk 12 (h:=ts 13 (h:=ts 14 (h:=ts 15 (h:=ts 16 (h:=?_))))))
       refine rd [17] (rc (fun K hK=>?_) .nil)
       split
       ·rename_i hwt
        exact absurd (show false=true from hwt) Bool.false_ne_true
       refine hK.out _ _ (by assumption) (fun hHeld=>?_)
       clear hK K
       try simp only [Act.put,s1,s2,s3]
       refine ts 18 (h:=tk 19 (h:=tk 20 (h:=?_)))
       refine wpAnyH_done (by kernel_rfl) ?_ _
       have hb7:=below_next hb hC6
       have HX7:=hideW (HX.out.below hC6)
       have HR7:=hideW (HRb.out.below hC6)
       clear hC6 y0 y1 y2 y3 y4 y5 z0 z1 z2 z3
       cases hfk:f k
       ·have Hok:=hideW (show InSome W k↔(¬Free (W.pool.s k)∧¬Has W.pool.hn W.pool.h k)from⟨fun h=>absurd (Hrk.out.2 h) (by simp [hfk]),fun h=>absurd Hfr.out h.1⟩)
        rw [hfk] at *
        go_wp2
        go_roundw
        case rel=>exact⟨k+1,by omega,by go_num,relNext hlt Hall.out Hok.out,HX7.out,HR7.out,hb7⟩
        case measure=>simp [intOf]; omega
       ·have Hno:=hideW (show ¬ReachEq W from fun h=>((h k hlt).1 (Hrk.out.1 hfk)).1 Hfr.out)
        rw [hfk] at *
        go_wp2
        go_ret
        exact⟨BoolIs.no fun hA=>Hno.out hA.reach,hb7⟩
      ·have Hfr:=hideW hfr
       clear hfr
       by_cases hhd:Has W.pool.hn W.pool.h k
       ·have Hhd:=hideW hhd
        clear hhd
        go_wp2_with fail
        go_region_held3 (fun w'=>w'.cell? ⟨w.heap.size,0,none⟩=some (.slice (some ⟨b,off,none⟩) W.pool.n c0)∧w'.cell? ⟨w.heap.size,1,none⟩=some (.slice a1 W.pool.hn c1)∧w'.cell? ⟨w.heap.size,2,none⟩=some (.int .i64 W.time)∧w'.cell? ⟨w.heap.size,3,none⟩=some (.int .i64 W.next)∧w'.cell? ⟨w.heap.size,4,none⟩=some (.slice a' W.sn c')∧w'.cell? ⟨w.heap.size,5,none⟩=some (.slice a W.pn c)∧w'.cell? ⟨R,k,none⟩=some (.bool (f k))∧w'.cell? ⟨b,off+k*3,none⟩=some (.int .i64 (W.pool.s k).birth)∧w'.cell? ⟨b,off+k*3+1,none⟩=some (.slice ka (W.pool.s k).kn kc)∧w'.cell? ⟨b,off+k*3+2,none⟩=some (.string (W.pool.s k).data)) (go_keep)
         (first
          | (go_at_call 28; refine(l01Free_any _ _ _ lo hi (W.pool.s k) _ ?_).mono ?_; (exact Hsl.out.below (Below.refl _ _).drew); rintro e w6 ⟨⟨t6,rfl,ht6⟩,hb6⟩; obtain rfl:t6=false:=bool_no ht6 Hfr.out; clear ht6; have hC6:=below_undrew hb6; obtain⟨⟨y0,_⟩,⟨y1,_⟩,⟨y2,_⟩,⟨y3,_⟩,⟨y4,_⟩,⟨y5,_⟩⟩:=HX.out.below hC6; have z0:=(hC6.cell (lt_of_cell q0)).trans q0; have z1:=(hC6.cell (lt_of_cell q1)).trans q1; have z2:=(hC6.cell (lt_of_cell q2)).trans q2; have z3:=(hC6.cell (lt_of_cell qr)).trans qr)
          | (go_at_call 72; refine(l01Has_any _ W.pool.hn lo hi W.pool.h k _ (HHd.out.below hC6)).mono ?_; rintro e w8 ⟨⟨t8,rfl,ht8⟩,rfl⟩; obtain rfl:t8=true:=ht8.2 Hhd.out; clear ht8))
        have hb7:=below_next hb hC6
        have HX7:=hideW (HX.out.below hC6)
        have HR7:=hideW (HRb.out.below hC6)
        clear hC6 y0 y1 y2 y3 y4 y5 z0 z1 z2 z3
        cases hfk:f k
        ·have Hok:=hideW (show InSome W k↔(¬Free (W.pool.s k)∧¬Has W.pool.hn W.pool.h k)from⟨fun h=>absurd (Hrk.out.2 h) (by simp [hfk]),fun h=>absurd Hhd.out h.2⟩)
         rw [hfk] at *
         go_wp2
         go_roundw
         case rel=>exact⟨k+1,by omega,by go_num,relNext hlt Hall.out Hok.out,HX7.out,HR7.out,hb7⟩
         case measure=>simp [intOf]; omega
        ·have Hno:=hideW (show ¬ReachEq W from fun h=>((h k hlt).1 (Hrk.out.1 hfk)).2 Hhd.out)
         rw [hfk] at *
         go_wp2
         go_ret
         exact⟨BoolIs.no fun hA=>Hno.out hA.reach,hb7⟩
       ·have Hhd:=hideW hhd
        clear hhd
        go_wp2_with fail
        go_region_held3 (fun w'=>w'.cell? ⟨w.heap.size,0,none⟩=some (.slice (some ⟨b,off,none⟩) W.pool.n c0)∧w'.cell? ⟨w.heap.size,1,none⟩=some (.slice a1 W.pool.hn c1)∧w'.cell? ⟨w.heap.size,2,none⟩=some (.int .i64 W.time)∧w'.cell? ⟨w.heap.size,3,none⟩=some (.int .i64 W.next)∧w'.cell? ⟨w.heap.size,4,none⟩=some (.slice a' W.sn c')∧w'.cell? ⟨w.heap.size,5,none⟩=some (.slice a W.pn c)∧w'.cell? ⟨R,k,none⟩=some (.bool (f k))∧w'.cell? ⟨b,off+k*3,none⟩=some (.int .i64 (W.pool.s k).birth)∧w'.cell? ⟨b,off+k*3+1,none⟩=some (.slice ka (W.pool.s k).kn kc)∧w'.cell? ⟨b,off+k*3+2,none⟩=some (.string (W.pool.s k).data)) (go_keep)
         (first
          | (go_at_call 28; refine(l01Free_any _ _ _ lo hi (W.pool.s k) _ ?_).mono ?_; (exact Hsl.out.below (Below.refl _ _).drew); rintro e w6 ⟨⟨t6,rfl,ht6⟩,hb6⟩; obtain rfl:t6=false:=bool_no ht6 Hfr.out; clear ht6; have hC6:=below_undrew hb6; obtain⟨⟨y0,_⟩,⟨y1,_⟩,⟨y2,_⟩,⟨y3,_⟩,⟨y4,_⟩,⟨y5,_⟩⟩:=HX.out.below hC6; have z0:=(hC6.cell (lt_of_cell q0)).trans q0; have z1:=(hC6.cell (lt_of_cell q1)).trans q1; have z2:=(hC6.cell (lt_of_cell q2)).trans q2; have z3:=(hC6.cell (lt_of_cell qr)).trans qr)
          | (go_at_call 72; refine(l01Has_any _ W.pool.hn lo hi W.pool.h k _ (HHd.out.below hC6)).mono ?_; rintro e w8 ⟨⟨t8,rfl,ht8⟩,rfl⟩; obtain rfl:t8=false:=bool_no ht8 Hhd.out; clear ht8))
        have hb7:=below_next hb hC6
        have HX7:=hideW (HX.out.below hC6)
        have HR7:=hideW (HRb.out.below hC6)
        clear hC6 y0 y1 y2 y3 y4 y5 z0 z1 z2 z3
        cases hfk:f k
        ·have Hno:=hideW (show ¬ReachEq W from fun h=>absurd (Hrk.out.2 ((h k hlt).2 ⟨Hfr.out,Hhd.out⟩)) (by simp [hfk]))
         rw [hfk] at *
         go_wp2
         go_ret
         exact⟨BoolIs.no fun hA=>Hno.out hA.reach,hb7⟩
        ·have Hok:=hideW (show InSome W k↔(¬Free (W.pool.s k)∧¬Has W.pool.hn W.pool.h k)from⟨fun _=>⟨Hfr.out,Hhd.out⟩,fun _=>Hrk.out.1 hfk⟩)
         rw [hfk] at *
         go_wp2
         go_roundw
         case rel=>exact⟨k+1,by omega,by go_num,relNext hlt Hall.out Hok.out,HX7.out,HR7.out,hb7⟩
         case measure=>simp [intOf]; omega
     ·obtain rfl:k=W.pool.n:=by omega
      have HRe:=hideW (show ReachEq W from Hall.out)
      clear Hall
      go_wp2_with fail
      clear x0 x2 x4 x6 x8 x10
      refine(l04Born_any _ _ _ _ lo hi W _ (Hp.out.below hb) HTr.out HN.out.prevOk.pos).mono ?_
      rintro e w5 ⟨⟨t5,rfl,ht5⟩,hb5⟩
      have HX5:=hideW (HX.out.below hb5)
      have hB5:=below_next hb hb5
      clear HX hb hb5
      by_cases hbn:∀i,i<memN W→BornOf W i
      rotate_left
      ·have Hbn:=hideW hbn
       obtain rfl:t5=false:=bool_no ht5 hbn
       clear ht5 hbn
       go_wp2
       go_ret
       exact⟨BoolIs.no fun hA=>Hbn.out hA.born,hB5⟩
      have Hbn:=hideW hbn
      obtain rfl:t5=true:=ht5.2 hbn
      clear ht5 hbn
      obtain⟨⟨x0,-⟩,⟨x2,-⟩,⟨x4,-⟩,⟨x6,-⟩,⟨x8,-⟩,⟨x10,-⟩⟩:=HX5.out
      go_wp2_with fail
      clear x0 x2 x4 x6 x8 x10
      refine(l04Apart_any _ _ _ _ lo hi W _ (Hp.out.below hB5) HTr.out HN.out.prevOk.pos hsn hsp).mono ?_
      rintro e w6 ⟨⟨t6,rfl,ht6⟩,hb6⟩
      have Ht:=hideW ht6
      clear ht6
      go_wp2
      go_ret
      exact⟨⟨t6,rfl,Ht.out.trans ⟨fun hA=>⟨HR.out,HN.out,HL.out,HTs.out,HSt.out,HDs.out,HRe.out,Hbn.out,hA⟩,fun hA=>hA.apart⟩⟩,below_next hB5 hb6⟩
end Go.Proofs.YtihplgckbhnohaaGreatDoor

namespace Go.Proofs.YtihplgckbhnohaaGreatDoor
open Go.RowKit Go.Maps
set_option linter.unusedVariables false
set_option maxRecDepth 20000 in
set_option maxHeartbeats 400000 in
theorem countRight_any(n:Int)(w:World):Calls Tryz.prog 117 #[.int .i64 n] w fun e w'=>BoolIs (Between n 1 900000) e∧w'=w:=by
 by_cases h1:1≤n
 ·by_cases h2:n≤900000
  ·go_enter Tryz.func117,Tryz.ntmps117
   go_wp2
   go_ret
   exact⟨BoolIs.yes ⟨h1,h2⟩,rfl⟩
  ·go_enter Tryz.func117,Tryz.ntmps117
   go_wp2
   go_ret
   exact⟨BoolIs.no fun h=>by have:=h.2; omega,rfl⟩
 ·go_enter Tryz.func117,Tryz.ntmps117
  go_wp2
  go_ret
  exact⟨BoolIs.no fun h=>by have:=h.1; omega,rfl⟩
def Mid(a x b:Int):Prop:=a<x∧x<b
set_option maxRecDepth 20000 in
set_option maxHeartbeats 400000 in
theorem between_any(a x b:Int)(w:World):Calls Tryz.prog 133 #[.int .i64 a,.int .i64 x,.int .i64 b] w fun e w'=>BoolIs (Mid a x b) e∧w'=w:=by
 by_cases h1:a<x
 ·by_cases h2:x<b
  ·go_enter Tryz.func133,Tryz.ntmps133
   go_wp2
   go_ret
   exact⟨BoolIs.yes ⟨h1,h2⟩,rfl⟩
  ·go_enter Tryz.func133,Tryz.ntmps133
   go_wp2
   go_ret
   exact⟨BoolIs.no fun h=>by have:=h.2; omega,rfl⟩
 ·go_enter Tryz.func133,Tryz.ntmps133
  go_wp2
  go_ret
  exact⟨BoolIs.no fun h=>by have:=h.1; omega,rfl⟩
def lastN(f:Nat→SetD):Nat→ByteArray
 | 0=>⟨#[]⟩
 | k+1=>(f k).name
def SetsI(n:Nat)(f:Nat→SetD):Prop:=n≤8∧∀i,i<n→NameP (f i).name∧Rises (lastN f i) (f i).name
set_option maxRecDepth 20000 in
set_option maxHeartbeats 2000000 in
theorem setsRight_any(v:Value)(n lo hi:Nat)(f:Nat→SetD)(w:World)(h:SetsAt w lo hi v n f) :
  Calls Tryz.prog 118 #[v] w fun e w'=>BoolIs (SetsI n f) e∧Below w.heap.size w w':=by
 have Hp:=hideW h
 obtain⟨m1,a,c,rfl,mc,-⟩:=id h
 unfold maxLen at m1
 clear h
 by_cases hn:n≤8
 rotate_left
 ·have hn':(8:Int)<(n:Int):=by omega
  go_enter Tryz.func118,Tryz.ntmps118
  go_wp2
  go_ret
  exact⟨BoolIs.no fun h=>hn h.1,Below.refl _ _⟩
 have hn':¬(8:Int)<(n:Int):=by omega
 go_enter Tryz.func118,Tryz.ntmps118
 go_wp2
 go_loopw [3,11] (fun l i wr=>∃k:Nat,k≤n∧i = .int .i64 k∧l = .string (lastN f k)∧(∀j,j<k→NameP (f j).name∧Rises (lastN f j) (f j).name)∧Below w.heap.size w wr) (fun _ i _=>n - (intOf i).toNat)
 case atStart=>exact⟨0,Nat.zero_le _,rfl,rfl,fun j hj=>absurd hj (Nat.not_lt_zero _),Below.refl _ _⟩
 case round=>
  obtain⟨k,hk,rfl,rfl,hall,hb⟩:=hrel
  have Hall:=hideW hall
  clear hall
  by_cases hlt:k<n
  rotate_left
  ·obtain rfl:k=n:=by omega
   go_wp2
   go_ret
   exact⟨BoolIs.yes ⟨hn,Hall.out⟩,hb⟩
  have hlt':(k:Int)<(n:Int):=by omega
  obtain⟨b,off,vd,rfl,hs2⟩:=(Hp.out.below hb).cells hlt
  obtain⟨-,ad,cd,rfl,-,-⟩:=id hs2.dead
  have hbs:=below_alloc wr (.cells #[.string (f k).name,.int .i64 (f k).origin,.int .i64 (f k).prev,.int .i64 (f k).rs,.int .i64 (f k).rb,.slice ad (f k).dn cd] 90)
  have HVs:=hideW (Box6.new wr (.string (f k).name) (.int .i64 (f k).origin) (.int .i64 (f k).prev) (.int .i64 (f k).rs) (.int .i64 (f k).rb) (.slice ad (f k).dn cd) 90)
  have hbw:=below_next hb hbs
  have q0:=hs2.c0
  have q1:=hs2.c1
  have q2:=hs2.c2
  have q3:=hs2.c3
  have q4:=hs2.c4
  have q5:=hs2.c5
  have hns:=hs2.small
  obtain⟨⟨y0,y1⟩,-⟩:=HVs.out
  clear hs2 hbs
  go_wp2_with fail
  clear q0 q1 q2 q3 q4 q5
  refine(implName_any (f k).name _ hns).mono ?_
  rintro e wn ⟨⟨tn,rfl,htn⟩,rfl⟩
  by_cases hA:NameP (f k).name
  rotate_left
  ·have Hn:=hideW hA
   obtain rfl:tn=false:=bool_no htn hA
   clear htn hA
   go_wp2
   go_ret
   exact⟨BoolIs.no fun h=>Hn.out (h.2 k hlt).1,hbw⟩
  have HA:=hideW hA
  obtain rfl:tn=true:=htn.2 hA
  clear htn hA
  by_cases hR:Rises (lastN f k) (f k).name
  ·have f1:=(leq_iff (f k).name (lastN f k)).2 hR
   have HR:=hideW hR
   clear hR
   go_wp2
   go_roundw
   case rel=>exact⟨k+1,by omega,by go_num,rfl,relNext hlt Hall.out ⟨HA.out,HR.out⟩,hbw⟩
   case measure=>simp [intOf]; omega
  ·have f1:(Op.bytesLess (f k).name.toList (lastN f k).toList || (f k).name.toList == (lastN f k).toList)=true:=by
    cases hc:(Op.bytesLess (f k).name.toList (lastN f k).toList || (f k).name.toList == (lastN f k).toList)
    ·exact absurd ((leq_iff _ _).1 hc) hR
    ·rfl
   have HR:=hideW hR
   clear hR
   go_wp2
   go_ret
   exact⟨BoolIs.no fun h=>HR.out (h.2 k hlt).2,hbw⟩
end Go.Proofs.YtihplgckbhnohaaGreatDoor

namespace Go.Proofs.YtihplgckbhnohaaGreatDoor
open Go Go.RowKit Go.Maps
set_option linter.unusedVariables false
theorem laidW:laidOutB Tryz.prog=true:=by kernel_rfl
theorem sizeW:300≤Tryz.prog.types.size+300 - 1∧1≤Tryz.prog.types.size:=by
 have h:decide (1≤Tryz.prog.types.size)=true:=by kernel_rfl
 have:=of_decide_eq_true h
 omega
theorem lessW{k:Nat}(h:decide (k<Tryz.prog.types.size)=true):k<Tryz.prog.types.size:=of_decide_eq_true h
theorem strU:Tryz.prog.underlying 9=some .string:=by kernel_rfl
theorem intU:Tryz.prog.underlying 2=some (.int .i64):=by kernel_rfl
theorem lawS:Keyed Tryz.prog 9:=string_keyed strU
theorem lawI:Keyed Tryz.prog 2:=int_keyed intU
def keyS(s:ByteArray):Lit:=.string s.data.toList
theorem keyS_of{s:ByteArray}(h:s.size≤maxLen):keyOf Tryz.prog 9 (.string s)=some (keyS s):=by simp [keyOf,mapKey,keyS,h]
theorem keyS_inj{s t:ByteArray}(h:keyS s=keyS t):s=t:=by
 unfold keyS at h
 injection h with h
 cases s; cases t
 simp only [ByteArray.mk.injEq]
 exact Array.toList_inj.1 h
theorem keyS_key(s:ByteArray):WideAt.IsKeyLit (keyS s):=trivial
def keyN(x:Int):Lit:=.int .i64 x
theorem keyN_of{x:Int}(h:(Lit.int .i64 x).wf=true):keyOf Tryz.prog 2 (.int .i64 x)=some (keyN x):=keyOf_int_mk intU h
theorem keyN_inj{x y:Int}(h:keyN x=keyN y):x=y:=by unfold keyN at h; injection h
theorem keyN_key(x:Int):WideAt.IsKeyLit (keyN x):=trivial
theorem twoU:Tryz.prog.underlying 207=some (.array 2 9):=by kernel_rfl
theorem lawT:Keyed Tryz.prog 207:=Keyed.of_law (deep_law_laid laidW (m:=5) (by decide) (lessW (by kernel_rfl)) (by kernel_rfl) (by kernel_rfl))
theorem keyT_of{s t:ByteArray}(hs:s.size≤maxLen)(ht:t.size≤maxLen):∃l,keyOf Tryz.prog 207 (.agg #[.string s,.string t])=some l:=by
 obtain⟨m,hm⟩:∃m,Tryz.prog.types.size+1=m+2:=⟨Tryz.prog.types.size - 1,by have:=sizeW; omega⟩
 have hk:Tryz.prog.keyType 207=true:=by kernel_rfl
 have hc:Tryz.prog.cellsOf 207=2:=by kernel_rfl
 have h1:Tryz.prog.cellsOf 9=1:=by kernel_rfl
 unfold keyOf
 simp only [twoU]
 rw [if_pos (by simp [hk,Value.formed,hc]),hm]
 unfold Program.keyLits
 simp only [twoU,Value.cells]
 rw [if_pos (by rw [hc]; rfl),show List.range 2 = [0,1] from rfl,List.mapM_cons,List.mapM_cons,List.mapM_nil]
 simp [h1,Program.keyLits,hs,ht]
theorem ptrU:Tryz.prog.underlying 88=some (.struct #[⟨"Slot",2,0,false, "", "",0⟩,⟨"Birth",2,1,false, "", "",8⟩]):=by kernel_rfl
theorem lawP:Keyed Tryz.prog 88:=Keyed.of_law (deep_law_laid laidW (m:=5) (by decide) (lessW (by kernel_rfl)) (by kernel_rfl) (by kernel_rfl))
theorem keyP_of{x y:Int}(hx:(Lit.int .i64 x).wf=true)(hy:(Lit.int .i64 y).wf=true):∃l,keyOf Tryz.prog 88 (.agg #[.int .i64 x,.int .i64 y])=some l:=by
 obtain⟨m,hm⟩:∃m,Tryz.prog.types.size+1=m+2:=⟨Tryz.prog.types.size - 1,by have:=sizeW; omega⟩
 have hk:Tryz.prog.keyType 88=true:=by kernel_rfl
 have hc:Tryz.prog.cellsOf 88=2:=by kernel_rfl
 have h1:Tryz.prog.cellsOf 2=1:=by kernel_rfl
 unfold keyOf
 simp only [ptrU]
 rw [if_pos (by simp [hk,Value.formed,hc]),hm]
 unfold Program.keyLits
 simp only [ptrU,Value.cells]
 rw [if_pos ⟨by rw [hc]; rfl,by kernel_rfl⟩]
 simp [h1,Program.keyLits,hx,hy]
end Go.Proofs.YtihplgckbhnohaaGreatDoor

namespace Go.Proofs.YtihplgckbhnohaaGreatDoor
open Go.RowKit Go.Maps
set_option linter.unusedVariables false
def setV(vd:Value)(s:SetD):Value:=.agg #[.string s.name,.int .i64 s.origin,.int .i64 s.prev,.int .i64 s.rs,.int .i64 s.rb,vd]
def snapV(vd:Value)(s:SnapD):Value:=.agg #[.int .i64 s.id,.string s.name,.string s.set,.int .i64 s.prev,.int .i64 s.time,.int .i64 s.rs,.int .i64 s.rb,vd]
def SetDeads(w:World)(lo hi n:Nat)(f:Nat→SetD)(vd:Nat→Value):Prop:=∀i,i<n→PtrsAt w lo hi (vd i) (f i).dn (f i).ds (f i).db
def SnapDeads(w:World)(lo hi n:Nat)(f:Nat→SnapD)(vd:Nat→Value):Prop:=∀i,i<n→PtrsAt w lo hi (vd i) (f i).dn (f i).ds (f i).db
open Classical in
theorem SetsAt.vals{w:World}{lo hi:Nat}{a:Option Addr}{n c:Nat}{f:Nat→SetD}(h:SetsAt w lo hi (.slice a n c) n f):∃vd:Nat→Value,SetDeads w lo hi n f vd∧∀i,i<n→∃b off,a=some ⟨b,off,none⟩∧SetCells w b (off+i*6) lo hi (vd i) (f i):=by
 have hx:∀i,∃v,i<n→∃b off,a=some ⟨b,off,none⟩∧SetCells w b (off+i*6) lo hi v (f i):=fun i=>by
  by_cases hi':i<n
  ·obtain⟨b,off,vd,ha,hs⟩:=h.cells hi'
   exact⟨vd,fun _=>⟨b,off,ha,hs⟩⟩
  ·exact⟨undef,fun h=>absurd h hi'⟩
 refine⟨fun i=>(hx i).choose,fun i hi'=>?_,fun i hi'=>(hx i).choose_spec hi'⟩
 obtain⟨b,off,_,hs⟩:=(hx i).choose_spec hi'
 exact hs.dead
open Classical in
theorem SnapsAt.vals{w:World}{lo hi:Nat}{a:Option Addr}{n c:Nat}{f:Nat→SnapD}(h:SnapsAt w lo hi (.slice a n c) n f):∃vd:Nat→Value,SnapDeads w lo hi n f vd∧∀i,i<n→∃b off,a=some ⟨b,off,none⟩∧SnapCells w b (off+i*8) lo hi (vd i) (f i):=by
 have hx:∀i,∃v,i<n→∃b off,a=some ⟨b,off,none⟩∧SnapCells w b (off+i*8) lo hi v (f i):=fun i=>by
  by_cases hi':i<n
  ·obtain⟨b,off,vd,ha,hs⟩:=h.cells hi'
   exact⟨vd,fun _=>⟨b,off,ha,hs⟩⟩
  ·exact⟨undef,fun h=>absurd h hi'⟩
 refine⟨fun i=>(hx i).choose,fun i hi'=>?_,fun i hi'=>(hx i).choose_spec hi'⟩
 obtain⟨b,off,_,hs⟩:=(hx i).choose_spec hi'
 exact hs.dead
theorem setsT:Tryz.prog.underlying 185=some (.map 9 90):=by kernel_rfl
theorem snapsT:Tryz.prog.underlying 190=some (.map 2 92):=by kernel_rfl
theorem apartT:Tryz.prog.underlying 206=some (.map 207 2):=by kernel_rfl
def SetsMap(w:World)(W:WorldD)(M n:Nat)(vd:Nat→Value):Prop:=w.ownsMap Tryz.prog 9 rawE M n (putD (fun i=>keyS (W.sets i).name) (fun i=>setV (vd i) (W.sets i)) n)
def SnapsMap(w:World)(W:WorldD)(M n:Nat)(vd:Nat→Value):Prop:=w.ownsMap Tryz.prog 2 rawE M n (putD (fun i=>keyN (W.snaps i).id) (fun i=>snapV (vd i) (W.snaps i)) n)
theorem SetsMap.below{w w':World}{W:WorldD}{M n:Nat}{vd:Nat→Value}(h:SetsMap w W M n vd)(t:Below w.heap.size w w'):SetsMap w' W M n vd:=h.kept (grownL t none) (by simp)
theorem SnapsMap.below{w w':World}{W:WorldD}{M n:Nat}{vd:Nat→Value}(h:SnapsMap w W M n vd)(t:Below w.heap.size w w'):SnapsMap w' W M n vd:=h.kept (grownL t none) (by simp)
set_option maxRecDepth 20000 in
set_option maxHeartbeats 2000000 in
theorem setsByName_any(v0 v1 v2 v3:Value)(lo hi:Nat)(W:WorldD)(w:World)(h:WorldAt w lo hi v0 v1 v2 v3 W)(hn:W.sn≤8) :
  Calls Tryz.prog 132 #[worldV v0 v1 v2 v3 W] w fun e w'=>∃vd,e = .returned (.map (some (w.heap.size+1)))∧SetsMap w' W (w.heap.size+1) W.sn vd∧SetDeads w lo hi W.sn W.sets vd∧Below w.heap.size w w':=by
 have Hp:=hideW h
 obtain⟨m1,a,c,rfl,mc,-⟩:=id h.sets
 unfold maxLen at m1
 obtain⟨vd,hvd,hcs⟩:=h.sets.vals
 have Hvd:=hideW hvd
 have Hcs:=hideW hcs
 clear h hvd hcs
 have ha:=below_alloc w (.cells #[v0,v1,.int .i64 W.time,.int .i64 W.next,.slice a W.sn c,v3] 39)
 have HB:=hideW (Box6.new w v0 v1 (.int .i64 W.time) (.int .i64 W.next) (.slice a W.sn c) v3 39)
 have hz1:(w.alloc (.cells #[v0,v1,.int .i64 W.time,.int .i64 W.next,.slice a W.sn c,v3] 39)).heap.size=w.heap.size+1:=World.size_alloc _ _
 have hm:=World.ownsMap_made (w.alloc (.cells #[v0,v1,.int .i64 W.time,.int .i64 W.next,.slice a W.sn c,v3] 39)) Tryz.prog 9 rawE
 rw [hz1] at hm
 have HM:=hideW hm
 have HB2:=hideW (HB.out.below (below_alloc _ (.map #[] 0)))
 have Hb2:=hideW (below_next ha (below_alloc _ (.map #[] 0)))
 have hmm:=@run_makeMap Tryz.prog
 obtain⟨⟨x0,-⟩,⟨x2,-⟩,⟨x4,-⟩,⟨x6,-⟩,⟨x8,-⟩,⟨x10,-⟩⟩:=HB2.out
 clear hm
 go_enter Tryz.func132,Tryz.ntmps132
 go_wp2
 clear x0 x2 x4 x6 x8 x10 ha
 go_loopw [10] (fun i wr=>∃k:Nat,k≤W.sn∧i = .int .i64 k∧SetsMap wr W (w.heap.size+1) k vd∧Below w.heap.size w wr∧w.heap.size+2≤wr.heap.size) (fun i _=>W.sn - (intOf i).toNat)
 case atStart=>exact⟨0,Nat.zero_le _,rfl,HM.out,Hb2.out,by rw [World.size_alloc,hz1]; omega⟩
 case round=>
  clear HM HB2 Hb2 HB hz1
  obtain⟨k,hk,rfl,hown,hb,hz⟩:=hrel
  have Hown:=hideW hown
  clear hown
  by_cases hlt:k<W.sn
  ·have hlt':(k:Int)<(W.sn:Int):=by omega
   obtain⟨b,off,rfl,hs0⟩:=Hcs.out k hlt
   have hs2:=hs0.below hb
   obtain⟨-,ad,cd,hvk,-,-⟩:=id hs2.dead
   have Hvk:=hideW hvk
   rw [hvk] at hs2
   clear hvk hs0
   have hbs:=below_alloc wr (.cells #[.string (W.sets k).name,.int .i64 (W.sets k).origin,.int .i64 (W.sets k).prev,.int .i64 (W.sets k).rs,.int .i64 (W.sets k).rb,.slice ad (W.sets k).dn cd] 90)
   have HVs:=hideW (Box6.new wr (.string (W.sets k).name) (.int .i64 (W.sets k).origin) (.int .i64 (W.sets k).prev) (.int .i64 (W.sets k).rs) (.int .i64 (W.sets k).rb) (.slice ad (W.sets k).dn cd) 90)
   have hbw:=below_next hb hbs
   have q0:=hs2.c0
   have q1:=hs2.c1
   have q2:=hs2.c2
   have q3:=hs2.c3
   have q4:=hs2.c4
   have q5:=hs2.c5
   have Hkey:=hideW (keyS_of hs2.small)
   obtain⟨⟨y0,y1⟩,⟨y2,y3⟩,⟨y4,y5⟩,⟨y6,y7⟩,⟨y8,y9⟩,⟨y10,y11⟩⟩:=HVs.out
   have Hown2:=hideW (Hown.out.below hbs)
   have hz2:=hbs.size
   clear hs2 hbs
   go_wp2_with (first
    | (at_mapUpdate; refine wpList_mapUpdate_own _ rfl _ _ _ 185 rfl 9 90 lawS setsT rawE (w.heap.size+1) k _ rfl Hown2.out (by unfold maxLen; omega) _ _ _ rfl rfl Hkey.out _ [] (rawE_mk _) ?_; intro w1 hown1 hgrow1)
    | go_in)
   go_roundw
   case rel=>
    refine⟨k+1,by omega,by go_num,?_,hbw.grown hgrow1 hbw.size (fun j hj=>by cases hj; omega),by have:=hgrow1.size; omega⟩
    unfold SetsMap putD setV
    rw [Hvk.out]
    exact hown1
   case measure=>simp [intOf]; omega
  ·obtain rfl:k=W.sn:=by omega
   go_wp2
   go_ret
   exact⟨vd,rfl,Hown.out,Hvd.out,hb⟩
end Go.Proofs.YtihplgckbhnohaaGreatDoor
