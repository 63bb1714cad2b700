/- What spec.l04Names answers: the walk. -/
import Derived.Test.YtmgeglgboadfiaaGreatDoorP4
import Derived.Test.YtmgeglgboadfiaaGreatDoorP11
import Derived.IntWalk
import Derived.Deep.RegionHeld3
import Derived.BigQuiet
namespace Go.Proofs.YtmgeglgboadfiaaGreatDoor
open Go.RowKit Go.Maps
set_option linter.unusedVariables false
set_option maxRecDepth 20000 in
set_option maxHeartbeats 8000000 in
theorem l04Names_any(v0 v1 v2 v3:Value)(lo hi:Nat)(W:WorldD)(w:World)(h:WorldAt w lo hi v0 v1 v2 v3 W) :
  Calls Tryz.prog 69 #[worldV v0 v1 v2 v3 W] w fun e w'=>BoolIs (SpecNames W) e∧Below w.heap.size w w':=by
 have Hp:=hideW h
 obtain⟨m1,a,c,rfl,mc,-⟩:=id h.snaps
 obtain⟨m2,a',c',rfl,mc',-⟩:=id h.sets
 unfold maxLen at m1 m2
 clear h
 have ha:=below_alloc w (.cells #[v0,v1,.int .i64 W.time,.int .i64 W.next,.slice a' W.sn c',.slice a W.pn c] 37)
 have HB:=hideW (Box6.new w v0 v1 (.int .i64 W.time) (.int .i64 W.next) (.slice a' W.sn c') (.slice a W.pn c) 37)
 obtain⟨⟨x0,x1⟩,⟨x2,x3⟩,⟨x4,x5⟩,⟨x6,x7⟩,⟨x8,x9⟩,⟨x10,x11⟩⟩:=HB.out
 by_cases hT:Between W.time 1 900000
 rotate_left
 ·have HT:=hideW hT
  clear hT
  go_enter Tryz.func69,Tryz.ntmps69
  go_wp2_with fail
  refine(l01Is_any _ _ _ _).mono ?_
  rintro e w1 ⟨⟨t,rfl,ht⟩,rfl⟩
  obtain rfl:t=false:=bool_no ht HT.out
  clear ht
  go_wp2
  go_ret
  exact⟨BoolIs.no fun h=>HT.out h.1,ha⟩
 have HT:=hideW hT
 clear hT
 by_cases hN:Between W.next 1 900000
 rotate_left
 ·have HN:=hideW hN
  clear hN
  go_enter Tryz.func69,Tryz.ntmps69
  go_wp2_with fail
  refine(l01Is_any _ _ _ _).mono ?_
  rintro e w1 ⟨⟨t,rfl,ht⟩,rfl⟩
  obtain rfl:t=true:=ht.2 HT.out
  clear ht
  go_wp2_with fail
  refine(l01Is_any _ _ _ _).mono ?_
  rintro e w1 ⟨⟨t,rfl,ht⟩,rfl⟩
  obtain rfl:t=false:=bool_no ht HN.out
  clear ht
  go_wp2
  go_ret
  exact⟨BoolIs.no fun h=>HN.out h.2.1,ha⟩
 have HN:=hideW hN
 clear hN
 go_enter Tryz.func69,Tryz.ntmps69
 go_wp2_with fail
 refine(l01Is_any _ _ _ _).mono ?_
 rintro e w1 ⟨⟨t,rfl,ht⟩,rfl⟩
 obtain rfl:t=true:=ht.2 HT.out
 clear ht
 go_wp2_with fail
 refine(l01Is_any _ _ _ _).mono ?_
 rintro e w1 ⟨⟨t,rfl,ht⟩,rfl⟩
 obtain rfl:t=true:=ht.2 HN.out
 clear ht
 by_cases hs:W.sn≤8
 rotate_left
 ·have hs':(8:Int)<(W.sn:Int):=by omega
  go_wp2
  go_ret
  exact⟨BoolIs.no fun h=>hs h.2.2.1,ha⟩
 have hs':¬(8:Int)<(W.sn:Int):=by omega
 by_cases hp:W.pn≤20
 rotate_left
 ·have hp':(20:Int)<(W.pn:Int):=by omega
  go_wp2
  go_ret
  exact⟨BoolIs.no fun h=>hp h.2.2.2.1,ha⟩
 have hp':¬(20:Int)<(W.pn:Int):=by omega
 go_wp2
 clear x0 x1 x2 x3 x4 x5 x6 x7 x8 x9 x10 x11
 go_loopw [3] (fun i wr=>∃k:Nat,k≤W.sn∧i = .int .i64 k∧(∀j,j<k→SetOk W j)∧Box6 wr w.heap.size v0 v1 (.int .i64 W.time) (.int .i64 W.next) (.slice a' W.sn c') (.slice a W.pn c)∧Below w.heap.size w wr) (fun i _=>W.sn - (intOf i).toNat)
 case atStart=>exact⟨0,Nat.zero_le _,rfl,fun j hj=>absurd hj (Nat.not_lt_zero _),HB.out,ha⟩
 case round=>
  obtain⟨k,hk,rfl,hall,hX,hb⟩:=hrel
  have Hall:=hideW hall
  have HX:=hideW hX
  clear hall hX ha HB
  by_cases hlt:k<W.sn
  ·have hlt':(k:Int)<(W.sn:Int):=by omega
   have Hset:=hideW ((Hp.out.sets.below hb))
   obtain⟨b,off,vd,rfl,hs2⟩:=(Hp.out.sets.below hb).cells hlt
   obtain⟨-,ad,cd,rfl,-,-⟩:=id hs2.dead
   have hbs:=below_alloc wr (.cells #[.string (W.sets k).name,.int .i64 (W.sets k).origin,.int .i64 (W.sets k).prev,.int .i64 (W.sets k).rs,.int .i64 (W.sets k).rb,.slice ad (W.sets k).dn cd] 67)
   have HXs:=hideW (HX.out.below hbs)
   have HVs:=hideW (Box6.new wr (.string (W.sets k).name) (.int .i64 (W.sets k).origin) (.int .i64 (W.sets k).prev) (.int .i64 (W.sets k).rs) (.int .i64 (W.sets k).rb) (.slice ad (W.sets k).dn cd) 67)
   have hbw:=below_next hb hbs
   have q0:=hs2.c0
   have q1:=hs2.c1
   have q2:=hs2.c2
   have q3:=hs2.c3
   have q4:=hs2.c4
   have q5:=hs2.c5
   have hns:=hs2.small
   have qn:(wr.alloc (.cells #[.string (W.sets k).name,.int .i64 (W.sets k).origin,.int .i64 (W.sets k).prev,.int .i64 (W.sets k).rs,.int .i64 (W.sets k).rb,.slice ad (W.sets k).dn cd] 67)).cell? ⟨b,off+(k - 1)*6,none⟩=some (.string (W.sets (k - 1)).name):=by
    obtain⟨b',off',vd',e,hs3⟩:=((Hp.out.sets.below hb).below hbs).cells (show k - 1<W.sn by omega)
    cases e
    exact hs3.c0
   obtain⟨⟨x0,x1⟩,⟨x2,x3⟩,⟨x4,x5⟩,⟨x6,x7⟩,⟨x8,x9⟩,⟨x10,x11⟩⟩:=HX.out
   go_wp2_with fail
   clear x0 x1 x2 x3 x4 x5 x6 x7 x8 x9 x10 x11 q0 q1 q2 q3 q4 q5 hs2
   generalize wr.alloc (.cells #[.string (W.sets k).name,.int .i64 (W.sets k).origin,.int .i64 (W.sets k).prev,.int .i64 (W.sets k).rs,.int .i64 (W.sets k).rb,.slice ad (W.sets k).dn cd] 67)=W5 at HXs HVs hbw hbs qn ⊢
   obtain⟨⟨x0,-⟩,⟨x2,-⟩,⟨x4,-⟩,⟨x6,-⟩,⟨x8,-⟩,⟨x10,-⟩⟩:=HXs.out
   obtain⟨⟨y0,-⟩,⟨y1,-⟩,⟨y2,-⟩,-⟩:=HVs.out
   as_aux_lemma=>
   refine wp_region_held_drew (S:=(fun w'=>w'.cell? ⟨w.heap.size,0,none⟩=some v0∧w'.cell? ⟨w.heap.size,1,none⟩=some v1∧w'.cell? ⟨w.heap.size,2,none⟩=some (.int .i64 W.time)∧w'.cell? ⟨w.heap.size,3,none⟩=some (.int .i64 W.next)∧w'.cell? ⟨w.heap.size,4,none⟩=some (.slice (some ⟨b,off,none⟩) W.sn c')∧w'.cell? ⟨w.heap.size,5,none⟩=some (.slice a W.pn c)∧w'.cell? ⟨wr.heap.size,0,none⟩=some (.string (W.sets k).name)∧w'.cell? ⟨wr.heap.size,1,none⟩=some (.int .i64 (W.sets k).origin)∧w'.cell? ⟨wr.heap.size,2,none⟩=some (.int .i64 (W.sets k).prev)∧w'.cell? ⟨b,off+(k - 1)*6,none⟩=some (.string (W.sets (k - 1)).name))) (by kernel_rfl) ?_ (fun hHeld=>?_)
   ·(try dsimp only)
    go_keep
   refine tk 0 (h:=tk 1 (h:=?_))
   by_cases hA:NameP (W.sets k).name
   rotate_left
   ·as_aux_lemma=>
    have Hn:=hideW (show ¬SetOk W k from fun h=>hA h.1)
    have HA:=hideW hA
    clear hA
    refine rd [2] (rc (fun K hK=>?_) .nil)
    go_simp
    go_at_call 138
    refine(specName_any (W.sets k).name _ hns).mono ?_
    rintro e wn ⟨⟨tn,rfl,htn⟩,rfl⟩
    obtain rfl:tn=false:=bool_no htn HA.out
    clear htn
    (try go_wp2_with fail)
    refine hK.out _ _ (by(try dsimp only); go_keep) ?_
    clear hK K hHeld
    intro hHeld
    try simp only [Act.put,s1,s2,s3]
    have hbd:Below W5.heap.size W5 W5.drew:=(Below.refl _ _).drew
    refine tk 3 (h:=tk 4 (h:=ts 5 (h:=ts 6 (h:=ts 7 (h:=ts 8 (h:=ts 9 (h:=ts 10 (h:=ts 11 (h:=ts 12 (h:=ts 13 (h:=ts 14 (h:=ts 15 (h:=ts 16 (h:=ts 17 (h:=ts 18 (h:=tk 19 (h:=tk 20 (h:=ts 21 (h:=ts 22 (h:=ts 23 (h:=ts 24 (h:=ts 25 (h:=ts 26 (h:=ts 27 (h:=?_)))))))))))))))))))))))))
    refine rd [28] (rc (fun K hK=>?_) .nil)
    split
    ·rename_i hwt
     exact absurd (show false=true from hwt) Bool.false_ne_true
    refine hK.out _ _ (by assumption) (fun hHeld=>?_)
    clear hK K
    try simp only [Act.put,s1,s2,s3]
    refine ts 29 (h:=ts 30 (h:=tk 31 (h:=tk 32 (h:=ts 33 (h:=ts 34 (h:=ts 35 (h:=ts 36 (h:=ts 37 (h:=ts 38 (h:=ts 39 (h:=?_)))))))))))
    refine rd [40] (rc (fun K hK=>?_) .nil)
    split
    ·rename_i hwt
     exact absurd (show false=true from hwt) Bool.false_ne_true
    refine hK.out _ _ (by assumption) (fun hHeld=>?_)
    clear hK K
    try simp only [Act.put,s1,s2,s3]
    refine ts 41 (h:=ts 42 (h:=tk 43 (h:=?_)))
    refine wpAnyH_done (by kernel_rfl) ?_ _
    go_wp2
    go_ret
    exact⟨BoolIs.no fun hA=>Hn.out (hA.2.2.2.2.1 k hlt),below_next hbw hbd⟩
   as_aux_lemma=>
   have HA:=hideW hA
   clear hA
   refine rd [2] (rc (fun K hK=>?_) .nil)
   go_simp
   go_at_call 138
   refine(specName_any (W.sets k).name _ hns).mono ?_
   rintro e wn ⟨⟨tn,rfl,htn⟩,rfl⟩
   obtain rfl:tn=true:=htn.2 HA.out
   clear htn
   (try go_wp2_with fail)
   refine hK.out _ _ (by(try dsimp only); go_keep) ?_
   clear hK K hHeld
   intro hHeld
   try simp only [Act.put,s1,s2,s3]
   have hbd:Below W5.heap.size W5 W5.drew:=(Below.refl _ _).drew
   refine tk 3 (h:=tk 4 (h:=tk 5 (h:=?_)))
   by_cases hk0:0<k
   rotate_left
   ·as_aux_lemma=>
    have hk1:decide ((0:Int)<(k:Int))=false:=by simp; omega
    have HBr:=hideW (show 0<k→Rises (W.sets (k - 1)).name (W.sets k).name from fun h=>absurd h hk0)
    refine tk 6 (h:=tk 7 (h:=ts 8 (h:=ts 9 (h:=ts 10 (h:=ts 11 (h:=ts 12 (h:=ts 13 (h:=ts 14 (h:=ts 15 (h:=ts 16 (h:=ts 17 (h:=tk 18 (h:=tk 19 (h:=tk 20 (h:=tk 21 (h:=tk 22 (h:=?_)))))))))))))))))
    by_cases hz:(W.sets k).prev=0
    ·as_aux_lemma=>
     have hzb:((W.sets k).prev == 0)=true:=by simp [hz]
     have hzc:decide ((W.sets k).prev=0)=true:=by simp [hz]
     have hzd:((W.sets k).prev != 0)=false:=by simp [hz]
     have HCp:=hideW (show(W.sets k).prev≠0→HasId W (W.sets k).prev from fun h=>absurd hz h)
     clear hz
     refine tk 23 (h:=tk 24 (h:=ts 25 (h:=ts 26 (h:=ts 27 (h:=?_)))))
     refine rd [28] (rc (fun K hK=>?_) .nil)
     split
     ·rename_i hwt
      exact absurd (show false=true from hwt) Bool.false_ne_true
     refine hK.out _ _ (by assumption) (fun hHeld=>?_)
     clear hK K
     try simp only [Act.put,s1,s2,s3]
     refine ts 29 (h:=tk 30 (h:=tk 31 (h:=?_)))
     clear hzb hzc hzd
     refine tk 32 (h:=tk 33 (h:=tk 34 (h:=?_)))
     by_cases hz:(W.sets k).origin=0
     ·as_aux_lemma=>
      have hzb:((W.sets k).origin == 0)=true:=by simp [hz]
      have hzc:decide ((W.sets k).origin=0)=true:=by simp [hz]
      have hzd:((W.sets k).origin != 0)=false:=by simp [hz]
      have HDo:=hideW (show(W.sets k).origin≠0→HasId W (W.sets k).origin from fun h=>absurd hz h)
      clear hz
      refine tk 35 (h:=tk 36 (h:=ts 37 (h:=ts 38 (h:=ts 39 (h:=?_)))))
      refine rd [40] (rc (fun K hK=>?_) .nil)
      split
      ·rename_i hwt
       exact absurd (show false=true from hwt) Bool.false_ne_true
      refine hK.out _ _ (by assumption) (fun hHeld=>?_)
      clear hK K
      try simp only [Act.put,s1,s2,s3]
      refine ts 41 (h:=tk 42 (h:=tk 43 (h:=?_)))
      refine wpAnyH_done (by kernel_rfl) ?_ _
      go_wp2
      go_roundw
      case rel=>exact⟨k+1,by omega,by go_num,relNext hlt Hall.out ⟨HA.out,HBr.out,HCp.out,HDo.out⟩,HXs.out.below hbd,(below_next hbw hbd)⟩
      case measure=>simp [intOf]; omega
     as_aux_lemma=>
     have hzb:((W.sets k).origin == 0)=false:=by simp [hz]
     have hzc:decide ((W.sets k).origin=0)=false:=by simp [hz]
     have hzd:((W.sets k).origin != 0)=true:=by simp [hz]
     have Hz:=hideW hz
     clear hz
     refine tk 35 (h:=tk 36 (h:=tk 37 (h:=tk 38 (h:=tk 39 (h:=?_)))))
     by_cases hi2:HasId W (W.sets k).origin
     rotate_left
     ·as_aux_lemma=>
      have Hiorigin:=hideW hi2
      have Hn:=hideW (show ¬SetOk W k from fun h=>hi2 (h.2.2.2 Hz.out))
      clear hi2
      refine rd [40] (rc (fun K hK=>?_) .nil)
      go_simp
      go_at_call 49
      refine(l04Snap_any v0 v1 _ _ lo hi W (W.sets k).origin _ ?_).mono ?_
      ·exact Hp.out.below (below_next hbw hbd)
      rintro e wo ⟨r,rfl,hF,hbn⟩
      have hf:=first_snap hF
      replace hf:=hf.resolve_left (fun h=>Hiorigin.out h.1)
      have hr:decide (r<0)=true:=by rw [hf.2]; rfl
      clear hF
      have hCwo:Below W5.heap.size W5 wo:=below_next hbd hbn
      obtain⟨⟨k0,_⟩,⟨k1,_⟩,⟨k2,_⟩,⟨k3,_⟩,⟨k4,_⟩,⟨k5,_⟩⟩:=HXs.out.below hCwo
      obtain⟨⟨l0,_⟩,⟨l1,_⟩,⟨l2,_⟩,_⟩:=HVs.out.below hCwo
      have n0:=(hCwo.cell (lt_of_cell qn)).trans qn
      (try go_wp2_with fail)
      refine hK.out _ _ (by(try dsimp only); go_keep) ?_
      clear hK K hHeld
      intro hHeld
      try simp only [Act.put,s1,s2,s3]
      refine tk 41 (h:=tk 42 (h:=tk 43 (h:=?_)))
      refine wpAnyH_done (by kernel_rfl) ?_ _
      go_wp2
      go_ret
      exact⟨BoolIs.no fun hA=>Hn.out (hA.2.2.2.2.1 k hlt),below_next hbw hCwo⟩
     as_aux_lemma=>
     have Hiorigin:=hideW hi2
     have HDo:=hideW (show(W.sets k).origin≠0→HasId W (W.sets k).origin from fun _=>hi2)
     clear hi2
     refine rd [40] (rc (fun K hK=>?_) .nil)
     go_simp
     go_at_call 49
     refine(l04Snap_any v0 v1 _ _ lo hi W (W.sets k).origin _ ?_).mono ?_
     ·exact Hp.out.below (below_next hbw hbd)
     rintro e wo ⟨r,rfl,hF,hbn⟩
     have hf:=first_snap hF
     replace hf:=hf.resolve_right (fun h=>h.1 Hiorigin.out)
     have hr:decide (r<0)=false:=by have:=hf.2.1; simp; omega
     clear hF
     have hCwo:Below W5.heap.size W5 wo:=below_next hbd hbn
     obtain⟨⟨k0,_⟩,⟨k1,_⟩,⟨k2,_⟩,⟨k3,_⟩,⟨k4,_⟩,⟨k5,_⟩⟩:=HXs.out.below hCwo
     obtain⟨⟨l0,_⟩,⟨l1,_⟩,⟨l2,_⟩,_⟩:=HVs.out.below hCwo
     have n0:=(hCwo.cell (lt_of_cell qn)).trans qn
     (try go_wp2_with fail)
     refine hK.out _ _ (by(try dsimp only); go_keep) ?_
     clear hK K hHeld
     intro hHeld
     try simp only [Act.put,s1,s2,s3]
     refine tk 41 (h:=tk 42 (h:=tk 43 (h:=?_)))
     refine wpAnyH_done (by kernel_rfl) ?_ _
     go_wp2
     go_roundw
     case rel=>exact⟨k+1,by omega,by go_num,relNext hlt Hall.out ⟨HA.out,HBr.out,HCp.out,HDo.out⟩,HXs.out.below hCwo,below_next hbw hCwo⟩
     case measure=>simp [intOf]; omega
    as_aux_lemma=>
    have hzb:((W.sets k).prev == 0)=false:=by simp [hz]
    have hzc:decide ((W.sets k).prev=0)=false:=by simp [hz]
    have hzd:((W.sets k).prev != 0)=true:=by simp [hz]
    have Hz:=hideW hz
    clear hz
    refine tk 23 (h:=tk 24 (h:=tk 25 (h:=tk 26 (h:=tk 27 (h:=?_)))))
    by_cases hi2:HasId W (W.sets k).prev
    rotate_left
    ·as_aux_lemma=>
     have Hiprev:=hideW hi2
     have Hn:=hideW (show ¬SetOk W k from fun h=>hi2 (h.2.2.1 Hz.out))
     clear hi2
     refine rd [28] (rc (fun K hK=>?_) .nil)
     go_simp
     go_at_call 49
     refine(l04Snap_any v0 v1 _ _ lo hi W (W.sets k).prev _ ?_).mono ?_
     ·exact Hp.out.below (below_next hbw hbd)
     rintro e wp ⟨r,rfl,hF,hbn⟩
     have hf:=first_snap hF
     replace hf:=hf.resolve_left (fun h=>Hiprev.out h.1)
     have hr:decide (r<0)=true:=by rw [hf.2]; rfl
     clear hF
     have hCwp:Below W5.heap.size W5 wp:=below_next hbd hbn
     obtain⟨⟨k0,_⟩,⟨k1,_⟩,⟨k2,_⟩,⟨k3,_⟩,⟨k4,_⟩,⟨k5,_⟩⟩:=HXs.out.below hCwp
     obtain⟨⟨l0,_⟩,⟨l1,_⟩,⟨l2,_⟩,_⟩:=HVs.out.below hCwp
     have n0:=(hCwp.cell (lt_of_cell qn)).trans qn
     (try go_wp2_with fail)
     refine hK.out _ _ (by(try dsimp only); go_keep) ?_
     clear hK K hHeld
     intro hHeld
     try simp only [Act.put,s1,s2,s3]
     refine tk 29 (h:=tk 30 (h:=tk 31 (h:=tk 32 (h:=ts 33 (h:=ts 34 (h:=ts 35 (h:=ts 36 (h:=ts 37 (h:=ts 38 (h:=ts 39 (h:=?_)))))))))))
     refine rd [40] (rc (fun K hK=>?_) .nil)
     split
     ·rename_i hwt
      exact absurd (show false=true from hwt) Bool.false_ne_true
     refine hK.out _ _ (by assumption) (fun hHeld=>?_)
     clear hK K
     try simp only [Act.put,s1,s2,s3]
     refine ts 41 (h:=ts 42 (h:=tk 43 (h:=?_)))
     refine wpAnyH_done (by kernel_rfl) ?_ _
     go_wp2
     go_ret
     exact⟨BoolIs.no fun hA=>Hn.out (hA.2.2.2.2.1 k hlt),below_next hbw hCwp⟩
    as_aux_lemma=>
    have Hiprev:=hideW hi2
    have HCp:=hideW (show(W.sets k).prev≠0→HasId W (W.sets k).prev from fun _=>hi2)
    clear hi2
    refine rd [28] (rc (fun K hK=>?_) .nil)
    go_simp
    go_at_call 49
    refine(l04Snap_any v0 v1 _ _ lo hi W (W.sets k).prev _ ?_).mono ?_
    ·exact Hp.out.below (below_next hbw hbd)
    rintro e wp ⟨r,rfl,hF,hbn⟩
    have hf:=first_snap hF
    replace hf:=hf.resolve_right (fun h=>h.1 Hiprev.out)
    have hr:decide (r<0)=false:=by have:=hf.2.1; simp; omega
    clear hF
    have hCwp:Below W5.heap.size W5 wp:=below_next hbd hbn
    obtain⟨⟨k0,_⟩,⟨k1,_⟩,⟨k2,_⟩,⟨k3,_⟩,⟨k4,_⟩,⟨k5,_⟩⟩:=HXs.out.below hCwp
    obtain⟨⟨l0,_⟩,⟨l1,_⟩,⟨l2,_⟩,_⟩:=HVs.out.below hCwp
    have n0:=(hCwp.cell (lt_of_cell qn)).trans qn
    (try go_wp2_with fail)
    refine hK.out _ _ (by(try dsimp only); go_keep) ?_
    clear hK K hHeld
    intro hHeld
    try simp only [Act.put,s1,s2,s3]
    refine tk 29 (h:=tk 30 (h:=tk 31 (h:=?_)))
    clear hr hzb hzc hzd
    refine tk 32 (h:=tk 33 (h:=tk 34 (h:=?_)))
    by_cases hz:(W.sets k).origin=0
    ·as_aux_lemma=>
     have hzb:((W.sets k).origin == 0)=true:=by simp [hz]
     have hzc:decide ((W.sets k).origin=0)=true:=by simp [hz]
     have hzd:((W.sets k).origin != 0)=false:=by simp [hz]
     have HDo:=hideW (show(W.sets k).origin≠0→HasId W (W.sets k).origin from fun h=>absurd hz h)
     clear hz
     refine tk 35 (h:=tk 36 (h:=ts 37 (h:=ts 38 (h:=ts 39 (h:=?_)))))
     refine rd [40] (rc (fun K hK=>?_) .nil)
     split
     ·rename_i hwt
      exact absurd (show false=true from hwt) Bool.false_ne_true
     refine hK.out _ _ (by assumption) (fun hHeld=>?_)
     clear hK K
     try simp only [Act.put,s1,s2,s3]
     refine ts 41 (h:=tk 42 (h:=tk 43 (h:=?_)))
     refine wpAnyH_done (by kernel_rfl) ?_ _
     go_wp2
     go_roundw
     case rel=>exact⟨k+1,by omega,by go_num,relNext hlt Hall.out ⟨HA.out,HBr.out,HCp.out,HDo.out⟩,HXs.out.below hCwp,(below_next hbw hCwp)⟩
     case measure=>simp [intOf]; omega
    as_aux_lemma=>
    have hzb:((W.sets k).origin == 0)=false:=by simp [hz]
    have hzc:decide ((W.sets k).origin=0)=false:=by simp [hz]
    have hzd:((W.sets k).origin != 0)=true:=by simp [hz]
    have Hz:=hideW hz
    clear hz
    refine tk 35 (h:=tk 36 (h:=tk 37 (h:=tk 38 (h:=tk 39 (h:=?_)))))
    by_cases hi2:HasId W (W.sets k).origin
    rotate_left
    ·as_aux_lemma=>
     have Hiorigin:=hideW hi2
     have Hn:=hideW (show ¬SetOk W k from fun h=>hi2 (h.2.2.2 Hz.out))
     clear hi2
     refine rd [40] (rc (fun K hK=>?_) .nil)
     go_simp
     go_at_call 49
     refine(l04Snap_any v0 v1 _ _ lo hi W (W.sets k).origin _ ?_).mono ?_
     ·exact Hp.out.below (below_next hbw hCwp)
     rintro e wo ⟨r,rfl,hF,hbn⟩
     have hf:=first_snap hF
     replace hf:=hf.resolve_left (fun h=>Hiorigin.out h.1)
     have hr:decide (r<0)=true:=by rw [hf.2]; rfl
     clear hF
     have hCwo:Below W5.heap.size W5 wo:=below_next hCwp hbn
     obtain⟨⟨k0,_⟩,⟨k1,_⟩,⟨k2,_⟩,⟨k3,_⟩,⟨k4,_⟩,⟨k5,_⟩⟩:=HXs.out.below hCwo
     obtain⟨⟨l0,_⟩,⟨l1,_⟩,⟨l2,_⟩,_⟩:=HVs.out.below hCwo
     have n0:=(hCwo.cell (lt_of_cell qn)).trans qn
     (try go_wp2_with fail)
     refine hK.out _ _ (by(try dsimp only); go_keep) ?_
     clear hK K hHeld
     intro hHeld
     try simp only [Act.put,s1,s2,s3]
     refine tk 41 (h:=tk 42 (h:=tk 43 (h:=?_)))
     refine wpAnyH_done (by kernel_rfl) ?_ _
     go_wp2
     go_ret
     exact⟨BoolIs.no fun hA=>Hn.out (hA.2.2.2.2.1 k hlt),below_next hbw hCwo⟩
    as_aux_lemma=>
    have Hiorigin:=hideW hi2
    have HDo:=hideW (show(W.sets k).origin≠0→HasId W (W.sets k).origin from fun _=>hi2)
    clear hi2
    refine rd [40] (rc (fun K hK=>?_) .nil)
    go_simp
    go_at_call 49
    refine(l04Snap_any v0 v1 _ _ lo hi W (W.sets k).origin _ ?_).mono ?_
    ·exact Hp.out.below (below_next hbw hCwp)
    rintro e wo ⟨r,rfl,hF,hbn⟩
    have hf:=first_snap hF
    replace hf:=hf.resolve_right (fun h=>h.1 Hiorigin.out)
    have hr:decide (r<0)=false:=by have:=hf.2.1; simp; omega
    clear hF
    have hCwo:Below W5.heap.size W5 wo:=below_next hCwp hbn
    obtain⟨⟨k0,_⟩,⟨k1,_⟩,⟨k2,_⟩,⟨k3,_⟩,⟨k4,_⟩,⟨k5,_⟩⟩:=HXs.out.below hCwo
    obtain⟨⟨l0,_⟩,⟨l1,_⟩,⟨l2,_⟩,_⟩:=HVs.out.below hCwo
    have n0:=(hCwo.cell (lt_of_cell qn)).trans qn
    (try go_wp2_with fail)
    refine hK.out _ _ (by(try dsimp only); go_keep) ?_
    clear hK K hHeld
    intro hHeld
    try simp only [Act.put,s1,s2,s3]
    refine tk 41 (h:=tk 42 (h:=tk 43 (h:=?_)))
    refine wpAnyH_done (by kernel_rfl) ?_ _
    go_wp2
    go_roundw
    case rel=>exact⟨k+1,by omega,by go_num,relNext hlt Hall.out ⟨HA.out,HBr.out,HCp.out,HDo.out⟩,HXs.out.below hCwo,below_next hbw hCwo⟩
    case measure=>simp [intOf]; omega
   as_aux_lemma=>
   have hk1:(0:Int)<(k:Int):=by omega
   have hsub:IntKind.i64.wrap ((k:Int) - 1)=((k - 1:Nat):Int):=by rw [Int.ofNat_sub (by omega)]; exact IntWalk.i64_in _ (by omega)
   have hk2:((k - 1:Nat):Int)<(W.sn:Int):=by omega
   refine tk 6 (h:=tk 7 (h:=tk 8 (h:=tk 9 (h:=tk 10 (h:=tk 11 (h:=tk 12 (h:=tk 13 (h:=tk 14 (h:=tk 15 (h:=tk 16 (h:=?_)))))))))))
   by_cases hB:Rises (W.sets (k - 1)).name (W.sets k).name
   rotate_left
   ·as_aux_lemma=>
    have Hn:=hideW (show ¬SetOk W k from fun h=>hB (h.2.1 hk0))
    have hbl:Op.bytesLess (W.sets (k - 1)).name.toList (W.sets k).name.toList=false:=by simpa [Rises] using hB
    clear hB
    refine tk 17 (h:=tk 18 (h:=tk 19 (h:=tk 20 (h:=ts 21 (h:=ts 22 (h:=ts 23 (h:=ts 24 (h:=ts 25 (h:=ts 26 (h:=ts 27 (h:=?_)))))))))))
    refine rd [28] (rc (fun K hK=>?_) .nil)
    split
    ·rename_i hwt
     exact absurd (show false=true from hwt) Bool.false_ne_true
    refine hK.out _ _ (by assumption) (fun hHeld=>?_)
    clear hK K
    try simp only [Act.put,s1,s2,s3]
    refine ts 29 (h:=ts 30 (h:=tk 31 (h:=tk 32 (h:=ts 33 (h:=ts 34 (h:=ts 35 (h:=ts 36 (h:=ts 37 (h:=ts 38 (h:=ts 39 (h:=?_)))))))))))
    refine rd [40] (rc (fun K hK=>?_) .nil)
    split
    ·rename_i hwt
     exact absurd (show false=true from hwt) Bool.false_ne_true
    refine hK.out _ _ (by assumption) (fun hHeld=>?_)
    clear hK K
    try simp only [Act.put,s1,s2,s3]
    refine ts 41 (h:=ts 42 (h:=tk 43 (h:=?_)))
    refine wpAnyH_done (by kernel_rfl) ?_ _
    go_wp2
    go_ret
    exact⟨BoolIs.no fun hA=>Hn.out (hA.2.2.2.2.1 k hlt),below_next hbw hbd⟩
   as_aux_lemma=>
   have HBr:=hideW (show 0<k→Rises (W.sets (k - 1)).name (W.sets k).name from fun _=>hB)
   have hbl:Op.bytesLess (W.sets (k - 1)).name.toList (W.sets k).name.toList=true:=hB
   clear hB
   refine tk 17 (h:=tk 18 (h:=tk 19 (h:=?_)))
   clear hbl
   refine tk 20 (h:=tk 21 (h:=tk 22 (h:=?_)))
   by_cases hz:(W.sets k).prev=0
   ·as_aux_lemma=>
    have hzb:((W.sets k).prev == 0)=true:=by simp [hz]
    have hzc:decide ((W.sets k).prev=0)=true:=by simp [hz]
    have hzd:((W.sets k).prev != 0)=false:=by simp [hz]
    have HCp:=hideW (show(W.sets k).prev≠0→HasId W (W.sets k).prev from fun h=>absurd hz h)
    clear hz
    refine tk 23 (h:=tk 24 (h:=ts 25 (h:=ts 26 (h:=ts 27 (h:=?_)))))
    refine rd [28] (rc (fun K hK=>?_) .nil)
    split
    ·rename_i hwt
     exact absurd (show false=true from hwt) Bool.false_ne_true
    refine hK.out _ _ (by assumption) (fun hHeld=>?_)
    clear hK K
    try simp only [Act.put,s1,s2,s3]
    refine ts 29 (h:=tk 30 (h:=tk 31 (h:=?_)))
    clear hzb hzc hzd
    refine tk 32 (h:=tk 33 (h:=tk 34 (h:=?_)))
    by_cases hz:(W.sets k).origin=0
    ·as_aux_lemma=>
     have hzb:((W.sets k).origin == 0)=true:=by simp [hz]
     have hzc:decide ((W.sets k).origin=0)=true:=by simp [hz]
     have hzd:((W.sets k).origin != 0)=false:=by simp [hz]
     have HDo:=hideW (show(W.sets k).origin≠0→HasId W (W.sets k).origin from fun h=>absurd hz h)
     clear hz
     refine tk 35 (h:=tk 36 (h:=ts 37 (h:=ts 38 (h:=ts 39 (h:=?_)))))
     refine rd [40] (rc (fun K hK=>?_) .nil)
     split
     ·rename_i hwt
      exact absurd (show false=true from hwt) Bool.false_ne_true
     refine hK.out _ _ (by assumption) (fun hHeld=>?_)
     clear hK K
     try simp only [Act.put,s1,s2,s3]
     refine ts 41 (h:=tk 42 (h:=tk 43 (h:=?_)))
     refine wpAnyH_done (by kernel_rfl) ?_ _
     go_wp2
     go_roundw
     case rel=>exact⟨k+1,by omega,by go_num,relNext hlt Hall.out ⟨HA.out,HBr.out,HCp.out,HDo.out⟩,HXs.out.below hbd,(below_next hbw hbd)⟩
     case measure=>simp [intOf]; omega
    as_aux_lemma=>
    have hzb:((W.sets k).origin == 0)=false:=by simp [hz]
    have hzc:decide ((W.sets k).origin=0)=false:=by simp [hz]
    have hzd:((W.sets k).origin != 0)=true:=by simp [hz]
    have Hz:=hideW hz
    clear hz
    refine tk 35 (h:=tk 36 (h:=tk 37 (h:=tk 38 (h:=tk 39 (h:=?_)))))
    by_cases hi2:HasId W (W.sets k).origin
    rotate_left
    ·as_aux_lemma=>
     have Hiorigin:=hideW hi2
     have Hn:=hideW (show ¬SetOk W k from fun h=>hi2 (h.2.2.2 Hz.out))
     clear hi2
     refine rd [40] (rc (fun K hK=>?_) .nil)
     go_simp
     go_at_call 49
     refine(l04Snap_any v0 v1 _ _ lo hi W (W.sets k).origin _ ?_).mono ?_
     ·exact Hp.out.below (below_next hbw hbd)
     rintro e wo ⟨r,rfl,hF,hbn⟩
     have hf:=first_snap hF
     replace hf:=hf.resolve_left (fun h=>Hiorigin.out h.1)
     have hr:decide (r<0)=true:=by rw [hf.2]; rfl
     clear hF
     have hCwo:Below W5.heap.size W5 wo:=below_next hbd hbn
     obtain⟨⟨k0,_⟩,⟨k1,_⟩,⟨k2,_⟩,⟨k3,_⟩,⟨k4,_⟩,⟨k5,_⟩⟩:=HXs.out.below hCwo
     obtain⟨⟨l0,_⟩,⟨l1,_⟩,⟨l2,_⟩,_⟩:=HVs.out.below hCwo
     have n0:=(hCwo.cell (lt_of_cell qn)).trans qn
     (try go_wp2_with fail)
     refine hK.out _ _ (by(try dsimp only); go_keep) ?_
     clear hK K hHeld
     intro hHeld
     try simp only [Act.put,s1,s2,s3]
     refine tk 41 (h:=tk 42 (h:=tk 43 (h:=?_)))
     refine wpAnyH_done (by kernel_rfl) ?_ _
     go_wp2
     go_ret
     exact⟨BoolIs.no fun hA=>Hn.out (hA.2.2.2.2.1 k hlt),below_next hbw hCwo⟩
    as_aux_lemma=>
    have Hiorigin:=hideW hi2
    have HDo:=hideW (show(W.sets k).origin≠0→HasId W (W.sets k).origin from fun _=>hi2)
    clear hi2
    refine rd [40] (rc (fun K hK=>?_) .nil)
    go_simp
    go_at_call 49
    refine(l04Snap_any v0 v1 _ _ lo hi W (W.sets k).origin _ ?_).mono ?_
    ·exact Hp.out.below (below_next hbw hbd)
    rintro e wo ⟨r,rfl,hF,hbn⟩
    have hf:=first_snap hF
    replace hf:=hf.resolve_right (fun h=>h.1 Hiorigin.out)
    have hr:decide (r<0)=false:=by have:=hf.2.1; simp; omega
    clear hF
    have hCwo:Below W5.heap.size W5 wo:=below_next hbd hbn
    obtain⟨⟨k0,_⟩,⟨k1,_⟩,⟨k2,_⟩,⟨k3,_⟩,⟨k4,_⟩,⟨k5,_⟩⟩:=HXs.out.below hCwo
    obtain⟨⟨l0,_⟩,⟨l1,_⟩,⟨l2,_⟩,_⟩:=HVs.out.below hCwo
    have n0:=(hCwo.cell (lt_of_cell qn)).trans qn
    (try go_wp2_with fail)
    refine hK.out _ _ (by(try dsimp only); go_keep) ?_
    clear hK K hHeld
    intro hHeld
    try simp only [Act.put,s1,s2,s3]
    refine tk 41 (h:=tk 42 (h:=tk 43 (h:=?_)))
    refine wpAnyH_done (by kernel_rfl) ?_ _
    go_wp2
    go_roundw
    case rel=>exact⟨k+1,by omega,by go_num,relNext hlt Hall.out ⟨HA.out,HBr.out,HCp.out,HDo.out⟩,HXs.out.below hCwo,below_next hbw hCwo⟩
    case measure=>simp [intOf]; omega
   as_aux_lemma=>
   have hzb:((W.sets k).prev == 0)=false:=by simp [hz]
   have hzc:decide ((W.sets k).prev=0)=false:=by simp [hz]
   have hzd:((W.sets k).prev != 0)=true:=by simp [hz]
   have Hz:=hideW hz
   clear hz
   refine tk 23 (h:=tk 24 (h:=tk 25 (h:=tk 26 (h:=tk 27 (h:=?_)))))
   by_cases hi2:HasId W (W.sets k).prev
   rotate_left
   ·as_aux_lemma=>
    have Hiprev:=hideW hi2
    have Hn:=hideW (show ¬SetOk W k from fun h=>hi2 (h.2.2.1 Hz.out))
    clear hi2
    refine rd [28] (rc (fun K hK=>?_) .nil)
    go_simp
    go_at_call 49
    refine(l04Snap_any v0 v1 _ _ lo hi W (W.sets k).prev _ ?_).mono ?_
    ·exact Hp.out.below (below_next hbw hbd)
    rintro e wp ⟨r,rfl,hF,hbn⟩
    have hf:=first_snap hF
    replace hf:=hf.resolve_left (fun h=>Hiprev.out h.1)
    have hr:decide (r<0)=true:=by rw [hf.2]; rfl
    clear hF
    have hCwp:Below W5.heap.size W5 wp:=below_next hbd hbn
    obtain⟨⟨k0,_⟩,⟨k1,_⟩,⟨k2,_⟩,⟨k3,_⟩,⟨k4,_⟩,⟨k5,_⟩⟩:=HXs.out.below hCwp
    obtain⟨⟨l0,_⟩,⟨l1,_⟩,⟨l2,_⟩,_⟩:=HVs.out.below hCwp
    have n0:=(hCwp.cell (lt_of_cell qn)).trans qn
    (try go_wp2_with fail)
    refine hK.out _ _ (by(try dsimp only); go_keep) ?_
    clear hK K hHeld
    intro hHeld
    try simp only [Act.put,s1,s2,s3]
    refine tk 29 (h:=tk 30 (h:=tk 31 (h:=tk 32 (h:=ts 33 (h:=ts 34 (h:=ts 35 (h:=ts 36 (h:=ts 37 (h:=ts 38 (h:=ts 39 (h:=?_)))))))))))
    refine rd [40] (rc (fun K hK=>?_) .nil)
    split
    ·rename_i hwt
     exact absurd (show false=true from hwt) Bool.false_ne_true
    refine hK.out _ _ (by assumption) (fun hHeld=>?_)
    clear hK K
    try simp only [Act.put,s1,s2,s3]
    refine ts 41 (h:=ts 42 (h:=tk 43 (h:=?_)))
    refine wpAnyH_done (by kernel_rfl) ?_ _
    go_wp2
    go_ret
    exact⟨BoolIs.no fun hA=>Hn.out (hA.2.2.2.2.1 k hlt),below_next hbw hCwp⟩
   as_aux_lemma=>
   have Hiprev:=hideW hi2
   have HCp:=hideW (show(W.sets k).prev≠0→HasId W (W.sets k).prev from fun _=>hi2)
   clear hi2
   refine rd [28] (rc (fun K hK=>?_) .nil)
   go_simp
   go_at_call 49
   refine(l04Snap_any v0 v1 _ _ lo hi W (W.sets k).prev _ ?_).mono ?_
   ·exact Hp.out.below (below_next hbw hbd)
   rintro e wp ⟨r,rfl,hF,hbn⟩
   have hf:=first_snap hF
   replace hf:=hf.resolve_right (fun h=>h.1 Hiprev.out)
   have hr:decide (r<0)=false:=by have:=hf.2.1; simp; omega
   clear hF
   have hCwp:Below W5.heap.size W5 wp:=below_next hbd hbn
   obtain⟨⟨k0,_⟩,⟨k1,_⟩,⟨k2,_⟩,⟨k3,_⟩,⟨k4,_⟩,⟨k5,_⟩⟩:=HXs.out.below hCwp
   obtain⟨⟨l0,_⟩,⟨l1,_⟩,⟨l2,_⟩,_⟩:=HVs.out.below hCwp
   have n0:=(hCwp.cell (lt_of_cell qn)).trans qn
   (try go_wp2_with fail)
   refine hK.out _ _ (by(try dsimp only); go_keep) ?_
   clear hK K hHeld
   intro hHeld
   try simp only [Act.put,s1,s2,s3]
   refine tk 29 (h:=tk 30 (h:=tk 31 (h:=?_)))
   clear hr hzb hzc hzd
   refine tk 32 (h:=tk 33 (h:=tk 34 (h:=?_)))
   by_cases hz:(W.sets k).origin=0
   ·as_aux_lemma=>
    have hzb:((W.sets k).origin == 0)=true:=by simp [hz]
    have hzc:decide ((W.sets k).origin=0)=true:=by simp [hz]
    have hzd:((W.sets k).origin != 0)=false:=by simp [hz]
    have HDo:=hideW (show(W.sets k).origin≠0→HasId W (W.sets k).origin from fun h=>absurd hz h)
    clear hz
    refine tk 35 (h:=tk 36 (h:=ts 37 (h:=ts 38 (h:=ts 39 (h:=?_)))))
    refine rd [40] (rc (fun K hK=>?_) .nil)
    split
    ·rename_i hwt
     exact absurd (show false=true from hwt) Bool.false_ne_true
    refine hK.out _ _ (by assumption) (fun hHeld=>?_)
    clear hK K
    try simp only [Act.put,s1,s2,s3]
    refine ts 41 (h:=tk 42 (h:=tk 43 (h:=?_)))
    refine wpAnyH_done (by kernel_rfl) ?_ _
    go_wp2
    go_roundw
    case rel=>exact⟨k+1,by omega,by go_num,relNext hlt Hall.out ⟨HA.out,HBr.out,HCp.out,HDo.out⟩,HXs.out.below hCwp,(below_next hbw hCwp)⟩
    case measure=>simp [intOf]; omega
   as_aux_lemma=>
   have hzb:((W.sets k).origin == 0)=false:=by simp [hz]
   have hzc:decide ((W.sets k).origin=0)=false:=by simp [hz]
   have hzd:((W.sets k).origin != 0)=true:=by simp [hz]
   have Hz:=hideW hz
   clear hz
   refine tk 35 (h:=tk 36 (h:=tk 37 (h:=tk 38 (h:=tk 39 (h:=?_)))))
   by_cases hi2:HasId W (W.sets k).origin
   rotate_left
   ·as_aux_lemma=>
    have Hiorigin:=hideW hi2
    have Hn:=hideW (show ¬SetOk W k from fun h=>hi2 (h.2.2.2 Hz.out))
    clear hi2
    refine rd [40] (rc (fun K hK=>?_) .nil)
    go_simp
    go_at_call 49
    refine(l04Snap_any v0 v1 _ _ lo hi W (W.sets k).origin _ ?_).mono ?_
    ·exact Hp.out.below (below_next hbw hCwp)
    rintro e wo ⟨r,rfl,hF,hbn⟩
    have hf:=first_snap hF
    replace hf:=hf.resolve_left (fun h=>Hiorigin.out h.1)
    have hr:decide (r<0)=true:=by rw [hf.2]; rfl
    clear hF
    have hCwo:Below W5.heap.size W5 wo:=below_next hCwp hbn
    obtain⟨⟨k0,_⟩,⟨k1,_⟩,⟨k2,_⟩,⟨k3,_⟩,⟨k4,_⟩,⟨k5,_⟩⟩:=HXs.out.below hCwo
    obtain⟨⟨l0,_⟩,⟨l1,_⟩,⟨l2,_⟩,_⟩:=HVs.out.below hCwo
    have n0:=(hCwo.cell (lt_of_cell qn)).trans qn
    (try go_wp2_with fail)
    refine hK.out _ _ (by(try dsimp only); go_keep) ?_
    clear hK K hHeld
    intro hHeld
    try simp only [Act.put,s1,s2,s3]
    refine tk 41 (h:=tk 42 (h:=tk 43 (h:=?_)))
    refine wpAnyH_done (by kernel_rfl) ?_ _
    go_wp2
    go_ret
    exact⟨BoolIs.no fun hA=>Hn.out (hA.2.2.2.2.1 k hlt),below_next hbw hCwo⟩
   as_aux_lemma=>
   have Hiorigin:=hideW hi2
   have HDo:=hideW (show(W.sets k).origin≠0→HasId W (W.sets k).origin from fun _=>hi2)
   clear hi2
   refine rd [40] (rc (fun K hK=>?_) .nil)
   go_simp
   go_at_call 49
   refine(l04Snap_any v0 v1 _ _ lo hi W (W.sets k).origin _ ?_).mono ?_
   ·exact Hp.out.below (below_next hbw hCwp)
   rintro e wo ⟨r,rfl,hF,hbn⟩
   have hf:=first_snap hF
   replace hf:=hf.resolve_right (fun h=>h.1 Hiorigin.out)
   have hr:decide (r<0)=false:=by have:=hf.2.1; simp; omega
   clear hF
   have hCwo:Below W5.heap.size W5 wo:=below_next hCwp hbn
   obtain⟨⟨k0,_⟩,⟨k1,_⟩,⟨k2,_⟩,⟨k3,_⟩,⟨k4,_⟩,⟨k5,_⟩⟩:=HXs.out.below hCwo
   obtain⟨⟨l0,_⟩,⟨l1,_⟩,⟨l2,_⟩,_⟩:=HVs.out.below hCwo
   have n0:=(hCwo.cell (lt_of_cell qn)).trans qn
   (try go_wp2_with fail)
   refine hK.out _ _ (by(try dsimp only); go_keep) ?_
   clear hK K hHeld
   intro hHeld
   try simp only [Act.put,s1,s2,s3]
   refine tk 41 (h:=tk 42 (h:=tk 43 (h:=?_)))
   refine wpAnyH_done (by kernel_rfl) ?_ _
   go_wp2
   go_roundw
   case rel=>exact⟨k+1,by omega,by go_num,relNext hlt Hall.out ⟨HA.out,HBr.out,HCp.out,HDo.out⟩,HXs.out.below hCwo,below_next hbw hCwo⟩
   case measure=>simp [intOf]; omega
  ·as_aux_lemma=>
   obtain rfl:k=W.sn:=by omega
   have Hsets:=hideW Hall.out
   clear Hall
   obtain⟨⟨x0,x1⟩,⟨x2,x3⟩,⟨x4,x5⟩,⟨x6,x7⟩,⟨x8,x9⟩,⟨x10,x11⟩⟩:=HX.out
   go_wp2
   clear x0 x1 x2 x3 x4 x5 x6 x7 x8 x9 x10 x11
   go_loopw [5] (fun i wr=>∃k:Nat,k≤W.pn∧i = .int .i64 k∧(∀j,j<k→SnapOk W j)∧Box6 wr w.heap.size v0 v1 (.int .i64 W.time) (.int .i64 W.next) (.slice a' W.sn c') (.slice a W.pn c)∧Below w.heap.size w wr) (fun i _=>W.pn - (intOf i).toNat)
   case atStart=>exact⟨0,Nat.zero_le _,rfl,fun j hj=>absurd hj (Nat.not_lt_zero _),HX.out,hb⟩
   case round=>
    clear HX hb hlt hk
    obtain⟨k,hk,rfl,hall,hX,hb⟩:=hrel
    have Hall:=hideW hall
    have HX:=hideW hX
    clear hall hX
    by_cases hlt:k<W.pn
    rotate_left
    ·obtain rfl:k=W.pn:=by omega
     obtain⟨⟨x0,x1⟩,⟨x2,x3⟩,⟨x4,x5⟩,⟨x6,x7⟩,⟨x8,x9⟩,⟨x10,x11⟩⟩:=HX.out
     go_wp2
     go_ret
     exact⟨BoolIs.yes ⟨HT.out,HN.out,hs,hp,Hsets.out,Hall.out⟩,hb⟩
    have hlt':(k:Int)<(W.pn:Int):=by omega
    obtain⟨b,off,vd,rfl,hs2⟩:=(Hp.out.snaps.below hb).cells hlt
    obtain⟨-,ad,cd,rfl,-,-⟩:=id hs2.dead
    have hbs:=below_alloc wr (.cells #[.int .i64 (W.snaps k).id,.string (W.snaps k).name,.string (W.snaps k).set,.int .i64 (W.snaps k).prev,.int .i64 (W.snaps k).time,.int .i64 (W.snaps k).rs,.int .i64 (W.snaps k).rb,.slice ad (W.snaps k).dn cd] 99)
    have HXs:=hideW (HX.out.below hbs)
    have HVs:=hideW (Box8.new wr (.int .i64 (W.snaps k).id) (.string (W.snaps k).name) (.string (W.snaps k).set) (.int .i64 (W.snaps k).prev) (.int .i64 (W.snaps k).time) (.int .i64 (W.snaps k).rs) (.int .i64 (W.snaps k).rb) (.slice ad (W.snaps k).dn cd) 99)
    have hbw:=below_next hb hbs
    have q0:=hs2.c0
    have q1:=hs2.c1
    have q2:=hs2.c2
    have q3:=hs2.c3
    have q4:=hs2.c4
    have q5:=hs2.c5
    have q6:=hs2.c6
    have q7:=hs2.c7
    have hns:=hs2.small.1
    have Hq:=hideW (show(wr.alloc (.cells #[.int .i64 (W.snaps k).id,.string (W.snaps k).name,.string (W.snaps k).set,.int .i64 (W.snaps k).prev,.int .i64 (W.snaps k).time,.int .i64 (W.snaps k).rs,.int .i64 (W.snaps k).rb,.slice ad (W.snaps k).dn cd] 99)).cell? ⟨b,off+(k - 1)*8,none⟩=some (.int .i64 (W.snaps (k - 1)).id)∧(wr.alloc (.cells #[.int .i64 (W.snaps k).id,.string (W.snaps k).name,.string (W.snaps k).set,.int .i64 (W.snaps k).prev,.int .i64 (W.snaps k).time,.int .i64 (W.snaps k).rs,.int .i64 (W.snaps k).rb,.slice ad (W.snaps k).dn cd] 99)).cell? ⟨b,off+(k - 1)*8+4,none⟩=some (.int .i64 (W.snaps (k - 1)).time)from by
     obtain⟨b',off',vd',e,hs3⟩:=((Hp.out.snaps.below hb).below hbs).cells (show k - 1<W.pn by omega)
     cases e
     exact⟨hs3.c0,hs3.c4⟩)
    obtain⟨⟨x0,x1⟩,⟨x2,x3⟩,⟨x4,x5⟩,⟨x6,x7⟩,⟨x8,x9⟩,⟨x10,x11⟩⟩:=HX.out
    obtain⟨⟨z0,z1⟩,⟨z2,z3⟩,⟨z4,z5⟩,⟨z6,z7⟩,⟨z8,z9⟩,⟨z10,z11⟩⟩:=HXs.out
    obtain⟨⟨⟨y0,-⟩,⟨y1,-⟩,⟨y2,-⟩,⟨y3,-⟩⟩,⟨y4,-⟩,⟨y5,-⟩,⟨y6,-⟩,⟨y7,-⟩⟩:=HVs.out
    clear hs2
    by_cases g1:(W.snaps k).id<1
    ·have Hn:=hideW (show ¬SnapA W k from fun h=>by have:=h.1; omega)
     go_wp2
     go_ret
     exact⟨BoolIs.no fun hA=>Hn.out (hA.2.2.2.2.2 k hlt).1,hbw⟩
    by_cases g2:W.next≤(W.snaps k).id
    ·have Hn:=hideW (show ¬SnapA W k from fun h=>by have:=h.2.1; omega)
     go_wp2
     go_ret
     exact⟨BoolIs.no fun hA=>Hn.out (hA.2.2.2.2.2 k hlt).1,hbw⟩
    by_cases g3:(W.snaps k).time<1
    ·have Hn:=hideW (show ¬SnapA W k from fun h=>by have:=h.2.2.1; omega)
     go_wp2
     go_ret
     exact⟨BoolIs.no fun hA=>Hn.out (hA.2.2.2.2.2 k hlt).1,hbw⟩
    by_cases g4:W.time≤(W.snaps k).time
    ·have Hn:=hideW (show ¬SnapA W k from fun h=>by have:=h.2.2.2.1; omega)
     go_wp2
     go_ret
     exact⟨BoolIs.no fun hA=>Hn.out (hA.2.2.2.2.2 k hlt).1,hbw⟩
    go_wp2_with fail
    refine(specName_any (W.snaps k).name _ hns).mono ?_
    rintro e wn ⟨⟨tn,rfl,htn⟩,rfl⟩
    by_cases g5:NameP (W.snaps k).name
    rotate_left
    ·have Hn:=hideW (show ¬SnapA W k from fun h=>g5 h.2.2.2.2.1)
     obtain rfl:tn=false:=bool_no htn g5
     clear htn g5
     go_wp2
     go_ret
     exact⟨BoolIs.no fun hA=>Hn.out (hA.2.2.2.2.2 k hlt).1,hbw⟩
    obtain rfl:tn=true:=htn.2 g5
    have G5:=hideW g5
    clear htn g5
    go_wp2_with fail
    refine(l04Set_any v0 v1 _ _ lo hi W (W.snaps k).set _ (Hp.out.below hbw)).mono ?_
    rintro e wt ⟨r,rfl,hF,hbt⟩
    have HXt:=hideW (HXs.out.below hbt)
    have HVt:=hideW (HVs.out.below hbt)
    have hbwt:=below_next hbw hbt
    have Hqt:=hideW (And.intro ((hbt.cell (lt_of_cell Hq.out.1)).trans Hq.out.1) ((hbt.cell (lt_of_cell Hq.out.2)).trans Hq.out.2))
    clear x0 x1 x2 x3 x4 x5 x6 x7 x8 x9 x10 x11 z0 z1 z2 z3 z4 z5 z6 z7 z8 z9 z10 z11 y0 y1 y2 y3 y4 y5 y6 y7 q0 q1 q2 q3 q4 q5 q6 q7 HXs HVs hbw hbt HX hbs
    rcases first_set hF with⟨g6,g7⟩ | ⟨g6,rfl⟩
    rotate_left
    ·have Hn:=hideW (show ¬SnapA W k from fun h=>g6 h.2.2.2.2.2)
     clear g6 hF
     go_wp2
     go_ret
     exact⟨BoolIs.no fun hA=>Hn.out (hA.2.2.2.2.2 k hlt).1,hbwt⟩
    have HSa:=hideW (show SnapA W k from⟨by omega,by omega,by omega,by omega,G5.out,g6⟩)
    have g8:decide (r<0)=false:=by simp; omega
    have g9:¬r<0:=by omega
    clear g6 g7 hF g1 g2 g3 g4 G5
    go_wp2_with fail
    clear g8 g9
    have HXs:=hideW HXt.out
    have HVs:=hideW HVt.out
    have hbw:=hbwt
    obtain⟨qn,qt⟩:=Hqt.out
    clear HXt HVt hbwt Hqt Hq
    obtain⟨W6,hW6⟩:∃W6,W6=wt:=⟨_,rfl⟩
    subst hW6
    generalize wr.heap.size=V8 at HVs ⊢
    obtain⟨⟨x0,-⟩,⟨x2,-⟩,⟨x4,-⟩,⟨x6,-⟩,⟨x8,-⟩,⟨x10,-⟩⟩:=HXs.out
    obtain⟨⟨⟨y0,-⟩,-,-,⟨y3,-⟩⟩,⟨y4,-⟩,-⟩:=HVs.out
    as_aux_lemma=>
    refine wp_region_held_drew (S:=(fun w'=>w'.cell? ⟨w.heap.size,0,none⟩=some v0∧w'.cell? ⟨w.heap.size,1,none⟩=some v1∧w'.cell? ⟨w.heap.size,2,none⟩=some (.int .i64 W.time)∧w'.cell? ⟨w.heap.size,3,none⟩=some (.int .i64 W.next)∧w'.cell? ⟨w.heap.size,4,none⟩=some (.slice a' W.sn c')∧w'.cell? ⟨w.heap.size,5,none⟩=some (.slice (some ⟨b,off,none⟩) W.pn c)∧w'.cell? ⟨V8,0,none⟩=some (.int .i64 (W.snaps k).id)∧w'.cell? ⟨V8,3,none⟩=some (.int .i64 (W.snaps k).prev)∧w'.cell? ⟨V8,4,none⟩=some (.int .i64 (W.snaps k).time)∧w'.cell? ⟨b,off+(k - 1)*8,none⟩=some (.int .i64 (W.snaps (k - 1)).id)∧w'.cell? ⟨b,off+(k - 1)*8+4,none⟩=some (.int .i64 (W.snaps (k - 1)).time))) (by kernel_rfl) ?_ (fun hHeld=>?_)
    ·(try dsimp only)
     go_keep
    have hbd:Below W6.heap.size W6 W6.drew:=(Below.refl _ _).drew
    refine tk 0 (h:=?_)
    by_cases hk0:0<k
    rotate_left
    ·as_aux_lemma=>
     have hk1:decide ((0:Int)<(k:Int))=false:=by simp; omega
     have HKb:=hideW (show 0<k→(W.snaps (k - 1)).id<(W.snaps k).id∧(W.snaps (k - 1)).time<(W.snaps k).time from fun h=>absurd h hk0)
     refine tk 1 (h:=tk 2 (h:=ts 3 (h:=ts 4 (h:=ts 5 (h:=ts 6 (h:=ts 7 (h:=ts 8 (h:=ts 9 (h:=ts 10 (h:=ts 11 (h:=ts 12 (h:=ts 13 (h:=ts 14 (h:=ts 15 (h:=ts 16 (h:=ts 17 (h:=ts 18 (h:=ts 19 (h:=ts 20 (h:=ts 21 (h:=ts 22 (h:=ts 23 (h:=ts 24 (h:=tk 25 (h:=tk 26 (h:=tk 27 (h:=tk 28 (h:=?_))))))))))))))))))))))))))))
     by_cases hz:(W.snaps k).prev=0
     ·as_aux_lemma=>
      have hzb:((W.snaps k).prev == 0)=true:=by simp [hz]
      have hzc:decide ((W.snaps k).prev=0)=true:=by simp [hz]
      have hzd:((W.snaps k).prev != 0)=false:=by simp [hz]
      have HPr:=hideW (show(W.snaps k).prev≠0→(W.snaps k).prev<(W.snaps k).id∧HasId W (W.snaps k).prev from fun h=>absurd hz h)
      clear hz
      refine tk 29 (h:=tk 30 (h:=ts 31 (h:=ts 32 (h:=ts 33 (h:=ts 34 (h:=ts 35 (h:=ts 36 (h:=ts 37 (h:=ts 38 (h:=ts 39 (h:=?_)))))))))))
      refine rd [40] (rc (fun K hK=>?_) .nil)
      split
      ·rename_i hwt
       exact absurd (show false=true from hwt) Bool.false_ne_true
      refine hK.out _ _ (by assumption) (fun hHeld=>?_)
      clear hK K
      try simp only [Act.put,s1,s2,s3]
      refine ts 41 (h:=ts 42 (h:=tk 43 (h:=tk 44 (h:=?_))))
      refine wpAnyH_done (by kernel_rfl) ?_ _
      clear hzb hzc hzd
      as_aux_lemma=>
      have hCq:Below W6.heap.size W6 _:=hbd
      have HXq:=hideW (HXs.out.below hCq)
      have HVq:=hideW (HVs.out.below hCq)
      have hbq:=below_next hbw hCq
      clear hCq
      go_wp2
      go_loopw [7] (fun i wr2=>∃j:Nat,j≤k∧i = .int .i64 j∧SnapC W k j∧Box6 wr2 w.heap.size v0 v1 (.int .i64 W.time) (.int .i64 W.next) (.slice a' W.sn c') (.slice (some ⟨b,off,none⟩) W.pn c)∧Box8 wr2 V8 (.int .i64 (W.snaps k).id) (.string (W.snaps k).name) (.string (W.snaps k).set) (.int .i64 (W.snaps k).prev) (.int .i64 (W.snaps k).time) (.int .i64 (W.snaps k).rs) (.int .i64 (W.snaps k).rb) (.slice ad (W.snaps k).dn cd)∧Below w.heap.size w wr2) (fun i _=>k - (intOf i).toNat)
      case atStart=>exact⟨0,Nat.zero_le _,rfl,fun q hq=>absurd hq (Nat.not_lt_zero _),HXq.out,HVq.out,hbq⟩
      case round=>
       clear HXq HVq hbq HXs HVs hbw
       obtain⟨j,hj,rfl,hc,hX,hV,hb⟩:=hrel
       have Hc:=hideW hc
       have HX:=hideW hX
       have HV:=hideW hV
       clear hc hX hV
       by_cases hjt:j<k
       ·have hjt':(j:Int)<(k:Int):=by omega
        have hjt2:(j:Int)<(W.pn:Int):=by omega
        obtain⟨b3,off3,vd3,e3,hs3⟩:=(Hp.out.snaps.below hb).cells (show j<W.pn by omega)
        cases e3
        have q1:=hs3.c1
        have q2:=hs3.c2
        clear hs3
        obtain⟨⟨x0,-⟩,⟨x2,-⟩,⟨x4,-⟩,⟨x6,-⟩,⟨x8,-⟩,⟨x10,-⟩⟩:=HX.out
        obtain⟨⟨-,⟨y1,-⟩,⟨y2,-⟩,-⟩,-⟩:=HV.out
        by_cases he1:(W.snaps j).set=(W.snaps k).set
        ·by_cases he2:(W.snaps j).name=(W.snaps k).name
         ·have Hn:=hideW (show ¬SnapC W k k from fun h=>h j hjt ⟨he1,he2⟩)
          have f1:=str_eq he1
          have f2:=str_eq he2
          clear he1 he2
          go_wp2_with fail
          refine wp_region_held_drew (S:=(fun w'=>w'.cell? ⟨w.heap.size,5,none⟩=some (.slice (some ⟨b,off,none⟩) W.pn c)∧w'.cell? ⟨V8,1,none⟩=some (.string (W.snaps k).name)∧w'.cell? ⟨V8,2,none⟩=some (.string (W.snaps k).set)∧w'.cell? ⟨b,off+j*8+1,none⟩=some (.string (W.snaps j).name)∧w'.cell? ⟨b,off+j*8+2,none⟩=some (.string (W.snaps j).set))) (by kernel_rfl) ?_ (fun hHeld=>?_)
          ·(try dsimp only)
           go_keep
          refine tk 0 (h:=tk 1 (h:=tk 2 (h:=tk 3 (h:=tk 4 (h:=tk 5 (h:=tk 6 (h:=tk 7 (h:=tk 8 (h:=tk 9 (h:=tk 10 (h:=tk 11 (h:=tk 12 (h:=tk 13 (h:=tk 14 (h:=tk 15 (h:=tk 16 (h:=tk 17 (h:=tk 18 (h:=tk 19 (h:=?_))))))))))))))))))))
          refine wpAnyH_done (by kernel_rfl) ?_ _
          go_wp2
          go_ret
          exact⟨BoolIs.no fun hA=>Hn.out (hA.2.2.2.2.2 k hlt).2.2,hb.drew⟩
         ·have Hn:=hideW (show ¬((W.snaps j).set=(W.snaps k).set∧(W.snaps j).name=(W.snaps k).name)from fun h=>he2 h.2)
          have f1:=str_eq he1
          have f2:=str_ne he2
          clear he1 he2
          go_wp2_with fail
          refine wp_region_held_drew (S:=(fun w'=>w'.cell? ⟨w.heap.size,5,none⟩=some (.slice (some ⟨b,off,none⟩) W.pn c)∧w'.cell? ⟨V8,1,none⟩=some (.string (W.snaps k).name)∧w'.cell? ⟨V8,2,none⟩=some (.string (W.snaps k).set)∧w'.cell? ⟨b,off+j*8+1,none⟩=some (.string (W.snaps j).name)∧w'.cell? ⟨b,off+j*8+2,none⟩=some (.string (W.snaps j).set))) (by kernel_rfl) ?_ (fun hHeld=>?_)
          ·(try dsimp only)
           go_keep
          refine tk 0 (h:=tk 1 (h:=tk 2 (h:=tk 3 (h:=tk 4 (h:=tk 5 (h:=tk 6 (h:=tk 7 (h:=tk 8 (h:=tk 9 (h:=tk 10 (h:=tk 11 (h:=tk 12 (h:=tk 13 (h:=tk 14 (h:=tk 15 (h:=tk 16 (h:=tk 17 (h:=tk 18 (h:=tk 19 (h:=?_))))))))))))))))))))
          refine wpAnyH_done (by kernel_rfl) ?_ _
          go_wp2
          go_roundw
          case rel=>exact⟨j+1,by omega,by go_num,relNext hjt Hc.out Hn.out,HX.out.below (Below.refl _ _).drew,HV.out.below (Below.refl _ _).drew,hb.drew⟩
          case measure=>simp [intOf]; omega
        ·have Hn:=hideW (show ¬((W.snaps j).set=(W.snaps k).set∧(W.snaps j).name=(W.snaps k).name)from fun h=>he1 h.1)
         have f1:=str_ne he1
         clear he1
         go_wp2_with fail
         refine wp_region_held_drew (S:=(fun w'=>w'.cell? ⟨w.heap.size,5,none⟩=some (.slice (some ⟨b,off,none⟩) W.pn c)∧w'.cell? ⟨V8,1,none⟩=some (.string (W.snaps k).name)∧w'.cell? ⟨V8,2,none⟩=some (.string (W.snaps k).set)∧w'.cell? ⟨b,off+j*8+1,none⟩=some (.string (W.snaps j).name)∧w'.cell? ⟨b,off+j*8+2,none⟩=some (.string (W.snaps j).set))) (by kernel_rfl) ?_ (fun hHeld=>?_)
         ·(try dsimp only)
          go_keep
         refine tk 0 (h:=tk 1 (h:=tk 2 (h:=tk 3 (h:=tk 4 (h:=tk 5 (h:=tk 6 (h:=tk 7 (h:=tk 8 (h:=tk 9 (h:=ts 10 (h:=ts 11 (h:=ts 12 (h:=ts 13 (h:=ts 14 (h:=ts 15 (h:=ts 16 (h:=ts 17 (h:=ts 18 (h:=tk 19 (h:=?_))))))))))))))))))))
         refine wpAnyH_done (by kernel_rfl) ?_ _
         go_wp2
         go_roundw
         case rel=>exact⟨j+1,by omega,by go_num,relNext hjt Hc.out Hn.out,HX.out.below (Below.refl _ _).drew,HV.out.below (Below.refl _ _).drew,hb.drew⟩
         case measure=>simp [intOf]; omega
       ·obtain rfl:j=k:=by omega
        go_wp2
        go_roundw
        case rel=>exact⟨j+1,by omega,by go_num,relNext hlt Hall.out ⟨HSa.out,⟨HKb.out,HPr.out⟩,Hc.out⟩,HX.out,hb⟩
        case measure=>simp [intOf]; omega
     as_aux_lemma=>
     have hzb:((W.snaps k).prev == 0)=false:=by simp [hz]
     have hzc:decide ((W.snaps k).prev=0)=false:=by simp [hz]
     have hzd:((W.snaps k).prev != 0)=true:=by simp [hz]
     have Hz:=hideW hz
     clear hz
     refine tk 29 (h:=tk 30 (h:=tk 31 (h:=tk 32 (h:=tk 33 (h:=tk 34 (h:=?_))))))
     by_cases hg:(W.snaps k).prev<(W.snaps k).id
     rotate_left
     ·as_aux_lemma=>
      have hgb:decide ((W.snaps k).id≤(W.snaps k).prev)=true:=by simp; omega
      have Hn:=hideW (show ¬SnapB W k from fun h=>hg (h.2 Hz.out).1)
      clear hg
      refine tk 35 (h:=tk 36 (h:=ts 37 (h:=ts 38 (h:=ts 39 (h:=?_)))))
      refine rd [40] (rc (fun K hK=>?_) .nil)
      split
      ·rename_i hwt
       exact absurd (show false=true from hwt) Bool.false_ne_true
      refine hK.out _ _ (by assumption) (fun hHeld=>?_)
      clear hK K
      try simp only [Act.put,s1,s2,s3]
      refine ts 41 (h:=tk 42 (h:=tk 43 (h:=tk 44 (h:=?_))))
      refine wpAnyH_done (by kernel_rfl) ?_ _
      go_wp2
      go_ret
      exact⟨BoolIs.no fun hA=>Hn.out (hA.2.2.2.2.2 k hlt).2.1,below_next hbw hbd⟩
     as_aux_lemma=>
     have hgb:decide ((W.snaps k).id≤(W.snaps k).prev)=false:=by simp; omega
     have Hg:=hideW hg
     clear hg
     refine tk 35 (h:=tk 36 (h:=tk 37 (h:=tk 38 (h:=tk 39 (h:=?_)))))
     by_cases hi2:HasId W (W.snaps k).prev
     rotate_left
     ·as_aux_lemma=>
      have Hip:=hideW hi2
      have Hn:=hideW (show ¬SnapB W k from fun h=>hi2 (h.2 Hz.out).2)
      clear hi2
      refine rd [40] (rc (fun K hK=>?_) .nil)
      go_simp
      go_at_call 49
      refine(l04Snap_any v0 v1 _ _ lo hi W (W.snaps k).prev _ ?_).mono ?_
      ·exact Hp.out.below (below_next hbw hbd)
      rintro e wp ⟨r,rfl,hF,hbn⟩
      have hf:=first_snap hF
      replace hf:=hf.resolve_left (fun h=>Hip.out h.1)
      have hr:decide (r<0)=true:=by rw [hf.2]; rfl
      clear hF
      have hCwp:Below W6.heap.size W6 wp:=below_next hbd hbn
      obtain⟨⟨k0,_⟩,⟨k1,_⟩,⟨k2,_⟩,⟨k3,_⟩,⟨k4,_⟩,⟨k5,_⟩⟩:=HXs.out.below hCwp
      obtain⟨⟨⟨l0,_⟩,_,_,⟨l3,_⟩⟩,⟨l4,_⟩,_⟩:=HVs.out.below hCwp
      have n0:=(hCwp.cell (lt_of_cell qn)).trans qn
      have n4:=(hCwp.cell (lt_of_cell qt)).trans qt
      (try go_wp2_with fail)
      refine hK.out _ _ (by(try dsimp only); go_keep) ?_
      clear hK K hHeld
      intro hHeld
      try simp only [Act.put,s1,s2,s3]
      refine tk 41 (h:=tk 42 (h:=tk 43 (h:=tk 44 (h:=?_))))
      refine wpAnyH_done (by kernel_rfl) ?_ _
      go_wp2
      go_ret
      exact⟨BoolIs.no fun hA=>Hn.out (hA.2.2.2.2.2 k hlt).2.1,below_next hbw hCwp⟩
     as_aux_lemma=>
     have Hip:=hideW hi2
     have HPr:=hideW (show(W.snaps k).prev≠0→(W.snaps k).prev<(W.snaps k).id∧HasId W (W.snaps k).prev from fun _=>⟨Hg.out,hi2⟩)
     clear hi2
     refine rd [40] (rc (fun K hK=>?_) .nil)
     go_simp
     go_at_call 49
     refine(l04Snap_any v0 v1 _ _ lo hi W (W.snaps k).prev _ ?_).mono ?_
     ·exact Hp.out.below (below_next hbw hbd)
     rintro e wp ⟨r,rfl,hF,hbn⟩
     have hf:=first_snap hF
     replace hf:=hf.resolve_right (fun h=>h.1 Hip.out)
     have hr:decide (r<0)=false:=by have:=hf.2.1; simp; omega
     clear hF
     have hCwp:Below W6.heap.size W6 wp:=below_next hbd hbn
     obtain⟨⟨k0,_⟩,⟨k1,_⟩,⟨k2,_⟩,⟨k3,_⟩,⟨k4,_⟩,⟨k5,_⟩⟩:=HXs.out.below hCwp
     obtain⟨⟨⟨l0,_⟩,_,_,⟨l3,_⟩⟩,⟨l4,_⟩,_⟩:=HVs.out.below hCwp
     have n0:=(hCwp.cell (lt_of_cell qn)).trans qn
     have n4:=(hCwp.cell (lt_of_cell qt)).trans qt
     (try go_wp2_with fail)
     refine hK.out _ _ (by(try dsimp only); go_keep) ?_
     clear hK K hHeld
     intro hHeld
     try simp only [Act.put,s1,s2,s3]
     refine tk 41 (h:=tk 42 (h:=tk 43 (h:=tk 44 (h:=?_))))
     refine wpAnyH_done (by kernel_rfl) ?_ _
     clear hr hzb hzc hzd hgb
     as_aux_lemma=>
     have hCq:Below W6.heap.size W6 _:=hCwp
     have HXq:=hideW (HXs.out.below hCq)
     have HVq:=hideW (HVs.out.below hCq)
     have hbq:=below_next hbw hCq
     clear hCq
     go_wp2
     go_loopw [7] (fun i wr2=>∃j:Nat,j≤k∧i = .int .i64 j∧SnapC W k j∧Box6 wr2 w.heap.size v0 v1 (.int .i64 W.time) (.int .i64 W.next) (.slice a' W.sn c') (.slice (some ⟨b,off,none⟩) W.pn c)∧Box8 wr2 V8 (.int .i64 (W.snaps k).id) (.string (W.snaps k).name) (.string (W.snaps k).set) (.int .i64 (W.snaps k).prev) (.int .i64 (W.snaps k).time) (.int .i64 (W.snaps k).rs) (.int .i64 (W.snaps k).rb) (.slice ad (W.snaps k).dn cd)∧Below w.heap.size w wr2) (fun i _=>k - (intOf i).toNat)
     case atStart=>exact⟨0,Nat.zero_le _,rfl,fun q hq=>absurd hq (Nat.not_lt_zero _),HXq.out,HVq.out,hbq⟩
     case round=>
      clear HXq HVq hbq HXs HVs hbw
      obtain⟨j,hj,rfl,hc,hX,hV,hb⟩:=hrel
      have Hc:=hideW hc
      have HX:=hideW hX
      have HV:=hideW hV
      clear hc hX hV
      by_cases hjt:j<k
      ·have hjt':(j:Int)<(k:Int):=by omega
       have hjt2:(j:Int)<(W.pn:Int):=by omega
       obtain⟨b3,off3,vd3,e3,hs3⟩:=(Hp.out.snaps.below hb).cells (show j<W.pn by omega)
       cases e3
       have q1:=hs3.c1
       have q2:=hs3.c2
       clear hs3
       obtain⟨⟨x0,-⟩,⟨x2,-⟩,⟨x4,-⟩,⟨x6,-⟩,⟨x8,-⟩,⟨x10,-⟩⟩:=HX.out
       obtain⟨⟨-,⟨y1,-⟩,⟨y2,-⟩,-⟩,-⟩:=HV.out
       by_cases he1:(W.snaps j).set=(W.snaps k).set
       ·by_cases he2:(W.snaps j).name=(W.snaps k).name
        ·have Hn:=hideW (show ¬SnapC W k k from fun h=>h j hjt ⟨he1,he2⟩)
         have f1:=str_eq he1
         have f2:=str_eq he2
         clear he1 he2
         go_wp2_with fail
         refine wp_region_held_drew (S:=(fun w'=>w'.cell? ⟨w.heap.size,5,none⟩=some (.slice (some ⟨b,off,none⟩) W.pn c)∧w'.cell? ⟨V8,1,none⟩=some (.string (W.snaps k).name)∧w'.cell? ⟨V8,2,none⟩=some (.string (W.snaps k).set)∧w'.cell? ⟨b,off+j*8+1,none⟩=some (.string (W.snaps j).name)∧w'.cell? ⟨b,off+j*8+2,none⟩=some (.string (W.snaps j).set))) (by kernel_rfl) ?_ (fun hHeld=>?_)
         ·(try dsimp only)
          go_keep
         refine tk 0 (h:=tk 1 (h:=tk 2 (h:=tk 3 (h:=tk 4 (h:=tk 5 (h:=tk 6 (h:=tk 7 (h:=tk 8 (h:=tk 9 (h:=tk 10 (h:=tk 11 (h:=tk 12 (h:=tk 13 (h:=tk 14 (h:=tk 15 (h:=tk 16 (h:=tk 17 (h:=tk 18 (h:=tk 19 (h:=?_))))))))))))))))))))
         refine wpAnyH_done (by kernel_rfl) ?_ _
         go_wp2
         go_ret
         exact⟨BoolIs.no fun hA=>Hn.out (hA.2.2.2.2.2 k hlt).2.2,hb.drew⟩
        ·have Hn:=hideW (show ¬((W.snaps j).set=(W.snaps k).set∧(W.snaps j).name=(W.snaps k).name)from fun h=>he2 h.2)
         have f1:=str_eq he1
         have f2:=str_ne he2
         clear he1 he2
         go_wp2_with fail
         refine wp_region_held_drew (S:=(fun w'=>w'.cell? ⟨w.heap.size,5,none⟩=some (.slice (some ⟨b,off,none⟩) W.pn c)∧w'.cell? ⟨V8,1,none⟩=some (.string (W.snaps k).name)∧w'.cell? ⟨V8,2,none⟩=some (.string (W.snaps k).set)∧w'.cell? ⟨b,off+j*8+1,none⟩=some (.string (W.snaps j).name)∧w'.cell? ⟨b,off+j*8+2,none⟩=some (.string (W.snaps j).set))) (by kernel_rfl) ?_ (fun hHeld=>?_)
         ·(try dsimp only)
          go_keep
         refine tk 0 (h:=tk 1 (h:=tk 2 (h:=tk 3 (h:=tk 4 (h:=tk 5 (h:=tk 6 (h:=tk 7 (h:=tk 8 (h:=tk 9 (h:=tk 10 (h:=tk 11 (h:=tk 12 (h:=tk 13 (h:=tk 14 (h:=tk 15 (h:=tk 16 (h:=tk 17 (h:=tk 18 (h:=tk 19 (h:=?_))))))))))))))))))))
         refine wpAnyH_done (by kernel_rfl) ?_ _
         go_wp2
         go_roundw
         case rel=>exact⟨j+1,by omega,by go_num,relNext hjt Hc.out Hn.out,HX.out.below (Below.refl _ _).drew,HV.out.below (Below.refl _ _).drew,hb.drew⟩
         case measure=>simp [intOf]; omega
       ·have Hn:=hideW (show ¬((W.snaps j).set=(W.snaps k).set∧(W.snaps j).name=(W.snaps k).name)from fun h=>he1 h.1)
        have f1:=str_ne he1
        clear he1
        go_wp2_with fail
        refine wp_region_held_drew (S:=(fun w'=>w'.cell? ⟨w.heap.size,5,none⟩=some (.slice (some ⟨b,off,none⟩) W.pn c)∧w'.cell? ⟨V8,1,none⟩=some (.string (W.snaps k).name)∧w'.cell? ⟨V8,2,none⟩=some (.string (W.snaps k).set)∧w'.cell? ⟨b,off+j*8+1,none⟩=some (.string (W.snaps j).name)∧w'.cell? ⟨b,off+j*8+2,none⟩=some (.string (W.snaps j).set))) (by kernel_rfl) ?_ (fun hHeld=>?_)
        ·(try dsimp only)
         go_keep
        refine tk 0 (h:=tk 1 (h:=tk 2 (h:=tk 3 (h:=tk 4 (h:=tk 5 (h:=tk 6 (h:=tk 7 (h:=tk 8 (h:=tk 9 (h:=ts 10 (h:=ts 11 (h:=ts 12 (h:=ts 13 (h:=ts 14 (h:=ts 15 (h:=ts 16 (h:=ts 17 (h:=ts 18 (h:=tk 19 (h:=?_))))))))))))))))))))
        refine wpAnyH_done (by kernel_rfl) ?_ _
        go_wp2
        go_roundw
        case rel=>exact⟨j+1,by omega,by go_num,relNext hjt Hc.out Hn.out,HX.out.below (Below.refl _ _).drew,HV.out.below (Below.refl _ _).drew,hb.drew⟩
        case measure=>simp [intOf]; omega
      ·obtain rfl:j=k:=by omega
       go_wp2
       go_roundw
       case rel=>exact⟨j+1,by omega,by go_num,relNext hlt Hall.out ⟨HSa.out,⟨HKb.out,HPr.out⟩,Hc.out⟩,HX.out,hb⟩
       case measure=>simp [intOf]; omega
    as_aux_lemma=>
    have hk1:(0:Int)<(k:Int):=by omega
    have hsub:IntKind.i64.wrap ((k:Int) - 1)=((k - 1:Nat):Int):=by rw [Int.ofNat_sub (by omega)]; exact IntWalk.i64_in _ (by omega)
    have hk2:((k - 1:Nat):Int)<(W.pn:Int):=by omega
    refine tk 1 (h:=tk 2 (h:=tk 3 (h:=tk 4 (h:=tk 5 (h:=tk 6 (h:=tk 7 (h:=tk 8 (h:=tk 9 (h:=tk 10 (h:=tk 11 (h:=?_)))))))))))
    by_cases hi1:(W.snaps (k - 1)).id<(W.snaps k).id
    rotate_left
    ·as_aux_lemma=>
     have hib:decide ((W.snaps k).id≤(W.snaps (k - 1)).id)=true:=by simp; omega
     have Hn:=hideW (show ¬SnapB W k from fun h=>hi1 (h.1 hk0).1)
     clear hi1
     refine tk 12 (h:=tk 13 (h:=ts 14 (h:=ts 15 (h:=ts 16 (h:=ts 17 (h:=ts 18 (h:=ts 19 (h:=ts 20 (h:=ts 21 (h:=ts 22 (h:=ts 23 (h:=tk 24 (h:=tk 25 (h:=tk 26 (h:=ts 27 (h:=ts 28 (h:=ts 29 (h:=ts 30 (h:=ts 31 (h:=ts 32 (h:=ts 33 (h:=ts 34 (h:=ts 35 (h:=ts 36 (h:=ts 37 (h:=ts 38 (h:=ts 39 (h:=?_))))))))))))))))))))))))))))
     refine rd [40] (rc (fun K hK=>?_) .nil)
     split
     ·rename_i hwt
      exact absurd (show false=true from hwt) Bool.false_ne_true
     refine hK.out _ _ (by assumption) (fun hHeld=>?_)
     clear hK K
     try simp only [Act.put,s1,s2,s3]
     refine ts 41 (h:=ts 42 (h:=ts 43 (h:=tk 44 (h:=?_))))
     refine wpAnyH_done (by kernel_rfl) ?_ _
     go_wp2
     go_ret
     exact⟨BoolIs.no fun hA=>Hn.out (hA.2.2.2.2.2 k hlt).2.1,below_next hbw hbd⟩
    as_aux_lemma=>
    have hib:decide ((W.snaps k).id≤(W.snaps (k - 1)).id)=false:=by simp; omega
    have Hi1:=hideW hi1
    clear hi1
    refine tk 12 (h:=tk 13 (h:=tk 14 (h:=tk 15 (h:=tk 16 (h:=tk 17 (h:=tk 18 (h:=tk 19 (h:=tk 20 (h:=tk 21 (h:=tk 22 (h:=?_)))))))))))
    by_cases hi1:(W.snaps (k - 1)).time<(W.snaps k).time
    rotate_left
    ·as_aux_lemma=>
     have htb:decide ((W.snaps k).time≤(W.snaps (k - 1)).time)=true:=by simp; omega
     have Hn:=hideW (show ¬SnapB W k from fun h=>hi1 (h.1 hk0).2)
     clear hi1
     refine tk 23 (h:=tk 24 (h:=tk 25 (h:=tk 26 (h:=ts 27 (h:=ts 28 (h:=ts 29 (h:=ts 30 (h:=ts 31 (h:=ts 32 (h:=ts 33 (h:=ts 34 (h:=ts 35 (h:=ts 36 (h:=ts 37 (h:=ts 38 (h:=ts 39 (h:=?_)))))))))))))))))
     refine rd [40] (rc (fun K hK=>?_) .nil)
     split
     ·rename_i hwt
      exact absurd (show false=true from hwt) Bool.false_ne_true
     refine hK.out _ _ (by assumption) (fun hHeld=>?_)
     clear hK K
     try simp only [Act.put,s1,s2,s3]
     refine ts 41 (h:=ts 42 (h:=ts 43 (h:=tk 44 (h:=?_))))
     refine wpAnyH_done (by kernel_rfl) ?_ _
     go_wp2
     go_ret
     exact⟨BoolIs.no fun hA=>Hn.out (hA.2.2.2.2.2 k hlt).2.1,below_next hbw hbd⟩
    as_aux_lemma=>
    have htb:decide ((W.snaps k).time≤(W.snaps (k - 1)).time)=false:=by simp; omega
    have HKb:=hideW (show 0<k→(W.snaps (k - 1)).id<(W.snaps k).id∧(W.snaps (k - 1)).time<(W.snaps k).time from fun _=>⟨Hi1.out,hi1⟩)
    clear hi1
    refine tk 23 (h:=tk 24 (h:=tk 25 (h:=?_)))
    clear htb hib
    refine tk 26 (h:=tk 27 (h:=tk 28 (h:=?_)))
    by_cases hz:(W.snaps k).prev=0
    ·as_aux_lemma=>
     have hzb:((W.snaps k).prev == 0)=true:=by simp [hz]
     have hzc:decide ((W.snaps k).prev=0)=true:=by simp [hz]
     have hzd:((W.snaps k).prev != 0)=false:=by simp [hz]
     have HPr:=hideW (show(W.snaps k).prev≠0→(W.snaps k).prev<(W.snaps k).id∧HasId W (W.snaps k).prev from fun h=>absurd hz h)
     clear hz
     refine tk 29 (h:=tk 30 (h:=ts 31 (h:=ts 32 (h:=ts 33 (h:=ts 34 (h:=ts 35 (h:=ts 36 (h:=ts 37 (h:=ts 38 (h:=ts 39 (h:=?_)))))))))))
     refine rd [40] (rc (fun K hK=>?_) .nil)
     split
     ·rename_i hwt
      exact absurd (show false=true from hwt) Bool.false_ne_true
     refine hK.out _ _ (by assumption) (fun hHeld=>?_)
     clear hK K
     try simp only [Act.put,s1,s2,s3]
     refine ts 41 (h:=ts 42 (h:=tk 43 (h:=tk 44 (h:=?_))))
     refine wpAnyH_done (by kernel_rfl) ?_ _
     clear hzb hzc hzd
     as_aux_lemma=>
     have hCq:Below W6.heap.size W6 _:=hbd
     have HXq:=hideW (HXs.out.below hCq)
     have HVq:=hideW (HVs.out.below hCq)
     have hbq:=below_next hbw hCq
     clear hCq
     go_wp2
     go_loopw [7] (fun i wr2=>∃j:Nat,j≤k∧i = .int .i64 j∧SnapC W k j∧Box6 wr2 w.heap.size v0 v1 (.int .i64 W.time) (.int .i64 W.next) (.slice a' W.sn c') (.slice (some ⟨b,off,none⟩) W.pn c)∧Box8 wr2 V8 (.int .i64 (W.snaps k).id) (.string (W.snaps k).name) (.string (W.snaps k).set) (.int .i64 (W.snaps k).prev) (.int .i64 (W.snaps k).time) (.int .i64 (W.snaps k).rs) (.int .i64 (W.snaps k).rb) (.slice ad (W.snaps k).dn cd)∧Below w.heap.size w wr2) (fun i _=>k - (intOf i).toNat)
     case atStart=>exact⟨0,Nat.zero_le _,rfl,fun q hq=>absurd hq (Nat.not_lt_zero _),HXq.out,HVq.out,hbq⟩
     case round=>
      clear HXq HVq hbq HXs HVs hbw
      obtain⟨j,hj,rfl,hc,hX,hV,hb⟩:=hrel
      have Hc:=hideW hc
      have HX:=hideW hX
      have HV:=hideW hV
      clear hc hX hV
      by_cases hjt:j<k
      ·have hjt':(j:Int)<(k:Int):=by omega
       have hjt2:(j:Int)<(W.pn:Int):=by omega
       obtain⟨b3,off3,vd3,e3,hs3⟩:=(Hp.out.snaps.below hb).cells (show j<W.pn by omega)
       cases e3
       have q1:=hs3.c1
       have q2:=hs3.c2
       clear hs3
       obtain⟨⟨x0,-⟩,⟨x2,-⟩,⟨x4,-⟩,⟨x6,-⟩,⟨x8,-⟩,⟨x10,-⟩⟩:=HX.out
       obtain⟨⟨-,⟨y1,-⟩,⟨y2,-⟩,-⟩,-⟩:=HV.out
       by_cases he1:(W.snaps j).set=(W.snaps k).set
       ·by_cases he2:(W.snaps j).name=(W.snaps k).name
        ·have Hn:=hideW (show ¬SnapC W k k from fun h=>h j hjt ⟨he1,he2⟩)
         have f1:=str_eq he1
         have f2:=str_eq he2
         clear he1 he2
         go_wp2_with fail
         refine wp_region_held_drew (S:=(fun w'=>w'.cell? ⟨w.heap.size,5,none⟩=some (.slice (some ⟨b,off,none⟩) W.pn c)∧w'.cell? ⟨V8,1,none⟩=some (.string (W.snaps k).name)∧w'.cell? ⟨V8,2,none⟩=some (.string (W.snaps k).set)∧w'.cell? ⟨b,off+j*8+1,none⟩=some (.string (W.snaps j).name)∧w'.cell? ⟨b,off+j*8+2,none⟩=some (.string (W.snaps j).set))) (by kernel_rfl) ?_ (fun hHeld=>?_)
         ·(try dsimp only)
          go_keep
         refine tk 0 (h:=tk 1 (h:=tk 2 (h:=tk 3 (h:=tk 4 (h:=tk 5 (h:=tk 6 (h:=tk 7 (h:=tk 8 (h:=tk 9 (h:=tk 10 (h:=tk 11 (h:=tk 12 (h:=tk 13 (h:=tk 14 (h:=tk 15 (h:=tk 16 (h:=tk 17 (h:=tk 18 (h:=tk 19 (h:=?_))))))))))))))))))))
         refine wpAnyH_done (by kernel_rfl) ?_ _
         go_wp2
         go_ret
         exact⟨BoolIs.no fun hA=>Hn.out (hA.2.2.2.2.2 k hlt).2.2,hb.drew⟩
        ·have Hn:=hideW (show ¬((W.snaps j).set=(W.snaps k).set∧(W.snaps j).name=(W.snaps k).name)from fun h=>he2 h.2)
         have f1:=str_eq he1
         have f2:=str_ne he2
         clear he1 he2
         go_wp2_with fail
         refine wp_region_held_drew (S:=(fun w'=>w'.cell? ⟨w.heap.size,5,none⟩=some (.slice (some ⟨b,off,none⟩) W.pn c)∧w'.cell? ⟨V8,1,none⟩=some (.string (W.snaps k).name)∧w'.cell? ⟨V8,2,none⟩=some (.string (W.snaps k).set)∧w'.cell? ⟨b,off+j*8+1,none⟩=some (.string (W.snaps j).name)∧w'.cell? ⟨b,off+j*8+2,none⟩=some (.string (W.snaps j).set))) (by kernel_rfl) ?_ (fun hHeld=>?_)
         ·(try dsimp only)
          go_keep
         refine tk 0 (h:=tk 1 (h:=tk 2 (h:=tk 3 (h:=tk 4 (h:=tk 5 (h:=tk 6 (h:=tk 7 (h:=tk 8 (h:=tk 9 (h:=tk 10 (h:=tk 11 (h:=tk 12 (h:=tk 13 (h:=tk 14 (h:=tk 15 (h:=tk 16 (h:=tk 17 (h:=tk 18 (h:=tk 19 (h:=?_))))))))))))))))))))
         refine wpAnyH_done (by kernel_rfl) ?_ _
         go_wp2
         go_roundw
         case rel=>exact⟨j+1,by omega,by go_num,relNext hjt Hc.out Hn.out,HX.out.below (Below.refl _ _).drew,HV.out.below (Below.refl _ _).drew,hb.drew⟩
         case measure=>simp [intOf]; omega
       ·have Hn:=hideW (show ¬((W.snaps j).set=(W.snaps k).set∧(W.snaps j).name=(W.snaps k).name)from fun h=>he1 h.1)
        have f1:=str_ne he1
        clear he1
        go_wp2_with fail
        refine wp_region_held_drew (S:=(fun w'=>w'.cell? ⟨w.heap.size,5,none⟩=some (.slice (some ⟨b,off,none⟩) W.pn c)∧w'.cell? ⟨V8,1,none⟩=some (.string (W.snaps k).name)∧w'.cell? ⟨V8,2,none⟩=some (.string (W.snaps k).set)∧w'.cell? ⟨b,off+j*8+1,none⟩=some (.string (W.snaps j).name)∧w'.cell? ⟨b,off+j*8+2,none⟩=some (.string (W.snaps j).set))) (by kernel_rfl) ?_ (fun hHeld=>?_)
        ·(try dsimp only)
         go_keep
        refine tk 0 (h:=tk 1 (h:=tk 2 (h:=tk 3 (h:=tk 4 (h:=tk 5 (h:=tk 6 (h:=tk 7 (h:=tk 8 (h:=tk 9 (h:=ts 10 (h:=ts 11 (h:=ts 12 (h:=ts 13 (h:=ts 14 (h:=ts 15 (h:=ts 16 (h:=ts 17 (h:=ts 18 (h:=tk 19 (h:=?_))))))))))))))))))))
        refine wpAnyH_done (by kernel_rfl) ?_ _
        go_wp2
        go_roundw
        case rel=>exact⟨j+1,by omega,by go_num,relNext hjt Hc.out Hn.out,HX.out.below (Below.refl _ _).drew,HV.out.below (Below.refl _ _).drew,hb.drew⟩
        case measure=>simp [intOf]; omega
      ·obtain rfl:j=k:=by omega
       go_wp2
       go_roundw
       case rel=>exact⟨j+1,by omega,by go_num,relNext hlt Hall.out ⟨HSa.out,⟨HKb.out,HPr.out⟩,Hc.out⟩,HX.out,hb⟩
       case measure=>simp [intOf]; omega
    as_aux_lemma=>
    have hzb:((W.snaps k).prev == 0)=false:=by simp [hz]
    have hzc:decide ((W.snaps k).prev=0)=false:=by simp [hz]
    have hzd:((W.snaps k).prev != 0)=true:=by simp [hz]
    have Hz:=hideW hz
    clear hz
    refine tk 29 (h:=tk 30 (h:=tk 31 (h:=tk 32 (h:=tk 33 (h:=tk 34 (h:=?_))))))
    by_cases hg:(W.snaps k).prev<(W.snaps k).id
    rotate_left
    ·as_aux_lemma=>
     have hgb:decide ((W.snaps k).id≤(W.snaps k).prev)=true:=by simp; omega
     have Hn:=hideW (show ¬SnapB W k from fun h=>hg (h.2 Hz.out).1)
     clear hg
     refine tk 35 (h:=tk 36 (h:=ts 37 (h:=ts 38 (h:=ts 39 (h:=?_)))))
     refine rd [40] (rc (fun K hK=>?_) .nil)
     split
     ·rename_i hwt
      exact absurd (show false=true from hwt) Bool.false_ne_true
     refine hK.out _ _ (by assumption) (fun hHeld=>?_)
     clear hK K
     try simp only [Act.put,s1,s2,s3]
     refine ts 41 (h:=tk 42 (h:=tk 43 (h:=tk 44 (h:=?_))))
     refine wpAnyH_done (by kernel_rfl) ?_ _
     go_wp2
     go_ret
     exact⟨BoolIs.no fun hA=>Hn.out (hA.2.2.2.2.2 k hlt).2.1,below_next hbw hbd⟩
    as_aux_lemma=>
    have hgb:decide ((W.snaps k).id≤(W.snaps k).prev)=false:=by simp; omega
    have Hg:=hideW hg
    clear hg
    refine tk 35 (h:=tk 36 (h:=tk 37 (h:=tk 38 (h:=tk 39 (h:=?_)))))
    by_cases hi2:HasId W (W.snaps k).prev
    rotate_left
    ·as_aux_lemma=>
     have Hip:=hideW hi2
     have Hn:=hideW (show ¬SnapB W k from fun h=>hi2 (h.2 Hz.out).2)
     clear hi2
     refine rd [40] (rc (fun K hK=>?_) .nil)
     go_simp
     go_at_call 49
     refine(l04Snap_any v0 v1 _ _ lo hi W (W.snaps k).prev _ ?_).mono ?_
     ·exact Hp.out.below (below_next hbw hbd)
     rintro e wp ⟨r,rfl,hF,hbn⟩
     have hf:=first_snap hF
     replace hf:=hf.resolve_left (fun h=>Hip.out h.1)
     have hr:decide (r<0)=true:=by rw [hf.2]; rfl
     clear hF
     have hCwp:Below W6.heap.size W6 wp:=below_next hbd hbn
     obtain⟨⟨k0,_⟩,⟨k1,_⟩,⟨k2,_⟩,⟨k3,_⟩,⟨k4,_⟩,⟨k5,_⟩⟩:=HXs.out.below hCwp
     obtain⟨⟨⟨l0,_⟩,_,_,⟨l3,_⟩⟩,⟨l4,_⟩,_⟩:=HVs.out.below hCwp
     have n0:=(hCwp.cell (lt_of_cell qn)).trans qn
     have n4:=(hCwp.cell (lt_of_cell qt)).trans qt
     (try go_wp2_with fail)
     refine hK.out _ _ (by(try dsimp only); go_keep) ?_
     clear hK K hHeld
     intro hHeld
     try simp only [Act.put,s1,s2,s3]
     refine tk 41 (h:=tk 42 (h:=tk 43 (h:=tk 44 (h:=?_))))
     refine wpAnyH_done (by kernel_rfl) ?_ _
     go_wp2
     go_ret
     exact⟨BoolIs.no fun hA=>Hn.out (hA.2.2.2.2.2 k hlt).2.1,below_next hbw hCwp⟩
    as_aux_lemma=>
    have Hip:=hideW hi2
    have HPr:=hideW (show(W.snaps k).prev≠0→(W.snaps k).prev<(W.snaps k).id∧HasId W (W.snaps k).prev from fun _=>⟨Hg.out,hi2⟩)
    clear hi2
    refine rd [40] (rc (fun K hK=>?_) .nil)
    go_simp
    go_at_call 49
    refine(l04Snap_any v0 v1 _ _ lo hi W (W.snaps k).prev _ ?_).mono ?_
    ·exact Hp.out.below (below_next hbw hbd)
    rintro e wp ⟨r,rfl,hF,hbn⟩
    have hf:=first_snap hF
    replace hf:=hf.resolve_right (fun h=>h.1 Hip.out)
    have hr:decide (r<0)=false:=by have:=hf.2.1; simp; omega
    clear hF
    have hCwp:Below W6.heap.size W6 wp:=below_next hbd hbn
    obtain⟨⟨k0,_⟩,⟨k1,_⟩,⟨k2,_⟩,⟨k3,_⟩,⟨k4,_⟩,⟨k5,_⟩⟩:=HXs.out.below hCwp
    obtain⟨⟨⟨l0,_⟩,_,_,⟨l3,_⟩⟩,⟨l4,_⟩,_⟩:=HVs.out.below hCwp
    have n0:=(hCwp.cell (lt_of_cell qn)).trans qn
    have n4:=(hCwp.cell (lt_of_cell qt)).trans qt
    (try go_wp2_with fail)
    refine hK.out _ _ (by(try dsimp only); go_keep) ?_
    clear hK K hHeld
    intro hHeld
    try simp only [Act.put,s1,s2,s3]
    refine tk 41 (h:=tk 42 (h:=tk 43 (h:=tk 44 (h:=?_))))
    refine wpAnyH_done (by kernel_rfl) ?_ _
    clear hr hzb hzc hzd hgb
    as_aux_lemma=>
    have hCq:Below W6.heap.size W6 _:=hCwp
    have HXq:=hideW (HXs.out.below hCq)
    have HVq:=hideW (HVs.out.below hCq)
    have hbq:=below_next hbw hCq
    clear hCq
    go_wp2
    go_loopw [7] (fun i wr2=>∃j:Nat,j≤k∧i = .int .i64 j∧SnapC W k j∧Box6 wr2 w.heap.size v0 v1 (.int .i64 W.time) (.int .i64 W.next) (.slice a' W.sn c') (.slice (some ⟨b,off,none⟩) W.pn c)∧Box8 wr2 V8 (.int .i64 (W.snaps k).id) (.string (W.snaps k).name) (.string (W.snaps k).set) (.int .i64 (W.snaps k).prev) (.int .i64 (W.snaps k).time) (.int .i64 (W.snaps k).rs) (.int .i64 (W.snaps k).rb) (.slice ad (W.snaps k).dn cd)∧Below w.heap.size w wr2) (fun i _=>k - (intOf i).toNat)
    case atStart=>exact⟨0,Nat.zero_le _,rfl,fun q hq=>absurd hq (Nat.not_lt_zero _),HXq.out,HVq.out,hbq⟩
    case round=>
     clear HXq HVq hbq HXs HVs hbw
     obtain⟨j,hj,rfl,hc,hX,hV,hb⟩:=hrel
     have Hc:=hideW hc
     have HX:=hideW hX
     have HV:=hideW hV
     clear hc hX hV
     by_cases hjt:j<k
     ·have hjt':(j:Int)<(k:Int):=by omega
      have hjt2:(j:Int)<(W.pn:Int):=by omega
      obtain⟨b3,off3,vd3,e3,hs3⟩:=(Hp.out.snaps.below hb).cells (show j<W.pn by omega)
      cases e3
      have q1:=hs3.c1
      have q2:=hs3.c2
      clear hs3
      obtain⟨⟨x0,-⟩,⟨x2,-⟩,⟨x4,-⟩,⟨x6,-⟩,⟨x8,-⟩,⟨x10,-⟩⟩:=HX.out
      obtain⟨⟨-,⟨y1,-⟩,⟨y2,-⟩,-⟩,-⟩:=HV.out
      by_cases he1:(W.snaps j).set=(W.snaps k).set
      ·by_cases he2:(W.snaps j).name=(W.snaps k).name
       ·have Hn:=hideW (show ¬SnapC W k k from fun h=>h j hjt ⟨he1,he2⟩)
        have f1:=str_eq he1
        have f2:=str_eq he2
        clear he1 he2
        go_wp2_with fail
        refine wp_region_held_drew (S:=(fun w'=>w'.cell? ⟨w.heap.size,5,none⟩=some (.slice (some ⟨b,off,none⟩) W.pn c)∧w'.cell? ⟨V8,1,none⟩=some (.string (W.snaps k).name)∧w'.cell? ⟨V8,2,none⟩=some (.string (W.snaps k).set)∧w'.cell? ⟨b,off+j*8+1,none⟩=some (.string (W.snaps j).name)∧w'.cell? ⟨b,off+j*8+2,none⟩=some (.string (W.snaps j).set))) (by kernel_rfl) ?_ (fun hHeld=>?_)
        ·(try dsimp only)
         go_keep
        refine tk 0 (h:=tk 1 (h:=tk 2 (h:=tk 3 (h:=tk 4 (h:=tk 5 (h:=tk 6 (h:=tk 7 (h:=tk 8 (h:=tk 9 (h:=tk 10 (h:=tk 11 (h:=tk 12 (h:=tk 13 (h:=tk 14 (h:=tk 15 (h:=tk 16 (h:=tk 17 (h:=tk 18 (h:=tk 19 (h:=?_))))))))))))))))))))
        refine wpAnyH_done (by kernel_rfl) ?_ _
        go_wp2
        go_ret
        exact⟨BoolIs.no fun hA=>Hn.out (hA.2.2.2.2.2 k hlt).2.2,hb.drew⟩
       ·have Hn:=hideW (show ¬((W.snaps j).set=(W.snaps k).set∧(W.snaps j).name=(W.snaps k).name)from fun h=>he2 h.2)
        have f1:=str_eq he1
        have f2:=str_ne he2
        clear he1 he2
        go_wp2_with fail
        refine wp_region_held_drew (S:=(fun w'=>w'.cell? ⟨w.heap.size,5,none⟩=some (.slice (some ⟨b,off,none⟩) W.pn c)∧w'.cell? ⟨V8,1,none⟩=some (.string (W.snaps k).name)∧w'.cell? ⟨V8,2,none⟩=some (.string (W.snaps k).set)∧w'.cell? ⟨b,off+j*8+1,none⟩=some (.string (W.snaps j).name)∧w'.cell? ⟨b,off+j*8+2,none⟩=some (.string (W.snaps j).set))) (by kernel_rfl) ?_ (fun hHeld=>?_)
        ·(try dsimp only)
         go_keep
        refine tk 0 (h:=tk 1 (h:=tk 2 (h:=tk 3 (h:=tk 4 (h:=tk 5 (h:=tk 6 (h:=tk 7 (h:=tk 8 (h:=tk 9 (h:=tk 10 (h:=tk 11 (h:=tk 12 (h:=tk 13 (h:=tk 14 (h:=tk 15 (h:=tk 16 (h:=tk 17 (h:=tk 18 (h:=tk 19 (h:=?_))))))))))))))))))))
        refine wpAnyH_done (by kernel_rfl) ?_ _
        go_wp2
        go_roundw
        case rel=>exact⟨j+1,by omega,by go_num,relNext hjt Hc.out Hn.out,HX.out.below (Below.refl _ _).drew,HV.out.below (Below.refl _ _).drew,hb.drew⟩
        case measure=>simp [intOf]; omega
      ·have Hn:=hideW (show ¬((W.snaps j).set=(W.snaps k).set∧(W.snaps j).name=(W.snaps k).name)from fun h=>he1 h.1)
       have f1:=str_ne he1
       clear he1
       go_wp2_with fail
       refine wp_region_held_drew (S:=(fun w'=>w'.cell? ⟨w.heap.size,5,none⟩=some (.slice (some ⟨b,off,none⟩) W.pn c)∧w'.cell? ⟨V8,1,none⟩=some (.string (W.snaps k).name)∧w'.cell? ⟨V8,2,none⟩=some (.string (W.snaps k).set)∧w'.cell? ⟨b,off+j*8+1,none⟩=some (.string (W.snaps j).name)∧w'.cell? ⟨b,off+j*8+2,none⟩=some (.string (W.snaps j).set))) (by kernel_rfl) ?_ (fun hHeld=>?_)
       ·(try dsimp only)
        go_keep
       refine tk 0 (h:=tk 1 (h:=tk 2 (h:=tk 3 (h:=tk 4 (h:=tk 5 (h:=tk 6 (h:=tk 7 (h:=tk 8 (h:=tk 9 (h:=ts 10 (h:=ts 11 (h:=ts 12 (h:=ts 13 (h:=ts 14 (h:=ts 15 (h:=ts 16 (h:=ts 17 (h:=ts 18 (h:=tk 19 (h:=?_))))))))))))))))))))
       refine wpAnyH_done (by kernel_rfl) ?_ _
       go_wp2
       go_roundw
       case rel=>exact⟨j+1,by omega,by go_num,relNext hjt Hc.out Hn.out,HX.out.below (Below.refl _ _).drew,HV.out.below (Below.refl _ _).drew,hb.drew⟩
       case measure=>simp [intOf]; omega
     ·obtain rfl:j=k:=by omega
      go_wp2
      go_roundw
      case rel=>exact⟨j+1,by omega,by go_num,relNext hlt Hall.out ⟨HSa.out,⟨HKb.out,HPr.out⟩,Hc.out⟩,HX.out,hb⟩
      case measure=>simp [intOf]; omega
end Go.Proofs.YtmgeglgboadfiaaGreatDoor
