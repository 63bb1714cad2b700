/- What spec.l04Copy answers: a new world that holds the same, whose rows may be appended to. -/
import Derived.Test.YtmgeglgboadfiaaGreatDoorP4
import Derived.Test.YtmgeglgboadfiaaGreatDoorP20
import Derived.Test.YtmgeglgboadfiaaGreatDoorP19
import Derived.Test.YtmgeglgboadfiaaGreatDoorP26
import Derived.Test.YtmgeglgboadfiaaGreatDoorP30
import Derived.Test.YtmgeglgboadfiaaGreatDoorP12
import Derived.Test.YtmgeglgboadfiaaGreatDoorP21
import Derived.Deep.DeepCutAuto
import Derived.Deep.RegionHeld3
namespace Go.Proofs.YtmgeglgboadfiaaGreatDoor
open Go.RowKit Go.Maps
set_option linter.unusedVariables false
set_option maxRecDepth 20000 in
set_option maxHeartbeats 4000000 in
theorem l04CopyR_any(v0 v1 v2 v3:Value)(lo hi:Nat)(W:WorldD)(w:World)(h:WorldAt w lo hi v0 v1 v2 v3 W)(hpn:poolN W.pool≤1048576)(hSn:W.sn≤1048576)(hZn:W.pn≤1048576)(hDn:DeadsN W):Calls Tryz.prog 51 #[worldV v0 v1 v2 v3 W] w (NewWorldR W w):=by
 obtain⟨a0,c0,a1,c1,a2,c2,a3,c3,rfl,rfl,rfl,rfl⟩:=h.form
 have Hp:=hide h
 obtain⟨cvS,h1S,h2S⟩:=h.sets.values
 obtain⟨cvZ,h1Z,h2Z⟩:=h.snaps.values
 have HcvS:=hide h1S
 have HcvZ:=hide h1Z
 have H1S:=hide (show ∀i,i<W.sn→(cvS i).oneCell'=true from fun i hi=>by obtain⟨-,a,c,e,-⟩:=(h1S i hi).1; rw [e]; rfl)
 have H1Z:=hide (show ∀i,i<W.pn→(cvZ i).oneCell'=true from fun i hi=>by obtain⟨-,a,c,e,-⟩:=(h1Z i hi).1; rw [e]; rfl)
 have H2S:=hide h2S
 have H2Z:=hide h2Z
 have HDnS:=hide hDn.1
 have HDnZ:=hide hDn.2
 have HMx:=hide (show W.sn≤maxLen∧W.pn≤maxLen from⟨h.sets.1,h.snaps.1⟩)
 clear h h1S h1Z h2S h2Z hDn
 obtain⟨iS,hiS,hzS⟩:=Option.map_eq_some_iff.1 infoSetT
 simp only [Prod.mk.injEq] at hzS
 have HIS:=hide (And.intro hiS hzS)
 obtain⟨iZ,hiZ,hzZ⟩:=Option.map_eq_some_iff.1 infoSnapT
 simp only [Prod.mk.injEq] at hzZ
 have HIZ:=hide (And.intro hiZ hzZ)
 clear hiS hzS hiZ hzZ
 have hst:∀A B:World,A=w.alloc (.cells #[.slice a0 W.pool.n c0,.slice a1 W.pool.hn c1,.int .i64 W.time,.int .i64 W.next,.slice a2 W.sn c2,.slice a3 W.pn c3] 37)→B=A.alloc (.cells #[.slice none 0 0,.slice none 0 0,.int .i64 0,.int .i64 0,.slice none 0 0,.slice none 0 0] 37)→Box6 B w.heap.size (.slice a0 W.pool.n c0) (.slice a1 W.pool.hn c1) (.int .i64 W.time) (.int .i64 W.next) (.slice a2 W.sn c2) (.slice a3 W.pn c3)∧Box6 B (w.heap.size+1) (.slice none 0 0) (.slice none 0 0) (.int .i64 0) (.int .i64 0) (.slice none 0 0) (.slice none 0 0)∧Below w.heap.size w B∧B.heap.size=w.heap.size+1+1:=by
  rintro A B ea eb
  have b1:=below_alloc w (.cells #[.slice a0 W.pool.n c0,.slice a1 W.pool.hn c1,.int .i64 W.time,.int .i64 W.next,.slice a2 W.sn c2,.slice a3 W.pn c3] 37)
  have x1:=Box6.new w (.slice a0 W.pool.n c0) (.slice a1 W.pool.hn c1) (.int .i64 W.time) (.int .i64 W.next) (.slice a2 W.sn c2) (.slice a3 W.pn c3) 37
  have z1:A.heap.size=w.heap.size+1:=by rw [ea]; exact World.size_alloc _ _
  rw [←ea] at b1 x1
  have b2:=below_alloc A (.cells #[.slice none 0 0,.slice none 0 0,.int .i64 0,.int .i64 0,.slice none 0 0,.slice none 0 0] 37)
  have x2:=Box6.new A (.slice none 0 0) (.slice none 0 0) (.int .i64 0) (.int .i64 0) (.slice none 0 0) (.slice none 0 0) 37
  have z2:B.heap.size=w.heap.size+1+1:=by rw [eb,World.size_alloc,z1]
  rw [←eb,z1] at x2
  rw [←eb] at b2
  exact⟨x1.below b2,x2,below_next b1 b2,z2⟩
 obtain⟨hx,hr,hbw,hsz⟩:=hst _ _ rfl rfl
 have HX:=hide hx
 have HR:=hide hr
 have HSZ:=hide hsz
 have hc0:=below_alloc ((w.alloc (.cells #[.slice a0 W.pool.n c0,.slice a1 W.pool.hn c1,.int .i64 W.time,.int .i64 W.next,.slice a2 W.sn c2,.slice a3 W.pn c3] 37)).alloc (.cells #[.slice none 0 0,.slice none 0 0,.int .i64 0,.int .i64 0,.slice none 0 0,.slice none 0 0] 37)) (.cells #[.slice a0 W.pool.n c0,.slice a1 W.pool.hn c1,.int .i64 W.time,.int .i64 W.next,.slice a2 W.sn c2,.slice a3 W.pn c3] 37)
 have hy:=Box6.new ((w.alloc (.cells #[.slice a0 W.pool.n c0,.slice a1 W.pool.hn c1,.int .i64 W.time,.int .i64 W.next,.slice a2 W.sn c2,.slice a3 W.pn c3] 37)).alloc (.cells #[.slice none 0 0,.slice none 0 0,.int .i64 0,.int .i64 0,.slice none 0 0,.slice none 0 0] 37)) (.slice a0 W.pool.n c0) (.slice a1 W.pool.hn c1) (.int .i64 W.time) (.int .i64 W.next) (.slice a2 W.sn c2) (.slice a3 W.pn c3) 37
 rw [hsz] at hy
 have HY:=hide hy
 obtain⟨⟨x0,-⟩,⟨x1,-⟩,⟨x2,-⟩,⟨x3,-⟩,⟨x4,-⟩,⟨x5,-⟩⟩:=HX.out.below hc0
 clear hst hx hr hsz hy
 go_enter Tryz.func51,Tryz.ntmps51
 go_wp2_with fail
 generalize (w.alloc (.cells #[.slice a0 W.pool.n c0,.slice a1 W.pool.hn c1,.int .i64 W.time,.int .i64 W.next,.slice a2 W.sn c2,.slice a3 W.pn c3] 37)).alloc (.cells #[.slice none 0 0,.slice none 0 0,.int .i64 0,.int .i64 0,.slice none 0 0,.slice none 0 0] 37)=W0 at HX HR HY HSZ hbw hc0 x0 x1 x2 x3 x4 x5 ⊢
 generalize hX:w.heap.size+1+1=X at HY HSZ ⊢
 have HXe:=hide hX
 clear hX
 have hzC:(W0.alloc (.cells #[.slice a0 W.pool.n c0,.slice a1 W.pool.hn c1,.int .i64 W.time,.int .i64 W.next,.slice a2 W.sn c2,.slice a3 W.pn c3] 37)).heap.size=W0.heap.size+1:=World.size_alloc _ _
 generalize W0.alloc (.cells #[.slice a0 W.pool.n c0,.slice a1 W.pool.hn c1,.int .i64 W.time,.int .i64 W.next,.slice a2 W.sn c2,.slice a3 W.pn c3] 37)=WC at HY hc0 hzC x0 x1 x2 x3 x4 x5 ⊢
 refine(l01Copy_any _ _ lo hi W.pool WC (Hp.out.pool.below (below_next hbw hc0)) hpn).mono ?_
 rintro e w1 ⟨u0,u1,rfl,hP,hb1⟩
 obtain⟨b0,d0,b1,d1,rfl,rfl⟩:=hP.form
 have hz1:=hb1.size
 have hzX:=HSZ.out
 have T1:=(Turned.put w1 X 0 (.slice b0 W.pool.n d0)).trans (Turned.put _ X 1 (.slice b1 W.pool.hn d1))
 have HP1:=hide (hP.turned T1 (fun k e=>by omega))
 have hY1:Box6 ((w1.setCell ⟨X,0,none⟩ (.slice b0 W.pool.n d0)).setCell ⟨X,1,none⟩ (.slice b1 W.pool.hn d1)) X (.slice b0 W.pool.n d0) (.slice b1 W.pool.hn d1) (.int .i64 W.time) (.int .i64 W.next) (.slice a2 W.sn c2) (.slice a3 W.pn c3):=by
  obtain⟨h0,h1,h2,h3,h4,h5⟩:=HY.out.below hb1
  exact⟨(h0.set _).other _ (Or.inr (by omega)),(h1.other _ (Or.inr (by omega))).set _,(h2.other _ (Or.inr (by omega))).other _ (Or.inr (by omega)),(h3.other _ (Or.inr (by omega))).other _ (Or.inr (by omega)),(h4.other _ (Or.inr (by omega))).other _ (Or.inr (by omega)),(h5.other _ (Or.inr (by omega))).other _ (Or.inr (by omega))⟩
 have HBX1:=hide hY1
 have hB1:Below W0.heap.size W0 ((w1.setCell ⟨X,0,none⟩ (.slice b0 W.pool.n d0)).setCell ⟨X,1,none⟩ (.slice b1 W.pool.hn d1)):=(below_next hc0 hb1).trans (T1.below (B:=W0.heap.size) (by omega) (fun k e=>by omega))
 have hzW1:((w1.setCell ⟨X,0,none⟩ (.slice b0 W.pool.n d0)).setCell ⟨X,1,none⟩ (.slice b1 W.pool.hn d1)).heap.size=w1.heap.size:=by simp only [World.size_setCell]
 have HZW1:=hide hzW1
 clear x0 x1 x2 x3 x4 x5 hzW1
 obtain⟨⟨y0,y0'⟩,⟨y1,y1'⟩,⟨y2,y2'⟩,⟨y3,y3'⟩,⟨y4,y4'⟩,⟨y5,y5'⟩⟩:=HY.out.below hb1
 go_upto_region 3 with fail
 clear y0 y0' y1 y1' y2 y2' y3 y3' y4 y4' y5 y5' hY1 T1 hP hb1
 generalize (w1.setCell ⟨X,0,none⟩ (.slice b0 W.pool.n d0)).setCell ⟨X,1,none⟩ (.slice b1 W.pool.hn d1)=W1 at HP1 HBX1 hB1 HZW1 ⊢
 have haS:=below_alloc W1 (.cells #[] 67)
 have hwAS:=below_next hB1 haS
 have HownS:=hide (show(W1.alloc (.cells #[] 67)).ownsRow W1.heap.size 67 6 (.slice (some ⟨W1.heap.size,0,none⟩) 0 0) 0 [] from World.ownsRow_made W1 #[] 0 (Nat.le_refl _) (Nat.zero_le _) (by simp))
 have HszS:=hide (show(W1.alloc (.cells #[] 67)).heap.size=W1.heap.size+1 from World.size_alloc _ _)
 obtain⟨⟨x0,-⟩,⟨x1,-⟩,⟨x2,-⟩,⟨x3,-⟩,⟨x4,-⟩,⟨x5,-⟩⟩:=HX.out.below hwAS
 go_wp2_with (first
  | (at_builtin; refine wpList_append_opt rfl _ _ 34 rfl W1.heap.size 67 iS (.agg #[.string ⟨#[]⟩,.int .i64 0,.int .i64 0,.int .i64 0,.int .i64 0,.slice none 0 0]) 6 72 (by kernel_rfl) HIS.out.1 HIS.out.2.1 HIS.out.2.2.1 HIS.out.2.2.2 rfl (by decide) _ _ _ rfl HownS.out a2 W.sn c2 (clSet W.sets cvS W.sn) rfl (clSet_len _ _ _) (clSet_one _ _ _ H1S.out) ?c1 ?c3 ?c4 ?c5 ?_)
  | fail)
 case c1=>
  intro h0
  obtain⟨b,off,ha,hcell⟩:=H2S.out h0
  exact⟨b,off,ha,fun j u hj=>((below_next hbw hwAS).cell (lt_of_cell (hcell j u hj))).trans (hcell j u hj)⟩
 case c3=>unfold maxLen; omega
 case c4=>omega
 case c5=>rw [HszS.out]; omega
 intro v' w2 hown' hgrow hnil
 have hb2:Below W1.heap.size W1 w2:=haS.grown hgrow (by rw [HszS.out]; omega) (fun q hq=>by have:=HownS.out.lt q hq; omega)
 obtain⟨bS,aS,cS,rfl,nS,lS,kS⟩:=halfSet_start (show w2.ownsRow W1.heap.size 67 6 v' W.sn (clSet W.sets cvS W.sn)by simpa using hown') w2.heap.size (Nat.le_refl _)
 have HQ0S:=hide (show RowB (w2.setCell ⟨X,4,none⟩ (.slice aS W.sn cS)) 67 6 (.slice aS W.sn cS) W.sn from(rowB_of_owns (show w2.ownsRow W1.heap.size 67 6 (.slice aS W.sn cS) W.sn (clSet W.sets cvS W.sn)by simpa using hown') (fun h0=>⟨_,hnil h0⟩)).set _ _)
 have T2:=Turned.put w2 X 4 (.slice aS W.sn cS)
 have hzz:=hb2.size
 have hBX2:Box6 (w2.setCell ⟨X,4,none⟩ (.slice aS W.sn cS)) X (.slice b0 W.pool.n d0) (.slice b1 W.pool.hn d1) (.int .i64 W.time) (.int .i64 W.next) (.slice aS W.sn cS) (.slice a3 W.pn c3):=by
  obtain⟨h0,h1,h2,h3,h4,h5⟩:=HBX1.out.below hb2
  exact⟨h0.other _ (Or.inr (by omega)),h1.other _ (Or.inr (by omega)),h2.other _ (Or.inr (by omega)),h3.other _ (Or.inr (by omega)),h4.set _,h5.other _ (Or.inr (by omega))⟩
 have hWz:=HZW1.out
 have hX0:=HSZ.out
 have HBX2:=hide hBX2
 have HP2:=hide ((HP1.out.below hb2).turned T2 (fun k e=>by omega))
 have hB2:Below W0.heap.size W0 (w2.setCell ⟨X,4,none⟩ (.slice aS W.sn cS)):=(below_next hB1 hb2).trans (T2.below (B:=W0.heap.size) (below_next hB1 hb2).size (fun k e=>by omega))
 have hBz:=hB1.size
 have hz2:(w2.setCell ⟨X,4,none⟩ (.slice aS W.sn cS)).heap.size=w2.heap.size:=by simp only [World.size_setCell]
 have HS:=hide ((kS.turned0 T2 (fun q e h0 e2=>by have:=lS h0; omega)).weak (Nat.le_of_eq hz2.symm))
 have HSa:=hide (show 0<W.sn→aS=some ⟨bS,0,none⟩∧W1.heap.size≤bS from fun h0=>⟨(lS h0).1,(lS h0).2.1⟩)
 have hXS:0<W.sn→X≠bS:=fun h0=>by have:=lS h0; omega
 have hltS:0<W.sn→bS<(w2.setCell ⟨X,4,none⟩ (.slice aS W.sn cS)).heap.size:=fun h0=>by have:=lS h0; omega
 have hz2':W1.heap.size≤(w2.setCell ⟨X,4,none⟩ (.slice aS W.sn cS)).heap.size:=by omega
 clear hWz hown' hgrow hnil kS lS hBX2 haS hwAS HownS HszS x0 x1 x2 x3 x4 x5
 obtain⟨⟨y0,y0'⟩,⟨y1,y1'⟩,⟨y2,y2'⟩,⟨y3,y3'⟩,⟨y4,y4'⟩,⟨y5,y5'⟩⟩:=HBX1.out.below hb2
 go_wp2
 clear y0 y0' y1 y1' y2 y2' y3 y3' y4 y4' y5 y5' T2 hb2 hz2 hzz
 generalize w2.setCell ⟨X,4,none⟩ (.slice aS W.sn cS)=W2 at *
 go_loopw [4] (fun i wr=>∃(k:Nat) (kb:Nat→Nat) (kv:Nat→Value),k≤W.sn∧i = .int .i64 k∧HalfSet wr bS W2.heap.size W.sn k W.sets kb kv cvS∧Box6 wr X (.slice b0 W.pool.n d0) (.slice b1 W.pool.hn d1) (.int .i64 W.time) (.int .i64 W.next) (.slice aS W.sn cS) (.slice a3 W.pn c3)∧W2.heap.size≤wr.heap.size∧PoolOwn wr WC.heap.size w1.heap.size (.slice b0 W.pool.n d0) (.slice b1 W.pool.hn d1) W.pool∧(RowB wr 67 6 (.slice aS W.sn cS) W.sn∧∀i,i<k→RowB wr 61 2 (kv i) (W.sets i).dn)∧Below W0.heap.size W0 wr) (fun i _=>W.sn - (intOf i).toNat)
 case atStart=>exact⟨0,_,_,Nat.zero_le _,rfl,HS.out,HBX2.out,Nat.le_refl _,HP2.out,⟨HQ0S.out,fun i hi=>absurd hi (Nat.not_lt_zero _)⟩,hB2⟩
 case round=>
  obtain⟨k,kb,kv,hk,rfl,hh,hbx,hLw,hI,hQ,hbr⟩:=hrel
  have HQ:=hide hQ
  have Hh:=hide hh
  have HI:=hide hI
  have HBX:=hide hbx
  clear hh hI hbx hQ
  by_cases hlt:k<W.sn
  ·have hlt':(k:Int)<(W.sn:Int):=by omega
   have hLT:=Hh.out.lt (by omega)
   have hK:=(HSa.out (by omega)).2
   obtain rfl:=(HSa.out (by omega)).1
   obtain⟨sb,so,vd,rfl,hsd⟩:=(Hp.out.sets.cells hlt)
   obtain⟨-,da,dc,rfl,-⟩:=id hsd.dead
   have hsl:=lt_of_cell hsd.c0
   have hsl2:=hbw.size
   have hsl3:=HSZ.out
   have Hsd:=hide (hsd.below (below_next hbw hbr))
   have HD:=hide Hsd.out.dead
   obtain⟨-,ca,cc,hcv,-⟩:=id (HcvS.out k hlt).1
   have HXr:=hide (HX.out.below hbr)
   have e1:X≠bS:=hXS (by omega)
   have e1':=e1.symm
   have e2:w.heap.size≠bS:=by have:=HZW1.out; omega
   have e2':=e2.symm
   have e3:sb≠bS:=by have:=HZW1.out; omega
   have e3':=e3.symm
   clear hsd
   obtain⟨⟨x0,-⟩,⟨x1,-⟩,⟨x2,-⟩,⟨x3,-⟩,⟨x4,-⟩,⟨x5,-⟩⟩:=HBX.out
   obtain⟨⟨u0,-⟩,⟨u1,-⟩,⟨u2,-⟩,⟨u3,-⟩,⟨u4,-⟩,⟨u5,-⟩⟩:=HXr.out
   have sd:=Hsd.out.c5
   go_wp2_with fail
   refine wp_region_held_drew (S:=(fun w'=>w'.cell? ⟨X,4,none⟩=some (.slice (some ⟨bS,0,none⟩) W.sn cS)∧w'.cell? ⟨w.heap.size,4,none⟩=some (.slice (some ⟨sb,so,none⟩) W.sn c2)∧w'.cell? ⟨sb,so+k*6+5,none⟩=some (.slice da (W.sets k).dn dc))) (by kernel_rfl) ?_ (fun hHeld=>?_)
   ·(try dsimp only)
    go_keep
   have hb0:Below wr.heap.size wr wr.drew:=(Below.refl _ _).drew
   clear x0 x1 x2 x3 x4 x5 u0 u1 u2 u3 u4 u5 sd
   generalize wr.drew=q0 at hb0 hHeld ⊢
   refine tk 0 (h:=tk 1 (h:=tk 2 (h:=tk 4 (h:=tk 5 (h:=tk 6 (h:=tk 7 (h:=tk 8 (h:=tk 9 (h:=?_)))))))))
   refine rd [3] (rc (fun K hK=>?_) .nil)
   go_simp
   have hb1:Below wr.heap.size wr (q0.alloc (.cells #[] 61)):=below_next hb0 (below_alloc _ _)
   obtain⟨⟨x0,-⟩,⟨x1,-⟩,⟨x2,-⟩,⟨x3,-⟩,⟨x4,-⟩,⟨x5,-⟩⟩:=HBX.out.below hb1
   obtain⟨⟨u0,-⟩,⟨u1,-⟩,⟨u2,-⟩,⟨u3,-⟩,⟨u4,-⟩,⟨u5,-⟩⟩:=HXr.out.below hb1
   have sd:=(Hsd.out.below hb1).c5
   (try go_wp2_with fail)
   refine hK.out _ _ (by(try dsimp only); go_keep) ?_
   clear hK K hHeld
   intro hHeld
   try simp only [Act.put,s1,s2,s3]
   clear x0 x1 x2 x3 x4 x5 u0 u1 u2 u3 u4 u5 sd
   refine rd [10] (rc (fun K hK=>?_) .nil)
   obtain⟨na,nc,nb,w2,hrun,hp2,hpl2,hb2,hpr2⟩:=run_copy_ptrsR q0 lo hi da (W.sets k).dn dc (W.sets k).ds (W.sets k).db (HD.out.below hb0) (HDnS.out k hlt) 62
   have hB2:Below wr.heap.size wr w2:=below_next hb0 hb2
   have hqz:=hb0.size
   refine step_append_run rfl (.tmp 26) (.tmp 32) 62 rfl _ _ _ rfl rfl hrun ?_
   obtain⟨⟨x0,-⟩,⟨x1,-⟩,⟨x2,-⟩,⟨x3,-⟩,⟨x4,-⟩,⟨x5,-⟩⟩:=HBX.out.below hB2
   obtain⟨⟨u0,-⟩,⟨u1,-⟩,⟨u2,-⟩,⟨u3,-⟩,⟨u4,-⟩,⟨u5,-⟩⟩:=HXr.out.below hB2
   have sd:=(Hsd.out.below hB2).c5
   (try go_wp2_with fail)
   refine hK.out _ _ (by(try dsimp only); go_keep) ?_
   clear hK K hHeld
   intro hHeld
   try simp only [Act.put,s1,s2,s3]
   clear x0 x1 x2 x3 x4 x5 u0 u1 u2 u3 u4 u5 sd
   refine tk 11 (h:=tk 12 (h:=?_))
   refine rd [13] (rc (fun K hK=>?_) .nil)
   have hT:=Turned.put w2 bS (k*6+5) (.slice na (W.sets k).dn nc)
   obtain⟨⟨p0,p0'⟩,⟨p1,p1'⟩,⟨p2,p2'⟩,⟨p3,p3'⟩,⟨p4,p4'⟩,⟨p5,p5'⟩⟩:=(Hh.out.below hB2).heads k hlt
   rw [if_neg (by omega),hcv] at p5
   obtain⟨⟨x0,-⟩,⟨x1,-⟩,⟨x2,-⟩,⟨x3,-⟩,⟨x4,-⟩,⟨x5,-⟩⟩:=(HBX.out.below hB2).turned hT (fun e=>e1 e)
   obtain⟨⟨u0,-⟩,⟨u1,-⟩,⟨u2,-⟩,⟨u3,-⟩,⟨u4,-⟩,⟨u5,-⟩⟩:=(HXr.out.below hB2).turned hT (fun e=>e2 e)
   have sd:=(World.cell?_of_block (a:=⟨sb,so+k*6+5,none⟩) (hT.block sb (lt_of_cell (Hsd.out.below hB2).c5) (fun e=>e3 e))).trans (Hsd.out.below hB2).c5
   go_simp
   (try go_wp2_with fail)
   refine hK.out _ _ (by(try dsimp only); go_keep) ?_
   clear hK K hHeld
   intro hHeld
   try simp only [Act.put,s1,s2,s3]
   clear x0 x1 x2 x3 x4 x5 u0 u1 u2 u3 u4 u5 sd
   refine wpAnyH_done (by kernel_rfl) ?_ _
   have HPR:=hide hpr2
   have Hn2:=hide (Hh.out.next hlt (by omega) hB2 hp2 (fun h0=>by have:=hpl2 h0; omega))
   have hT':=hT
   have hBs:=hB2.size
   have hB:=hB2
   go_wp2
   go_roundw
   case rel=>exact⟨k+1,_,_,by omega,by go_num,Hn2.out,(HBX.out.below hB).turned hT' (fun e=>e1 e),by simp only [World.size_setCell]; omega,(HI.out.below hB).turned hT (fun q e=>by have:=HZW1.out; omega),⟨(HQ.out.1.below hB).set _ _,rows_next HPR.out (fun i hi=>(HQ.out.2 i hi).below hB) _ _⟩,(below_next hbr hB).setCell (by show W0.heap.size≤bS; have:=HZW1.out; omega) _⟩
   case measure=>simp [intOf]; omega
  ·obtain rfl:k=W.sn:=by omega
   generalize wr=wA at Hh HI HBX HQ hbr hLw ⊢
   generalize kb=kbS at Hh
   generalize kv=kvS at Hh HQ
   have HSR:=hide HQ.out
   have HSo:=hide (Hh.out.own HMx.out.1 (fun h0=>(HSa.out h0).1) nS (fun i hi=>(HcvS.out i hi).2))
   have HSap:=hide Hh.out.apart
   have HzS:=hide (show(W1.heap.size=w1.heap.size∧W2.heap.size≤wA.heap.size∧WC.heap.size≤w1.heap.size∧W1.heap.size≤W2.heap.size)∧∀q,SetsB bS kbS W.sn W.sets q→w1.heap.size≤q∧q<wA.heap.size by
    have hWz:=HZW1.out
    refine⟨⟨by omega,by omega,by omega,by omega⟩,?_⟩
    rintro q (⟨h0,rfl⟩ | ⟨i,hi,h0,rfl⟩)
    ·have:=HSa.out h0; have:=hltS h0; omega
    ·have:=Hh.out.place i hi h0; omega)
   have HPA:=hide HI.out
   have HBXA:=hide HBX.out
   clear Hh HI HBX HQ HS HBX2 HP2 hB2 HBX1 HP1
   obtain⟨⟨x0,-⟩,⟨x1,-⟩,⟨x2,-⟩,⟨x3,-⟩,⟨x4,-⟩,⟨x5,-⟩⟩:=HBXA.out
   go_upto_region 8 with fail
   clear x0 x1 x2 x3 x4 x5
   have haZ:=below_alloc wA (.cells #[] 99)
   have hwAZ:=below_next hbr haZ
   have HownZ:=hide (show(wA.alloc (.cells #[] 99)).ownsRow wA.heap.size 99 8 (.slice (some ⟨wA.heap.size,0,none⟩) 0 0) 0 [] from World.ownsRow_made wA #[] 0 (Nat.le_refl _) (Nat.zero_le _) (by simp))
   have HszZ:=hide (show(wA.alloc (.cells #[] 99)).heap.size=wA.heap.size+1 from World.size_alloc _ _)
   obtain⟨⟨x0,-⟩,⟨x1,-⟩,⟨x2,-⟩,⟨x3,-⟩,⟨x4,-⟩,⟨x5,-⟩⟩:=HX.out.below hwAZ
   go_wp2_with (first
    | (at_builtin; refine wpList_append_opt rfl _ _ 35 rfl wA.heap.size 99 iZ (.agg #[.int .i64 0,.string ⟨#[]⟩,.string ⟨#[]⟩,.int .i64 0,.int .i64 0,.int .i64 0,.int .i64 0,.slice none 0 0]) 8 96 (by kernel_rfl) HIZ.out.1 HIZ.out.2.1 HIZ.out.2.2.1 HIZ.out.2.2.2 rfl (by decide) _ _ _ rfl HownZ.out a3 W.pn c3 (clSnap W.snaps cvZ W.pn) rfl (clSnap_len _ _ _) (clSnap_one _ _ _ H1Z.out) ?c1 ?c3 ?c4 ?c5 ?_)
    | fail)
   case c1=>
    intro h0
    obtain⟨b,off,ha,hcell⟩:=H2Z.out h0
    exact⟨b,off,ha,fun j u hj=>((below_next hbw hwAZ).cell (lt_of_cell (hcell j u hj))).trans (hcell j u hj)⟩
   case c3=>unfold maxLen; omega
   case c4=>omega
   case c5=>rw [HszZ.out]; omega
   intro v' w2 hown' hgrow hnil
   have hb2:Below wA.heap.size wA w2:=haZ.grown hgrow (by rw [HszZ.out]; omega) (fun q hq=>by have:=HownZ.out.lt q hq; omega)
   obtain⟨bZ,aZ,cZ,rfl,nZ,lZ,kZ⟩:=halfSnap_start (show w2.ownsRow wA.heap.size 99 8 v' W.pn (clSnap W.snaps cvZ W.pn)by simpa using hown') w2.heap.size (Nat.le_refl _)
   have HQ0Z:=hide (show RowB (w2.setCell ⟨X,5,none⟩ (.slice aZ W.pn cZ)) 99 8 (.slice aZ W.pn cZ) W.pn from(rowB_of_owns (show w2.ownsRow wA.heap.size 99 8 (.slice aZ W.pn cZ) W.pn (clSnap W.snaps cvZ W.pn)by simpa using hown') (fun h0=>⟨_,hnil h0⟩)).set _ _)
   have T2:=Turned.put w2 X 5 (.slice aZ W.pn cZ)
   have hzz:=hb2.size
   have hBX2:Box6 (w2.setCell ⟨X,5,none⟩ (.slice aZ W.pn cZ)) X (.slice b0 W.pool.n d0) (.slice b1 W.pool.hn d1) (.int .i64 W.time) (.int .i64 W.next) (.slice aS W.sn cS) (.slice aZ W.pn cZ):=by
    obtain⟨h0,h1,h2,h3,h4,h5⟩:=HBXA.out.below hb2
    exact⟨h0.other _ (Or.inr (by omega)),h1.other _ (Or.inr (by omega)),h2.other _ (Or.inr (by omega)),h3.other _ (Or.inr (by omega)),h4.other _ (Or.inr (by omega)),h5.set _⟩
   have hWz:=HZW1.out
   have hX0:=HSZ.out
   have HBX2:=hide hBX2
   have HP2:=hide ((HPA.out.below hb2).turned T2 (fun k e=>by omega))
   have hB2:Below W0.heap.size W0 (w2.setCell ⟨X,5,none⟩ (.slice aZ W.pn cZ)):=(below_next hbr hb2).trans (T2.below (B:=W0.heap.size) (below_next hbr hb2).size (fun k e=>by omega))
   have hBz:=hbr.size
   have hz2:(w2.setCell ⟨X,5,none⟩ (.slice aZ W.pn cZ)).heap.size=w2.heap.size:=by simp only [World.size_setCell]
   have HZ:=hide ((kZ.turned0 T2 (fun q e h0 e2=>by have:=lZ h0; omega)).weak (Nat.le_of_eq hz2.symm))
   have HZa:=hide (show 0<W.pn→aZ=some ⟨bZ,0,none⟩∧wA.heap.size≤bZ from fun h0=>⟨(lZ h0).1,(lZ h0).2.1⟩)
   have hXZ:0<W.pn→X≠bZ:=fun h0=>by have:=lZ h0; omega
   have hltZ:0<W.pn→bZ<(w2.setCell ⟨X,5,none⟩ (.slice aZ W.pn cZ)).heap.size:=fun h0=>by have:=lZ h0; omega
   have HSo3:=hide ((HSo.out.below hb2).turned T2 (fun q hq e=>by have:=HzS.out.2 q hq; omega))
   have HSR3:=hide (show(RowB (w2.setCell ⟨X,5,none⟩ (.slice aZ W.pn cZ)) 67 6 (.slice aS W.sn cS) W.sn∧∀i,i<W.sn→RowB (w2.setCell ⟨X,5,none⟩ (.slice aZ W.pn cZ)) 61 2 (kvS i) (W.sets i).dn)from⟨(HSR.out.1.below hb2).set _ _,fun i hi=>((HSR.out.2 i hi).below hb2).set _ _⟩)
   have hz2':wA.heap.size≤(w2.setCell ⟨X,5,none⟩ (.slice aZ W.pn cZ)).heap.size:=by omega
   clear hWz hown' hgrow hnil kZ lZ hBX2 haZ hwAZ HownZ HszZ x0 x1 x2 x3 x4 x5
   obtain⟨⟨y0,y0'⟩,⟨y1,y1'⟩,⟨y2,y2'⟩,⟨y3,y3'⟩,⟨y4,y4'⟩,⟨y5,y5'⟩⟩:=HBXA.out.below hb2
   go_wp2
   clear y0 y0' y1 y1' y2 y2' y3 y3' y4 y4' y5 y5' T2 hb2 hz2 hzz
   generalize w2.setCell ⟨X,5,none⟩ (.slice aZ W.pn cZ)=W3 at *
   go_loopw [5] (fun i wr=>∃(k:Nat) (kb:Nat→Nat) (kv:Nat→Value),k≤W.pn∧i = .int .i64 k∧HalfSnap wr bZ W3.heap.size W.pn k W.snaps kb kv cvZ∧Box6 wr X (.slice b0 W.pool.n d0) (.slice b1 W.pool.hn d1) (.int .i64 W.time) (.int .i64 W.next) (.slice aS W.sn cS) (.slice aZ W.pn cZ)∧W3.heap.size≤wr.heap.size∧(PoolOwn wr WC.heap.size w1.heap.size (.slice b0 W.pool.n d0) (.slice b1 W.pool.hn d1) W.pool∧SetsOwn wr bS kbS kvS (.slice aS W.sn cS) W.sn W.sets∧(RowB wr 67 6 (.slice aS W.sn cS) W.sn∧∀i,i<W.sn→RowB wr 61 2 (kvS i) (W.sets i).dn))∧(RowB wr 99 8 (.slice aZ W.pn cZ) W.pn∧∀i,i<k→RowB wr 61 2 (kv i) (W.snaps i).dn)∧Below W0.heap.size W0 wr) (fun i _=>W.pn - (intOf i).toNat)
   case atStart=>exact⟨0,_,_,Nat.zero_le _,rfl,HZ.out,HBX2.out,Nat.le_refl _,⟨HP2.out,HSo3.out,HSR3.out⟩,⟨HQ0Z.out,fun i hi=>absurd hi (Nat.not_lt_zero _)⟩,hB2⟩
   case round=>
    obtain⟨k,kb,kv,hk,rfl,hh,hbx,hLw,hI,hQ,hbr⟩:=hrel
    have HQ:=hide hQ
    have Hh:=hide hh
    have HI:=hide hI
    have HBX:=hide hbx
    clear hh hI hbx hQ
    by_cases hlt:k<W.pn
    ·have hlt':(k:Int)<(W.pn:Int):=by omega
     have hLT:=Hh.out.lt (by omega)
     have hK:=(HZa.out (by omega)).2
     obtain rfl:=(HZa.out (by omega)).1
     obtain⟨sb,so,vd,rfl,hsd⟩:=(Hp.out.snaps.cells hlt)
     obtain⟨-,da,dc,rfl,-⟩:=id hsd.dead
     have hsl:=lt_of_cell hsd.c0
     have hsl2:=hbw.size
     have hsl3:=HSZ.out
     have Hsd:=hide (hsd.below (below_next hbw hbr))
     have HD:=hide Hsd.out.dead
     obtain⟨-,ca,cc,hcv,-⟩:=id (HcvZ.out k hlt).1
     have HXr:=hide (HX.out.below hbr)
     have e1:X≠bZ:=hXZ (by omega)
     have e1':=e1.symm
     have e2:w.heap.size≠bZ:=by have:=HZW1.out; omega
     have e2':=e2.symm
     have e3:sb≠bZ:=by have:=HZW1.out; omega
     have e3':=e3.symm
     clear hsd
     obtain⟨⟨x0,-⟩,⟨x1,-⟩,⟨x2,-⟩,⟨x3,-⟩,⟨x4,-⟩,⟨x5,-⟩⟩:=HBX.out
     obtain⟨⟨u0,-⟩,⟨u1,-⟩,⟨u2,-⟩,⟨u3,-⟩,⟨u4,-⟩,⟨u5,-⟩⟩:=HXr.out
     have sd:=Hsd.out.c7
     go_wp2_with fail
     refine wp_region_held_drew (S:=(fun w'=>w'.cell? ⟨X,5,none⟩=some (.slice (some ⟨bZ,0,none⟩) W.pn cZ)∧w'.cell? ⟨w.heap.size,5,none⟩=some (.slice (some ⟨sb,so,none⟩) W.pn c3)∧w'.cell? ⟨sb,so+k*8+7,none⟩=some (.slice da (W.snaps k).dn dc))) (by kernel_rfl) ?_ (fun hHeld=>?_)
     ·(try dsimp only)
      go_keep
     have hb0:Below wr.heap.size wr wr.drew:=(Below.refl _ _).drew
     clear x0 x1 x2 x3 x4 x5 u0 u1 u2 u3 u4 u5 sd
     generalize wr.drew=q0 at hb0 hHeld ⊢
     refine tk 0 (h:=tk 1 (h:=tk 2 (h:=tk 4 (h:=tk 5 (h:=tk 6 (h:=tk 7 (h:=tk 8 (h:=tk 9 (h:=?_)))))))))
     refine rd [3] (rc (fun K hK=>?_) .nil)
     go_simp
     have hb1:Below wr.heap.size wr (q0.alloc (.cells #[] 61)):=below_next hb0 (below_alloc _ _)
     obtain⟨⟨x0,-⟩,⟨x1,-⟩,⟨x2,-⟩,⟨x3,-⟩,⟨x4,-⟩,⟨x5,-⟩⟩:=HBX.out.below hb1
     obtain⟨⟨u0,-⟩,⟨u1,-⟩,⟨u2,-⟩,⟨u3,-⟩,⟨u4,-⟩,⟨u5,-⟩⟩:=HXr.out.below hb1
     have sd:=(Hsd.out.below hb1).c7
     (try go_wp2_with fail)
     refine hK.out _ _ (by(try dsimp only); go_keep) ?_
     clear hK K hHeld
     intro hHeld
     try simp only [Act.put,s1,s2,s3]
     clear x0 x1 x2 x3 x4 x5 u0 u1 u2 u3 u4 u5 sd
     refine rd [10] (rc (fun K hK=>?_) .nil)
     obtain⟨na,nc,nb,w2,hrun,hp2,hpl2,hb2,hpr2⟩:=run_copy_ptrsR q0 lo hi da (W.snaps k).dn dc (W.snaps k).ds (W.snaps k).db (HD.out.below hb0) (HDnZ.out k hlt) 62
     have hB2:Below wr.heap.size wr w2:=below_next hb0 hb2
     have hqz:=hb0.size
     refine step_append_run rfl (.tmp 51) (.tmp 57) 62 rfl _ _ _ rfl rfl hrun ?_
     obtain⟨⟨x0,-⟩,⟨x1,-⟩,⟨x2,-⟩,⟨x3,-⟩,⟨x4,-⟩,⟨x5,-⟩⟩:=HBX.out.below hB2
     obtain⟨⟨u0,-⟩,⟨u1,-⟩,⟨u2,-⟩,⟨u3,-⟩,⟨u4,-⟩,⟨u5,-⟩⟩:=HXr.out.below hB2
     have sd:=(Hsd.out.below hB2).c7
     (try go_wp2_with fail)
     refine hK.out _ _ (by(try dsimp only); go_keep) ?_
     clear hK K hHeld
     intro hHeld
     try simp only [Act.put,s1,s2,s3]
     clear x0 x1 x2 x3 x4 x5 u0 u1 u2 u3 u4 u5 sd
     refine tk 11 (h:=tk 12 (h:=?_))
     refine rd [13] (rc (fun K hK=>?_) .nil)
     have hT:=Turned.put w2 bZ (k*8+7) (.slice na (W.snaps k).dn nc)
     obtain⟨⟨p0,p0'⟩,⟨p1,p1'⟩,⟨p2,p2'⟩,⟨p3,p3'⟩,⟨p4,p4'⟩,⟨p5,p5'⟩,⟨p6,p6'⟩,⟨p7,p7'⟩⟩:=(Hh.out.below hB2).heads k hlt
     rw [if_neg (by omega),hcv] at p7
     obtain⟨⟨x0,-⟩,⟨x1,-⟩,⟨x2,-⟩,⟨x3,-⟩,⟨x4,-⟩,⟨x5,-⟩⟩:=(HBX.out.below hB2).turned hT (fun e=>e1 e)
     obtain⟨⟨u0,-⟩,⟨u1,-⟩,⟨u2,-⟩,⟨u3,-⟩,⟨u4,-⟩,⟨u5,-⟩⟩:=(HXr.out.below hB2).turned hT (fun e=>e2 e)
     have sd:=(World.cell?_of_block (a:=⟨sb,so+k*8+7,none⟩) (hT.block sb (lt_of_cell (Hsd.out.below hB2).c7) (fun e=>e3 e))).trans (Hsd.out.below hB2).c7
     go_simp
     (try go_wp2_with fail)
     refine hK.out _ _ (by(try dsimp only); go_keep) ?_
     clear hK K hHeld
     intro hHeld
     try simp only [Act.put,s1,s2,s3]
     clear x0 x1 x2 x3 x4 x5 u0 u1 u2 u3 u4 u5 sd
     refine wpAnyH_done (by kernel_rfl) ?_ _
     have HPR:=hide hpr2
     have Hn2:=hide (Hh.out.next hlt (by omega) hB2 hp2 (fun h0=>by have:=hpl2 h0; omega))
     have hT':=hT
     have hBs:=hB2.size
     have hB:=hB2
     go_wp2
     go_roundw
     case rel=>exact⟨k+1,_,_,by omega,by go_num,Hn2.out,(HBX.out.below hB).turned hT' (fun e=>e1 e),by simp only [World.size_setCell]; omega,⟨(HI.out.1.below hB).turned hT (fun q e=>by have:=HzS.out; omega),(HI.out.2.1.below hB).turned hT (fun q hq e=>by have:=HzS.out.2 q hq; omega),(HI.out.2.2.1.below hB).set _ _,fun i hi=>((HI.out.2.2.2 i hi).below hB).set _ _⟩,⟨(HQ.out.1.below hB).set _ _,rows_next HPR.out (fun i hi=>(HQ.out.2 i hi).below hB) _ _⟩,(below_next hbr hB).setCell (by show W0.heap.size≤bZ; have:=HZW1.out; omega) _⟩
     case measure=>simp [intOf]; omega
    ·obtain rfl:k=W.pn:=by omega
     have HRr:=hide (HR.out.below hbr)
     obtain⟨⟨x0,-⟩,⟨x1,-⟩,⟨x2,-⟩,⟨x3,-⟩,⟨x4,-⟩,⟨x5,-⟩⟩:=HBX.out
     obtain⟨⟨r0,r0'⟩,⟨r1,r1'⟩,⟨r2,r2'⟩,⟨r3,r3'⟩,⟨r4,r4'⟩,⟨r5,r5'⟩⟩:=HRr.out
     have hzX':=HSZ.out
     have hzXe:=HXe.out
     go_wp2
     have hT:=Turned.put6 wr (w.heap.size+1) (.slice b0 W.pool.n d0) (.slice b1 W.pool.hn d1) (.int .i64 W.time) (.int .i64 W.next) (.slice aS W.sn cS) (.slice aZ W.pn cZ)
     have HRp:=HRr.out.put (.slice b0 W.pool.n d0) (.slice b1 W.pool.hn d1) (.int .i64 W.time) (.int .i64 W.next) (.slice aS W.sn cS) (.slice aZ W.pn cZ)
     have hZ1:=(Hh.out.own HMx.out.2 (fun h0=>(HZa.out h0).1) nZ (fun i hi=>(HcvZ.out i hi).2))
     have hpz:=Hh.out.place
     have hsz:(put6 wr (w.heap.size+1) (.slice b0 W.pool.n d0) (.slice b1 W.pool.hn d1) (.int .i64 W.time) (.int .i64 W.next) (.slice aS W.sn cS) (.slice aZ W.pn cZ)).heap.size=wr.heap.size:=by simp only [World.size_setCell]
     have zS:=HzS.out
     have hbrz:=hbr.size
     have zZ:∀q,SnapsB bZ kb W.pn W.snaps q→wA.heap.size≤q∧q<wr.heap.size:=by
      rintro q (⟨h0,rfl⟩ | ⟨i,hi,h0,rfl⟩)
      ·have:=HZa.out h0; have:=hltZ h0; omega
      ·have:=hpz i hi h0; omega
     refine bodyPost_ret (v:=.agg #[.slice b0 W.pool.n d0,.slice b1 W.pool.hn d1,.int .i64 W.time,.int .i64 W.next,.slice aS W.sn cS,.slice aZ W.pn cZ]) (by simp [results,Tryz.results51,go_sem,HRp.1.1,HRp.2.1.1,HRp.2.2.1.1,HRp.2.2.2.1.1,HRp.2.2.2.2.1.1,HRp.2.2.2.2.2.1]) rfl ⟨_,_,_,_,rfl,?_,?_⟩
     ·refine⟨fun q=>WC.heap.size≤q∧q<w1.heap.size,fun q=>SetsB bS kbS W.sn W.sets q,fun q=>SnapsB bZ kb W.pn W.snaps q,⟨?_,?_,?_,?_,?_,?_⟩,?_⟩
      ·exact(HI.out.1.isIn (S:=fun q=>WC.heap.size≤q∧q<w1.heap.size) (fun k h1 h2=>⟨h1,h2⟩)).turned hT (fun k hk e=>by omega)
      ·exact SetsInR.put6 ⟨bS,kbS,kvS,HI.out.2.1,HSap.out,fun q hq=>hq,HI.out.2.2.1,HI.out.2.2.2⟩ (w.heap.size+1) _ _ _ _ _ _ (fun hk=>by have:=zS.2 _ hk; omega)
      ·exact SnapsInR.put6 ⟨bZ,kb,kv,hZ1,Hh.out.apart,fun q hq=>hq,HQ.out.1,HQ.out.2⟩ (w.heap.size+1) _ _ _ _ _ _ (fun hk=>by have:=zZ _ hk; omega)
      ·exact fun k hk e=>by have:=zS.2 k e; omega
      ·exact fun k hk e=>by have:=zZ k e; omega
      ·exact fun k hk e=>by have:=zS.2 k hk; have:=zZ k e; omega
      ·intro k hk
       rw [hsz]
       rcases hk with hk | hk | hk
       ·omega
       ·have:=zS.2 k hk; omega
       ·have:=zZ k hk; omega
     ·exact(below_next hbw hbr).trans (hT.below (B:=w.heap.size) (below_next hbw hbr).size (fun k e=>by omega))
end Go.Proofs.YtmgeglgboadfiaaGreatDoor
