/- What spec.StoreTurn answers. -/
import Derived.Test.YtihplgckbhnohaaGreatDoorG24
import Derived.Test.YtihplgckbhnohaaGreatDoorG26
import Derived.Test.YtihplgckbhnohaaGreatDoorG3
import Derived.Deep.RegionHeld3
namespace Go.Proofs.YtihplgckbhnohaaGreatDoor
open Go.RowKit
set_option linter.unusedVariables false
set_option maxRecDepth 20000 in
set_option maxHeartbeats 1000000 in
theorem specStoreTurn_any(t0 t1 t2 t3:Value)(X:WorldD)(v0 v1 v2 v3 u0 u1 u2 u3:Value)(lo hi:Nat)(S:StoreD)(w:World)(hX:WorldAt w lo hi t0 t1 t2 t3 X)(h:StoreAt w lo hi v0 v1 v2 v3 u0 u1 u2 u3 S)(nx1:poolN X.pool≤1048576)(nx2:X.sn≤1048576)(nx3:X.pn≤1048576)(nx4:DeadsN X)(ns1:poolN S.safe.pool≤1048576)(ns2:S.safe.sn≤1048576)(ns3:S.safe.pn≤1048576)(ns4:DeadsN S.safe) :
  Calls Tryz.prog 18 #[storeV v0 v1 v2 v3 u0 u1 u2 u3 S,worldV t0 t1 t2 t3 X] w fun e w'=>(¬StoreOk S∧NewSOut (refuseS 1) w e w')∨(StoreOk S∧¬StoreOk ⟨X,S.safe⟩∧NewSOut (refuseS 7) w e w')∨(StoreOk S∧StoreOk ⟨X,S.safe⟩∧NewSOut ⟨⟨X,S.safe⟩,0⟩ w e w'):=by
 obtain⟨o0,oc0,o1,oc1,o2,oc2,o3,oc3,rfl,rfl,rfl,rfl⟩:=hX.form
 obtain⟨a0,ac0,a1,ac1,a2,ac2,a3,ac3,rfl,rfl,rfl,rfl⟩:=h.live.form
 obtain⟨c0,cc0,c1,cc1,c2,cc2,c3,cc3,rfl,rfl,rfl,rfl⟩:=h.safe.form
 have HX:=hideW hX
 have Hp:=hideW h
 clear h hX
 have ha:=below_alloc w (.cells #[.slice a0 S.live.pool.n ac0,.slice a1 S.live.pool.hn ac1,.int .i64 S.live.time,.int .i64 S.live.next,.slice a2 S.live.sn ac2,.slice a3 S.live.pn ac3,.slice c0 S.safe.pool.n cc0,.slice c1 S.safe.pool.hn cc1,.int .i64 S.safe.time,.int .i64 S.safe.next,.slice c2 S.safe.sn cc2,.slice c3 S.safe.pn cc3] 41)
 have hb2:=below_alloc (w.alloc (.cells #[.slice a0 S.live.pool.n ac0,.slice a1 S.live.pool.hn ac1,.int .i64 S.live.time,.int .i64 S.live.next,.slice a2 S.live.sn ac2,.slice a3 S.live.pn ac3,.slice c0 S.safe.pool.n cc0,.slice c1 S.safe.pool.hn cc1,.int .i64 S.safe.time,.int .i64 S.safe.next,.slice c2 S.safe.sn cc2,.slice c3 S.safe.pn cc3] 41)) (.cells #[.slice o0 X.pool.n oc0,.slice o1 X.pool.hn oc1,.int .i64 X.time,.int .i64 X.next,.slice o2 X.sn oc2,.slice o3 X.pn oc3] 39)
 have hb3:=below_alloc ((w.alloc (.cells #[.slice a0 S.live.pool.n ac0,.slice a1 S.live.pool.hn ac1,.int .i64 S.live.time,.int .i64 S.live.next,.slice a2 S.live.sn ac2,.slice a3 S.live.pn ac3,.slice c0 S.safe.pool.n cc0,.slice c1 S.safe.pool.hn cc1,.int .i64 S.safe.time,.int .i64 S.safe.next,.slice c2 S.safe.sn cc2,.slice c3 S.safe.pn cc3] 41)).alloc (.cells #[.slice o0 X.pool.n oc0,.slice o1 X.pool.hn oc1,.int .i64 X.time,.int .i64 X.next,.slice o2 X.sn oc2,.slice o3 X.pn oc3] 39)) (.cells #[.slice none 0 0,.slice none 0 0,.int .i64 0,.int .i64 0,.slice none 0 0,.slice none 0 0,.slice none 0 0,.slice none 0 0,.int .i64 0,.int .i64 0,.slice none 0 0,.slice none 0 0,.int .i64 0] 43)
 have hb:=below_next (below_next ha hb2) hb3
 have HSn:=((Box12.new w (.slice a0 S.live.pool.n ac0) (.slice a1 S.live.pool.hn ac1) (.int .i64 S.live.time) (.int .i64 S.live.next) (.slice a2 S.live.sn ac2) (.slice a3 S.live.pn ac3) (.slice c0 S.safe.pool.n cc0) (.slice c1 S.safe.pool.hn cc1) (.int .i64 S.safe.time) (.int .i64 S.safe.next) (.slice c2 S.safe.sn cc2) (.slice c3 S.safe.pn cc3) 41).below hb2).below hb3
 have HXn:=(Box6.new (w.alloc (.cells #[.slice a0 S.live.pool.n ac0,.slice a1 S.live.pool.hn ac1,.int .i64 S.live.time,.int .i64 S.live.next,.slice a2 S.live.sn ac2,.slice a3 S.live.pn ac3,.slice c0 S.safe.pool.n cc0,.slice c1 S.safe.pool.hn cc1,.int .i64 S.safe.time,.int .i64 S.safe.next,.slice c2 S.safe.sn cc2,.slice c3 S.safe.pn cc3] 41)) (.slice o0 X.pool.n oc0) (.slice o1 X.pool.hn oc1) (.int .i64 X.time) (.int .i64 X.next) (.slice o2 X.sn oc2) (.slice o3 X.pn oc3) 39).below hb3
 have HR:=Box13.new ((w.alloc (.cells #[.slice a0 S.live.pool.n ac0,.slice a1 S.live.pool.hn ac1,.int .i64 S.live.time,.int .i64 S.live.next,.slice a2 S.live.sn ac2,.slice a3 S.live.pn ac3,.slice c0 S.safe.pool.n cc0,.slice c1 S.safe.pool.hn cc1,.int .i64 S.safe.time,.int .i64 S.safe.next,.slice c2 S.safe.sn cc2,.slice c3 S.safe.pn cc3] 41)).alloc (.cells #[.slice o0 X.pool.n oc0,.slice o1 X.pool.hn oc1,.int .i64 X.time,.int .i64 X.next,.slice o2 X.sn oc2,.slice o3 X.pn oc3] 39)) (.slice none 0 0) (.slice none 0 0) (.int .i64 0) (.int .i64 0) (.slice none 0 0) (.slice none 0 0) (.slice none 0 0) (.slice none 0 0) (.int .i64 0) (.int .i64 0) (.slice none 0 0) (.slice none 0 0) (.int .i64 0) 43
 rw [World.size_alloc] at HXn
 rw [World.size_alloc,World.size_alloc] at HR
 have hz:(((w.alloc (.cells #[.slice a0 S.live.pool.n ac0,.slice a1 S.live.pool.hn ac1,.int .i64 S.live.time,.int .i64 S.live.next,.slice a2 S.live.sn ac2,.slice a3 S.live.pn ac3,.slice c0 S.safe.pool.n cc0,.slice c1 S.safe.pool.hn cc1,.int .i64 S.safe.time,.int .i64 S.safe.next,.slice c2 S.safe.sn cc2,.slice c3 S.safe.pn cc3] 41)).alloc (.cells #[.slice o0 X.pool.n oc0,.slice o1 X.pool.hn oc1,.int .i64 X.time,.int .i64 X.next,.slice o2 X.sn oc2,.slice o3 X.pn oc3] 39)).alloc (.cells #[.slice none 0 0,.slice none 0 0,.int .i64 0,.int .i64 0,.slice none 0 0,.slice none 0 0,.slice none 0 0,.slice none 0 0,.int .i64 0,.int .i64 0,.slice none 0 0,.slice none 0 0,.int .i64 0] 43)).heap.size=w.heap.size+3:=by rw [World.size_alloc,World.size_alloc,World.size_alloc]
 obtain⟨⟨y0,-⟩,⟨y1,-⟩,⟨y2,-⟩,⟨y3,-⟩,⟨y4,-⟩,⟨y5,-⟩,⟨y6,-⟩,⟨y7,-⟩,⟨y8,-⟩,⟨y9,-⟩,⟨y10,-⟩,⟨y11,-⟩⟩:=id HSn
 go_enter Tryz.func18,Tryz.ntmps18
 go_wp2_with fail
 clear y0 y1 y2 y3 y4 y5 y6 y7 y8 y9 y10 y11
 generalize ((w.alloc (.cells #[.slice a0 S.live.pool.n ac0,.slice a1 S.live.pool.hn ac1,.int .i64 S.live.time,.int .i64 S.live.next,.slice a2 S.live.sn ac2,.slice a3 S.live.pn ac3,.slice c0 S.safe.pool.n cc0,.slice c1 S.safe.pool.hn cc1,.int .i64 S.safe.time,.int .i64 S.safe.next,.slice c2 S.safe.sn cc2,.slice c3 S.safe.pn cc3] 41)).alloc (.cells #[.slice o0 X.pool.n oc0,.slice o1 X.pool.hn oc1,.int .i64 X.time,.int .i64 X.next,.slice o2 X.sn oc2,.slice o3 X.pn oc3] 39)).alloc (.cells #[.slice none 0 0,.slice none 0 0,.int .i64 0,.int .i64 0,.slice none 0 0,.slice none 0 0,.slice none 0 0,.slice none 0 0,.int .i64 0,.int .i64 0,.slice none 0 0,.slice none 0 0,.int .i64 0] 43)=W2 at hb HSn HXn HR hz ⊢
 clear ha hb2 hb3
 refine(specStoreRight_any _ _ _ _ _ _ _ _ lo hi S W2 (Hp.out.below hb)).mono ?_
 rintro e W5 ⟨⟨t,rfl,ht⟩,hb5⟩
 have hbW:=below_next hb hb5
 have HSv:=HSn.below hb5
 have HXv:=HXn.below hb5
 have HR3:=HR.below hb5
 have hz5:=hb5.size
 clear HSn HXn HR
 cases t
 ·have Hn:=hideW (show ¬StoreOk S from fun hA=>absurd (ht.2 hA) (by simp))
  clear ht HSv HXv
  have HR4:=hideW HR3
  obtain⟨⟨r0,g0⟩,⟨r1,g1⟩,⟨r2,g2⟩,⟨r3,g3⟩,⟨r4,g4⟩,⟨r5,g5⟩,⟨r6,g6⟩,⟨r7,g7⟩,⟨r8,g8⟩,⟨r9,g9⟩,⟨r10,g10⟩,⟨r11,g11⟩,⟨r12,g12⟩⟩:=HR3
  go_wp2_with fail
  have HRz:Box13 (((((((((((((W5.setCell ⟨w.heap.size+1+1,0,none⟩ (.slice none 0 0)).setCell ⟨w.heap.size+1+1,1,none⟩ (.slice none 0 0)).setCell ⟨w.heap.size+1+1,2,none⟩ (.int .i64 0)).setCell ⟨w.heap.size+1+1,3,none⟩ (.int .i64 0)).setCell ⟨w.heap.size+1+1,4,none⟩ (.slice none 0 0)).setCell ⟨w.heap.size+1+1,5,none⟩ (.slice none 0 0)).setCell ⟨w.heap.size+1+1,6,none⟩ (.slice none 0 0)).setCell ⟨w.heap.size+1+1,7,none⟩ (.slice none 0 0)).setCell ⟨w.heap.size+1+1,8,none⟩ (.int .i64 0)).setCell ⟨w.heap.size+1+1,9,none⟩ (.int .i64 0)).setCell ⟨w.heap.size+1+1,10,none⟩ (.slice none 0 0)).setCell ⟨w.heap.size+1+1,11,none⟩ (.slice none 0 0)).setCell ⟨w.heap.size+1+1,12,none⟩ (.int .i64 1)) (w.heap.size+1+1) (.slice none 0 0) (.slice none 0 0) (.int .i64 0) (.int .i64 0) (.slice none 0 0) (.slice none 0 0) (.slice none 0 0) (.slice none 0 0) (.int .i64 0) (.int .i64 0) (.slice none 0 0) (.slice none 0 0) (.int .i64 1):=HR4.out.put (.slice none 0 0) (.slice none 0 0) (.int .i64 0) (.int .i64 0) (.slice none 0 0) (.slice none 0 0) (.slice none 0 0) (.slice none 0 0) (.int .i64 0) (.int .i64 0) (.slice none 0 0) (.slice none 0 0) (.int .i64 1)
  have hT:Turned (fun k=>k=w.heap.size+1+1) W5 (((((((((((((W5.setCell ⟨w.heap.size+1+1,0,none⟩ (.slice none 0 0)).setCell ⟨w.heap.size+1+1,1,none⟩ (.slice none 0 0)).setCell ⟨w.heap.size+1+1,2,none⟩ (.int .i64 0)).setCell ⟨w.heap.size+1+1,3,none⟩ (.int .i64 0)).setCell ⟨w.heap.size+1+1,4,none⟩ (.slice none 0 0)).setCell ⟨w.heap.size+1+1,5,none⟩ (.slice none 0 0)).setCell ⟨w.heap.size+1+1,6,none⟩ (.slice none 0 0)).setCell ⟨w.heap.size+1+1,7,none⟩ (.slice none 0 0)).setCell ⟨w.heap.size+1+1,8,none⟩ (.int .i64 0)).setCell ⟨w.heap.size+1+1,9,none⟩ (.int .i64 0)).setCell ⟨w.heap.size+1+1,10,none⟩ (.slice none 0 0)).setCell ⟨w.heap.size+1+1,11,none⟩ (.slice none 0 0)).setCell ⟨w.heap.size+1+1,12,none⟩ (.int .i64 1)):=Turned.put13 W5 (w.heap.size+1+1) (.slice none 0 0) (.slice none 0 0) (.int .i64 0) (.int .i64 0) (.slice none 0 0) (.slice none 0 0) (.slice none 0 0) (.slice none 0 0) (.int .i64 0) (.int .i64 0) (.slice none 0 0) (.slice none 0 0) (.int .i64 1)
  generalize (((((((((((((W5.setCell ⟨w.heap.size+1+1,0,none⟩ (.slice none 0 0)).setCell ⟨w.heap.size+1+1,1,none⟩ (.slice none 0 0)).setCell ⟨w.heap.size+1+1,2,none⟩ (.int .i64 0)).setCell ⟨w.heap.size+1+1,3,none⟩ (.int .i64 0)).setCell ⟨w.heap.size+1+1,4,none⟩ (.slice none 0 0)).setCell ⟨w.heap.size+1+1,5,none⟩ (.slice none 0 0)).setCell ⟨w.heap.size+1+1,6,none⟩ (.slice none 0 0)).setCell ⟨w.heap.size+1+1,7,none⟩ (.slice none 0 0)).setCell ⟨w.heap.size+1+1,8,none⟩ (.int .i64 0)).setCell ⟨w.heap.size+1+1,9,none⟩ (.int .i64 0)).setCell ⟨w.heap.size+1+1,10,none⟩ (.slice none 0 0)).setCell ⟨w.heap.size+1+1,11,none⟩ (.slice none 0 0)).setCell ⟨w.heap.size+1+1,12,none⟩ (.int .i64 1))=Wz at HRz hT ⊢
  have hbz:=(hbW).size
  refine bodyPost_ret (v:=.agg #[.slice none 0 0,.slice none 0 0,.int .i64 0,.int .i64 0,.slice none 0 0,.slice none 0 0,.slice none 0 0,.slice none 0 0,.int .i64 0,.int .i64 0,.slice none 0 0,.slice none 0 0,.int .i64 1]) (by simp [results,Tryz.results18,go_sem,HRz.1.1,HRz.2.1.1,HRz.2.2.1.1,HRz.2.2.2.1.1,HRz.2.2.2.2.1.1,HRz.2.2.2.2.2.1.1,HRz.2.2.2.2.2.2.1.1,HRz.2.2.2.2.2.2.2.1.1,HRz.2.2.2.2.2.2.2.2.1.1,HRz.2.2.2.2.2.2.2.2.2.1.1,HRz.2.2.2.2.2.2.2.2.2.2.1.1,HRz.2.2.2.2.2.2.2.2.2.2.2.1.1,HRz.2.2.2.2.2.2.2.2.2.2.2.2.1]) rfl (Or.inl ⟨Hn.out,_,_,_,_,_,_,_,_,rfl,no_store (Nat.le_trans hbz hT.size),?_⟩)
  exact(hbW).trans (hT.below (B:=w.heap.size) hbz (fun k e=>by omega))
 ·have Hs:=hideW (ht.1 rfl)
  clear ht
  obtain⟨⟨x0,-⟩,⟨x1,-⟩,⟨x2,-⟩,⟨x3,-⟩,⟨x4,-⟩,⟨x5,-⟩⟩:=id HXv
  obtain⟨-,-,-,-,-,-,⟨y6,-⟩,⟨y7,-⟩,⟨y8,-⟩,⟨y9,-⟩,⟨y10,-⟩,⟨y11,-⟩⟩:=id HSv
  go_upto_region 3 with fail
  go_cut [5] (fun v wc=>∃(T:Nat) (l0:Option Addr) (lc0:Nat) (l1:Option Addr) (lc1:Nat) (l2:Option Addr) (lc2:Nat) (l3:Option Addr) (lc3:Nat) (f0:Option Addr) (fc0:Nat) (f1:Option Addr) (fc1:Nat) (f2:Option Addr) (fc2:Nat) (f3:Option Addr) (fc3:Nat),v = .pointer (some ⟨T,0,none⟩)∧Box12 wc T (.slice l0 X.pool.n lc0) (.slice l1 X.pool.hn lc1) (.int .i64 X.time) (.int .i64 X.next) (.slice l2 X.sn lc2) (.slice l3 X.pn lc3) (.slice f0 S.safe.pool.n fc0) (.slice f1 S.safe.pool.hn fc1) (.int .i64 S.safe.time) (.int .i64 S.safe.next) (.slice f2 S.safe.sn fc2) (.slice f3 S.safe.pn fc3)∧StoreOwn wc W5.heap.size wc.heap.size (.slice l0 X.pool.n lc0) (.slice l1 X.pool.hn lc1) (.slice l2 X.sn lc2) (.slice l3 X.pn lc3) (.slice f0 S.safe.pool.n fc0) (.slice f1 S.safe.pool.hn fc1) (.slice f2 S.safe.sn fc2) (.slice f3 S.safe.pn fc3) ⟨X,S.safe⟩∧Below W5.heap.size W5 wc)
  case first=>
   refine wp_region_held_drew (S:=(fun w'=>w'.cell? ⟨w.heap.size+1,0,none⟩=some (.slice o0 X.pool.n oc0)∧w'.cell? ⟨w.heap.size+1,1,none⟩=some (.slice o1 X.pool.hn oc1)∧w'.cell? ⟨w.heap.size+1,2,none⟩=some (.int .i64 X.time)∧w'.cell? ⟨w.heap.size+1,3,none⟩=some (.int .i64 X.next)∧w'.cell? ⟨w.heap.size+1,4,none⟩=some (.slice o2 X.sn oc2)∧w'.cell? ⟨w.heap.size+1,5,none⟩=some (.slice o3 X.pn oc3)∧w'.cell? ⟨w.heap.size,6,none⟩=some (.slice c0 S.safe.pool.n cc0)∧w'.cell? ⟨w.heap.size,7,none⟩=some (.slice c1 S.safe.pool.hn cc1)∧w'.cell? ⟨w.heap.size,8,none⟩=some (.int .i64 S.safe.time)∧w'.cell? ⟨w.heap.size,9,none⟩=some (.int .i64 S.safe.next)∧w'.cell? ⟨w.heap.size,10,none⟩=some (.slice c2 S.safe.sn cc2)∧w'.cell? ⟨w.heap.size,11,none⟩=some (.slice c3 S.safe.pn cc3))) (by kernel_rfl) ?_ (fun hHeld=>?_)
   ·(try dsimp only)
    go_keep
   have hb0:Below W5.heap.size W5 W5.drew:=(Below.refl _ _).drew
   have hs0:W5.drew.heap.size≤W5.heap.size∧W5.heap.size≤W5.drew.heap.size:=⟨Nat.le_refl _,Nat.le_refl _⟩
   clear x0 x1 x2 x3 x4 x5 y6 y7 y8 y9 y10 y11
   generalize W5.drew=q0 at hb0 hs0 hHeld ⊢
   refine tk 0 (h:=tk 2 (h:=tk 3 (h:=?_)))
   refine rd [1,6] (rc (fun K hK=>?_) (rc (fun K hK=>?_) .nil))
   ·go_simp
    go_at_call 24
    refine(l04Copy_any _ _ _ _ lo hi X _ ((HX.out.below hbW).below hb0) nx1 nx2 nx3 nx4).mono ?_
    rintro e q1 ⟨z0,z1,z2,z3,rfl,oA1,hc1⟩
    obtain⟨l0,lc0,l1,lc1,l2,lc2,l3,lc3,rfl,rfl,rfl,rfl⟩:=oA1.form
    have hb1:=below_next hb0 hc1
    have hs1:=hc1.size
    obtain⟨⟨x0,-⟩,⟨x1,-⟩,⟨x2,-⟩,⟨x3,-⟩,⟨x4,-⟩,⟨x5,-⟩⟩:=HXv.below hb1
    obtain⟨-,-,-,-,-,-,⟨y6,-⟩,⟨y7,-⟩,⟨y8,-⟩,⟨y9,-⟩,⟨y10,-⟩,⟨y11,-⟩⟩:=HSv.below hb1
    (try go_wp2_with fail)
    refine hK.out _ _ (by(try dsimp only); go_keep) ?_
    clear hK K hHeld
    intro hHeld
    try simp only [Act.put,s1,s2,s3]
    clear x0 x1 x2 x3 x4 x5 y6 y7 y8 y9 y10 y11
    refine rd [4,6] (rc (fun K hK=>?_) (rc (fun K hK=>?_) .nil))
    ·go_simp
     go_at_call 24
     refine(l04Copy_any _ _ _ _ lo hi S.safe _ ((Hp.out.safe.below hbW).below hb1) ns1 ns2 ns3 ns4).mono ?_
     rintro e q2 ⟨z0,z1,z2,z3,rfl,oB2,hc2⟩
     obtain⟨f0,fc0,f1,fc1,f2,fc2,f3,fc3,rfl,rfl,rfl,rfl⟩:=oB2.form
     have hb2:=below_next hb1 hc2
     have hs2:=hc2.size
     have oA2:=oA1.below hc2
     obtain⟨⟨x0,-⟩,⟨x1,-⟩,⟨x2,-⟩,⟨x3,-⟩,⟨x4,-⟩,⟨x5,-⟩⟩:=HXv.below hb2
     obtain⟨-,-,-,-,-,-,⟨y6,-⟩,⟨y7,-⟩,⟨y8,-⟩,⟨y9,-⟩,⟨y10,-⟩,⟨y11,-⟩⟩:=HSv.below hb2
     (try go_wp2_with fail)
     refine hK.out _ _ (by(try dsimp only); go_keep) ?_
     clear hK K hHeld
     intro hHeld
     try simp only [Act.put,s1,s2,s3]
     clear x0 x1 x2 x3 x4 x5 y6 y7 y8 y9 y10 y11
     refine tk 5 (h:=?_)
     refine rd [6] (rc (fun K hK=>?_) .nil)
     go_simp
     have hc3:=below_alloc q2 (.cells #[.slice none 0 0,.slice none 0 0,.int .i64 0,.int .i64 0,.slice none 0 0,.slice none 0 0,.slice none 0 0,.slice none 0 0,.int .i64 0,.int .i64 0,.slice none 0 0,.slice none 0 0] 41)
     have hb3:=below_next hb2 hc3
     have hs3:q2.heap.size<(q2.alloc (.cells #[.slice none 0 0,.slice none 0 0,.int .i64 0,.int .i64 0,.slice none 0 0,.slice none 0 0,.slice none 0 0,.slice none 0 0,.int .i64 0,.int .i64 0,.slice none 0 0,.slice none 0 0] 41)).heap.size:=by rw [World.size_alloc]; omega
     have kT3:=Box12.new q2 (.slice none 0 0) (.slice none 0 0) (.int .i64 0) (.int .i64 0) (.slice none 0 0) (.slice none 0 0) (.slice none 0 0) (.slice none 0 0) (.int .i64 0) (.int .i64 0) (.slice none 0 0) (.slice none 0 0) 41
     have oA3:=oA2.below hc3
     have oB3:=oB2.below hc3
     obtain⟨⟨x0,-⟩,⟨x1,-⟩,⟨x2,-⟩,⟨x3,-⟩,⟨x4,-⟩,⟨x5,-⟩⟩:=HXv.below hb3
     obtain⟨-,-,-,-,-,-,⟨y6,-⟩,⟨y7,-⟩,⟨y8,-⟩,⟨y9,-⟩,⟨y10,-⟩,⟨y11,-⟩⟩:=HSv.below hb3
     (try go_wp2_with fail)
     refine hK.out _ _ (by(try dsimp only); go_keep) ?_
     clear hK K hHeld
     intro hHeld
     try simp only [Act.put,s1,s2,s3]
     clear x0 x1 x2 x3 x4 x5 y6 y7 y8 y9 y10 y11
     generalize q2.alloc (.cells #[.slice none 0 0,.slice none 0 0,.int .i64 0,.int .i64 0,.slice none 0 0,.slice none 0 0,.slice none 0 0,.slice none 0 0,.int .i64 0,.int .i64 0,.slice none 0 0,.slice none 0 0] 41)=q3 at hb3 kT3 oA3 oB3 hHeld hc3 hs3 ⊢
     refine rd [7] (rc (fun K hK=>?_) .nil)
     have kH:=hideW kT3
     obtain⟨⟨r0,g0⟩,⟨r1,g1⟩,⟨r2,g2⟩,⟨r3,g3⟩,⟨r4,g4⟩,⟨r5,g5⟩,⟨r6,g6⟩,⟨r7,g7⟩,⟨r8,g8⟩,⟨r9,g9⟩,⟨r10,g10⟩,⟨r11,g11⟩⟩:=kT3
     go_simp
     (try go_wp2_with fail)
     have hT4:Turned (fun k=>k=q2.heap.size) q3 ((((((((((((q3.setCell ⟨q2.heap.size,0,none⟩ (.slice l0 X.pool.n lc0)).setCell ⟨q2.heap.size,1,none⟩ (.slice l1 X.pool.hn lc1)).setCell ⟨q2.heap.size,2,none⟩ (.int .i64 X.time)).setCell ⟨q2.heap.size,3,none⟩ (.int .i64 X.next)).setCell ⟨q2.heap.size,4,none⟩ (.slice l2 X.sn lc2)).setCell ⟨q2.heap.size,5,none⟩ (.slice l3 X.pn lc3)).setCell ⟨q2.heap.size,6,none⟩ (.slice f0 S.safe.pool.n fc0)).setCell ⟨q2.heap.size,7,none⟩ (.slice f1 S.safe.pool.hn fc1)).setCell ⟨q2.heap.size,8,none⟩ (.int .i64 S.safe.time)).setCell ⟨q2.heap.size,9,none⟩ (.int .i64 S.safe.next)).setCell ⟨q2.heap.size,10,none⟩ (.slice f2 S.safe.sn fc2)).setCell ⟨q2.heap.size,11,none⟩ (.slice f3 S.safe.pn fc3)):=Turned.put12 q3 (q2.heap.size) (.slice l0 X.pool.n lc0) (.slice l1 X.pool.hn lc1) (.int .i64 X.time) (.int .i64 X.next) (.slice l2 X.sn lc2) (.slice l3 X.pn lc3) (.slice f0 S.safe.pool.n fc0) (.slice f1 S.safe.pool.hn fc1) (.int .i64 S.safe.time) (.int .i64 S.safe.next) (.slice f2 S.safe.sn fc2) (.slice f3 S.safe.pn fc3)
     have hb4:=hb3.trans (hT4.below (B:=W5.heap.size) hb3.size (fun k e=>by omega))
     have hs4:=hT4.size
     obtain⟨⟨x0,-⟩,⟨x1,-⟩,⟨x2,-⟩,⟨x3,-⟩,⟨x4,-⟩,⟨x5,-⟩⟩:=HXv.below hb4
     obtain⟨-,-,-,-,-,-,⟨y6,-⟩,⟨y7,-⟩,⟨y8,-⟩,⟨y9,-⟩,⟨y10,-⟩,⟨y11,-⟩⟩:=HSv.below hb4
     refine hK.out _ _ (by(try dsimp only); go_keep) ?_
     clear hK K hHeld
     intro hHeld
     try simp only [Act.put,s1,s2,s3]
     clear x0 x1 x2 x3 x4 x5 y6 y7 y8 y9 y10 y11 r0 g0 r1 g1 r2 g2 r3 g3 r4 g4 r5 g5 r6 g6 r7 g7 r8 g8 r9 g9 r10 g10 r11 g11
     refine wpAnyH_done (by kernel_rfl) ?_ _
     go_wp2_with fail
     have kT4:=kH.out.put (.slice l0 X.pool.n lc0) (.slice l1 X.pool.hn lc1) (.int .i64 X.time) (.int .i64 X.next) (.slice l2 X.sn lc2) (.slice l3 X.pn lc3) (.slice f0 S.safe.pool.n fc0) (.slice f1 S.safe.pool.hn fc1) (.int .i64 S.safe.time) (.int .i64 S.safe.next) (.slice f2 S.safe.sn fc2) (.slice f3 S.safe.pn fc3)
     have oA4:=oA3.turned hT4 (fun k e=>by omega)
     have oB4:=oB3.turned hT4 (fun k e=>by omega)
     go_meet
     case rel=>exact⟨_,_,_,_,_,_,_,_,_,_,_,_,_,_,_,_,_,rfl,kT4,⟨q0.heap.size,q1.heap.size,q1.heap.size,q2.heap.size,oA4,oB4,by omega,by omega,by omega,by omega,by omega⟩,hb4⟩
    ·go_simp
     have hc5:=below_alloc q1 (.cells #[.slice none 0 0,.slice none 0 0,.int .i64 0,.int .i64 0,.slice none 0 0,.slice none 0 0,.slice none 0 0,.slice none 0 0,.int .i64 0,.int .i64 0,.slice none 0 0,.slice none 0 0] 41)
     have hb5:=below_next hb1 hc5
     have hs5:q1.heap.size<(q1.alloc (.cells #[.slice none 0 0,.slice none 0 0,.int .i64 0,.int .i64 0,.slice none 0 0,.slice none 0 0,.slice none 0 0,.slice none 0 0,.int .i64 0,.int .i64 0,.slice none 0 0,.slice none 0 0] 41)).heap.size:=by rw [World.size_alloc]; omega
     have kT5:=Box12.new q1 (.slice none 0 0) (.slice none 0 0) (.int .i64 0) (.int .i64 0) (.slice none 0 0) (.slice none 0 0) (.slice none 0 0) (.slice none 0 0) (.int .i64 0) (.int .i64 0) (.slice none 0 0) (.slice none 0 0) 41
     have oA5:=oA1.below hc5
     obtain⟨⟨x0,-⟩,⟨x1,-⟩,⟨x2,-⟩,⟨x3,-⟩,⟨x4,-⟩,⟨x5,-⟩⟩:=HXv.below hb5
     obtain⟨-,-,-,-,-,-,⟨y6,-⟩,⟨y7,-⟩,⟨y8,-⟩,⟨y9,-⟩,⟨y10,-⟩,⟨y11,-⟩⟩:=HSv.below hb5
     (try go_wp2_with fail)
     refine hK.out _ _ (by(try dsimp only); go_keep) ?_
     clear hK K hHeld
     intro hHeld
     try simp only [Act.put,s1,s2,s3]
     clear x0 x1 x2 x3 x4 x5 y6 y7 y8 y9 y10 y11
     generalize q1.alloc (.cells #[.slice none 0 0,.slice none 0 0,.int .i64 0,.int .i64 0,.slice none 0 0,.slice none 0 0,.slice none 0 0,.slice none 0 0,.int .i64 0,.int .i64 0,.slice none 0 0,.slice none 0 0] 41)=q5 at hb5 kT5 oA5 hHeld hc5 hs5 ⊢
     refine rd [4] (rc (fun K hK=>?_) .nil)
     go_simp
     go_at_call 24
     refine(l04Copy_any _ _ _ _ lo hi S.safe _ ((Hp.out.safe.below hbW).below hb5) ns1 ns2 ns3 ns4).mono ?_
     rintro e q6 ⟨z0,z1,z2,z3,rfl,oB6,hc6⟩
     obtain⟨f0,fc0,f1,fc1,f2,fc2,f3,fc3,rfl,rfl,rfl,rfl⟩:=oB6.form
     have hb6:=below_next hb5 hc6
     have hs6:=hc6.size
     have oA6:=oA5.below hc6
     have kT6:=kT5.below hc6
     obtain⟨⟨x0,-⟩,⟨x1,-⟩,⟨x2,-⟩,⟨x3,-⟩,⟨x4,-⟩,⟨x5,-⟩⟩:=HXv.below hb6
     obtain⟨-,-,-,-,-,-,⟨y6,-⟩,⟨y7,-⟩,⟨y8,-⟩,⟨y9,-⟩,⟨y10,-⟩,⟨y11,-⟩⟩:=HSv.below hb6
     (try go_wp2_with fail)
     refine hK.out _ _ (by(try dsimp only); go_keep) ?_
     clear hK K hHeld
     intro hHeld
     try simp only [Act.put,s1,s2,s3]
     clear x0 x1 x2 x3 x4 x5 y6 y7 y8 y9 y10 y11
     refine tk 5 (h:=?_)
     refine rd [7] (rc (fun K hK=>?_) .nil)
     have kH:=hideW kT6
     obtain⟨⟨r0,g0⟩,⟨r1,g1⟩,⟨r2,g2⟩,⟨r3,g3⟩,⟨r4,g4⟩,⟨r5,g5⟩,⟨r6,g6⟩,⟨r7,g7⟩,⟨r8,g8⟩,⟨r9,g9⟩,⟨r10,g10⟩,⟨r11,g11⟩⟩:=kT6
     go_simp
     (try go_wp2_with fail)
     have hT7:Turned (fun k=>k=q1.heap.size) q6 ((((((((((((q6.setCell ⟨q1.heap.size,0,none⟩ (.slice l0 X.pool.n lc0)).setCell ⟨q1.heap.size,1,none⟩ (.slice l1 X.pool.hn lc1)).setCell ⟨q1.heap.size,2,none⟩ (.int .i64 X.time)).setCell ⟨q1.heap.size,3,none⟩ (.int .i64 X.next)).setCell ⟨q1.heap.size,4,none⟩ (.slice l2 X.sn lc2)).setCell ⟨q1.heap.size,5,none⟩ (.slice l3 X.pn lc3)).setCell ⟨q1.heap.size,6,none⟩ (.slice f0 S.safe.pool.n fc0)).setCell ⟨q1.heap.size,7,none⟩ (.slice f1 S.safe.pool.hn fc1)).setCell ⟨q1.heap.size,8,none⟩ (.int .i64 S.safe.time)).setCell ⟨q1.heap.size,9,none⟩ (.int .i64 S.safe.next)).setCell ⟨q1.heap.size,10,none⟩ (.slice f2 S.safe.sn fc2)).setCell ⟨q1.heap.size,11,none⟩ (.slice f3 S.safe.pn fc3)):=Turned.put12 q6 (q1.heap.size) (.slice l0 X.pool.n lc0) (.slice l1 X.pool.hn lc1) (.int .i64 X.time) (.int .i64 X.next) (.slice l2 X.sn lc2) (.slice l3 X.pn lc3) (.slice f0 S.safe.pool.n fc0) (.slice f1 S.safe.pool.hn fc1) (.int .i64 S.safe.time) (.int .i64 S.safe.next) (.slice f2 S.safe.sn fc2) (.slice f3 S.safe.pn fc3)
     have hb7:=hb6.trans (hT7.below (B:=W5.heap.size) hb6.size (fun k e=>by omega))
     have hs7:=hT7.size
     obtain⟨⟨x0,-⟩,⟨x1,-⟩,⟨x2,-⟩,⟨x3,-⟩,⟨x4,-⟩,⟨x5,-⟩⟩:=HXv.below hb7
     obtain⟨-,-,-,-,-,-,⟨y6,-⟩,⟨y7,-⟩,⟨y8,-⟩,⟨y9,-⟩,⟨y10,-⟩,⟨y11,-⟩⟩:=HSv.below hb7
     refine hK.out _ _ (by(try dsimp only); go_keep) ?_
     clear hK K hHeld
     intro hHeld
     try simp only [Act.put,s1,s2,s3]
     clear x0 x1 x2 x3 x4 x5 y6 y7 y8 y9 y10 y11 r0 g0 r1 g1 r2 g2 r3 g3 r4 g4 r5 g5 r6 g6 r7 g7 r8 g8 r9 g9 r10 g10 r11 g11
     refine wpAnyH_done (by kernel_rfl) ?_ _
     go_wp2_with fail
     have kT7:=kH.out.put (.slice l0 X.pool.n lc0) (.slice l1 X.pool.hn lc1) (.int .i64 X.time) (.int .i64 X.next) (.slice l2 X.sn lc2) (.slice l3 X.pn lc3) (.slice f0 S.safe.pool.n fc0) (.slice f1 S.safe.pool.hn fc1) (.int .i64 S.safe.time) (.int .i64 S.safe.next) (.slice f2 S.safe.sn fc2) (.slice f3 S.safe.pn fc3)
     have oA7:=oA6.turned hT7 (fun k e=>by omega)
     have oB7:=oB6.turned hT7 (fun k e=>by omega)
     go_meet
     case rel=>exact⟨_,_,_,_,_,_,_,_,_,_,_,_,_,_,_,_,_,rfl,kT7,⟨q0.heap.size,q1.heap.size,q5.heap.size,q6.heap.size,oA7,oB7,by omega,by omega,by omega,by omega,by omega⟩,hb7⟩
   ·go_simp
    have hc8:=below_alloc q0 (.cells #[.slice none 0 0,.slice none 0 0,.int .i64 0,.int .i64 0,.slice none 0 0,.slice none 0 0,.slice none 0 0,.slice none 0 0,.int .i64 0,.int .i64 0,.slice none 0 0,.slice none 0 0] 41)
    have hb8:=below_next hb0 hc8
    have hs8:q0.heap.size<(q0.alloc (.cells #[.slice none 0 0,.slice none 0 0,.int .i64 0,.int .i64 0,.slice none 0 0,.slice none 0 0,.slice none 0 0,.slice none 0 0,.int .i64 0,.int .i64 0,.slice none 0 0,.slice none 0 0] 41)).heap.size:=by rw [World.size_alloc]; omega
    have kT8:=Box12.new q0 (.slice none 0 0) (.slice none 0 0) (.int .i64 0) (.int .i64 0) (.slice none 0 0) (.slice none 0 0) (.slice none 0 0) (.slice none 0 0) (.int .i64 0) (.int .i64 0) (.slice none 0 0) (.slice none 0 0) 41
    obtain⟨⟨x0,-⟩,⟨x1,-⟩,⟨x2,-⟩,⟨x3,-⟩,⟨x4,-⟩,⟨x5,-⟩⟩:=HXv.below hb8
    obtain⟨-,-,-,-,-,-,⟨y6,-⟩,⟨y7,-⟩,⟨y8,-⟩,⟨y9,-⟩,⟨y10,-⟩,⟨y11,-⟩⟩:=HSv.below hb8
    (try go_wp2_with fail)
    refine hK.out _ _ (by(try dsimp only); go_keep) ?_
    clear hK K hHeld
    intro hHeld
    try simp only [Act.put,s1,s2,s3]
    clear x0 x1 x2 x3 x4 x5 y6 y7 y8 y9 y10 y11
    generalize q0.alloc (.cells #[.slice none 0 0,.slice none 0 0,.int .i64 0,.int .i64 0,.slice none 0 0,.slice none 0 0,.slice none 0 0,.slice none 0 0,.int .i64 0,.int .i64 0,.slice none 0 0,.slice none 0 0] 41)=q8 at hb8 kT8 hHeld hc8 hs8 ⊢
    refine rd [1] (rc (fun K hK=>?_) .nil)
    go_simp
    go_at_call 24
    refine(l04Copy_any _ _ _ _ lo hi X _ ((HX.out.below hbW).below hb8) nx1 nx2 nx3 nx4).mono ?_
    rintro e q9 ⟨z0,z1,z2,z3,rfl,oA9,hc9⟩
    obtain⟨l0,lc0,l1,lc1,l2,lc2,l3,lc3,rfl,rfl,rfl,rfl⟩:=oA9.form
    have hb9:=below_next hb8 hc9
    have hs9:=hc9.size
    have kT9:=kT8.below hc9
    obtain⟨⟨x0,-⟩,⟨x1,-⟩,⟨x2,-⟩,⟨x3,-⟩,⟨x4,-⟩,⟨x5,-⟩⟩:=HXv.below hb9
    obtain⟨-,-,-,-,-,-,⟨y6,-⟩,⟨y7,-⟩,⟨y8,-⟩,⟨y9,-⟩,⟨y10,-⟩,⟨y11,-⟩⟩:=HSv.below hb9
    (try go_wp2_with fail)
    refine hK.out _ _ (by(try dsimp only); go_keep) ?_
    clear hK K hHeld
    intro hHeld
    try simp only [Act.put,s1,s2,s3]
    clear x0 x1 x2 x3 x4 x5 y6 y7 y8 y9 y10 y11
    refine rd [4] (rc (fun K hK=>?_) .nil)
    go_simp
    go_at_call 24
    refine(l04Copy_any _ _ _ _ lo hi S.safe _ ((Hp.out.safe.below hbW).below hb9) ns1 ns2 ns3 ns4).mono ?_
    rintro e q10 ⟨z0,z1,z2,z3,rfl,oB10,hc10⟩
    obtain⟨f0,fc0,f1,fc1,f2,fc2,f3,fc3,rfl,rfl,rfl,rfl⟩:=oB10.form
    have hb10:=below_next hb9 hc10
    have hs10:=hc10.size
    have oA10:=oA9.below hc10
    have kT10:=kT9.below hc10
    obtain⟨⟨x0,-⟩,⟨x1,-⟩,⟨x2,-⟩,⟨x3,-⟩,⟨x4,-⟩,⟨x5,-⟩⟩:=HXv.below hb10
    obtain⟨-,-,-,-,-,-,⟨y6,-⟩,⟨y7,-⟩,⟨y8,-⟩,⟨y9,-⟩,⟨y10,-⟩,⟨y11,-⟩⟩:=HSv.below hb10
    (try go_wp2_with fail)
    refine hK.out _ _ (by(try dsimp only); go_keep) ?_
    clear hK K hHeld
    intro hHeld
    try simp only [Act.put,s1,s2,s3]
    clear x0 x1 x2 x3 x4 x5 y6 y7 y8 y9 y10 y11
    refine tk 5 (h:=?_)
    refine rd [7] (rc (fun K hK=>?_) .nil)
    have kH:=hideW kT10
    obtain⟨⟨r0,g0⟩,⟨r1,g1⟩,⟨r2,g2⟩,⟨r3,g3⟩,⟨r4,g4⟩,⟨r5,g5⟩,⟨r6,g6⟩,⟨r7,g7⟩,⟨r8,g8⟩,⟨r9,g9⟩,⟨r10,g10⟩,⟨r11,g11⟩⟩:=kT10
    go_simp
    (try go_wp2_with fail)
    have hT11:Turned (fun k=>k=q0.heap.size) q10 ((((((((((((q10.setCell ⟨q0.heap.size,0,none⟩ (.slice l0 X.pool.n lc0)).setCell ⟨q0.heap.size,1,none⟩ (.slice l1 X.pool.hn lc1)).setCell ⟨q0.heap.size,2,none⟩ (.int .i64 X.time)).setCell ⟨q0.heap.size,3,none⟩ (.int .i64 X.next)).setCell ⟨q0.heap.size,4,none⟩ (.slice l2 X.sn lc2)).setCell ⟨q0.heap.size,5,none⟩ (.slice l3 X.pn lc3)).setCell ⟨q0.heap.size,6,none⟩ (.slice f0 S.safe.pool.n fc0)).setCell ⟨q0.heap.size,7,none⟩ (.slice f1 S.safe.pool.hn fc1)).setCell ⟨q0.heap.size,8,none⟩ (.int .i64 S.safe.time)).setCell ⟨q0.heap.size,9,none⟩ (.int .i64 S.safe.next)).setCell ⟨q0.heap.size,10,none⟩ (.slice f2 S.safe.sn fc2)).setCell ⟨q0.heap.size,11,none⟩ (.slice f3 S.safe.pn fc3)):=Turned.put12 q10 (q0.heap.size) (.slice l0 X.pool.n lc0) (.slice l1 X.pool.hn lc1) (.int .i64 X.time) (.int .i64 X.next) (.slice l2 X.sn lc2) (.slice l3 X.pn lc3) (.slice f0 S.safe.pool.n fc0) (.slice f1 S.safe.pool.hn fc1) (.int .i64 S.safe.time) (.int .i64 S.safe.next) (.slice f2 S.safe.sn fc2) (.slice f3 S.safe.pn fc3)
    have hb11:=hb10.trans (hT11.below (B:=W5.heap.size) hb10.size (fun k e=>by omega))
    have hs11:=hT11.size
    obtain⟨⟨x0,-⟩,⟨x1,-⟩,⟨x2,-⟩,⟨x3,-⟩,⟨x4,-⟩,⟨x5,-⟩⟩:=HXv.below hb11
    obtain⟨-,-,-,-,-,-,⟨y6,-⟩,⟨y7,-⟩,⟨y8,-⟩,⟨y9,-⟩,⟨y10,-⟩,⟨y11,-⟩⟩:=HSv.below hb11
    refine hK.out _ _ (by(try dsimp only); go_keep) ?_
    clear hK K hHeld
    intro hHeld
    try simp only [Act.put,s1,s2,s3]
    clear x0 x1 x2 x3 x4 x5 y6 y7 y8 y9 y10 y11 r0 g0 r1 g1 r2 g2 r3 g3 r4 g4 r5 g5 r6 g6 r7 g7 r8 g8 r9 g9 r10 g10 r11 g11
    refine wpAnyH_done (by kernel_rfl) ?_ _
    go_wp2_with fail
    have kT11:=kH.out.put (.slice l0 X.pool.n lc0) (.slice l1 X.pool.hn lc1) (.int .i64 X.time) (.int .i64 X.next) (.slice l2 X.sn lc2) (.slice l3 X.pn lc3) (.slice f0 S.safe.pool.n fc0) (.slice f1 S.safe.pool.hn fc1) (.int .i64 S.safe.time) (.int .i64 S.safe.next) (.slice f2 S.safe.sn fc2) (.slice f3 S.safe.pn fc3)
    have oA11:=oA10.turned hT11 (fun k e=>by omega)
    have oB11:=oB10.turned hT11 (fun k e=>by omega)
    go_meet
    case rel=>exact⟨_,_,_,_,_,_,_,_,_,_,_,_,_,_,_,_,_,rfl,kT11,⟨q8.heap.size,q9.heap.size,q9.heap.size,q10.heap.size,oA11,oB11,by omega,by omega,by omega,by omega,by omega⟩,hb11⟩
  case rest=>
   obtain⟨T,l0,lc0,l1,lc1,l2,lc2,l3,lc3,f0,fc0,f1,fc1,f2,fc2,f3,fc3,rfl,hT,ho,hbc⟩:=hcut
   have Ho:=hideW ho
   have HR6:=HR3.below hbc
   have hbX:=below_next hbW hbc
   clear ho HR3 x0 x1 x2 x3 x4 x5 y6 y7 y8 y9 y10 y11
   obtain⟨⟨y0,-⟩,⟨y1,-⟩,⟨y2,-⟩,⟨y3,-⟩,⟨y4,-⟩,⟨y5,-⟩,⟨y6,-⟩,⟨y7,-⟩,⟨y8,-⟩,⟨y9,-⟩,⟨y10,-⟩,⟨y11,-⟩⟩:=id hT
   go_wp2_with fail
   clear y0 y1 y2 y3 y4 y5 y6 y7 y8 y9 y10 y11
   refine(specStoreRight_any _ _ _ _ _ _ _ _ W5.heap.size wc.heap.size ⟨X,S.safe⟩ wc Ho.out.at).mono ?_
   rintro e w7 ⟨⟨t,rfl,ht⟩,hb7⟩
   have hbF:=below_next hbX hb7
   have HT7:=hT.below hb7
   have HR3:=HR6.below hb7
   have hz7:=hb7.size
   have hzc:=hbc.size
   clear hT HR6
   cases t
   ·have Hn:=hideW (show ¬StoreOk ⟨X,S.safe⟩from fun hA=>absurd (ht.2 hA) (by simp))
    clear ht HT7
    have HR4:=hideW HR3
    obtain⟨⟨r0,g0⟩,⟨r1,g1⟩,⟨r2,g2⟩,⟨r3,g3⟩,⟨r4,g4⟩,⟨r5,g5⟩,⟨r6,g6⟩,⟨r7,g7⟩,⟨r8,g8⟩,⟨r9,g9⟩,⟨r10,g10⟩,⟨r11,g11⟩,⟨r12,g12⟩⟩:=HR3
    go_wp2_with fail
    have HRz:Box13 (((((((((((((w7.setCell ⟨w.heap.size+1+1,0,none⟩ (.slice none 0 0)).setCell ⟨w.heap.size+1+1,1,none⟩ (.slice none 0 0)).setCell ⟨w.heap.size+1+1,2,none⟩ (.int .i64 0)).setCell ⟨w.heap.size+1+1,3,none⟩ (.int .i64 0)).setCell ⟨w.heap.size+1+1,4,none⟩ (.slice none 0 0)).setCell ⟨w.heap.size+1+1,5,none⟩ (.slice none 0 0)).setCell ⟨w.heap.size+1+1,6,none⟩ (.slice none 0 0)).setCell ⟨w.heap.size+1+1,7,none⟩ (.slice none 0 0)).setCell ⟨w.heap.size+1+1,8,none⟩ (.int .i64 0)).setCell ⟨w.heap.size+1+1,9,none⟩ (.int .i64 0)).setCell ⟨w.heap.size+1+1,10,none⟩ (.slice none 0 0)).setCell ⟨w.heap.size+1+1,11,none⟩ (.slice none 0 0)).setCell ⟨w.heap.size+1+1,12,none⟩ (.int .i64 7)) (w.heap.size+1+1) (.slice none 0 0) (.slice none 0 0) (.int .i64 0) (.int .i64 0) (.slice none 0 0) (.slice none 0 0) (.slice none 0 0) (.slice none 0 0) (.int .i64 0) (.int .i64 0) (.slice none 0 0) (.slice none 0 0) (.int .i64 7):=HR4.out.put (.slice none 0 0) (.slice none 0 0) (.int .i64 0) (.int .i64 0) (.slice none 0 0) (.slice none 0 0) (.slice none 0 0) (.slice none 0 0) (.int .i64 0) (.int .i64 0) (.slice none 0 0) (.slice none 0 0) (.int .i64 7)
    have hT:Turned (fun k=>k=w.heap.size+1+1) w7 (((((((((((((w7.setCell ⟨w.heap.size+1+1,0,none⟩ (.slice none 0 0)).setCell ⟨w.heap.size+1+1,1,none⟩ (.slice none 0 0)).setCell ⟨w.heap.size+1+1,2,none⟩ (.int .i64 0)).setCell ⟨w.heap.size+1+1,3,none⟩ (.int .i64 0)).setCell ⟨w.heap.size+1+1,4,none⟩ (.slice none 0 0)).setCell ⟨w.heap.size+1+1,5,none⟩ (.slice none 0 0)).setCell ⟨w.heap.size+1+1,6,none⟩ (.slice none 0 0)).setCell ⟨w.heap.size+1+1,7,none⟩ (.slice none 0 0)).setCell ⟨w.heap.size+1+1,8,none⟩ (.int .i64 0)).setCell ⟨w.heap.size+1+1,9,none⟩ (.int .i64 0)).setCell ⟨w.heap.size+1+1,10,none⟩ (.slice none 0 0)).setCell ⟨w.heap.size+1+1,11,none⟩ (.slice none 0 0)).setCell ⟨w.heap.size+1+1,12,none⟩ (.int .i64 7)):=Turned.put13 w7 (w.heap.size+1+1) (.slice none 0 0) (.slice none 0 0) (.int .i64 0) (.int .i64 0) (.slice none 0 0) (.slice none 0 0) (.slice none 0 0) (.slice none 0 0) (.int .i64 0) (.int .i64 0) (.slice none 0 0) (.slice none 0 0) (.int .i64 7)
    generalize (((((((((((((w7.setCell ⟨w.heap.size+1+1,0,none⟩ (.slice none 0 0)).setCell ⟨w.heap.size+1+1,1,none⟩ (.slice none 0 0)).setCell ⟨w.heap.size+1+1,2,none⟩ (.int .i64 0)).setCell ⟨w.heap.size+1+1,3,none⟩ (.int .i64 0)).setCell ⟨w.heap.size+1+1,4,none⟩ (.slice none 0 0)).setCell ⟨w.heap.size+1+1,5,none⟩ (.slice none 0 0)).setCell ⟨w.heap.size+1+1,6,none⟩ (.slice none 0 0)).setCell ⟨w.heap.size+1+1,7,none⟩ (.slice none 0 0)).setCell ⟨w.heap.size+1+1,8,none⟩ (.int .i64 0)).setCell ⟨w.heap.size+1+1,9,none⟩ (.int .i64 0)).setCell ⟨w.heap.size+1+1,10,none⟩ (.slice none 0 0)).setCell ⟨w.heap.size+1+1,11,none⟩ (.slice none 0 0)).setCell ⟨w.heap.size+1+1,12,none⟩ (.int .i64 7))=Wz at HRz hT ⊢
    have hbz:=(hbF).size
    refine bodyPost_ret (v:=.agg #[.slice none 0 0,.slice none 0 0,.int .i64 0,.int .i64 0,.slice none 0 0,.slice none 0 0,.slice none 0 0,.slice none 0 0,.int .i64 0,.int .i64 0,.slice none 0 0,.slice none 0 0,.int .i64 7]) (by simp [results,Tryz.results18,go_sem,HRz.1.1,HRz.2.1.1,HRz.2.2.1.1,HRz.2.2.2.1.1,HRz.2.2.2.2.1.1,HRz.2.2.2.2.2.1.1,HRz.2.2.2.2.2.2.1.1,HRz.2.2.2.2.2.2.2.1.1,HRz.2.2.2.2.2.2.2.2.1.1,HRz.2.2.2.2.2.2.2.2.2.1.1,HRz.2.2.2.2.2.2.2.2.2.2.1.1,HRz.2.2.2.2.2.2.2.2.2.2.2.1.1,HRz.2.2.2.2.2.2.2.2.2.2.2.2.1]) rfl (Or.inr (Or.inl ⟨Hs.out,Hn.out,_,_,_,_,_,_,_,_,rfl,no_store (Nat.le_trans hbz hT.size),?_⟩))
    exact(hbF).trans (hT.below (B:=w.heap.size) hbz (fun k e=>by omega))
   ·have Hy:=hideW (ht.1 rfl)
    clear ht
    obtain⟨⟨y0,-⟩,⟨y1,-⟩,⟨y2,-⟩,⟨y3,-⟩,⟨y4,-⟩,⟨y5,-⟩,⟨y6,-⟩,⟨y7,-⟩,⟨y8,-⟩,⟨y9,-⟩,⟨y10,-⟩,⟨y11,-⟩⟩:=HT7
    have HR4:=hideW HR3
    obtain⟨⟨r0,g0⟩,⟨r1,g1⟩,⟨r2,g2⟩,⟨r3,g3⟩,⟨r4,g4⟩,⟨r5,g5⟩,⟨r6,g6⟩,⟨r7,g7⟩,⟨r8,g8⟩,⟨r9,g9⟩,⟨r10,g10⟩,⟨r11,g11⟩,⟨r12,g12⟩⟩:=HR3
    go_wp2_with fail
    have HRz:Box13 (((((((((((((w7.setCell ⟨w.heap.size+1+1,0,none⟩ (.slice l0 X.pool.n lc0)).setCell ⟨w.heap.size+1+1,1,none⟩ (.slice l1 X.pool.hn lc1)).setCell ⟨w.heap.size+1+1,2,none⟩ (.int .i64 X.time)).setCell ⟨w.heap.size+1+1,3,none⟩ (.int .i64 X.next)).setCell ⟨w.heap.size+1+1,4,none⟩ (.slice l2 X.sn lc2)).setCell ⟨w.heap.size+1+1,5,none⟩ (.slice l3 X.pn lc3)).setCell ⟨w.heap.size+1+1,6,none⟩ (.slice f0 S.safe.pool.n fc0)).setCell ⟨w.heap.size+1+1,7,none⟩ (.slice f1 S.safe.pool.hn fc1)).setCell ⟨w.heap.size+1+1,8,none⟩ (.int .i64 S.safe.time)).setCell ⟨w.heap.size+1+1,9,none⟩ (.int .i64 S.safe.next)).setCell ⟨w.heap.size+1+1,10,none⟩ (.slice f2 S.safe.sn fc2)).setCell ⟨w.heap.size+1+1,11,none⟩ (.slice f3 S.safe.pn fc3)).setCell ⟨w.heap.size+1+1,12,none⟩ (.int .i64 0)) (w.heap.size+1+1) (.slice l0 X.pool.n lc0) (.slice l1 X.pool.hn lc1) (.int .i64 X.time) (.int .i64 X.next) (.slice l2 X.sn lc2) (.slice l3 X.pn lc3) (.slice f0 S.safe.pool.n fc0) (.slice f1 S.safe.pool.hn fc1) (.int .i64 S.safe.time) (.int .i64 S.safe.next) (.slice f2 S.safe.sn fc2) (.slice f3 S.safe.pn fc3) (.int .i64 0):=HR4.out.put (.slice l0 X.pool.n lc0) (.slice l1 X.pool.hn lc1) (.int .i64 X.time) (.int .i64 X.next) (.slice l2 X.sn lc2) (.slice l3 X.pn lc3) (.slice f0 S.safe.pool.n fc0) (.slice f1 S.safe.pool.hn fc1) (.int .i64 S.safe.time) (.int .i64 S.safe.next) (.slice f2 S.safe.sn fc2) (.slice f3 S.safe.pn fc3) (.int .i64 0)
    have hTz:Turned (fun k=>k=w.heap.size+1+1) w7 (((((((((((((w7.setCell ⟨w.heap.size+1+1,0,none⟩ (.slice l0 X.pool.n lc0)).setCell ⟨w.heap.size+1+1,1,none⟩ (.slice l1 X.pool.hn lc1)).setCell ⟨w.heap.size+1+1,2,none⟩ (.int .i64 X.time)).setCell ⟨w.heap.size+1+1,3,none⟩ (.int .i64 X.next)).setCell ⟨w.heap.size+1+1,4,none⟩ (.slice l2 X.sn lc2)).setCell ⟨w.heap.size+1+1,5,none⟩ (.slice l3 X.pn lc3)).setCell ⟨w.heap.size+1+1,6,none⟩ (.slice f0 S.safe.pool.n fc0)).setCell ⟨w.heap.size+1+1,7,none⟩ (.slice f1 S.safe.pool.hn fc1)).setCell ⟨w.heap.size+1+1,8,none⟩ (.int .i64 S.safe.time)).setCell ⟨w.heap.size+1+1,9,none⟩ (.int .i64 S.safe.next)).setCell ⟨w.heap.size+1+1,10,none⟩ (.slice f2 S.safe.sn fc2)).setCell ⟨w.heap.size+1+1,11,none⟩ (.slice f3 S.safe.pn fc3)).setCell ⟨w.heap.size+1+1,12,none⟩ (.int .i64 0)):=Turned.put13 w7 (w.heap.size+1+1) (.slice l0 X.pool.n lc0) (.slice l1 X.pool.hn lc1) (.int .i64 X.time) (.int .i64 X.next) (.slice l2 X.sn lc2) (.slice l3 X.pn lc3) (.slice f0 S.safe.pool.n fc0) (.slice f1 S.safe.pool.hn fc1) (.int .i64 S.safe.time) (.int .i64 S.safe.next) (.slice f2 S.safe.sn fc2) (.slice f3 S.safe.pn fc3) (.int .i64 0)
    generalize (((((((((((((w7.setCell ⟨w.heap.size+1+1,0,none⟩ (.slice l0 X.pool.n lc0)).setCell ⟨w.heap.size+1+1,1,none⟩ (.slice l1 X.pool.hn lc1)).setCell ⟨w.heap.size+1+1,2,none⟩ (.int .i64 X.time)).setCell ⟨w.heap.size+1+1,3,none⟩ (.int .i64 X.next)).setCell ⟨w.heap.size+1+1,4,none⟩ (.slice l2 X.sn lc2)).setCell ⟨w.heap.size+1+1,5,none⟩ (.slice l3 X.pn lc3)).setCell ⟨w.heap.size+1+1,6,none⟩ (.slice f0 S.safe.pool.n fc0)).setCell ⟨w.heap.size+1+1,7,none⟩ (.slice f1 S.safe.pool.hn fc1)).setCell ⟨w.heap.size+1+1,8,none⟩ (.int .i64 S.safe.time)).setCell ⟨w.heap.size+1+1,9,none⟩ (.int .i64 S.safe.next)).setCell ⟨w.heap.size+1+1,10,none⟩ (.slice f2 S.safe.sn fc2)).setCell ⟨w.heap.size+1+1,11,none⟩ (.slice f3 S.safe.pn fc3)).setCell ⟨w.heap.size+1+1,12,none⟩ (.int .i64 0))=Wz at HRz hTz ⊢
    have hsz:=hTz.size
    refine bodyPost_ret (v:=.agg #[.slice l0 X.pool.n lc0,.slice l1 X.pool.hn lc1,.int .i64 X.time,.int .i64 X.next,.slice l2 X.sn lc2,.slice l3 X.pn lc3,.slice f0 S.safe.pool.n fc0,.slice f1 S.safe.pool.hn fc1,.int .i64 S.safe.time,.int .i64 S.safe.next,.slice f2 S.safe.sn fc2,.slice f3 S.safe.pn fc3,.int .i64 0]) (by simp [results,Tryz.results18,go_sem,HRz.1.1,HRz.2.1.1,HRz.2.2.1.1,HRz.2.2.2.1.1,HRz.2.2.2.2.1.1,HRz.2.2.2.2.2.1.1,HRz.2.2.2.2.2.2.1.1,HRz.2.2.2.2.2.2.2.1.1,HRz.2.2.2.2.2.2.2.2.1.1,HRz.2.2.2.2.2.2.2.2.2.1.1,HRz.2.2.2.2.2.2.2.2.2.2.1.1,HRz.2.2.2.2.2.2.2.2.2.2.2.1.1,HRz.2.2.2.2.2.2.2.2.2.2.2.2.1]) rfl (Or.inr (Or.inr ⟨Hs.out,Hy.out,_,_,_,_,_,_,_,_,rfl,?_,?_⟩))
    ·obtain⟨l1',h1',l2',h2',oa,ob,e1,e2,e3,e4,e5⟩:=(Ho.out.below hb7).turned hTz (fun k e=>by omega)
     exact⟨l1',h1',l2',h2',oa,ob,by omega,by omega,by omega,by omega,e5⟩
    ·exact hbF.trans (hTz.below (B:=w.heap.size) hbF.size (fun k e=>by omega))
end Go.Proofs.YtihplgckbhnohaaGreatDoor
