/- What impl.StoreTurn answers. -/
import Derived.Test.YtihplgckbhnohaaGreatDoorG44
namespace Go.Proofs.YtihplgckbhnohaaGreatDoor
open Go.RowKit
set_option linter.unusedVariables false
theorem mRefT(v:Value)(w':World):(Go.method 364 78 v "loop.example/g00381/impl.refused").run Tryz.prog w' = .ok (201,v) w':=by kernel_rfl
theorem mLivT(v:Value)(w':World):(Go.method 364 78 v "loop.example/g00381/impl.liveThen").run Tryz.prog w' = .ok (200,v) w':=by kernel_rfl
set_option maxRecDepth 20000 in
set_option maxHeartbeats 1000000 in
theorem implStoreTurn_any(p:Nat→Addr)(t0 t1 t2 t3:Value)(X:WorldD)(v0 v1 v2 v3 u0 u1 u2 u3:Value)(lo hi:Nat)(S:StoreD)(w:World)(hE:Errs w p)(hX:WorldAt w lo hi t0 t1 t2 t3 X)(h:StoreAt w lo hi v0 v1 v2 v3 u0 u1 u2 u3 S)(hw1:PrevsWf S.live)(hw2:PrevsWf S.safe)(hw3:PrevsWf X)(nx1:poolN X.pool≤1048576)(nx2:X.sn≤1048576)(nx3:X.pn≤1048576)(nx4:DeadsN X)(ns1:poolN S.safe.pool≤1048576)(ns2:S.safe.sn≤1048576)(ns3:S.safe.pn≤1048576)(ns4:DeadsN S.safe) :
  Calls Tryz.prog 20 #[storeV v0 v1 v2 v3 u0 u1 u2 u3 S,worldV t0 t1 t2 t3 X] w fun e w'=>(¬StoreI S∧NewSOut (refuseS 1) w e w')∨(StoreI S∧¬StoreI ⟨X,S.safe⟩∧NewSOut (refuseS 7) w e w')∨(StoreI S∧StoreI ⟨X,S.safe⟩∧NewSOut ⟨⟨X,S.safe⟩,0⟩ w e w'):=by
 obtain⟨o0,oc0,o1,oc1,o2,oc2,o3,oc3,rfl,rfl,rfl,rfl⟩:=hX.form
 obtain⟨a0,ac0,a1,ac1,a2,ac2,a3,ac3,rfl,rfl,rfl,rfl⟩:=h.live.form
 obtain⟨c0,cc0,c1,cc1,c2,cc2,c3,cc3,rfl,rfl,rfl,rfl⟩:=h.safe.form
 have HX:=hideW hX
 have Hp:=hideW h
 have HE:=hideW hE
 have Hw1:=hideW hw1
 have Hw2:=hideW hw2
 have Hw3:=hideW hw3
 clear h hX hE hw1 hw2 hw3
 have ha:=below_alloc w (.cells #[.slice a0 S.live.pool.n ac0,.slice a1 S.live.pool.hn ac1,.int .i64 S.live.time,.int .i64 S.live.next,.slice a2 S.live.sn ac2,.slice a3 S.live.pn ac3,.slice c0 S.safe.pool.n cc0,.slice c1 S.safe.pool.hn cc1,.int .i64 S.safe.time,.int .i64 S.safe.next,.slice c2 S.safe.sn cc2,.slice c3 S.safe.pn cc3] 41)
 have hb2:=below_alloc (w.alloc (.cells #[.slice a0 S.live.pool.n ac0,.slice a1 S.live.pool.hn ac1,.int .i64 S.live.time,.int .i64 S.live.next,.slice a2 S.live.sn ac2,.slice a3 S.live.pn ac3,.slice c0 S.safe.pool.n cc0,.slice c1 S.safe.pool.hn cc1,.int .i64 S.safe.time,.int .i64 S.safe.next,.slice c2 S.safe.sn cc2,.slice c3 S.safe.pn cc3] 41)) (.cells #[.slice o0 X.pool.n oc0,.slice o1 X.pool.hn oc1,.int .i64 X.time,.int .i64 X.next,.slice o2 X.sn oc2,.slice o3 X.pn oc3] 39)
 have hb3:=below_alloc ((w.alloc (.cells #[.slice a0 S.live.pool.n ac0,.slice a1 S.live.pool.hn ac1,.int .i64 S.live.time,.int .i64 S.live.next,.slice a2 S.live.sn ac2,.slice a3 S.live.pn ac3,.slice c0 S.safe.pool.n cc0,.slice c1 S.safe.pool.hn cc1,.int .i64 S.safe.time,.int .i64 S.safe.next,.slice c2 S.safe.sn cc2,.slice c3 S.safe.pn cc3] 41)).alloc (.cells #[.slice o0 X.pool.n oc0,.slice o1 X.pool.hn oc1,.int .i64 X.time,.int .i64 X.next,.slice o2 X.sn oc2,.slice o3 X.pn oc3] 39)) (.cells #[.slice none 0 0,.slice none 0 0,.int .i64 0,.int .i64 0,.slice none 0 0,.slice none 0 0,.slice none 0 0,.slice none 0 0,.int .i64 0,.int .i64 0,.slice none 0 0,.slice none 0 0,.int .i64 0] 43)
 have hb:=below_next (below_next ha hb2) hb3
 obtain⟨⟨y0,-⟩,⟨y1,-⟩,⟨y2,-⟩,⟨y3,-⟩,⟨y4,-⟩,⟨y5,-⟩,⟨y6,-⟩,⟨y7,-⟩,⟨y8,-⟩,⟨y9,-⟩,⟨y10,-⟩,⟨y11,-⟩⟩:=((Box12.new w (.slice a0 S.live.pool.n ac0) (.slice a1 S.live.pool.hn ac1) (.int .i64 S.live.time) (.int .i64 S.live.next) (.slice a2 S.live.sn ac2) (.slice a3 S.live.pn ac3) (.slice c0 S.safe.pool.n cc0) (.slice c1 S.safe.pool.hn cc1) (.int .i64 S.safe.time) (.int .i64 S.safe.next) (.slice c2 S.safe.sn cc2) (.slice c3 S.safe.pn cc3) 41).below hb2).below hb3
 obtain⟨⟨m0,-⟩,⟨m1,-⟩,⟨m2,-⟩,⟨m3,-⟩,⟨m4,-⟩,⟨m5,-⟩⟩:=(Box6.new (w.alloc (.cells #[.slice a0 S.live.pool.n ac0,.slice a1 S.live.pool.hn ac1,.int .i64 S.live.time,.int .i64 S.live.next,.slice a2 S.live.sn ac2,.slice a3 S.live.pn ac3,.slice c0 S.safe.pool.n cc0,.slice c1 S.safe.pool.hn cc1,.int .i64 S.safe.time,.int .i64 S.safe.next,.slice c2 S.safe.sn cc2,.slice c3 S.safe.pn cc3] 41)) (.slice o0 X.pool.n oc0) (.slice o1 X.pool.hn oc1) (.int .i64 X.time) (.int .i64 X.next) (.slice o2 X.sn oc2) (.slice o3 X.pn oc3) 39).below hb3
 have HR:=Box13.new ((w.alloc (.cells #[.slice a0 S.live.pool.n ac0,.slice a1 S.live.pool.hn ac1,.int .i64 S.live.time,.int .i64 S.live.next,.slice a2 S.live.sn ac2,.slice a3 S.live.pn ac3,.slice c0 S.safe.pool.n cc0,.slice c1 S.safe.pool.hn cc1,.int .i64 S.safe.time,.int .i64 S.safe.next,.slice c2 S.safe.sn cc2,.slice c3 S.safe.pn cc3] 41)).alloc (.cells #[.slice o0 X.pool.n oc0,.slice o1 X.pool.hn oc1,.int .i64 X.time,.int .i64 X.next,.slice o2 X.sn oc2,.slice o3 X.pn oc3] 39)) (.slice none 0 0) (.slice none 0 0) (.int .i64 0) (.int .i64 0) (.slice none 0 0) (.slice none 0 0) (.slice none 0 0) (.slice none 0 0) (.int .i64 0) (.int .i64 0) (.slice none 0 0) (.slice none 0 0) (.int .i64 0) 43
 rw [World.size_alloc] at m0 m1 m2 m3 m4 m5
 rw [World.size_alloc,World.size_alloc] at HR
 have hz:(((w.alloc (.cells #[.slice a0 S.live.pool.n ac0,.slice a1 S.live.pool.hn ac1,.int .i64 S.live.time,.int .i64 S.live.next,.slice a2 S.live.sn ac2,.slice a3 S.live.pn ac3,.slice c0 S.safe.pool.n cc0,.slice c1 S.safe.pool.hn cc1,.int .i64 S.safe.time,.int .i64 S.safe.next,.slice c2 S.safe.sn cc2,.slice c3 S.safe.pn cc3] 41)).alloc (.cells #[.slice o0 X.pool.n oc0,.slice o1 X.pool.hn oc1,.int .i64 X.time,.int .i64 X.next,.slice o2 X.sn oc2,.slice o3 X.pn oc3] 39)).alloc (.cells #[.slice none 0 0,.slice none 0 0,.int .i64 0,.int .i64 0,.slice none 0 0,.slice none 0 0,.slice none 0 0,.slice none 0 0,.int .i64 0,.int .i64 0,.slice none 0 0,.slice none 0 0,.int .i64 0] 43)).heap.size=w.heap.size+3:=by rw [World.size_alloc,World.size_alloc,World.size_alloc]
 go_enter Tryz.func20,Tryz.ntmps20
 go_wp2_with fail
 clear y0 y1 y2 y3 y4 y5 y6 y7 y8 y9 y10 y11 m0 m1 m2 m3 m4 m5
 generalize ((w.alloc (.cells #[.slice a0 S.live.pool.n ac0,.slice a1 S.live.pool.hn ac1,.int .i64 S.live.time,.int .i64 S.live.next,.slice a2 S.live.sn ac2,.slice a3 S.live.pn ac3,.slice c0 S.safe.pool.n cc0,.slice c1 S.safe.pool.hn cc1,.int .i64 S.safe.time,.int .i64 S.safe.next,.slice c2 S.safe.sn cc2,.slice c3 S.safe.pn cc3] 41)).alloc (.cells #[.slice o0 X.pool.n oc0,.slice o1 X.pool.hn oc1,.int .i64 X.time,.int .i64 X.next,.slice o2 X.sn oc2,.slice o3 X.pn oc3] 39)).alloc (.cells #[.slice none 0 0,.slice none 0 0,.int .i64 0,.int .i64 0,.slice none 0 0,.slice none 0 0,.slice none 0 0,.slice none 0 0,.int .i64 0,.int .i64 0,.slice none 0 0,.slice none 0 0,.int .i64 0] 43)=W2 at hb HR hz ⊢
 clear ha hb2 hb3
 refine(happenT_any p _ (StoreI ⟨X,S.safe⟩) 5 (by omega) X S.safe _ _ _ _ _ _ _ _ lo hi S W2 (HE.out.below hb) (Hp.out.below hb) Hw1.out Hw2.out (mRefT _) (mLivT _) ?_ ?_ ?_).mono ?_
 ·intro _ w' hbw
  exact turnedRefused_any p _ _ _ _ X _ _ _ _ _ _ _ _ lo hi S w' (HE.out.below (below_next hb hbw)) (HX.out.below (below_next hb hbw)) (Hp.out.below (below_next hb hbw)) Hw3.out Hw2.out
 ·intro _ _ w' hbw
  exact turnedLive_any _ _ _ _ X _ _ _ _ _ _ _ _ lo hi S w' (HX.out.below (below_next hb hbw)) (Hp.out.below (below_next hb hbw)) nx1 nx2 nx3 nx4
 ·intro _ _ w' x0 x1 x2 x3 hbw hL
  exact safe_turned _ x0 x1 x2 x3 X _ _ _ _ _ _ _ _ _ _ lo hi S w' hL (Hp.out.below (below_next hb hbw)) ns1 ns2 ns3 ns4
 rintro e w3 hcase
 obtain⟨o,ho⟩:∃o,NewSOut o W2 e w3∧((¬StoreI S∧o=refuseS 1)∨(StoreI S∧¬StoreI ⟨X,S.safe⟩∧o=refuseS 7)∨(StoreI S∧StoreI ⟨X,S.safe⟩∧o=⟨⟨X,S.safe⟩,0⟩)):=by
  rcases hcase with⟨a,b⟩ | ⟨a,b,c⟩ | ⟨a,b,c⟩
  ·exact⟨_,b,Or.inl ⟨a,rfl⟩⟩
  ·exact⟨_,c,Or.inr (Or.inl ⟨a,b,rfl⟩)⟩
  ·exact⟨_,c,Or.inr (Or.inr ⟨a,b,rfl⟩)⟩
 have Hcs:=hideW ho.2
 obtain⟨z0,z1,z2,z3,z4,z5,z6,z7,rfl,hso,hb3⟩:=ho.1
 clear ho hcase
 obtain⟨l0,lc0,l1,lc1,l2,lc2,l3,lc3,rfl,rfl,rfl,rfl⟩:=hso.at.live.form
 obtain⟨f0,fc0,f1,fc1,f2,fc2,f3,fc3,rfl,rfl,rfl,rfl⟩:=hso.at.safe.form
 have HR3:=HR.below hb3
 have HR4:=hideW HR3
 have Hso:=hideW hso
 clear hso HR
 obtain⟨⟨r0,g0⟩,⟨r1,g1⟩,⟨r2,g2⟩,⟨r3,g3⟩,⟨r4,g4⟩,⟨r5,g5⟩,⟨r6,g6⟩,⟨r7,g7⟩,⟨r8,g8⟩,⟨r9,g9⟩,⟨r10,g10⟩,⟨r11,g11⟩,⟨r12,g12⟩⟩:=HR3
 go_wp2_with fail
 have HRz:Box13 (((((((((((((w3.setCell ⟨w.heap.size+1+1,0,none⟩ (.slice l0 o.store.live.pool.n lc0)).setCell ⟨w.heap.size+1+1,1,none⟩ (.slice l1 o.store.live.pool.hn lc1)).setCell ⟨w.heap.size+1+1,2,none⟩ (.int .i64 o.store.live.time)).setCell ⟨w.heap.size+1+1,3,none⟩ (.int .i64 o.store.live.next)).setCell ⟨w.heap.size+1+1,4,none⟩ (.slice l2 o.store.live.sn lc2)).setCell ⟨w.heap.size+1+1,5,none⟩ (.slice l3 o.store.live.pn lc3)).setCell ⟨w.heap.size+1+1,6,none⟩ (.slice f0 o.store.safe.pool.n fc0)).setCell ⟨w.heap.size+1+1,7,none⟩ (.slice f1 o.store.safe.pool.hn fc1)).setCell ⟨w.heap.size+1+1,8,none⟩ (.int .i64 o.store.safe.time)).setCell ⟨w.heap.size+1+1,9,none⟩ (.int .i64 o.store.safe.next)).setCell ⟨w.heap.size+1+1,10,none⟩ (.slice f2 o.store.safe.sn fc2)).setCell ⟨w.heap.size+1+1,11,none⟩ (.slice f3 o.store.safe.pn fc3)).setCell ⟨w.heap.size+1+1,12,none⟩ (.int .i64 o.code)) (w.heap.size+1+1) (.slice l0 o.store.live.pool.n lc0) (.slice l1 o.store.live.pool.hn lc1) (.int .i64 o.store.live.time) (.int .i64 o.store.live.next) (.slice l2 o.store.live.sn lc2) (.slice l3 o.store.live.pn lc3) (.slice f0 o.store.safe.pool.n fc0) (.slice f1 o.store.safe.pool.hn fc1) (.int .i64 o.store.safe.time) (.int .i64 o.store.safe.next) (.slice f2 o.store.safe.sn fc2) (.slice f3 o.store.safe.pn fc3) (.int .i64 o.code):=HR4.out.put (.slice l0 o.store.live.pool.n lc0) (.slice l1 o.store.live.pool.hn lc1) (.int .i64 o.store.live.time) (.int .i64 o.store.live.next) (.slice l2 o.store.live.sn lc2) (.slice l3 o.store.live.pn lc3) (.slice f0 o.store.safe.pool.n fc0) (.slice f1 o.store.safe.pool.hn fc1) (.int .i64 o.store.safe.time) (.int .i64 o.store.safe.next) (.slice f2 o.store.safe.sn fc2) (.slice f3 o.store.safe.pn fc3) (.int .i64 o.code)
 have hT:Turned (fun k=>k=w.heap.size+1+1) w3 (((((((((((((w3.setCell ⟨w.heap.size+1+1,0,none⟩ (.slice l0 o.store.live.pool.n lc0)).setCell ⟨w.heap.size+1+1,1,none⟩ (.slice l1 o.store.live.pool.hn lc1)).setCell ⟨w.heap.size+1+1,2,none⟩ (.int .i64 o.store.live.time)).setCell ⟨w.heap.size+1+1,3,none⟩ (.int .i64 o.store.live.next)).setCell ⟨w.heap.size+1+1,4,none⟩ (.slice l2 o.store.live.sn lc2)).setCell ⟨w.heap.size+1+1,5,none⟩ (.slice l3 o.store.live.pn lc3)).setCell ⟨w.heap.size+1+1,6,none⟩ (.slice f0 o.store.safe.pool.n fc0)).setCell ⟨w.heap.size+1+1,7,none⟩ (.slice f1 o.store.safe.pool.hn fc1)).setCell ⟨w.heap.size+1+1,8,none⟩ (.int .i64 o.store.safe.time)).setCell ⟨w.heap.size+1+1,9,none⟩ (.int .i64 o.store.safe.next)).setCell ⟨w.heap.size+1+1,10,none⟩ (.slice f2 o.store.safe.sn fc2)).setCell ⟨w.heap.size+1+1,11,none⟩ (.slice f3 o.store.safe.pn fc3)).setCell ⟨w.heap.size+1+1,12,none⟩ (.int .i64 o.code)):=Turned.put13 w3 (w.heap.size+1+1) (.slice l0 o.store.live.pool.n lc0) (.slice l1 o.store.live.pool.hn lc1) (.int .i64 o.store.live.time) (.int .i64 o.store.live.next) (.slice l2 o.store.live.sn lc2) (.slice l3 o.store.live.pn lc3) (.slice f0 o.store.safe.pool.n fc0) (.slice f1 o.store.safe.pool.hn fc1) (.int .i64 o.store.safe.time) (.int .i64 o.store.safe.next) (.slice f2 o.store.safe.sn fc2) (.slice f3 o.store.safe.pn fc3) (.int .i64 o.code)
 generalize (((((((((((((w3.setCell ⟨w.heap.size+1+1,0,none⟩ (.slice l0 o.store.live.pool.n lc0)).setCell ⟨w.heap.size+1+1,1,none⟩ (.slice l1 o.store.live.pool.hn lc1)).setCell ⟨w.heap.size+1+1,2,none⟩ (.int .i64 o.store.live.time)).setCell ⟨w.heap.size+1+1,3,none⟩ (.int .i64 o.store.live.next)).setCell ⟨w.heap.size+1+1,4,none⟩ (.slice l2 o.store.live.sn lc2)).setCell ⟨w.heap.size+1+1,5,none⟩ (.slice l3 o.store.live.pn lc3)).setCell ⟨w.heap.size+1+1,6,none⟩ (.slice f0 o.store.safe.pool.n fc0)).setCell ⟨w.heap.size+1+1,7,none⟩ (.slice f1 o.store.safe.pool.hn fc1)).setCell ⟨w.heap.size+1+1,8,none⟩ (.int .i64 o.store.safe.time)).setCell ⟨w.heap.size+1+1,9,none⟩ (.int .i64 o.store.safe.next)).setCell ⟨w.heap.size+1+1,10,none⟩ (.slice f2 o.store.safe.sn fc2)).setCell ⟨w.heap.size+1+1,11,none⟩ (.slice f3 o.store.safe.pn fc3)).setCell ⟨w.heap.size+1+1,12,none⟩ (.int .i64 o.code))=Wz at HRz hT ⊢
 have hbz:=below_next hb hb3
 have hsz:=hT.size
 have hfin:NewSOut o w (.returned (.agg #[.slice l0 o.store.live.pool.n lc0,.slice l1 o.store.live.pool.hn lc1,.int .i64 o.store.live.time,.int .i64 o.store.live.next,.slice l2 o.store.live.sn lc2,.slice l3 o.store.live.pn lc3,.slice f0 o.store.safe.pool.n fc0,.slice f1 o.store.safe.pool.hn fc1,.int .i64 o.store.safe.time,.int .i64 o.store.safe.next,.slice f2 o.store.safe.sn fc2,.slice f3 o.store.safe.pn fc3,.int .i64 o.code])) Wz:=by
  refine⟨_,_,_,_,_,_,_,_,rfl,?_,hbz.trans (hT.below (B:=w.heap.size) hbz.size (fun k e=>by omega))⟩
  obtain⟨l1',h1',l2',h2',oa,ob,e1,e2,e3,e4,e5⟩:=Hso.out.turned hT (fun k e=>by omega)
  exact⟨l1',h1',l2',h2',oa,ob,by omega,by omega,by omega,by omega,e5⟩
 refine bodyPost_ret (v:=.agg #[.slice l0 o.store.live.pool.n lc0,.slice l1 o.store.live.pool.hn lc1,.int .i64 o.store.live.time,.int .i64 o.store.live.next,.slice l2 o.store.live.sn lc2,.slice l3 o.store.live.pn lc3,.slice f0 o.store.safe.pool.n fc0,.slice f1 o.store.safe.pool.hn fc1,.int .i64 o.store.safe.time,.int .i64 o.store.safe.next,.slice f2 o.store.safe.sn fc2,.slice f3 o.store.safe.pn fc3,.int .i64 o.code]) (by simp [results,Tryz.results20,go_sem,HRz.1.1,HRz.2.1.1,HRz.2.2.1.1,HRz.2.2.2.1.1,HRz.2.2.2.2.1.1,HRz.2.2.2.2.2.1.1,HRz.2.2.2.2.2.2.1.1,HRz.2.2.2.2.2.2.2.1.1,HRz.2.2.2.2.2.2.2.2.1.1,HRz.2.2.2.2.2.2.2.2.2.1.1,HRz.2.2.2.2.2.2.2.2.2.2.1.1,HRz.2.2.2.2.2.2.2.2.2.2.2.1.1,HRz.2.2.2.2.2.2.2.2.2.2.2.2.1]) rfl ?_
 rcases Hcs.out with⟨a,rfl⟩ | ⟨a,b,rfl⟩ | ⟨a,b,rfl⟩
 ·exact Or.inl ⟨a,hfin⟩
 ·exact Or.inr (Or.inl ⟨a,b,hfin⟩)
 ·exact Or.inr (Or.inr ⟨a,b,hfin⟩)
end Go.Proofs.YtihplgckbhnohaaGreatDoor
