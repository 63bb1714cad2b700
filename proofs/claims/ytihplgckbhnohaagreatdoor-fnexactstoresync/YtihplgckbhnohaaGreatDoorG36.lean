/- What impl.StoreSync answers. -/
import Derived.Test.YtihplgckbhnohaaGreatDoorG34
import Derived.Test.YtihplgckbhnohaaGreatDoorG35
import Derived.Test.YtihplgckbhnohaaGreatDoorG26
import Derived.Test.YtihplgckbhnohaaGreatDoorG24
import Derived.Test.YtihplgckbhnohaaGreatDoorG3
import Derived.Deep.RegionHeld3
import Derived.IntWalk
namespace Go.Proofs.YtihplgckbhnohaaGreatDoor
open Go.RowKit
set_option linter.unusedVariables false
theorem sync_less(p:PoolD):poolN (syncP p)≤poolN p:=by
 by_cases h:Right p∧Right (swept p)
 ·rw [sync_yes h.1 h.2]
  have hs:=slotsN_le (f:=(swept p).s) (g:=p.s) (fun i=>by
   by_cases hi:Has p.hn p.h (i:Int)
   ·rw [show(swept p).s i=zeroS from freed_yes hi]; exact Nat.zero_le _
   ·rw [show(swept p).s i=p.s i from freed_not hi]; exact Nat.le_refl _) p.n
  show p.n+slotsN (swept p).s p.n+0≤p.n+slotsN p.s p.n+p.hn
  omega
 ·rw [sync_no h]; exact Nat.le_refl _
theorem mRefS(v:Value)(w':World):(Go.method 364 62 v "loop.example/g00381/impl.refused").run Tryz.prog w' = .ok (194,v) w':=by kernel_rfl
theorem mLivS(v:Value)(w':World):(Go.method 364 62 v "loop.example/g00381/impl.liveThen").run Tryz.prog w' = .ok (193,v) w':=by kernel_rfl
set_option maxRecDepth 20000 in
set_option maxHeartbeats 1000000 in
theorem implStoreSync_any(p:Nat→Addr)(v0 v1 v2 v3 u0 u1 u2 u3:Value)(lo hi:Nat)(S:StoreD)(w:World)(hE:Errs w p)(h:StoreAt w lo hi v0 v1 v2 v3 u0 u1 u2 u3 S)(hw1:PrevsWf S.live)(hw2:PrevsWf S.safe)(nx1:poolN S.live.pool≤1048576)(nx2:S.live.sn≤1048576)(nx3:S.live.pn≤1048576)(nx4:DeadsN S.live) :
  Calls Tryz.prog 9 #[storeV v0 v1 v2 v3 u0 u1 u2 u3 S] w fun e w'=>∃o:SOutD,((¬StoreI S∧o=refuseS 1)∨(StoreI S∧¬(S.live.time≠900000)∧o=refuseS (errC 4))∨(StoreI S∧(S.live.time≠900000)∧o=⟨⟨syncW S.live,syncW S.live⟩,0⟩))∧NewSOut o w e w':=by
 obtain⟨a0,ac0,a1,ac1,a2,ac2,a3,ac3,rfl,rfl,rfl,rfl⟩:=h.live.form
 obtain⟨c0,cc0,c1,cc1,c2,cc2,c3,cc3,rfl,rfl,rfl,rfl⟩:=h.safe.form
 have Hp:=hideW h
 have HE:=hideW hE
 have Hw1:=hideW hw1
 have Hw2:=hideW hw2
 clear h hE hw1 hw2
 have ha:=below_alloc w (.cells #[.slice a0 S.live.pool.n ac0,.slice a1 S.live.pool.hn ac1,.int .i64 S.live.time,.int .i64 S.live.next,.slice a2 S.live.sn ac2,.slice a3 S.live.pn ac3,.slice c0 S.safe.pool.n cc0,.slice c1 S.safe.pool.hn cc1,.int .i64 S.safe.time,.int .i64 S.safe.next,.slice c2 S.safe.sn cc2,.slice c3 S.safe.pn cc3] 41)
 have hb2:=below_alloc (w.alloc (.cells #[.slice a0 S.live.pool.n ac0,.slice a1 S.live.pool.hn ac1,.int .i64 S.live.time,.int .i64 S.live.next,.slice a2 S.live.sn ac2,.slice a3 S.live.pn ac3,.slice c0 S.safe.pool.n cc0,.slice c1 S.safe.pool.hn cc1,.int .i64 S.safe.time,.int .i64 S.safe.next,.slice c2 S.safe.sn cc2,.slice c3 S.safe.pn cc3] 41)) (.cells #[.slice none 0 0,.slice none 0 0,.int .i64 0,.int .i64 0,.slice none 0 0,.slice none 0 0,.slice none 0 0,.slice none 0 0,.int .i64 0,.int .i64 0,.slice none 0 0,.slice none 0 0,.int .i64 0] 43)
 have hb:=below_next ha hb2
 obtain⟨⟨y0,-⟩,⟨y1,-⟩,⟨y2,-⟩,⟨y3,-⟩,⟨y4,-⟩,⟨y5,-⟩,⟨y6,-⟩,⟨y7,-⟩,⟨y8,-⟩,⟨y9,-⟩,⟨y10,-⟩,⟨y11,-⟩⟩:=(Box12.new w (.slice a0 S.live.pool.n ac0) (.slice a1 S.live.pool.hn ac1) (.int .i64 S.live.time) (.int .i64 S.live.next) (.slice a2 S.live.sn ac2) (.slice a3 S.live.pn ac3) (.slice c0 S.safe.pool.n cc0) (.slice c1 S.safe.pool.hn cc1) (.int .i64 S.safe.time) (.int .i64 S.safe.next) (.slice c2 S.safe.sn cc2) (.slice c3 S.safe.pn cc3) 41).below hb2
 have HR:=Box13.new (w.alloc (.cells #[.slice a0 S.live.pool.n ac0,.slice a1 S.live.pool.hn ac1,.int .i64 S.live.time,.int .i64 S.live.next,.slice a2 S.live.sn ac2,.slice a3 S.live.pn ac3,.slice c0 S.safe.pool.n cc0,.slice c1 S.safe.pool.hn cc1,.int .i64 S.safe.time,.int .i64 S.safe.next,.slice c2 S.safe.sn cc2,.slice c3 S.safe.pn cc3] 41)) (.slice none 0 0) (.slice none 0 0) (.int .i64 0) (.int .i64 0) (.slice none 0 0) (.slice none 0 0) (.slice none 0 0) (.slice none 0 0) (.int .i64 0) (.int .i64 0) (.slice none 0 0) (.slice none 0 0) (.int .i64 0) 43
 rw [World.size_alloc] at HR
 have hz:((w.alloc (.cells #[.slice a0 S.live.pool.n ac0,.slice a1 S.live.pool.hn ac1,.int .i64 S.live.time,.int .i64 S.live.next,.slice a2 S.live.sn ac2,.slice a3 S.live.pn ac3,.slice c0 S.safe.pool.n cc0,.slice c1 S.safe.pool.hn cc1,.int .i64 S.safe.time,.int .i64 S.safe.next,.slice c2 S.safe.sn cc2,.slice c3 S.safe.pn cc3] 41)).alloc (.cells #[.slice none 0 0,.slice none 0 0,.int .i64 0,.int .i64 0,.slice none 0 0,.slice none 0 0,.slice none 0 0,.slice none 0 0,.int .i64 0,.int .i64 0,.slice none 0 0,.slice none 0 0,.int .i64 0] 43)).heap.size=w.heap.size+2:=by rw [World.size_alloc,World.size_alloc]
 go_enter Tryz.func9,Tryz.ntmps9
 go_wp2_with fail
 clear y0 y1 y2 y3 y4 y5 y6 y7 y8 y9 y10 y11
 generalize ((w.alloc (.cells #[.slice a0 S.live.pool.n ac0,.slice a1 S.live.pool.hn ac1,.int .i64 S.live.time,.int .i64 S.live.next,.slice a2 S.live.sn ac2,.slice a3 S.live.pn ac3,.slice c0 S.safe.pool.n cc0,.slice c1 S.safe.pool.hn cc1,.int .i64 S.safe.time,.int .i64 S.safe.next,.slice c2 S.safe.sn cc2,.slice c3 S.safe.pn cc3] 41)).alloc (.cells #[.slice none 0 0,.slice none 0 0,.int .i64 0,.int .i64 0,.slice none 0 0,.slice none 0 0,.slice none 0 0,.slice none 0 0,.int .i64 0,.int .i64 0,.slice none 0 0,.slice none 0 0,.int .i64 0] 43))=W2 at hb HR hz ⊢
 clear ha hb2
 refine(happenS_any p _ (S.live.time≠900000) 4 (by omega) (syncW S.live) (syncW S.live) _ _ _ _ _ _ _ _ lo hi S W2 (HE.out.below hb) (Hp.out.below hb) Hw1.out Hw2.out (mRefS _) (mLivS _) ?_ ?_ ?_).mono ?_
 ·intro _ w' hbw
  exact syncedRefused_any p _ _ _ _ _ _ _ _ lo hi S w' (HE.out.below (below_next hb hbw)) (Hp.out.below (below_next hb hbw))
 ·intro hs hA w' hbw
  have ht:=hs.live.names.time
  exact syncedLive_any _ _ _ _ _ _ _ _ lo hi S w' (Hp.out.below (below_next hb hbw)) nx1 nx2 nx3 nx4 (by have:=ht.1; omega) (by have:=ht.2; omega)
 ·intro _ _ w' x0 x1 x2 x3 hbw hL
  exact safe_synced _ x0 x1 x2 x3 (syncW S.live) _ _ _ _ _ _ _ _ _ _ lo hi S w' hL (Hp.out.below (below_next hb hbw)) (Nat.le_trans (sync_less S.live.pool) nx1) nx2 nx3 nx4
 rintro e w3 hcase
 obtain⟨o,ho⟩:∃o:SOutD,NewSOut o W2 e w3∧((¬StoreI S∧o=refuseS 1)∨(StoreI S∧¬(S.live.time≠900000)∧o=refuseS (errC 4))∨(StoreI S∧(S.live.time≠900000)∧o=⟨⟨syncW S.live,syncW S.live⟩,0⟩)):=by
  rcases hcase with⟨a,b⟩ | ⟨a,b,c⟩ | ⟨a,b,c⟩
  ·exact⟨_,b,Or.inl ⟨a,rfl⟩⟩
  ·exact⟨_,c,Or.inr (Or.inl ⟨a,b,rfl⟩)⟩
  ·exact⟨_,c,Or.inr (Or.inr ⟨a,b,rfl⟩)⟩
 have Hcs:=hideW ho.2
 obtain⟨z0,z1,z2,z3,z4,z5,z6,z7,rfl,hso,hb3⟩:=ho.1
 clear ho hcase
 obtain⟨l0,lc0,l1,lc1,l2,lc2,l3,lc3,rfl,rfl,rfl,rfl⟩:=hso.at.live.form
 obtain⟨f0,fc0,f1,fc1,f2,fc2,f3,fc3,rfl,rfl,rfl,rfl⟩:=hso.at.safe.form
 have HR3:=HR.below hb3
 have HR4:=hideW HR3
 have Hso:=hideW hso
 clear hso HR
 obtain⟨⟨r0,g0⟩,⟨r1,g1⟩,⟨r2,g2⟩,⟨r3,g3⟩,⟨r4,g4⟩,⟨r5,g5⟩,⟨r6,g6⟩,⟨r7,g7⟩,⟨r8,g8⟩,⟨r9,g9⟩,⟨r10,g10⟩,⟨r11,g11⟩,⟨r12,g12⟩⟩:=HR3
 go_wp2_with fail
 have HRz:Box13 (((((((((((((w3.setCell ⟨w.heap.size+1,0,none⟩ (.slice l0 o.store.live.pool.n lc0)).setCell ⟨w.heap.size+1,1,none⟩ (.slice l1 o.store.live.pool.hn lc1)).setCell ⟨w.heap.size+1,2,none⟩ (.int .i64 o.store.live.time)).setCell ⟨w.heap.size+1,3,none⟩ (.int .i64 o.store.live.next)).setCell ⟨w.heap.size+1,4,none⟩ (.slice l2 o.store.live.sn lc2)).setCell ⟨w.heap.size+1,5,none⟩ (.slice l3 o.store.live.pn lc3)).setCell ⟨w.heap.size+1,6,none⟩ (.slice f0 o.store.safe.pool.n fc0)).setCell ⟨w.heap.size+1,7,none⟩ (.slice f1 o.store.safe.pool.hn fc1)).setCell ⟨w.heap.size+1,8,none⟩ (.int .i64 o.store.safe.time)).setCell ⟨w.heap.size+1,9,none⟩ (.int .i64 o.store.safe.next)).setCell ⟨w.heap.size+1,10,none⟩ (.slice f2 o.store.safe.sn fc2)).setCell ⟨w.heap.size+1,11,none⟩ (.slice f3 o.store.safe.pn fc3)).setCell ⟨w.heap.size+1,12,none⟩ (.int .i64 o.code)) (w.heap.size+1) (.slice l0 o.store.live.pool.n lc0) (.slice l1 o.store.live.pool.hn lc1) (.int .i64 o.store.live.time) (.int .i64 o.store.live.next) (.slice l2 o.store.live.sn lc2) (.slice l3 o.store.live.pn lc3) (.slice f0 o.store.safe.pool.n fc0) (.slice f1 o.store.safe.pool.hn fc1) (.int .i64 o.store.safe.time) (.int .i64 o.store.safe.next) (.slice f2 o.store.safe.sn fc2) (.slice f3 o.store.safe.pn fc3) (.int .i64 o.code):=HR4.out.put (.slice l0 o.store.live.pool.n lc0) (.slice l1 o.store.live.pool.hn lc1) (.int .i64 o.store.live.time) (.int .i64 o.store.live.next) (.slice l2 o.store.live.sn lc2) (.slice l3 o.store.live.pn lc3) (.slice f0 o.store.safe.pool.n fc0) (.slice f1 o.store.safe.pool.hn fc1) (.int .i64 o.store.safe.time) (.int .i64 o.store.safe.next) (.slice f2 o.store.safe.sn fc2) (.slice f3 o.store.safe.pn fc3) (.int .i64 o.code)
 have hT:Turned (fun k=>k=w.heap.size+1) w3 (((((((((((((w3.setCell ⟨w.heap.size+1,0,none⟩ (.slice l0 o.store.live.pool.n lc0)).setCell ⟨w.heap.size+1,1,none⟩ (.slice l1 o.store.live.pool.hn lc1)).setCell ⟨w.heap.size+1,2,none⟩ (.int .i64 o.store.live.time)).setCell ⟨w.heap.size+1,3,none⟩ (.int .i64 o.store.live.next)).setCell ⟨w.heap.size+1,4,none⟩ (.slice l2 o.store.live.sn lc2)).setCell ⟨w.heap.size+1,5,none⟩ (.slice l3 o.store.live.pn lc3)).setCell ⟨w.heap.size+1,6,none⟩ (.slice f0 o.store.safe.pool.n fc0)).setCell ⟨w.heap.size+1,7,none⟩ (.slice f1 o.store.safe.pool.hn fc1)).setCell ⟨w.heap.size+1,8,none⟩ (.int .i64 o.store.safe.time)).setCell ⟨w.heap.size+1,9,none⟩ (.int .i64 o.store.safe.next)).setCell ⟨w.heap.size+1,10,none⟩ (.slice f2 o.store.safe.sn fc2)).setCell ⟨w.heap.size+1,11,none⟩ (.slice f3 o.store.safe.pn fc3)).setCell ⟨w.heap.size+1,12,none⟩ (.int .i64 o.code)):=Turned.put13 w3 (w.heap.size+1) (.slice l0 o.store.live.pool.n lc0) (.slice l1 o.store.live.pool.hn lc1) (.int .i64 o.store.live.time) (.int .i64 o.store.live.next) (.slice l2 o.store.live.sn lc2) (.slice l3 o.store.live.pn lc3) (.slice f0 o.store.safe.pool.n fc0) (.slice f1 o.store.safe.pool.hn fc1) (.int .i64 o.store.safe.time) (.int .i64 o.store.safe.next) (.slice f2 o.store.safe.sn fc2) (.slice f3 o.store.safe.pn fc3) (.int .i64 o.code)
 generalize (((((((((((((w3.setCell ⟨w.heap.size+1,0,none⟩ (.slice l0 o.store.live.pool.n lc0)).setCell ⟨w.heap.size+1,1,none⟩ (.slice l1 o.store.live.pool.hn lc1)).setCell ⟨w.heap.size+1,2,none⟩ (.int .i64 o.store.live.time)).setCell ⟨w.heap.size+1,3,none⟩ (.int .i64 o.store.live.next)).setCell ⟨w.heap.size+1,4,none⟩ (.slice l2 o.store.live.sn lc2)).setCell ⟨w.heap.size+1,5,none⟩ (.slice l3 o.store.live.pn lc3)).setCell ⟨w.heap.size+1,6,none⟩ (.slice f0 o.store.safe.pool.n fc0)).setCell ⟨w.heap.size+1,7,none⟩ (.slice f1 o.store.safe.pool.hn fc1)).setCell ⟨w.heap.size+1,8,none⟩ (.int .i64 o.store.safe.time)).setCell ⟨w.heap.size+1,9,none⟩ (.int .i64 o.store.safe.next)).setCell ⟨w.heap.size+1,10,none⟩ (.slice f2 o.store.safe.sn fc2)).setCell ⟨w.heap.size+1,11,none⟩ (.slice f3 o.store.safe.pn fc3)).setCell ⟨w.heap.size+1,12,none⟩ (.int .i64 o.code))=Wz at HRz hT ⊢
 have hbz:=below_next hb hb3
 have hsz:=hT.size
 refine bodyPost_ret (v:=.agg #[.slice l0 o.store.live.pool.n lc0,.slice l1 o.store.live.pool.hn lc1,.int .i64 o.store.live.time,.int .i64 o.store.live.next,.slice l2 o.store.live.sn lc2,.slice l3 o.store.live.pn lc3,.slice f0 o.store.safe.pool.n fc0,.slice f1 o.store.safe.pool.hn fc1,.int .i64 o.store.safe.time,.int .i64 o.store.safe.next,.slice f2 o.store.safe.sn fc2,.slice f3 o.store.safe.pn fc3,.int .i64 o.code]) (by simp [results,Tryz.results9,go_sem,HRz.1.1,HRz.2.1.1,HRz.2.2.1.1,HRz.2.2.2.1.1,HRz.2.2.2.2.1.1,HRz.2.2.2.2.2.1.1,HRz.2.2.2.2.2.2.1.1,HRz.2.2.2.2.2.2.2.1.1,HRz.2.2.2.2.2.2.2.2.1.1,HRz.2.2.2.2.2.2.2.2.2.1.1,HRz.2.2.2.2.2.2.2.2.2.2.1.1,HRz.2.2.2.2.2.2.2.2.2.2.2.1.1,HRz.2.2.2.2.2.2.2.2.2.2.2.2.1]) rfl ⟨o,Hcs.out,_,_,_,_,_,_,_,_,rfl,?_,hbz.trans (hT.below (B:=w.heap.size) hbz.size (fun k e=>by omega))⟩
 obtain⟨l1',h1',l2',h2',oa,ob,e1,e2,e3,e4,e5⟩:=Hso.out.turned hT (fun k e=>by omega)
 exact⟨l1',h1',l2',h2',oa,ob,by omega,by omega,by omega,by omega,e5⟩
end Go.Proofs.YtihplgckbhnohaaGreatDoor

namespace Go.Proofs.YtihplgckbhnohaaGreatDoor
open Go.RowKit
set_option linter.unusedVariables false
set_option maxRecDepth 20000 in
set_option maxHeartbeats 1000000 in
theorem specStoreSync_any(v0 v1 v2 v3 u0 u1 u2 u3:Value)(lo hi:Nat)(S:StoreD)(w:World)(h:StoreAt w lo hi v0 v1 v2 v3 u0 u1 u2 u3 S)(b1:poolN S.live.pool≤1048576)(b2:S.live.sn≤1048576)(b3:S.live.pn≤1048576)(b4:DeadsN S.live)(ht0:StoreOk S→0≤S.live.time∧S.live.time≤900000)(hless:poolN (syncP S.live.pool)≤1048576) :
  Calls Tryz.prog 7 #[storeV v0 v1 v2 v3 u0 u1 u2 u3 S] w fun e w'=>∃o:SOutD,((¬StoreOk S∧o=refuseS 1)∨(StoreOk S∧¬(S.live.time≠900000)∧o=refuseS 6)∨(StoreOk S∧(S.live.time≠900000)∧o=⟨⟨syncW S.live,syncW S.live⟩,0⟩))∧NewSOut o w e w':=by
 obtain⟨a0,ac0,a1,ac1,a2,ac2,a3,ac3,rfl,rfl,rfl,rfl⟩:=h.live.form
 obtain⟨c0,cc0,c1,cc1,c2,cc2,c3,cc3,rfl,rfl,rfl,rfl⟩:=h.safe.form
 have Hp:=hideW h
 have Ht:=hideW ht0
 clear h ht0
 have ha:=below_alloc w (.cells #[.slice a0 S.live.pool.n ac0,.slice a1 S.live.pool.hn ac1,.int .i64 S.live.time,.int .i64 S.live.next,.slice a2 S.live.sn ac2,.slice a3 S.live.pn ac3,.slice c0 S.safe.pool.n cc0,.slice c1 S.safe.pool.hn cc1,.int .i64 S.safe.time,.int .i64 S.safe.next,.slice c2 S.safe.sn cc2,.slice c3 S.safe.pn cc3] 41)
 have hb2:=below_alloc (w.alloc (.cells #[.slice a0 S.live.pool.n ac0,.slice a1 S.live.pool.hn ac1,.int .i64 S.live.time,.int .i64 S.live.next,.slice a2 S.live.sn ac2,.slice a3 S.live.pn ac3,.slice c0 S.safe.pool.n cc0,.slice c1 S.safe.pool.hn cc1,.int .i64 S.safe.time,.int .i64 S.safe.next,.slice c2 S.safe.sn cc2,.slice c3 S.safe.pn cc3] 41)) (.cells #[.slice none 0 0,.slice none 0 0,.int .i64 0,.int .i64 0,.slice none 0 0,.slice none 0 0,.slice none 0 0,.slice none 0 0,.int .i64 0,.int .i64 0,.slice none 0 0,.slice none 0 0,.int .i64 0] 43)
 have hb:=below_next ha hb2
 have HSn:=(Box12.new w (.slice a0 S.live.pool.n ac0) (.slice a1 S.live.pool.hn ac1) (.int .i64 S.live.time) (.int .i64 S.live.next) (.slice a2 S.live.sn ac2) (.slice a3 S.live.pn ac3) (.slice c0 S.safe.pool.n cc0) (.slice c1 S.safe.pool.hn cc1) (.int .i64 S.safe.time) (.int .i64 S.safe.next) (.slice c2 S.safe.sn cc2) (.slice c3 S.safe.pn cc3) 41).below hb2
 obtain⟨⟨y0,-⟩,⟨y1,-⟩,⟨y2,-⟩,⟨y3,-⟩,⟨y4,-⟩,⟨y5,-⟩,⟨y6,-⟩,⟨y7,-⟩,⟨y8,-⟩,⟨y9,-⟩,⟨y10,-⟩,⟨y11,-⟩⟩:=id HSn
 have HR:=Box13.new (w.alloc (.cells #[.slice a0 S.live.pool.n ac0,.slice a1 S.live.pool.hn ac1,.int .i64 S.live.time,.int .i64 S.live.next,.slice a2 S.live.sn ac2,.slice a3 S.live.pn ac3,.slice c0 S.safe.pool.n cc0,.slice c1 S.safe.pool.hn cc1,.int .i64 S.safe.time,.int .i64 S.safe.next,.slice c2 S.safe.sn cc2,.slice c3 S.safe.pn cc3] 41)) (.slice none 0 0) (.slice none 0 0) (.int .i64 0) (.int .i64 0) (.slice none 0 0) (.slice none 0 0) (.slice none 0 0) (.slice none 0 0) (.int .i64 0) (.int .i64 0) (.slice none 0 0) (.slice none 0 0) (.int .i64 0) 43
 rw [World.size_alloc] at HR
 have hz:w.heap.size+2≤((w.alloc (.cells #[.slice a0 S.live.pool.n ac0,.slice a1 S.live.pool.hn ac1,.int .i64 S.live.time,.int .i64 S.live.next,.slice a2 S.live.sn ac2,.slice a3 S.live.pn ac3,.slice c0 S.safe.pool.n cc0,.slice c1 S.safe.pool.hn cc1,.int .i64 S.safe.time,.int .i64 S.safe.next,.slice c2 S.safe.sn cc2,.slice c3 S.safe.pn cc3] 41)).alloc (.cells #[.slice none 0 0,.slice none 0 0,.int .i64 0,.int .i64 0,.slice none 0 0,.slice none 0 0,.slice none 0 0,.slice none 0 0,.int .i64 0,.int .i64 0,.slice none 0 0,.slice none 0 0,.int .i64 0] 43)).heap.size:=by rw [World.size_alloc,World.size_alloc]; omega
 go_enter Tryz.func7,Tryz.ntmps7
 go_wp2_with fail
 clear y0 y1 y2 y3 y4 y5 y6 y7 y8 y9 y10 y11
 generalize ((w.alloc (.cells #[.slice a0 S.live.pool.n ac0,.slice a1 S.live.pool.hn ac1,.int .i64 S.live.time,.int .i64 S.live.next,.slice a2 S.live.sn ac2,.slice a3 S.live.pn ac3,.slice c0 S.safe.pool.n cc0,.slice c1 S.safe.pool.hn cc1,.int .i64 S.safe.time,.int .i64 S.safe.next,.slice c2 S.safe.sn cc2,.slice c3 S.safe.pn cc3] 41)).alloc (.cells #[.slice none 0 0,.slice none 0 0,.int .i64 0,.int .i64 0,.slice none 0 0,.slice none 0 0,.slice none 0 0,.slice none 0 0,.int .i64 0,.int .i64 0,.slice none 0 0,.slice none 0 0,.int .i64 0] 43))=W2 at hb HR hz HSn ⊢
 clear ha hb2
 refine(specStoreRight_any _ _ _ _ _ _ _ _ lo hi S W2 (Hp.out.below hb)).mono ?_
 rintro e w5 ⟨⟨t,rfl,ht⟩,hb5⟩
 have hbC:=below_next hb hb5
 have HS5:=HSn.below hb5
 have HR3:=HR.below hb5
 have hz5:=hb5.size
 clear HSn HR
 cases t
 ·have Hn:=hideW (show ¬StoreOk S from fun hA=>absurd (ht.2 hA) (by simp))
  clear ht HS5
  have HR4:=hideW HR3
  obtain⟨⟨r0,g0⟩,⟨r1,g1⟩,⟨r2,g2⟩,⟨r3,g3⟩,⟨r4,g4⟩,⟨r5,g5⟩,⟨r6,g6⟩,⟨r7,g7⟩,⟨r8,g8⟩,⟨r9,g9⟩,⟨r10,g10⟩,⟨r11,g11⟩,⟨r12,g12⟩⟩:=HR3
  go_wp2_with fail
  have HRz:Box13 (((((((((((((w5.setCell ⟨w.heap.size+1,0,none⟩ (.slice none 0 0)).setCell ⟨w.heap.size+1,1,none⟩ (.slice none 0 0)).setCell ⟨w.heap.size+1,2,none⟩ (.int .i64 0)).setCell ⟨w.heap.size+1,3,none⟩ (.int .i64 0)).setCell ⟨w.heap.size+1,4,none⟩ (.slice none 0 0)).setCell ⟨w.heap.size+1,5,none⟩ (.slice none 0 0)).setCell ⟨w.heap.size+1,6,none⟩ (.slice none 0 0)).setCell ⟨w.heap.size+1,7,none⟩ (.slice none 0 0)).setCell ⟨w.heap.size+1,8,none⟩ (.int .i64 0)).setCell ⟨w.heap.size+1,9,none⟩ (.int .i64 0)).setCell ⟨w.heap.size+1,10,none⟩ (.slice none 0 0)).setCell ⟨w.heap.size+1,11,none⟩ (.slice none 0 0)).setCell ⟨w.heap.size+1,12,none⟩ (.int .i64 1)) (w.heap.size+1) (.slice none 0 0) (.slice none 0 0) (.int .i64 0) (.int .i64 0) (.slice none 0 0) (.slice none 0 0) (.slice none 0 0) (.slice none 0 0) (.int .i64 0) (.int .i64 0) (.slice none 0 0) (.slice none 0 0) (.int .i64 1):=HR4.out.put (.slice none 0 0) (.slice none 0 0) (.int .i64 0) (.int .i64 0) (.slice none 0 0) (.slice none 0 0) (.slice none 0 0) (.slice none 0 0) (.int .i64 0) (.int .i64 0) (.slice none 0 0) (.slice none 0 0) (.int .i64 1)
  have hT:Turned (fun k=>k=w.heap.size+1) w5 (((((((((((((w5.setCell ⟨w.heap.size+1,0,none⟩ (.slice none 0 0)).setCell ⟨w.heap.size+1,1,none⟩ (.slice none 0 0)).setCell ⟨w.heap.size+1,2,none⟩ (.int .i64 0)).setCell ⟨w.heap.size+1,3,none⟩ (.int .i64 0)).setCell ⟨w.heap.size+1,4,none⟩ (.slice none 0 0)).setCell ⟨w.heap.size+1,5,none⟩ (.slice none 0 0)).setCell ⟨w.heap.size+1,6,none⟩ (.slice none 0 0)).setCell ⟨w.heap.size+1,7,none⟩ (.slice none 0 0)).setCell ⟨w.heap.size+1,8,none⟩ (.int .i64 0)).setCell ⟨w.heap.size+1,9,none⟩ (.int .i64 0)).setCell ⟨w.heap.size+1,10,none⟩ (.slice none 0 0)).setCell ⟨w.heap.size+1,11,none⟩ (.slice none 0 0)).setCell ⟨w.heap.size+1,12,none⟩ (.int .i64 1)):=Turned.put13 w5 (w.heap.size+1) (.slice none 0 0) (.slice none 0 0) (.int .i64 0) (.int .i64 0) (.slice none 0 0) (.slice none 0 0) (.slice none 0 0) (.slice none 0 0) (.int .i64 0) (.int .i64 0) (.slice none 0 0) (.slice none 0 0) (.int .i64 1)
  generalize (((((((((((((w5.setCell ⟨w.heap.size+1,0,none⟩ (.slice none 0 0)).setCell ⟨w.heap.size+1,1,none⟩ (.slice none 0 0)).setCell ⟨w.heap.size+1,2,none⟩ (.int .i64 0)).setCell ⟨w.heap.size+1,3,none⟩ (.int .i64 0)).setCell ⟨w.heap.size+1,4,none⟩ (.slice none 0 0)).setCell ⟨w.heap.size+1,5,none⟩ (.slice none 0 0)).setCell ⟨w.heap.size+1,6,none⟩ (.slice none 0 0)).setCell ⟨w.heap.size+1,7,none⟩ (.slice none 0 0)).setCell ⟨w.heap.size+1,8,none⟩ (.int .i64 0)).setCell ⟨w.heap.size+1,9,none⟩ (.int .i64 0)).setCell ⟨w.heap.size+1,10,none⟩ (.slice none 0 0)).setCell ⟨w.heap.size+1,11,none⟩ (.slice none 0 0)).setCell ⟨w.heap.size+1,12,none⟩ (.int .i64 1))=Wz at HRz hT ⊢
  have hbz:=(hbC).size
  refine bodyPost_ret (v:=.agg #[.slice none 0 0,.slice none 0 0,.int .i64 0,.int .i64 0,.slice none 0 0,.slice none 0 0,.slice none 0 0,.slice none 0 0,.int .i64 0,.int .i64 0,.slice none 0 0,.slice none 0 0,.int .i64 1]) (by simp [results,Tryz.results7,go_sem,HRz.1.1,HRz.2.1.1,HRz.2.2.1.1,HRz.2.2.2.1.1,HRz.2.2.2.2.1.1,HRz.2.2.2.2.2.1.1,HRz.2.2.2.2.2.2.1.1,HRz.2.2.2.2.2.2.2.1.1,HRz.2.2.2.2.2.2.2.2.1.1,HRz.2.2.2.2.2.2.2.2.2.1.1,HRz.2.2.2.2.2.2.2.2.2.2.1.1,HRz.2.2.2.2.2.2.2.2.2.2.2.1.1,HRz.2.2.2.2.2.2.2.2.2.2.2.2.1]) rfl (⟨_,Or.inl ⟨Hn.out,rfl⟩,_,_,_,_,_,_,_,_,rfl,no_store (Nat.le_trans hbz hT.size),?_⟩)
  exact(hbC).trans (hT.below (B:=w.heap.size) hbz (fun k e=>by omega))
 have Hs:=hideW (ht.1 rfl)
 clear ht
 obtain⟨⟨y0,-⟩,⟨y1,-⟩,⟨y2,-⟩,⟨y3,-⟩,⟨y4,-⟩,⟨y5,-⟩,⟨y6,-⟩,⟨y7,-⟩,⟨y8,-⟩,⟨y9,-⟩,⟨y10,-⟩,⟨y11,-⟩⟩:=id HS5
 by_cases he:S.live.time=900000
 ·have hge:(900000:Int)≤S.live.time:=by omega
  have Hn:=hideW (show ¬S.live.time≠900000 from fun h=>h he)
  clear he
  have HR4:=hideW HR3
  obtain⟨⟨r0,g0⟩,⟨r1,g1⟩,⟨r2,g2⟩,⟨r3,g3⟩,⟨r4,g4⟩,⟨r5,g5⟩,⟨r6,g6⟩,⟨r7,g7⟩,⟨r8,g8⟩,⟨r9,g9⟩,⟨r10,g10⟩,⟨r11,g11⟩,⟨r12,g12⟩⟩:=HR3
  go_wp2_with fail
  have HRz:Box13 (((((((((((((w5.setCell ⟨w.heap.size+1,0,none⟩ (.slice none 0 0)).setCell ⟨w.heap.size+1,1,none⟩ (.slice none 0 0)).setCell ⟨w.heap.size+1,2,none⟩ (.int .i64 0)).setCell ⟨w.heap.size+1,3,none⟩ (.int .i64 0)).setCell ⟨w.heap.size+1,4,none⟩ (.slice none 0 0)).setCell ⟨w.heap.size+1,5,none⟩ (.slice none 0 0)).setCell ⟨w.heap.size+1,6,none⟩ (.slice none 0 0)).setCell ⟨w.heap.size+1,7,none⟩ (.slice none 0 0)).setCell ⟨w.heap.size+1,8,none⟩ (.int .i64 0)).setCell ⟨w.heap.size+1,9,none⟩ (.int .i64 0)).setCell ⟨w.heap.size+1,10,none⟩ (.slice none 0 0)).setCell ⟨w.heap.size+1,11,none⟩ (.slice none 0 0)).setCell ⟨w.heap.size+1,12,none⟩ (.int .i64 6)) (w.heap.size+1) (.slice none 0 0) (.slice none 0 0) (.int .i64 0) (.int .i64 0) (.slice none 0 0) (.slice none 0 0) (.slice none 0 0) (.slice none 0 0) (.int .i64 0) (.int .i64 0) (.slice none 0 0) (.slice none 0 0) (.int .i64 6):=HR4.out.put (.slice none 0 0) (.slice none 0 0) (.int .i64 0) (.int .i64 0) (.slice none 0 0) (.slice none 0 0) (.slice none 0 0) (.slice none 0 0) (.int .i64 0) (.int .i64 0) (.slice none 0 0) (.slice none 0 0) (.int .i64 6)
  have hT:Turned (fun k=>k=w.heap.size+1) w5 (((((((((((((w5.setCell ⟨w.heap.size+1,0,none⟩ (.slice none 0 0)).setCell ⟨w.heap.size+1,1,none⟩ (.slice none 0 0)).setCell ⟨w.heap.size+1,2,none⟩ (.int .i64 0)).setCell ⟨w.heap.size+1,3,none⟩ (.int .i64 0)).setCell ⟨w.heap.size+1,4,none⟩ (.slice none 0 0)).setCell ⟨w.heap.size+1,5,none⟩ (.slice none 0 0)).setCell ⟨w.heap.size+1,6,none⟩ (.slice none 0 0)).setCell ⟨w.heap.size+1,7,none⟩ (.slice none 0 0)).setCell ⟨w.heap.size+1,8,none⟩ (.int .i64 0)).setCell ⟨w.heap.size+1,9,none⟩ (.int .i64 0)).setCell ⟨w.heap.size+1,10,none⟩ (.slice none 0 0)).setCell ⟨w.heap.size+1,11,none⟩ (.slice none 0 0)).setCell ⟨w.heap.size+1,12,none⟩ (.int .i64 6)):=Turned.put13 w5 (w.heap.size+1) (.slice none 0 0) (.slice none 0 0) (.int .i64 0) (.int .i64 0) (.slice none 0 0) (.slice none 0 0) (.slice none 0 0) (.slice none 0 0) (.int .i64 0) (.int .i64 0) (.slice none 0 0) (.slice none 0 0) (.int .i64 6)
  generalize (((((((((((((w5.setCell ⟨w.heap.size+1,0,none⟩ (.slice none 0 0)).setCell ⟨w.heap.size+1,1,none⟩ (.slice none 0 0)).setCell ⟨w.heap.size+1,2,none⟩ (.int .i64 0)).setCell ⟨w.heap.size+1,3,none⟩ (.int .i64 0)).setCell ⟨w.heap.size+1,4,none⟩ (.slice none 0 0)).setCell ⟨w.heap.size+1,5,none⟩ (.slice none 0 0)).setCell ⟨w.heap.size+1,6,none⟩ (.slice none 0 0)).setCell ⟨w.heap.size+1,7,none⟩ (.slice none 0 0)).setCell ⟨w.heap.size+1,8,none⟩ (.int .i64 0)).setCell ⟨w.heap.size+1,9,none⟩ (.int .i64 0)).setCell ⟨w.heap.size+1,10,none⟩ (.slice none 0 0)).setCell ⟨w.heap.size+1,11,none⟩ (.slice none 0 0)).setCell ⟨w.heap.size+1,12,none⟩ (.int .i64 6))=Wz at HRz hT ⊢
  have hbz:=(hbC).size
  refine bodyPost_ret (v:=.agg #[.slice none 0 0,.slice none 0 0,.int .i64 0,.int .i64 0,.slice none 0 0,.slice none 0 0,.slice none 0 0,.slice none 0 0,.int .i64 0,.int .i64 0,.slice none 0 0,.slice none 0 0,.int .i64 6]) (by simp [results,Tryz.results7,go_sem,HRz.1.1,HRz.2.1.1,HRz.2.2.1.1,HRz.2.2.2.1.1,HRz.2.2.2.2.1.1,HRz.2.2.2.2.2.1.1,HRz.2.2.2.2.2.2.1.1,HRz.2.2.2.2.2.2.2.1.1,HRz.2.2.2.2.2.2.2.2.1.1,HRz.2.2.2.2.2.2.2.2.2.1.1,HRz.2.2.2.2.2.2.2.2.2.2.1.1,HRz.2.2.2.2.2.2.2.2.2.2.2.1.1,HRz.2.2.2.2.2.2.2.2.2.2.2.2.1]) rfl (⟨_,Or.inr (Or.inl ⟨Hs.out,Hn.out,rfl⟩),_,_,_,_,_,_,_,_,rfl,no_store (Nat.le_trans hbz hT.size),?_⟩)
  exact(hbC).trans (hT.below (B:=w.heap.size) hbz (fun k e=>by omega))
 have hge:¬(900000:Int)≤S.live.time:=by have:=Ht.out Hs.out; omega
 have ht9:0≤S.live.time∧S.live.time<900000:=by have:=Ht.out Hs.out; omega
 have HA:=hideW he
 clear he
 go_wp2_with fail
 clear y0 y1 y2 y3 y4 y5 y6 y7 y8 y9 y10 y11
 refine(l04Copy_any _ _ _ _ lo hi S.live w5 (Hp.out.live.below hbC) b1 b2 b3 b4).mono ?_
 rintro e w6 ⟨q0,q1,q2,q3,rfl,ho,hb6⟩
 obtain⟨l0,lc0,l1,lc1,l2,lc2,l3,lc3,rfl,rfl,rfl,rfl⟩:=ho.form
 have hal:=below_alloc w6 (.cells #[.slice l0 S.live.pool.n lc0,.slice l1 S.live.pool.hn lc1,.int .i64 S.live.time,.int .i64 S.live.next,.slice l2 S.live.sn lc2,.slice l3 S.live.pn lc3] 39)
 have HV:=Box6.new w6 (.slice l0 S.live.pool.n lc0) (.slice l1 S.live.pool.hn lc1) (.int .i64 S.live.time) (.int .i64 S.live.next) (.slice l2 S.live.sn lc2) (.slice l3 S.live.pn lc3) 39
 have hbA:=below_next hb6 hal
 have HRa:=HR3.below hbA
 have Ho:=hideW (ho.below hal)
 have hz6:w5.heap.size≤w6.heap.size∧w6.heap.size<(w6.alloc (.cells #[.slice l0 S.live.pool.n lc0,.slice l1 S.live.pool.hn lc1,.int .i64 S.live.time,.int .i64 S.live.next,.slice l2 S.live.sn lc2,.slice l3 S.live.pn lc3] 39)).heap.size:=⟨hb6.size,by rw [World.size_alloc]; omega⟩
 have hbB:=below_next hbC hbA
 clear ho HR3 HS5
 obtain⟨⟨x0,-⟩,⟨x1,-⟩,-⟩:=id HV
 go_wp2_with fail
 clear x0 x1
 generalize w6.alloc (.cells #[.slice l0 S.live.pool.n lc0,.slice l1 S.live.pool.hn lc1,.int .i64 S.live.time,.int .i64 S.live.next,.slice l2 S.live.sn lc2,.slice l3 S.live.pn lc3] 39)=W7 at HV HRa Ho hz6 hbB ⊢
 clear hal hbA hb6
 generalize hVe:w6.heap.size=V at HV Ho hz6 ⊢
 clear hVe
 refine(specPoolSync_any _ _ _ _ S.live.pool W7 Ho.out.at.pool b1).mono ?_
 rintro e w8 ⟨s0,s1,rfl,hpo,hb8⟩
 obtain⟨p0,pc0,p1,pc1,rfl,rfl⟩:=hpo.form
 have HV5:=hideW (HV.below hb8)
 have HR5:=hideW (HRa.below hb8)
 have Hpo:=hideW hpo
 have hz8:=hb8.size
 have hbD:=below_next hbB hb8
 have hneV:V≠w.heap.size+1:=by omega
 have hneR:w.heap.size+1≠V:=by omega
 have hwr:IntKind.i64.wrap (S.live.time+1)=S.live.time+1:=IntWalk.i64_in _ (by omega)
 clear HV HRa hpo
 obtain⟨⟨x0,g0⟩,⟨x1,g1⟩,⟨x2,g2⟩,⟨x3,g3⟩,⟨x4,g4⟩,⟨x5,g5⟩⟩:=HV5.out
 go_wp2_with fail
 clear x0 g0 x1 g1 x2 g2 x3 g3 x4 g4 x5 g5
 have hTV:Turned (fun k=>k=V) w8 (((w8.setCell ⟨V,0,none⟩ (.slice p0 (syncP S.live.pool).n pc0)).setCell ⟨V,1,none⟩ (.slice p1 (syncP S.live.pool).hn pc1)).setCell ⟨V,2,none⟩ (.int .i64 (S.live.time+1))):=((Turned.put w8 V 0 _).trans (Turned.put _ V 1 _)).trans (Turned.put _ V 2 _)
 have HVz:Box6 (((w8.setCell ⟨V,0,none⟩ (.slice p0 (syncP S.live.pool).n pc0)).setCell ⟨V,1,none⟩ (.slice p1 (syncP S.live.pool).hn pc1)).setCell ⟨V,2,none⟩ (.int .i64 (S.live.time+1))) V (.slice p0 (syncP S.live.pool).n pc0) (.slice p1 (syncP S.live.pool).hn pc1) (.int .i64 (S.live.time+1)) (.int .i64 S.live.next) (.slice l2 S.live.sn lc2) (.slice l3 S.live.pn lc3):=by
  obtain⟨k0,k1,k2,k3,k4,k5⟩:=HV5.out
  exact⟨((k0.set _).other _ (Or.inr (by omega))).other _ (Or.inr (by omega)),((k1.other _ (Or.inr (by omega))).set _).other _ (Or.inr (by omega)),((k2.other _ (Or.inr (by omega))).other _ (Or.inr (by omega))).set _,((k3.other _ (Or.inr (by omega))).other _ (Or.inr (by omega))).other _ (Or.inr (by omega)),((k4.other _ (Or.inr (by omega))).other _ (Or.inr (by omega))).other _ (Or.inr (by omega)),((k5.other _ (Or.inr (by omega))).other _ (Or.inr (by omega))).other _ (Or.inr (by omega))⟩
 have HRz0:=HR5.out.turned hTV hneR
 generalize (((w8.setCell ⟨V,0,none⟩ (.slice p0 (syncP S.live.pool).n pc0)).setCell ⟨V,1,none⟩ (.slice p1 (syncP S.live.pool).hn pc1)).setCell ⟨V,2,none⟩ (.int .i64 (S.live.time+1)))=W8 at hTV HVz HRz0 ⊢
 have hs8:=hTV.size
 have Hown:=hideW (show WorldOwn W8 w5.heap.size w8.heap.size (.slice p0 (syncP S.live.pool).n pc0) (.slice p1 (syncP S.live.pool).hn pc1) (.slice l2 S.live.sn lc2) (.slice l3 S.live.pn lc3) (syncW S.live)from by
  obtain⟨P,Q,R,hin,hl⟩:=(Ho.out.below hb8).turned hTV (fun k e=>by omega)
  have hp2:=Hpo.out.turned hTV (fun k e=>by omega)
  refine⟨fun k=>W7.heap.size≤k∧k<w8.heap.size,Q,R,⟨hp2.isIn (fun k h1 h2=>⟨h1,h2⟩),hin.sets,hin.snaps,?_,?_,hin.qr⟩,?_⟩
  ·intro k hk hq
   have:=hl k (Or.inr (Or.inl hq)); omega
  ·intro k hk hq
   have:=hl k (Or.inr (Or.inr hq)); omega
  ·rintro k (hk | hk | hk)
   ·omega
   ·have:=hl k (Or.inr (Or.inl hk)); omega
   ·have:=hl k (Or.inr (Or.inr hk)); omega)
 have hbG:=hbD.trans (hTV.below (B:=w.heap.size) hbD.size (fun k e=>by omega))
 clear hTV Ho Hpo HV5 HR5 hbD hbB hb8
 obtain⟨⟨m0,-⟩,⟨m1,-⟩,⟨m2,-⟩,⟨m3,-⟩,⟨m4,-⟩,⟨m5,-⟩⟩:=id HVz
 refine wp_region_held_drew (S:=(fun w'=>w'.cell? ⟨V,0,none⟩=some (.slice p0 (syncP S.live.pool).n pc0)∧w'.cell? ⟨V,1,none⟩=some (.slice p1 (syncP S.live.pool).hn pc1)∧w'.cell? ⟨V,2,none⟩=some (.int .i64 (S.live.time+1))∧w'.cell? ⟨V,3,none⟩=some (.int .i64 S.live.next)∧w'.cell? ⟨V,4,none⟩=some (.slice l2 S.live.sn lc2)∧w'.cell? ⟨V,5,none⟩=some (.slice l3 S.live.pn lc3))) (by kernel_rfl) ?_ (fun hHeld=>?_)
 ·(try dsimp only)
  go_keep
 have hbd:Below W8.heap.size W8 W8.drew:=(Below.refl _ _).drew
 have hdz:W8.drew.heap.size=W8.heap.size:=rfl
 refine tk 0 (h:=tk 1 (h:=?_))
 refine rd [2] (rc (fun K hK=>?_) .nil)
 go_simp
 go_at_call 24
 refine(l04Copy_any _ _ _ _ w5.heap.size w8.heap.size (syncW S.live) _ ?_ hless b2 b3 b4).mono ?_
 ·exact(Hown.out.below hbd).at
 rintro e w9 ⟨q0,q1,q2,q3,rfl,hof,hb9⟩
 obtain⟨f0,fc0,f1,fc1,f2,fc2,f3,fc3,rfl,rfl,rfl,rfl⟩:=hof.form
 have hb9':Below W8.heap.size W8 w9:=below_next hbd hb9
 have HV9:=HVz.below hb9'
 have HR9:=HRz0.below hb9'
 have Hof:=hideW hof
 clear hof m0 m1 m2 m3 m4 m5
 obtain⟨⟨m0,-⟩,⟨m1,-⟩,⟨m2,-⟩,⟨m3,-⟩,⟨m4,-⟩,⟨m5,-⟩⟩:=id HV9
 (try go_wp2_with fail)
 refine hK.out _ _ (by(try dsimp only); go_keep) ?_
 clear hK K hHeld
 intro hHeld
 try simp only [Act.put,s1,s2,s3]
 refine tk 3 (h:=tk 4 (h:=?_))
 have HR10:=hideW HR9
 obtain⟨⟨r0,g0⟩,⟨r1,g1⟩,⟨r2,g2⟩,⟨r3,g3⟩,⟨r4,g4⟩,⟨r5,g5⟩,⟨r6,g6⟩,⟨r7,g7⟩,⟨r8,g8⟩,⟨r9,g9⟩,⟨r10,g10⟩,⟨r11,g11⟩,⟨r12,g12⟩⟩:=HR9
 refine rd [5] (rc (fun K hK=>?_) .nil)
 go_simp
 (try go_wp2_with fail)
 have hT:Turned (fun k=>k=w.heap.size+1) w9 (((((((((((((w9.setCell ⟨w.heap.size+1,0,none⟩ (.slice p0 (syncP S.live.pool).n pc0)).setCell ⟨w.heap.size+1,1,none⟩ (.slice p1 (syncP S.live.pool).hn pc1)).setCell ⟨w.heap.size+1,2,none⟩ (.int .i64 (S.live.time+1))).setCell ⟨w.heap.size+1,3,none⟩ (.int .i64 S.live.next)).setCell ⟨w.heap.size+1,4,none⟩ (.slice l2 S.live.sn lc2)).setCell ⟨w.heap.size+1,5,none⟩ (.slice l3 S.live.pn lc3)).setCell ⟨w.heap.size+1,6,none⟩ (.slice f0 (syncW S.live).pool.n fc0)).setCell ⟨w.heap.size+1,7,none⟩ (.slice f1 (syncW S.live).pool.hn fc1)).setCell ⟨w.heap.size+1,8,none⟩ (.int .i64 (syncW S.live).time)).setCell ⟨w.heap.size+1,9,none⟩ (.int .i64 (syncW S.live).next)).setCell ⟨w.heap.size+1,10,none⟩ (.slice f2 (syncW S.live).sn fc2)).setCell ⟨w.heap.size+1,11,none⟩ (.slice f3 (syncW S.live).pn fc3)).setCell ⟨w.heap.size+1,12,none⟩ (.int .i64 0)):=Turned.put13 w9 (w.heap.size+1) (.slice p0 (syncP S.live.pool).n pc0) (.slice p1 (syncP S.live.pool).hn pc1) (.int .i64 (S.live.time+1)) (.int .i64 S.live.next) (.slice l2 S.live.sn lc2) (.slice l3 S.live.pn lc3) (.slice f0 (syncW S.live).pool.n fc0) (.slice f1 (syncW S.live).pool.hn fc1) (.int .i64 (syncW S.live).time) (.int .i64 (syncW S.live).next) (.slice f2 (syncW S.live).sn fc2) (.slice f3 (syncW S.live).pn fc3) (.int .i64 0)
 obtain⟨⟨m0,-⟩,⟨m1,-⟩,⟨m2,-⟩,⟨m3,-⟩,⟨m4,-⟩,⟨m5,-⟩⟩:=HV9.turned hT hneV
 refine hK.out _ _ (by(try dsimp only); go_keep) ?_
 clear hK K hHeld
 intro hHeld
 try simp only [Act.put,s1,s2,s3]
 clear hT
 refine wpAnyH_done (by kernel_rfl) ?_ _
 go_wp2_with fail
 have HRz:Box13 (((((((((((((w9.setCell ⟨w.heap.size+1,0,none⟩ (.slice p0 (syncP S.live.pool).n pc0)).setCell ⟨w.heap.size+1,1,none⟩ (.slice p1 (syncP S.live.pool).hn pc1)).setCell ⟨w.heap.size+1,2,none⟩ (.int .i64 (S.live.time+1))).setCell ⟨w.heap.size+1,3,none⟩ (.int .i64 S.live.next)).setCell ⟨w.heap.size+1,4,none⟩ (.slice l2 S.live.sn lc2)).setCell ⟨w.heap.size+1,5,none⟩ (.slice l3 S.live.pn lc3)).setCell ⟨w.heap.size+1,6,none⟩ (.slice f0 (syncW S.live).pool.n fc0)).setCell ⟨w.heap.size+1,7,none⟩ (.slice f1 (syncW S.live).pool.hn fc1)).setCell ⟨w.heap.size+1,8,none⟩ (.int .i64 (syncW S.live).time)).setCell ⟨w.heap.size+1,9,none⟩ (.int .i64 (syncW S.live).next)).setCell ⟨w.heap.size+1,10,none⟩ (.slice f2 (syncW S.live).sn fc2)).setCell ⟨w.heap.size+1,11,none⟩ (.slice f3 (syncW S.live).pn fc3)).setCell ⟨w.heap.size+1,12,none⟩ (.int .i64 0)) (w.heap.size+1) (.slice p0 (syncP S.live.pool).n pc0) (.slice p1 (syncP S.live.pool).hn pc1) (.int .i64 (S.live.time+1)) (.int .i64 S.live.next) (.slice l2 S.live.sn lc2) (.slice l3 S.live.pn lc3) (.slice f0 (syncW S.live).pool.n fc0) (.slice f1 (syncW S.live).pool.hn fc1) (.int .i64 (syncW S.live).time) (.int .i64 (syncW S.live).next) (.slice f2 (syncW S.live).sn fc2) (.slice f3 (syncW S.live).pn fc3) (.int .i64 0):=HR10.out.put (.slice p0 (syncP S.live.pool).n pc0) (.slice p1 (syncP S.live.pool).hn pc1) (.int .i64 (S.live.time+1)) (.int .i64 S.live.next) (.slice l2 S.live.sn lc2) (.slice l3 S.live.pn lc3) (.slice f0 (syncW S.live).pool.n fc0) (.slice f1 (syncW S.live).pool.hn fc1) (.int .i64 (syncW S.live).time) (.int .i64 (syncW S.live).next) (.slice f2 (syncW S.live).sn fc2) (.slice f3 (syncW S.live).pn fc3) (.int .i64 0)
 have hT:Turned (fun k=>k=w.heap.size+1) w9 (((((((((((((w9.setCell ⟨w.heap.size+1,0,none⟩ (.slice p0 (syncP S.live.pool).n pc0)).setCell ⟨w.heap.size+1,1,none⟩ (.slice p1 (syncP S.live.pool).hn pc1)).setCell ⟨w.heap.size+1,2,none⟩ (.int .i64 (S.live.time+1))).setCell ⟨w.heap.size+1,3,none⟩ (.int .i64 S.live.next)).setCell ⟨w.heap.size+1,4,none⟩ (.slice l2 S.live.sn lc2)).setCell ⟨w.heap.size+1,5,none⟩ (.slice l3 S.live.pn lc3)).setCell ⟨w.heap.size+1,6,none⟩ (.slice f0 (syncW S.live).pool.n fc0)).setCell ⟨w.heap.size+1,7,none⟩ (.slice f1 (syncW S.live).pool.hn fc1)).setCell ⟨w.heap.size+1,8,none⟩ (.int .i64 (syncW S.live).time)).setCell ⟨w.heap.size+1,9,none⟩ (.int .i64 (syncW S.live).next)).setCell ⟨w.heap.size+1,10,none⟩ (.slice f2 (syncW S.live).sn fc2)).setCell ⟨w.heap.size+1,11,none⟩ (.slice f3 (syncW S.live).pn fc3)).setCell ⟨w.heap.size+1,12,none⟩ (.int .i64 0)):=Turned.put13 w9 (w.heap.size+1) (.slice p0 (syncP S.live.pool).n pc0) (.slice p1 (syncP S.live.pool).hn pc1) (.int .i64 (S.live.time+1)) (.int .i64 S.live.next) (.slice l2 S.live.sn lc2) (.slice l3 S.live.pn lc3) (.slice f0 (syncW S.live).pool.n fc0) (.slice f1 (syncW S.live).pool.hn fc1) (.int .i64 (syncW S.live).time) (.int .i64 (syncW S.live).next) (.slice f2 (syncW S.live).sn fc2) (.slice f3 (syncW S.live).pn fc3) (.int .i64 0)
 generalize (((((((((((((w9.setCell ⟨w.heap.size+1,0,none⟩ (.slice p0 (syncP S.live.pool).n pc0)).setCell ⟨w.heap.size+1,1,none⟩ (.slice p1 (syncP S.live.pool).hn pc1)).setCell ⟨w.heap.size+1,2,none⟩ (.int .i64 (S.live.time+1))).setCell ⟨w.heap.size+1,3,none⟩ (.int .i64 S.live.next)).setCell ⟨w.heap.size+1,4,none⟩ (.slice l2 S.live.sn lc2)).setCell ⟨w.heap.size+1,5,none⟩ (.slice l3 S.live.pn lc3)).setCell ⟨w.heap.size+1,6,none⟩ (.slice f0 (syncW S.live).pool.n fc0)).setCell ⟨w.heap.size+1,7,none⟩ (.slice f1 (syncW S.live).pool.hn fc1)).setCell ⟨w.heap.size+1,8,none⟩ (.int .i64 (syncW S.live).time)).setCell ⟨w.heap.size+1,9,none⟩ (.int .i64 (syncW S.live).next)).setCell ⟨w.heap.size+1,10,none⟩ (.slice f2 (syncW S.live).sn fc2)).setCell ⟨w.heap.size+1,11,none⟩ (.slice f3 (syncW S.live).pn fc3)).setCell ⟨w.heap.size+1,12,none⟩ (.int .i64 0))=Wz at HRz hT ⊢
 have hbz:=below_next hbG hb9'
 have hs1:=hb9'.size
 have hs2:=hT.size
 refine bodyPost_ret (v:=.agg #[.slice p0 (syncP S.live.pool).n pc0,.slice p1 (syncP S.live.pool).hn pc1,.int .i64 (S.live.time+1),.int .i64 S.live.next,.slice l2 S.live.sn lc2,.slice l3 S.live.pn lc3,.slice f0 (syncW S.live).pool.n fc0,.slice f1 (syncW S.live).pool.hn fc1,.int .i64 (syncW S.live).time,.int .i64 (syncW S.live).next,.slice f2 (syncW S.live).sn fc2,.slice f3 (syncW S.live).pn fc3,.int .i64 0]) (by simp [results,Tryz.results7,go_sem,HRz.1.1,HRz.2.1.1,HRz.2.2.1.1,HRz.2.2.2.1.1,HRz.2.2.2.2.1.1,HRz.2.2.2.2.2.1.1,HRz.2.2.2.2.2.2.1.1,HRz.2.2.2.2.2.2.2.1.1,HRz.2.2.2.2.2.2.2.2.1.1,HRz.2.2.2.2.2.2.2.2.2.1.1,HRz.2.2.2.2.2.2.2.2.2.2.1.1,HRz.2.2.2.2.2.2.2.2.2.2.2.1.1,HRz.2.2.2.2.2.2.2.2.2.2.2.2.1]) rfl ⟨_,Or.inr (Or.inr ⟨Hs.out,HA.out,rfl⟩),_,_,_,_,_,_,_,_,rfl,?_,?_⟩
 ·refine two_worlds (mid:=W8.heap.size) ?_ ?_ (by omega) (by omega)
  ·exact((Hown.out.below hb9').turned hT (fun k e=>by omega)).wide (by omega) (by omega)
  ·exact(Hof.out.turned hT (fun k e=>by omega)).wide (by rw [hdz]; omega) (by omega)
 ·exact hbz.trans (hT.below (B:=w.heap.size) hbz.size (fun k e=>by omega))
end Go.Proofs.YtihplgckbhnohaaGreatDoor
