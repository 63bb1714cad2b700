/- What impl.turned is refused for, and what is Live then. -/
import Derived.Test.YtihplgckbhnohaaGreatDoorG25
import Derived.Test.YtihplgckbhnohaaGreatDoorG8
import Derived.Test.YtihplgckbhnohaaGreatDoorG1
import Derived.Test.YtihplgckbhnohaaGreatDoorG26
import Derived.Test.YtihplgckbhnohaaGreatDoorG11
import Derived.Test.YtihplgckbhnohaaGreatDoorG3
import Derived.Stop.IfaceNil
import Derived.Deep.RegionHeld3
import Derived.Test.YtihplgckbhnohaaGreatDoorG2
namespace Go.Proofs.YtihplgckbhnohaaGreatDoor
open Go.RowKit
set_option linter.unusedVariables false
set_option maxRecDepth 20000 in
set_option maxHeartbeats 1000000 in
theorem turnedRefused_any(p:Nat→Addr)(t0 t1 t2 t3:Value)(X:WorldD)(v0 v1 v2 v3 u0 u1 u2 u3:Value)(lo hi:Nat)(S:StoreD)(w:World)(hE:Errs w p)(hX:WorldAt w lo hi t0 t1 t2 t3 X)(h:StoreAt w lo hi v0 v1 v2 v3 u0 u1 u2 u3 S)(hw1:PrevsWf X)(hw2:PrevsWf S.safe) :
  Calls Tryz.prog 201 #[worldV t0 t1 t2 t3 X,storeV v0 v1 v2 v3 u0 u1 u2 u3 S] w fun e w'=>((e = .returned .nilIface∧StoreI ⟨X,S.safe⟩)∨(e = .returned (errV (p 5))∧¬StoreI ⟨X,S.safe⟩))∧Below w.heap.size w w':=by
 obtain⟨o0,oc0,o1,oc1,o2,oc2,o3,oc3,rfl,rfl,rfl,rfl⟩:=hX.form
 obtain⟨a0,ac0,a1,ac1,a2,ac2,a3,ac3,rfl,rfl,rfl,rfl⟩:=h.live.form
 obtain⟨b0,bc0,b1,bc1,b2,bc2,b3,bc3,rfl,rfl,rfl,rfl⟩:=h.safe.form
 have HX:=hideW hX
 have Hp:=hideW h
 have HE:=hideW hE
 have Hw1:=hideW hw1
 have Hw2:=hideW hw2
 clear h hX hE hw1 hw2
 have ha:=below_alloc w (.cells #[.slice o0 X.pool.n oc0,.slice o1 X.pool.hn oc1,.int .i64 X.time,.int .i64 X.next,.slice o2 X.sn oc2,.slice o3 X.pn oc3] 78)
 have hb2:=below_alloc (w.alloc (.cells #[.slice o0 X.pool.n oc0,.slice o1 X.pool.hn oc1,.int .i64 X.time,.int .i64 X.next,.slice o2 X.sn oc2,.slice o3 X.pn oc3] 78)) (.cells #[.slice a0 S.live.pool.n ac0,.slice a1 S.live.pool.hn ac1,.int .i64 S.live.time,.int .i64 S.live.next,.slice a2 S.live.sn ac2,.slice a3 S.live.pn ac3,.slice b0 S.safe.pool.n bc0,.slice b1 S.safe.pool.hn bc1,.int .i64 S.safe.time,.int .i64 S.safe.next,.slice b2 S.safe.sn bc2,.slice b3 S.safe.pn bc3] 98)
 have hb:=below_next ha hb2
 obtain⟨⟨y0,-⟩,⟨y1,-⟩,⟨y2,-⟩,⟨y3,-⟩,⟨y4,-⟩,⟨y5,-⟩⟩:=(Box6.new w (.slice o0 X.pool.n oc0) (.slice o1 X.pool.hn oc1) (.int .i64 X.time) (.int .i64 X.next) (.slice o2 X.sn oc2) (.slice o3 X.pn oc3) 78).below hb2
 obtain⟨⟨z0,-⟩,⟨z1,-⟩,⟨z2,-⟩,⟨z3,-⟩,⟨z4,-⟩,⟨z5,-⟩,⟨z6,-⟩,⟨z7,-⟩,⟨z8,-⟩,⟨z9,-⟩,⟨z10,-⟩,⟨z11,-⟩⟩:=Box12.new (w.alloc (.cells #[.slice o0 X.pool.n oc0,.slice o1 X.pool.hn oc1,.int .i64 X.time,.int .i64 X.next,.slice o2 X.sn oc2,.slice o3 X.pn oc3] 78)) (.slice a0 S.live.pool.n ac0) (.slice a1 S.live.pool.hn ac1) (.int .i64 S.live.time) (.int .i64 S.live.next) (.slice a2 S.live.sn ac2) (.slice a3 S.live.pn ac3) (.slice b0 S.safe.pool.n bc0) (.slice b1 S.safe.pool.hn bc1) (.int .i64 S.safe.time) (.int .i64 S.safe.next) (.slice b2 S.safe.sn bc2) (.slice b3 S.safe.pn bc3) 98
 rw [World.size_alloc] at z0 z1 z2 z3 z4 z5 z6 z7 z8 z9 z10 z11
 go_enter Tryz.func201,Tryz.ntmps201
 go_wp2_with fail
 clear y0 y1 y2 y3 y4 y5 z0 z1 z2 z3 z4 z5 z6 z7 z8 z9 z10 z11
 generalize (w.alloc (.cells #[.slice o0 X.pool.n oc0,.slice o1 X.pool.hn oc1,.int .i64 X.time,.int .i64 X.next,.slice o2 X.sn oc2,.slice o3 X.pn oc3] 78)).alloc (.cells #[.slice a0 S.live.pool.n ac0,.slice a1 S.live.pool.hn ac1,.int .i64 S.live.time,.int .i64 S.live.next,.slice a2 S.live.sn ac2,.slice a3 S.live.pn ac3,.slice b0 S.safe.pool.n bc0,.slice b1 S.safe.pool.hn bc1,.int .i64 S.safe.time,.int .i64 S.safe.next,.slice b2 S.safe.sn bc2,.slice b3 S.safe.pn bc3] 98)=W2 at hb ⊢
 clear ha hb2
 refine(pairRight_any _ _ _ _ _ _ _ _ lo hi ⟨X,S.safe⟩ W2 ⟨HX.out.below hb,Hp.out.safe.below hb⟩ Hw1.out Hw2.out).mono ?_
 rintro e w3 ⟨⟨t,rfl,ht⟩,hb3⟩
 have hb4:=below_next hb hb3
 have hg:w3.cell? ⟨5,0,none⟩=some (errV (p 5)):=(HE.out.below hb4).cell 5 (by omega)
 cases t
 ·have Hn:=hideW (show ¬StoreI ⟨X,S.safe⟩from fun hA=>absurd (ht.2 hA) (by simp))
  clear ht
  go_wp2
  go_ret
  exact⟨Or.inr ⟨rfl,Hn.out⟩,hb4⟩
 ·have Hy:=hideW (ht.1 rfl)
  clear ht
  go_wp2
  go_ret
  exact⟨Or.inl ⟨rfl,Hy.out⟩,hb4⟩
set_option maxRecDepth 20000 in
set_option maxHeartbeats 1000000 in
theorem turnedLive_any(t0 t1 t2 t3:Value)(X:WorldD)(v0 v1 v2 v3 u0 u1 u2 u3:Value)(lo hi:Nat)(S:StoreD)(w:World)(hX:WorldAt w lo hi t0 t1 t2 t3 X)(h:StoreAt w lo hi v0 v1 v2 v3 u0 u1 u2 u3 S)(b1:poolN X.pool≤1048576)(b2:X.sn≤1048576)(b3:X.pn≤1048576)(b4:DeadsN X) :
  Calls Tryz.prog 200 #[worldV t0 t1 t2 t3 X,storeV v0 v1 v2 v3 u0 u1 u2 u3 S] w (NewWorld X w):=by
 obtain⟨o0,oc0,o1,oc1,o2,oc2,o3,oc3,rfl,rfl,rfl,rfl⟩:=hX.form
 obtain⟨a0,ac0,a1,ac1,a2,ac2,a3,ac3,rfl,rfl,rfl,rfl⟩:=h.live.form
 obtain⟨c0,cc0,c1,cc1,c2,cc2,c3,cc3,rfl,rfl,rfl,rfl⟩:=h.safe.form
 have HX:=hideW hX
 clear h hX
 have ha:=below_alloc w (.cells #[.slice o0 X.pool.n oc0,.slice o1 X.pool.hn oc1,.int .i64 X.time,.int .i64 X.next,.slice o2 X.sn oc2,.slice o3 X.pn oc3] 78)
 have hb2:=below_alloc (w.alloc (.cells #[.slice o0 X.pool.n oc0,.slice o1 X.pool.hn oc1,.int .i64 X.time,.int .i64 X.next,.slice o2 X.sn oc2,.slice o3 X.pn oc3] 78)) (.cells #[.slice a0 S.live.pool.n ac0,.slice a1 S.live.pool.hn ac1,.int .i64 S.live.time,.int .i64 S.live.next,.slice a2 S.live.sn ac2,.slice a3 S.live.pn ac3,.slice c0 S.safe.pool.n cc0,.slice c1 S.safe.pool.hn cc1,.int .i64 S.safe.time,.int .i64 S.safe.next,.slice c2 S.safe.sn cc2,.slice c3 S.safe.pn cc3] 98)
 have hb3:=below_alloc ((w.alloc (.cells #[.slice o0 X.pool.n oc0,.slice o1 X.pool.hn oc1,.int .i64 X.time,.int .i64 X.next,.slice o2 X.sn oc2,.slice o3 X.pn oc3] 78)).alloc (.cells #[.slice a0 S.live.pool.n ac0,.slice a1 S.live.pool.hn ac1,.int .i64 S.live.time,.int .i64 S.live.next,.slice a2 S.live.sn ac2,.slice a3 S.live.pn ac3,.slice c0 S.safe.pool.n cc0,.slice c1 S.safe.pool.hn cc1,.int .i64 S.safe.time,.int .i64 S.safe.next,.slice c2 S.safe.sn cc2,.slice c3 S.safe.pn cc3] 98)) (.cells #[.slice none 0 0,.slice none 0 0,.int .i64 0,.int .i64 0,.slice none 0 0,.slice none 0 0] 39)
 have hb:=below_next (below_next ha hb2) hb3
 obtain⟨⟨y0,-⟩,⟨y1,-⟩,⟨y2,-⟩,⟨y3,-⟩,⟨y4,-⟩,⟨y5,-⟩⟩:=((Box6.new w (.slice o0 X.pool.n oc0) (.slice o1 X.pool.hn oc1) (.int .i64 X.time) (.int .i64 X.next) (.slice o2 X.sn oc2) (.slice o3 X.pn oc3) 78).below hb2).below hb3
 have HR:=Box6.new ((w.alloc (.cells #[.slice o0 X.pool.n oc0,.slice o1 X.pool.hn oc1,.int .i64 X.time,.int .i64 X.next,.slice o2 X.sn oc2,.slice o3 X.pn oc3] 78)).alloc (.cells #[.slice a0 S.live.pool.n ac0,.slice a1 S.live.pool.hn ac1,.int .i64 S.live.time,.int .i64 S.live.next,.slice a2 S.live.sn ac2,.slice a3 S.live.pn ac3,.slice c0 S.safe.pool.n cc0,.slice c1 S.safe.pool.hn cc1,.int .i64 S.safe.time,.int .i64 S.safe.next,.slice c2 S.safe.sn cc2,.slice c3 S.safe.pn cc3] 98)) (.slice none 0 0) (.slice none 0 0) (.int .i64 0) (.int .i64 0) (.slice none 0 0) (.slice none 0 0) 39
 rw [World.size_alloc,World.size_alloc] at HR
 have hz:(((w.alloc (.cells #[.slice o0 X.pool.n oc0,.slice o1 X.pool.hn oc1,.int .i64 X.time,.int .i64 X.next,.slice o2 X.sn oc2,.slice o3 X.pn oc3] 78)).alloc (.cells #[.slice a0 S.live.pool.n ac0,.slice a1 S.live.pool.hn ac1,.int .i64 S.live.time,.int .i64 S.live.next,.slice a2 S.live.sn ac2,.slice a3 S.live.pn ac3,.slice c0 S.safe.pool.n cc0,.slice c1 S.safe.pool.hn cc1,.int .i64 S.safe.time,.int .i64 S.safe.next,.slice c2 S.safe.sn cc2,.slice c3 S.safe.pn cc3] 98)).alloc (.cells #[.slice none 0 0,.slice none 0 0,.int .i64 0,.int .i64 0,.slice none 0 0,.slice none 0 0] 39)).heap.size=w.heap.size+3:=by rw [World.size_alloc,World.size_alloc,World.size_alloc]
 go_enter Tryz.func200,Tryz.ntmps200
 go_wp2_with fail
 clear y0 y1 y2 y3 y4 y5
 generalize ((w.alloc (.cells #[.slice o0 X.pool.n oc0,.slice o1 X.pool.hn oc1,.int .i64 X.time,.int .i64 X.next,.slice o2 X.sn oc2,.slice o3 X.pn oc3] 78)).alloc (.cells #[.slice a0 S.live.pool.n ac0,.slice a1 S.live.pool.hn ac1,.int .i64 S.live.time,.int .i64 S.live.next,.slice a2 S.live.sn ac2,.slice a3 S.live.pn ac3,.slice c0 S.safe.pool.n cc0,.slice c1 S.safe.pool.hn cc1,.int .i64 S.safe.time,.int .i64 S.safe.next,.slice c2 S.safe.sn cc2,.slice c3 S.safe.pn cc3] 98)).alloc (.cells #[.slice none 0 0,.slice none 0 0,.int .i64 0,.int .i64 0,.slice none 0 0,.slice none 0 0] 39)=W2 at hb HR hz ⊢
 clear ha hb2 hb3
 refine(copied_any _ _ _ _ lo hi X W2 (HX.out.below hb) b1 b2 b3 b4).mono ?_
 rintro e w3 ⟨q0,q1,q2,q3,rfl,ho,hb3⟩
 obtain⟨b0,d0,b1,d1,b2,d2,b3,d3,rfl,rfl,rfl,rfl⟩:=ho.form
 have HR3:=HR.below hb3
 have Ho:=hideW ho
 clear ho HR
 have HRz:=HR3.put (.slice b0 X.pool.n d0) (.slice b1 X.pool.hn d1) (.int .i64 X.time) (.int .i64 X.next) (.slice b2 X.sn d2) (.slice b3 X.pn d3)
 have hT:=Turned.put6 w3 (w.heap.size+1+1) (.slice b0 X.pool.n d0) (.slice b1 X.pool.hn d1) (.int .i64 X.time) (.int .i64 X.next) (.slice b2 X.sn d2) (.slice b3 X.pn d3)
 obtain⟨⟨r0,f0⟩,⟨r1,f1⟩,⟨r2,f2⟩,⟨r3,f3⟩,⟨r4,f4⟩,⟨r5,f5⟩⟩:=HR3
 go_wp2_with fail
 have hbz:=below_next hb hb3
 refine bodyPost_ret (v:=.agg #[.slice b0 X.pool.n d0,.slice b1 X.pool.hn d1,.int .i64 X.time,.int .i64 X.next,.slice b2 X.sn d2,.slice b3 X.pn d3]) (by simp [results,Tryz.results200,go_sem,HRz.1.1,HRz.2.1.1,HRz.2.2.1.1,HRz.2.2.2.1.1,HRz.2.2.2.2.1.1,HRz.2.2.2.2.2.1]) rfl ⟨_,_,_,_,rfl,?_,?_⟩
 ·have:=hT.size
  exact(Ho.out.turned hT (fun k e=>by omega)).wide (by omega) (by omega)
 ·exact hbz.trans (hT.below (B:=w.heap.size) hbz.size (fun k e=>by omega))
end Go.Proofs.YtihplgckbhnohaaGreatDoor

namespace Go.Proofs.YtihplgckbhnohaaGreatDoor
open Go.RowKit
set_option linter.unusedVariables false
set_option maxRecDepth 20000 in
set_option maxHeartbeats 1000000 in
theorem happenT_any(p:Nat→Addr)(v:Value)(A:Prop)(i:Nat)(hi7:i<7)(L Sf:WorldD)(v0 v1 v2 v3 u0 u1 u2 u3:Value)(lo hi:Nat)(S:StoreD)(w:World)(hE:Errs w p)(h:StoreAt w lo hi v0 v1 v2 v3 u0 u1 u2 u3 S)(hw1:PrevsWf S.live)(hw2:PrevsWf S.safe)
  (mR:∀w',(Go.method 364 78 v "loop.example/g00381/impl.refused").run Tryz.prog w' = .ok (201,v) w') (mL:∀w',(Go.method 364 78 v "loop.example/g00381/impl.liveThen").run Tryz.prog w' = .ok (200,v) w')
  (hR:StoreI S→∀w',Below w.heap.size w w'→Calls Tryz.prog 201 #[v,storeV v0 v1 v2 v3 u0 u1 u2 u3 S] w' fun e w''=>((e = .returned .nilIface∧A)∨(e = .returned (errV (p i))∧¬A))∧Below w'.heap.size w' w'')
  (hL:StoreI S→A→∀w',Below w.heap.size w w'→Calls Tryz.prog 200 #[v,storeV v0 v1 v2 v3 u0 u1 u2 u3 S] w' (NewWorld L w'))
  (hS:StoreI S→A→∀w' x0 x1 x2 x3,Below w.heap.size w w'→WorldAt w' 0 w'.heap.size x0 x1 x2 x3 L→Calls Tryz.prog 49 #[storeV v0 v1 v2 v3 u0 u1 u2 u3 S,.iface 78 v,worldV x0 x1 x2 x3 L] w' (NewWorld Sf w')) :
  Calls Tryz.prog 26 #[storeV v0 v1 v2 v3 u0 u1 u2 u3 S,.iface 78 v] w fun e w'=>(¬StoreI S∧NewSOut (refuseS 1) w e w')∨(StoreI S∧¬A∧NewSOut (refuseS (errC i)) w e w')∨(StoreI S∧A∧NewSOut ⟨⟨L,Sf⟩,0⟩ w e w'):=by
 obtain⟨a0,ac0,a1,ac1,a2,ac2,a3,ac3,rfl,rfl,rfl,rfl⟩:=h.live.form
 obtain⟨c0,cc0,c1,cc1,c2,cc2,c3,cc3,rfl,rfl,rfl,rfl⟩:=h.safe.form
 have Hp:=hideW h
 have HE:=hideW hE
 have Hw1:=hideW hw1
 have Hw2:=hideW hw2
 have HfR:=hideW hR
 have HfL:=hideW hL
 have HfS:=hideW hS
 clear h hE hw1 hw2 hR hL hS
 have ha:=below_alloc w (.cells #[.slice a0 S.live.pool.n ac0,.slice a1 S.live.pool.hn ac1,.int .i64 S.live.time,.int .i64 S.live.next,.slice a2 S.live.sn ac2,.slice a3 S.live.pn ac3,.slice c0 S.safe.pool.n cc0,.slice c1 S.safe.pool.hn cc1,.int .i64 S.safe.time,.int .i64 S.safe.next,.slice c2 S.safe.sn cc2,.slice c3 S.safe.pn cc3] 41)
 have hb2:=below_alloc (w.alloc (.cells #[.slice a0 S.live.pool.n ac0,.slice a1 S.live.pool.hn ac1,.int .i64 S.live.time,.int .i64 S.live.next,.slice a2 S.live.sn ac2,.slice a3 S.live.pn ac3,.slice c0 S.safe.pool.n cc0,.slice c1 S.safe.pool.hn cc1,.int .i64 S.safe.time,.int .i64 S.safe.next,.slice c2 S.safe.sn cc2,.slice c3 S.safe.pn cc3] 41)) (.cells #[.slice none 0 0,.slice none 0 0,.int .i64 0,.int .i64 0,.slice none 0 0,.slice none 0 0,.slice none 0 0,.slice none 0 0,.int .i64 0,.int .i64 0,.slice none 0 0,.slice none 0 0,.int .i64 0] 43)
 have hb:=below_next ha hb2
 obtain⟨⟨x0,-⟩,⟨x1,-⟩,⟨x2,-⟩,⟨x3,-⟩,⟨x4,-⟩,⟨x5,-⟩,⟨x6,-⟩,⟨x7,-⟩,⟨x8,-⟩,⟨x9,-⟩,⟨x10,-⟩,⟨x11,-⟩⟩:=(Box12.new w (.slice a0 S.live.pool.n ac0) (.slice a1 S.live.pool.hn ac1) (.int .i64 S.live.time) (.int .i64 S.live.next) (.slice a2 S.live.sn ac2) (.slice a3 S.live.pn ac3) (.slice c0 S.safe.pool.n cc0) (.slice c1 S.safe.pool.hn cc1) (.int .i64 S.safe.time) (.int .i64 S.safe.next) (.slice c2 S.safe.sn cc2) (.slice c3 S.safe.pn cc3) 41).below hb2
 have HR:=Box13.new (w.alloc (.cells #[.slice a0 S.live.pool.n ac0,.slice a1 S.live.pool.hn ac1,.int .i64 S.live.time,.int .i64 S.live.next,.slice a2 S.live.sn ac2,.slice a3 S.live.pn ac3,.slice c0 S.safe.pool.n cc0,.slice c1 S.safe.pool.hn cc1,.int .i64 S.safe.time,.int .i64 S.safe.next,.slice c2 S.safe.sn cc2,.slice c3 S.safe.pn cc3] 41)) (.slice none 0 0) (.slice none 0 0) (.int .i64 0) (.int .i64 0) (.slice none 0 0) (.slice none 0 0) (.slice none 0 0) (.slice none 0 0) (.int .i64 0) (.int .i64 0) (.slice none 0 0) (.slice none 0 0) (.int .i64 0) 43
 rw [World.size_alloc] at HR
 have hz:((w.alloc (.cells #[.slice a0 S.live.pool.n ac0,.slice a1 S.live.pool.hn ac1,.int .i64 S.live.time,.int .i64 S.live.next,.slice a2 S.live.sn ac2,.slice a3 S.live.pn ac3,.slice c0 S.safe.pool.n cc0,.slice c1 S.safe.pool.hn cc1,.int .i64 S.safe.time,.int .i64 S.safe.next,.slice c2 S.safe.sn cc2,.slice c3 S.safe.pn cc3] 41)).alloc (.cells #[.slice none 0 0,.slice none 0 0,.int .i64 0,.int .i64 0,.slice none 0 0,.slice none 0 0,.slice none 0 0,.slice none 0 0,.int .i64 0,.int .i64 0,.slice none 0 0,.slice none 0 0,.int .i64 0] 43)).heap.size=w.heap.size+2:=by rw [World.size_alloc,World.size_alloc]
 go_enter Tryz.func26,Tryz.ntmps26
 go_wp2_with fail
 clear x0 x1 x2 x3 x4 x5 x6 x7 x8 x9 x10 x11
 generalize (w.alloc (.cells #[.slice a0 S.live.pool.n ac0,.slice a1 S.live.pool.hn ac1,.int .i64 S.live.time,.int .i64 S.live.next,.slice a2 S.live.sn ac2,.slice a3 S.live.pn ac3,.slice c0 S.safe.pool.n cc0,.slice c1 S.safe.pool.hn cc1,.int .i64 S.safe.time,.int .i64 S.safe.next,.slice c2 S.safe.sn cc2,.slice c3 S.safe.pn cc3] 41)).alloc (.cells #[.slice none 0 0,.slice none 0 0,.int .i64 0,.int .i64 0,.slice none 0 0,.slice none 0 0,.slice none 0 0,.slice none 0 0,.int .i64 0,.int .i64 0,.slice none 0 0,.slice none 0 0,.int .i64 0] 43)=W2 at hb HR hz ⊢
 clear ha hb2
 refine(pairOf_any _ _ _ _ _ _ _ _ lo hi S W2 (Hp.out.below hb)).mono ?_
 rintro e w3 ⟨rfl,hb3⟩
 have hbA:=below_next hb hb3
 have HRa:=HR.below hb3
 have hal:=below_alloc w3 (.cells #[.slice a0 S.live.pool.n ac0,.slice a1 S.live.pool.hn ac1,.int .i64 S.live.time,.int .i64 S.live.next,.slice a2 S.live.sn ac2,.slice a3 S.live.pn ac3,.slice c0 S.safe.pool.n cc0,.slice c1 S.safe.pool.hn cc1,.int .i64 S.safe.time,.int .i64 S.safe.next,.slice c2 S.safe.sn cc2,.slice c3 S.safe.pn cc3] 98)
 have hbB:=below_next hbA hal
 have HPb:=Box12.new w3 (.slice a0 S.live.pool.n ac0) (.slice a1 S.live.pool.hn ac1) (.int .i64 S.live.time) (.int .i64 S.live.next) (.slice a2 S.live.sn ac2) (.slice a3 S.live.pn ac3) (.slice c0 S.safe.pool.n cc0) (.slice c1 S.safe.pool.hn cc1) (.int .i64 S.safe.time) (.int .i64 S.safe.next) (.slice c2 S.safe.sn cc2) (.slice c3 S.safe.pn cc3) 98
 have HRb:=HRa.below hal
 have hne:w3.heap.size≠w.heap.size+1:=by have:=hb3.size; omega
 have hz4:w.heap.size+2≤(w3.alloc (.cells #[.slice a0 S.live.pool.n ac0,.slice a1 S.live.pool.hn ac1,.int .i64 S.live.time,.int .i64 S.live.next,.slice a2 S.live.sn ac2,.slice a3 S.live.pn ac3,.slice c0 S.safe.pool.n cc0,.slice c1 S.safe.pool.hn cc1,.int .i64 S.safe.time,.int .i64 S.safe.next,.slice c2 S.safe.sn cc2,.slice c3 S.safe.pn cc3] 98)).heap.size:=by rw [World.size_alloc]; have:=hb3.size; omega
 clear HR HRa
 obtain⟨⟨y0,-⟩,⟨y1,-⟩,⟨y2,-⟩,⟨y3,-⟩,⟨y4,-⟩,⟨y5,-⟩,⟨y6,-⟩,⟨y7,-⟩,⟨y8,-⟩,⟨y9,-⟩,⟨y10,-⟩,⟨y11,-⟩⟩:=id HPb
 go_wp2_with fail
 clear y0 y1 y2 y3 y4 y5 y6 y7 y8 y9 y10 y11
 generalize w3.alloc (.cells #[.slice a0 S.live.pool.n ac0,.slice a1 S.live.pool.hn ac1,.int .i64 S.live.time,.int .i64 S.live.next,.slice a2 S.live.sn ac2,.slice a3 S.live.pn ac3,.slice c0 S.safe.pool.n cc0,.slice c1 S.safe.pool.hn cc1,.int .i64 S.safe.time,.int .i64 S.safe.next,.slice c2 S.safe.sn cc2,.slice c3 S.safe.pn cc3] 98)=W4 at hbB HPb HRb hal hz4 ⊢
 generalize w3.heap.size=P at HPb hne ⊢
 refine(pairRight_any _ _ _ _ _ _ _ _ lo hi S W4 (Hp.out.below hbB) Hw1.out Hw2.out).mono ?_
 rintro e w5 ⟨⟨t,rfl,ht⟩,hb5⟩
 have hbC:=below_next hbB hb5
 have HPc:=HPb.below hb5
 have HR3:=HRb.below hb5
 clear HPb HRb hbB hbA hal
 cases t
 ·have Hn:=hideW (show ¬StoreI S from fun hA=>absurd (ht.2 hA) (by simp))
  clear ht HPc
  have HR4:=hideW HR3
  obtain⟨⟨r0,g0⟩,⟨r1,g1⟩,⟨r2,g2⟩,⟨r3,g3⟩,⟨r4,g4⟩,⟨r5,g5⟩,⟨r6,g6⟩,⟨r7,g7⟩,⟨r8,g8⟩,⟨r9,g9⟩,⟨r10,g10⟩,⟨r11,g11⟩,⟨r12,g12⟩⟩:=HR3
  go_wp2_with fail
  have HRz:Box13 (((((((((((((w5.setCell ⟨w.heap.size+1,0,none⟩ (.slice none 0 0)).setCell ⟨w.heap.size+1,1,none⟩ (.slice none 0 0)).setCell ⟨w.heap.size+1,2,none⟩ (.int .i64 0)).setCell ⟨w.heap.size+1,3,none⟩ (.int .i64 0)).setCell ⟨w.heap.size+1,4,none⟩ (.slice none 0 0)).setCell ⟨w.heap.size+1,5,none⟩ (.slice none 0 0)).setCell ⟨w.heap.size+1,6,none⟩ (.slice none 0 0)).setCell ⟨w.heap.size+1,7,none⟩ (.slice none 0 0)).setCell ⟨w.heap.size+1,8,none⟩ (.int .i64 0)).setCell ⟨w.heap.size+1,9,none⟩ (.int .i64 0)).setCell ⟨w.heap.size+1,10,none⟩ (.slice none 0 0)).setCell ⟨w.heap.size+1,11,none⟩ (.slice none 0 0)).setCell ⟨w.heap.size+1,12,none⟩ (.int .i64 1)) (w.heap.size+1) (.slice none 0 0) (.slice none 0 0) (.int .i64 0) (.int .i64 0) (.slice none 0 0) (.slice none 0 0) (.slice none 0 0) (.slice none 0 0) (.int .i64 0) (.int .i64 0) (.slice none 0 0) (.slice none 0 0) (.int .i64 1):=HR4.out.put (.slice none 0 0) (.slice none 0 0) (.int .i64 0) (.int .i64 0) (.slice none 0 0) (.slice none 0 0) (.slice none 0 0) (.slice none 0 0) (.int .i64 0) (.int .i64 0) (.slice none 0 0) (.slice none 0 0) (.int .i64 1)
  have hT:Turned (fun k=>k=w.heap.size+1) w5 (((((((((((((w5.setCell ⟨w.heap.size+1,0,none⟩ (.slice none 0 0)).setCell ⟨w.heap.size+1,1,none⟩ (.slice none 0 0)).setCell ⟨w.heap.size+1,2,none⟩ (.int .i64 0)).setCell ⟨w.heap.size+1,3,none⟩ (.int .i64 0)).setCell ⟨w.heap.size+1,4,none⟩ (.slice none 0 0)).setCell ⟨w.heap.size+1,5,none⟩ (.slice none 0 0)).setCell ⟨w.heap.size+1,6,none⟩ (.slice none 0 0)).setCell ⟨w.heap.size+1,7,none⟩ (.slice none 0 0)).setCell ⟨w.heap.size+1,8,none⟩ (.int .i64 0)).setCell ⟨w.heap.size+1,9,none⟩ (.int .i64 0)).setCell ⟨w.heap.size+1,10,none⟩ (.slice none 0 0)).setCell ⟨w.heap.size+1,11,none⟩ (.slice none 0 0)).setCell ⟨w.heap.size+1,12,none⟩ (.int .i64 1)):=Turned.put13 w5 (w.heap.size+1) (.slice none 0 0) (.slice none 0 0) (.int .i64 0) (.int .i64 0) (.slice none 0 0) (.slice none 0 0) (.slice none 0 0) (.slice none 0 0) (.int .i64 0) (.int .i64 0) (.slice none 0 0) (.slice none 0 0) (.int .i64 1)
  generalize (((((((((((((w5.setCell ⟨w.heap.size+1,0,none⟩ (.slice none 0 0)).setCell ⟨w.heap.size+1,1,none⟩ (.slice none 0 0)).setCell ⟨w.heap.size+1,2,none⟩ (.int .i64 0)).setCell ⟨w.heap.size+1,3,none⟩ (.int .i64 0)).setCell ⟨w.heap.size+1,4,none⟩ (.slice none 0 0)).setCell ⟨w.heap.size+1,5,none⟩ (.slice none 0 0)).setCell ⟨w.heap.size+1,6,none⟩ (.slice none 0 0)).setCell ⟨w.heap.size+1,7,none⟩ (.slice none 0 0)).setCell ⟨w.heap.size+1,8,none⟩ (.int .i64 0)).setCell ⟨w.heap.size+1,9,none⟩ (.int .i64 0)).setCell ⟨w.heap.size+1,10,none⟩ (.slice none 0 0)).setCell ⟨w.heap.size+1,11,none⟩ (.slice none 0 0)).setCell ⟨w.heap.size+1,12,none⟩ (.int .i64 1))=Wz at HRz hT ⊢
  have hbz:=(hbC).size
  refine bodyPost_ret (v:=.agg #[.slice none 0 0,.slice none 0 0,.int .i64 0,.int .i64 0,.slice none 0 0,.slice none 0 0,.slice none 0 0,.slice none 0 0,.int .i64 0,.int .i64 0,.slice none 0 0,.slice none 0 0,.int .i64 1]) (by simp [results,Tryz.results26,go_sem,HRz.1.1,HRz.2.1.1,HRz.2.2.1.1,HRz.2.2.2.1.1,HRz.2.2.2.2.1.1,HRz.2.2.2.2.2.1.1,HRz.2.2.2.2.2.2.1.1,HRz.2.2.2.2.2.2.2.1.1,HRz.2.2.2.2.2.2.2.2.1.1,HRz.2.2.2.2.2.2.2.2.2.1.1,HRz.2.2.2.2.2.2.2.2.2.2.1.1,HRz.2.2.2.2.2.2.2.2.2.2.2.1.1,HRz.2.2.2.2.2.2.2.2.2.2.2.2.1]) rfl (Or.inl ⟨Hn.out,_,_,_,_,_,_,_,_,rfl,no_store (Nat.le_trans hbz hT.size),?_⟩)
  exact(hbC).trans (hT.below (B:=w.heap.size) hbz (fun k e=>by omega))
 ·skip
  have Hs:=hideW (ht.1 rfl)
  clear ht
  obtain⟨⟨y0,-⟩,⟨y1,-⟩,⟨y2,-⟩,⟨y3,-⟩,⟨y4,-⟩,⟨y5,-⟩,⟨y6,-⟩,⟨y7,-⟩,⟨y8,-⟩,⟨y9,-⟩,⟨y10,-⟩,⟨y11,-⟩⟩:=id HPc
  go_wp2_with fail
  clear y0 y1 y2 y3 y4 y5 y6 y7 y8 y9 y10 y11
  refine(HfR.out Hs.out w5 hbC).mono ?_
  rintro e w6 ⟨hcase,hb6⟩
  have hbD:=below_next hbC hb6
  have HPd:=HPc.below hb6
  have HR6:=HR3.below hb6
  have hz6:w.heap.size+2≤w6.heap.size:=by have:=hb5.size; have:=hb6.size; omega
  clear HPc HR3
  rcases hcase with⟨rfl,hA⟩ | ⟨rfl,hA⟩
  rotate_left
  ·have Hn:=hideW hA
   clear hA
   go_wp2_with fail
   refine(codeOf_any p i hi7 w6 (HE.out.below hbD)).mono ?_
   rintro e w7 ⟨rfl,hb7⟩
   have hbF:=below_next hbD hb7
   have HR3:=HR6.below hb7
   have HR4:=hideW HR3
   obtain⟨⟨r0,g0⟩,⟨r1,g1⟩,⟨r2,g2⟩,⟨r3,g3⟩,⟨r4,g4⟩,⟨r5,g5⟩,⟨r6,g6⟩,⟨r7,g7⟩,⟨r8,g8⟩,⟨r9,g9⟩,⟨r10,g10⟩,⟨r11,g11⟩,⟨r12,g12⟩⟩:=HR3
   go_wp2_with fail
   have HRz:Box13 (((((((((((((w7.setCell ⟨w.heap.size+1,0,none⟩ (.slice none 0 0)).setCell ⟨w.heap.size+1,1,none⟩ (.slice none 0 0)).setCell ⟨w.heap.size+1,2,none⟩ (.int .i64 0)).setCell ⟨w.heap.size+1,3,none⟩ (.int .i64 0)).setCell ⟨w.heap.size+1,4,none⟩ (.slice none 0 0)).setCell ⟨w.heap.size+1,5,none⟩ (.slice none 0 0)).setCell ⟨w.heap.size+1,6,none⟩ (.slice none 0 0)).setCell ⟨w.heap.size+1,7,none⟩ (.slice none 0 0)).setCell ⟨w.heap.size+1,8,none⟩ (.int .i64 0)).setCell ⟨w.heap.size+1,9,none⟩ (.int .i64 0)).setCell ⟨w.heap.size+1,10,none⟩ (.slice none 0 0)).setCell ⟨w.heap.size+1,11,none⟩ (.slice none 0 0)).setCell ⟨w.heap.size+1,12,none⟩ (.int .i64 (errC i))) (w.heap.size+1) (.slice none 0 0) (.slice none 0 0) (.int .i64 0) (.int .i64 0) (.slice none 0 0) (.slice none 0 0) (.slice none 0 0) (.slice none 0 0) (.int .i64 0) (.int .i64 0) (.slice none 0 0) (.slice none 0 0) (.int .i64 (errC i)):=HR4.out.put (.slice none 0 0) (.slice none 0 0) (.int .i64 0) (.int .i64 0) (.slice none 0 0) (.slice none 0 0) (.slice none 0 0) (.slice none 0 0) (.int .i64 0) (.int .i64 0) (.slice none 0 0) (.slice none 0 0) (.int .i64 (errC i))
   have hT:Turned (fun k=>k=w.heap.size+1) w7 (((((((((((((w7.setCell ⟨w.heap.size+1,0,none⟩ (.slice none 0 0)).setCell ⟨w.heap.size+1,1,none⟩ (.slice none 0 0)).setCell ⟨w.heap.size+1,2,none⟩ (.int .i64 0)).setCell ⟨w.heap.size+1,3,none⟩ (.int .i64 0)).setCell ⟨w.heap.size+1,4,none⟩ (.slice none 0 0)).setCell ⟨w.heap.size+1,5,none⟩ (.slice none 0 0)).setCell ⟨w.heap.size+1,6,none⟩ (.slice none 0 0)).setCell ⟨w.heap.size+1,7,none⟩ (.slice none 0 0)).setCell ⟨w.heap.size+1,8,none⟩ (.int .i64 0)).setCell ⟨w.heap.size+1,9,none⟩ (.int .i64 0)).setCell ⟨w.heap.size+1,10,none⟩ (.slice none 0 0)).setCell ⟨w.heap.size+1,11,none⟩ (.slice none 0 0)).setCell ⟨w.heap.size+1,12,none⟩ (.int .i64 (errC i))):=Turned.put13 w7 (w.heap.size+1) (.slice none 0 0) (.slice none 0 0) (.int .i64 0) (.int .i64 0) (.slice none 0 0) (.slice none 0 0) (.slice none 0 0) (.slice none 0 0) (.int .i64 0) (.int .i64 0) (.slice none 0 0) (.slice none 0 0) (.int .i64 (errC i))
   generalize (((((((((((((w7.setCell ⟨w.heap.size+1,0,none⟩ (.slice none 0 0)).setCell ⟨w.heap.size+1,1,none⟩ (.slice none 0 0)).setCell ⟨w.heap.size+1,2,none⟩ (.int .i64 0)).setCell ⟨w.heap.size+1,3,none⟩ (.int .i64 0)).setCell ⟨w.heap.size+1,4,none⟩ (.slice none 0 0)).setCell ⟨w.heap.size+1,5,none⟩ (.slice none 0 0)).setCell ⟨w.heap.size+1,6,none⟩ (.slice none 0 0)).setCell ⟨w.heap.size+1,7,none⟩ (.slice none 0 0)).setCell ⟨w.heap.size+1,8,none⟩ (.int .i64 0)).setCell ⟨w.heap.size+1,9,none⟩ (.int .i64 0)).setCell ⟨w.heap.size+1,10,none⟩ (.slice none 0 0)).setCell ⟨w.heap.size+1,11,none⟩ (.slice none 0 0)).setCell ⟨w.heap.size+1,12,none⟩ (.int .i64 (errC i)))=Wz at HRz hT ⊢
   have hbz:=(hbF).size
   refine bodyPost_ret (v:=.agg #[.slice none 0 0,.slice none 0 0,.int .i64 0,.int .i64 0,.slice none 0 0,.slice none 0 0,.slice none 0 0,.slice none 0 0,.int .i64 0,.int .i64 0,.slice none 0 0,.slice none 0 0,.int .i64 (errC i)]) (by simp [results,Tryz.results26,go_sem,HRz.1.1,HRz.2.1.1,HRz.2.2.1.1,HRz.2.2.2.1.1,HRz.2.2.2.2.1.1,HRz.2.2.2.2.2.1.1,HRz.2.2.2.2.2.2.1.1,HRz.2.2.2.2.2.2.2.1.1,HRz.2.2.2.2.2.2.2.2.1.1,HRz.2.2.2.2.2.2.2.2.2.1.1,HRz.2.2.2.2.2.2.2.2.2.2.1.1,HRz.2.2.2.2.2.2.2.2.2.2.2.1.1,HRz.2.2.2.2.2.2.2.2.2.2.2.2.1]) rfl (Or.inr (Or.inl ⟨Hs.out,Hn.out,_,_,_,_,_,_,_,_,rfl,no_store (Nat.le_trans hbz hT.size),?_⟩))
   exact(hbF).trans (hT.below (B:=w.heap.size) hbz (fun k e=>by omega))
  have HA:=hideW hA
  clear hA
  obtain⟨⟨y0,-⟩,⟨y1,-⟩,⟨y2,-⟩,⟨y3,-⟩,⟨y4,-⟩,⟨y5,-⟩,⟨y6,-⟩,⟨y7,-⟩,⟨y8,-⟩,⟨y9,-⟩,⟨y10,-⟩,⟨y11,-⟩⟩:=id HPd
  go_wp2_with fail
  clear y0 y1 y2 y3 y4 y5 y6 y7 y8 y9 y10 y11
  refine(HfL.out Hs.out HA.out w6 hbD).mono ?_
  rintro e w7 ⟨q0,q1,q2,q3,rfl,ho,hb7⟩
  obtain⟨l0,lc0,l1,lc1,l2,lc2,l3,lc3,rfl,rfl,rfl,rfl⟩:=ho.form
  have hbF:=below_next hbD hb7
  have hal:=below_alloc w7 (.cells #[.slice l0 L.pool.n lc0,.slice l1 L.pool.hn lc1,.int .i64 L.time,.int .i64 L.next,.slice l2 L.sn lc2,.slice l3 L.pn lc3] 39)
  have HL:=Box6.new w7 (.slice l0 L.pool.n lc0) (.slice l1 L.pool.hn lc1) (.int .i64 L.time) (.int .i64 L.next) (.slice l2 L.sn lc2) (.slice l3 L.pn lc3) 39
  have HPn:=(HPd.below hb7).below hal
  have HRn:=(HR6.below hb7).below hal
  have Ho:=hideW (ho.below hal)
  have hbG:=below_next hbF hal
  have hneV:w7.heap.size≠w.heap.size+1:=by have:=hb7.size; have:=hb6.size; have:=hb5.size; have:=hbD.size; omega
  have hszs:w.heap.size≤w6.heap.size∧w6.heap.size≤w7.heap.size∧w7.heap.size<(w7.alloc (.cells #[.slice l0 L.pool.n lc0,.slice l1 L.pool.hn lc1,.int .i64 L.time,.int .i64 L.next,.slice l2 L.sn lc2,.slice l3 L.pn lc3] 39)).heap.size:=⟨hbD.size,hb7.size,by rw [World.size_alloc]; omega⟩
  clear ho HPd HR6
  go_wp2_with fail
  generalize w7.alloc (.cells #[.slice l0 L.pool.n lc0,.slice l1 L.pool.hn lc1,.int .i64 L.time,.int .i64 L.next,.slice l2 L.sn lc2,.slice l3 L.pn lc3] 39)=W8 at HL HPn HRn Ho hbG hszs hal ⊢
  clear hal
  generalize w7.heap.size=V at HL hneV Ho hszs ⊢
  obtain⟨⟨y0,-⟩,⟨y1,-⟩,⟨y2,-⟩,⟨y3,-⟩,⟨y4,-⟩,⟨y5,-⟩,⟨y6,-⟩,⟨y7,-⟩,⟨y8,-⟩,⟨y9,-⟩,⟨y10,-⟩,⟨y11,-⟩⟩:=id HPn
  obtain⟨⟨m0,-⟩,⟨m1,-⟩,⟨m2,-⟩,⟨m3,-⟩,⟨m4,-⟩,⟨m5,-⟩⟩:=id HL
  refine wp_region_held_drew (S:=(fun w'=>w'.cell? ⟨P,0,none⟩=some (.slice a0 S.live.pool.n ac0)∧w'.cell? ⟨P,1,none⟩=some (.slice a1 S.live.pool.hn ac1)∧w'.cell? ⟨P,2,none⟩=some (.int .i64 S.live.time)∧w'.cell? ⟨P,3,none⟩=some (.int .i64 S.live.next)∧w'.cell? ⟨P,4,none⟩=some (.slice a2 S.live.sn ac2)∧w'.cell? ⟨P,5,none⟩=some (.slice a3 S.live.pn ac3)∧w'.cell? ⟨P,6,none⟩=some (.slice c0 S.safe.pool.n cc0)∧w'.cell? ⟨P,7,none⟩=some (.slice c1 S.safe.pool.hn cc1)∧w'.cell? ⟨P,8,none⟩=some (.int .i64 S.safe.time)∧w'.cell? ⟨P,9,none⟩=some (.int .i64 S.safe.next)∧w'.cell? ⟨P,10,none⟩=some (.slice c2 S.safe.sn cc2)∧w'.cell? ⟨P,11,none⟩=some (.slice c3 S.safe.pn cc3)∧w'.cell? ⟨V,0,none⟩=some (.slice l0 L.pool.n lc0)∧w'.cell? ⟨V,1,none⟩=some (.slice l1 L.pool.hn lc1)∧w'.cell? ⟨V,2,none⟩=some (.int .i64 L.time)∧w'.cell? ⟨V,3,none⟩=some (.int .i64 L.next)∧w'.cell? ⟨V,4,none⟩=some (.slice l2 L.sn lc2)∧w'.cell? ⟨V,5,none⟩=some (.slice l3 L.pn lc3))) (by kernel_rfl) ?_ (fun hHeld=>?_)
  ·(try dsimp only)
   go_keep
  have hbd:Below W8.heap.size W8 W8.drew:=(Below.refl _ _).drew
  have hdz:W8.drew.heap.size=W8.heap.size:=rfl
  refine tk 0 (h:=tk 1 (h:=tk 2 (h:=tk 3 (h:=?_))))
  refine rd [4] (rc (fun K hK=>?_) .nil)
  go_simp
  go_at_call 49
  refine(HfS.out Hs.out HA.out _ _ _ _ _ (below_next hbG hbd) ?_).mono ?_
  ·exact(Ho.out.below hbd).at.wide (Nat.zero_le _) (by rw [hdz]; omega)
  rintro e w9 ⟨q0,q1,q2,q3,rfl,hof,hb9⟩
  obtain⟨f0,fc0,f1,fc1,f2,fc2,f3,fc3,rfl,rfl,rfl,rfl⟩:=hof.form
  have hb9':Below W8.heap.size W8 w9:=below_next hbd hb9
  have HP9:=HPn.below hb9'
  have HL9:=HL.below hb9'
  have HR9:=HRn.below hb9'
  have Hof:=hideW hof
  clear hof y0 y1 y2 y3 y4 y5 y6 y7 y8 y9 y10 y11 m0 m1 m2 m3 m4 m5
  obtain⟨⟨y0,-⟩,⟨y1,-⟩,⟨y2,-⟩,⟨y3,-⟩,⟨y4,-⟩,⟨y5,-⟩,⟨y6,-⟩,⟨y7,-⟩,⟨y8,-⟩,⟨y9,-⟩,⟨y10,-⟩,⟨y11,-⟩⟩:=id HP9
  obtain⟨⟨m0,-⟩,⟨m1,-⟩,⟨m2,-⟩,⟨m3,-⟩,⟨m4,-⟩,⟨m5,-⟩⟩:=id HL9
  (try go_wp2_with fail)
  refine hK.out _ _ (by(try dsimp only); go_keep) ?_
  clear hK K hHeld
  intro hHeld
  try simp only [Act.put,s1,s2,s3]
  refine tk 5 (h:=tk 6 (h:=?_))
  have HR10:=hideW HR9
  obtain⟨⟨r0,g0⟩,⟨r1,g1⟩,⟨r2,g2⟩,⟨r3,g3⟩,⟨r4,g4⟩,⟨r5,g5⟩,⟨r6,g6⟩,⟨r7,g7⟩,⟨r8,g8⟩,⟨r9,g9⟩,⟨r10,g10⟩,⟨r11,g11⟩,⟨r12,g12⟩⟩:=HR9
  refine rd [7] (rc (fun K hK=>?_) .nil)
  go_simp
  (try go_wp2_with fail)
  have hT:Turned (fun k=>k=w.heap.size+1) w9 (((((((((((((w9.setCell ⟨w.heap.size+1,0,none⟩ (.slice l0 L.pool.n lc0)).setCell ⟨w.heap.size+1,1,none⟩ (.slice l1 L.pool.hn lc1)).setCell ⟨w.heap.size+1,2,none⟩ (.int .i64 L.time)).setCell ⟨w.heap.size+1,3,none⟩ (.int .i64 L.next)).setCell ⟨w.heap.size+1,4,none⟩ (.slice l2 L.sn lc2)).setCell ⟨w.heap.size+1,5,none⟩ (.slice l3 L.pn lc3)).setCell ⟨w.heap.size+1,6,none⟩ (.slice f0 Sf.pool.n fc0)).setCell ⟨w.heap.size+1,7,none⟩ (.slice f1 Sf.pool.hn fc1)).setCell ⟨w.heap.size+1,8,none⟩ (.int .i64 Sf.time)).setCell ⟨w.heap.size+1,9,none⟩ (.int .i64 Sf.next)).setCell ⟨w.heap.size+1,10,none⟩ (.slice f2 Sf.sn fc2)).setCell ⟨w.heap.size+1,11,none⟩ (.slice f3 Sf.pn fc3)).setCell ⟨w.heap.size+1,12,none⟩ (.int .i64 0)):=Turned.put13 w9 (w.heap.size+1) (.slice l0 L.pool.n lc0) (.slice l1 L.pool.hn lc1) (.int .i64 L.time) (.int .i64 L.next) (.slice l2 L.sn lc2) (.slice l3 L.pn lc3) (.slice f0 Sf.pool.n fc0) (.slice f1 Sf.pool.hn fc1) (.int .i64 Sf.time) (.int .i64 Sf.next) (.slice f2 Sf.sn fc2) (.slice f3 Sf.pn fc3) (.int .i64 0)
  obtain⟨⟨y0,-⟩,⟨y1,-⟩,⟨y2,-⟩,⟨y3,-⟩,⟨y4,-⟩,⟨y5,-⟩,⟨y6,-⟩,⟨y7,-⟩,⟨y8,-⟩,⟨y9,-⟩,⟨y10,-⟩,⟨y11,-⟩⟩:=HP9.turned hT hne
  obtain⟨⟨m0,-⟩,⟨m1,-⟩,⟨m2,-⟩,⟨m3,-⟩,⟨m4,-⟩,⟨m5,-⟩⟩:=HL9.turned hT hneV
  refine hK.out _ _ (by(try dsimp only); go_keep) ?_
  clear hK K hHeld
  intro hHeld
  try simp only [Act.put,s1,s2,s3]
  clear hT
  refine wpAnyH_done (by kernel_rfl) ?_ _
  go_wp2_with fail
  have HRz:Box13 (((((((((((((w9.setCell ⟨w.heap.size+1,0,none⟩ (.slice l0 L.pool.n lc0)).setCell ⟨w.heap.size+1,1,none⟩ (.slice l1 L.pool.hn lc1)).setCell ⟨w.heap.size+1,2,none⟩ (.int .i64 L.time)).setCell ⟨w.heap.size+1,3,none⟩ (.int .i64 L.next)).setCell ⟨w.heap.size+1,4,none⟩ (.slice l2 L.sn lc2)).setCell ⟨w.heap.size+1,5,none⟩ (.slice l3 L.pn lc3)).setCell ⟨w.heap.size+1,6,none⟩ (.slice f0 Sf.pool.n fc0)).setCell ⟨w.heap.size+1,7,none⟩ (.slice f1 Sf.pool.hn fc1)).setCell ⟨w.heap.size+1,8,none⟩ (.int .i64 Sf.time)).setCell ⟨w.heap.size+1,9,none⟩ (.int .i64 Sf.next)).setCell ⟨w.heap.size+1,10,none⟩ (.slice f2 Sf.sn fc2)).setCell ⟨w.heap.size+1,11,none⟩ (.slice f3 Sf.pn fc3)).setCell ⟨w.heap.size+1,12,none⟩ (.int .i64 0)) (w.heap.size+1) (.slice l0 L.pool.n lc0) (.slice l1 L.pool.hn lc1) (.int .i64 L.time) (.int .i64 L.next) (.slice l2 L.sn lc2) (.slice l3 L.pn lc3) (.slice f0 Sf.pool.n fc0) (.slice f1 Sf.pool.hn fc1) (.int .i64 Sf.time) (.int .i64 Sf.next) (.slice f2 Sf.sn fc2) (.slice f3 Sf.pn fc3) (.int .i64 0):=HR10.out.put (.slice l0 L.pool.n lc0) (.slice l1 L.pool.hn lc1) (.int .i64 L.time) (.int .i64 L.next) (.slice l2 L.sn lc2) (.slice l3 L.pn lc3) (.slice f0 Sf.pool.n fc0) (.slice f1 Sf.pool.hn fc1) (.int .i64 Sf.time) (.int .i64 Sf.next) (.slice f2 Sf.sn fc2) (.slice f3 Sf.pn fc3) (.int .i64 0)
  have hT:Turned (fun k=>k=w.heap.size+1) w9 (((((((((((((w9.setCell ⟨w.heap.size+1,0,none⟩ (.slice l0 L.pool.n lc0)).setCell ⟨w.heap.size+1,1,none⟩ (.slice l1 L.pool.hn lc1)).setCell ⟨w.heap.size+1,2,none⟩ (.int .i64 L.time)).setCell ⟨w.heap.size+1,3,none⟩ (.int .i64 L.next)).setCell ⟨w.heap.size+1,4,none⟩ (.slice l2 L.sn lc2)).setCell ⟨w.heap.size+1,5,none⟩ (.slice l3 L.pn lc3)).setCell ⟨w.heap.size+1,6,none⟩ (.slice f0 Sf.pool.n fc0)).setCell ⟨w.heap.size+1,7,none⟩ (.slice f1 Sf.pool.hn fc1)).setCell ⟨w.heap.size+1,8,none⟩ (.int .i64 Sf.time)).setCell ⟨w.heap.size+1,9,none⟩ (.int .i64 Sf.next)).setCell ⟨w.heap.size+1,10,none⟩ (.slice f2 Sf.sn fc2)).setCell ⟨w.heap.size+1,11,none⟩ (.slice f3 Sf.pn fc3)).setCell ⟨w.heap.size+1,12,none⟩ (.int .i64 0)):=Turned.put13 w9 (w.heap.size+1) (.slice l0 L.pool.n lc0) (.slice l1 L.pool.hn lc1) (.int .i64 L.time) (.int .i64 L.next) (.slice l2 L.sn lc2) (.slice l3 L.pn lc3) (.slice f0 Sf.pool.n fc0) (.slice f1 Sf.pool.hn fc1) (.int .i64 Sf.time) (.int .i64 Sf.next) (.slice f2 Sf.sn fc2) (.slice f3 Sf.pn fc3) (.int .i64 0)
  generalize (((((((((((((w9.setCell ⟨w.heap.size+1,0,none⟩ (.slice l0 L.pool.n lc0)).setCell ⟨w.heap.size+1,1,none⟩ (.slice l1 L.pool.hn lc1)).setCell ⟨w.heap.size+1,2,none⟩ (.int .i64 L.time)).setCell ⟨w.heap.size+1,3,none⟩ (.int .i64 L.next)).setCell ⟨w.heap.size+1,4,none⟩ (.slice l2 L.sn lc2)).setCell ⟨w.heap.size+1,5,none⟩ (.slice l3 L.pn lc3)).setCell ⟨w.heap.size+1,6,none⟩ (.slice f0 Sf.pool.n fc0)).setCell ⟨w.heap.size+1,7,none⟩ (.slice f1 Sf.pool.hn fc1)).setCell ⟨w.heap.size+1,8,none⟩ (.int .i64 Sf.time)).setCell ⟨w.heap.size+1,9,none⟩ (.int .i64 Sf.next)).setCell ⟨w.heap.size+1,10,none⟩ (.slice f2 Sf.sn fc2)).setCell ⟨w.heap.size+1,11,none⟩ (.slice f3 Sf.pn fc3)).setCell ⟨w.heap.size+1,12,none⟩ (.int .i64 0))=Wz at HRz hT ⊢
  have hbz:=below_next hbG hb9'
  have hs1:=hb9'.size
  have hs2:=hT.size
  refine bodyPost_ret (v:=.agg #[.slice l0 L.pool.n lc0,.slice l1 L.pool.hn lc1,.int .i64 L.time,.int .i64 L.next,.slice l2 L.sn lc2,.slice l3 L.pn lc3,.slice f0 Sf.pool.n fc0,.slice f1 Sf.pool.hn fc1,.int .i64 Sf.time,.int .i64 Sf.next,.slice f2 Sf.sn fc2,.slice f3 Sf.pn fc3,.int .i64 0]) (by simp [results,Tryz.results26,go_sem,HRz.1.1,HRz.2.1.1,HRz.2.2.1.1,HRz.2.2.2.1.1,HRz.2.2.2.2.1.1,HRz.2.2.2.2.2.1.1,HRz.2.2.2.2.2.2.1.1,HRz.2.2.2.2.2.2.2.1.1,HRz.2.2.2.2.2.2.2.2.1.1,HRz.2.2.2.2.2.2.2.2.2.1.1,HRz.2.2.2.2.2.2.2.2.2.2.1.1,HRz.2.2.2.2.2.2.2.2.2.2.2.1.1,HRz.2.2.2.2.2.2.2.2.2.2.2.2.1]) rfl (Or.inr (Or.inr ⟨Hs.out,HA.out,_,_,_,_,_,_,_,_,rfl,?_,?_⟩))
  ·refine two_worlds (mid:=W8.heap.size) ?_ ?_ (by omega) (by omega)
   ·exact((Ho.out.below hb9').turned hT (fun k e=>by omega)).wide (by omega) (by omega)
   ·exact(Hof.out.turned hT (fun k e=>by omega)).wide (by rw [hdz]; omega) (by omega)
  ·exact hbz.trans (hT.below (B:=w.heap.size) hbz.size (fun k e=>by omega))
end Go.Proofs.YtihplgckbhnohaaGreatDoor

namespace Go.Proofs.YtihplgckbhnohaaGreatDoor
open Go.RowKit
set_option linter.unusedVariables false
theorem assert_turned(v:Value)(w:World):(Instr.typeAssert (.iface 78 v) 95 62 true).run Tryz.prog w = .ok (.tuple #[.agg #[],.bool false]) w:=by kernel_rfl
set_option maxRecDepth 20000 in
set_option maxHeartbeats 1000000 in
theorem safe_turned(v:Value)(x0 x1 x2 x3:Value)(L:WorldD)(lo' hi':Nat)(v0 v1 v2 v3 u0 u1 u2 u3:Value)(lo hi:Nat)(S:StoreD)(w:World)(hX:WorldAt w lo' hi' x0 x1 x2 x3 L)(h:StoreAt w lo hi v0 v1 v2 v3 u0 u1 u2 u3 S)(b1:poolN S.safe.pool≤1048576)(b2:S.safe.sn≤1048576)(b3:S.safe.pn≤1048576)(b4:DeadsN S.safe) :
  Calls Tryz.prog 49 #[storeV v0 v1 v2 v3 u0 u1 u2 u3 S,.iface 78 v,worldV x0 x1 x2 x3 L] w (NewWorld S.safe w):=by
 obtain⟨l0,lc0,l1,lc1,l2,lc2,l3,lc3,rfl,rfl,rfl,rfl⟩:=hX.form
 obtain⟨a0,ac0,a1,ac1,a2,ac2,a3,ac3,rfl,rfl,rfl,rfl⟩:=h.live.form
 obtain⟨c0,cc0,c1,cc1,c2,cc2,c3,cc3,rfl,rfl,rfl,rfl⟩:=h.safe.form
 have HX:=hideW hX
 have Hp:=hideW h
 clear h hX
 have ha:=below_alloc w (.cells #[.slice a0 S.live.pool.n ac0,.slice a1 S.live.pool.hn ac1,.int .i64 S.live.time,.int .i64 S.live.next,.slice a2 S.live.sn ac2,.slice a3 S.live.pn ac3,.slice c0 S.safe.pool.n cc0,.slice c1 S.safe.pool.hn cc1,.int .i64 S.safe.time,.int .i64 S.safe.next,.slice c2 S.safe.sn cc2,.slice c3 S.safe.pn cc3] 98)
 have hb2:=below_alloc (w.alloc (.cells #[.slice a0 S.live.pool.n ac0,.slice a1 S.live.pool.hn ac1,.int .i64 S.live.time,.int .i64 S.live.next,.slice a2 S.live.sn ac2,.slice a3 S.live.pn ac3,.slice c0 S.safe.pool.n cc0,.slice c1 S.safe.pool.hn cc1,.int .i64 S.safe.time,.int .i64 S.safe.next,.slice c2 S.safe.sn cc2,.slice c3 S.safe.pn cc3] 98)) (.cells #[.slice l0 L.pool.n lc0,.slice l1 L.pool.hn lc1,.int .i64 L.time,.int .i64 L.next,.slice l2 L.sn lc2,.slice l3 L.pn lc3] 39)
 have hb3:=below_alloc ((w.alloc (.cells #[.slice a0 S.live.pool.n ac0,.slice a1 S.live.pool.hn ac1,.int .i64 S.live.time,.int .i64 S.live.next,.slice a2 S.live.sn ac2,.slice a3 S.live.pn ac3,.slice c0 S.safe.pool.n cc0,.slice c1 S.safe.pool.hn cc1,.int .i64 S.safe.time,.int .i64 S.safe.next,.slice c2 S.safe.sn cc2,.slice c3 S.safe.pn cc3] 98)).alloc (.cells #[.slice l0 L.pool.n lc0,.slice l1 L.pool.hn lc1,.int .i64 L.time,.int .i64 L.next,.slice l2 L.sn lc2,.slice l3 L.pn lc3] 39)) (.cells #[.slice none 0 0,.slice none 0 0,.int .i64 0,.int .i64 0,.slice none 0 0,.slice none 0 0] 39)
 have hb:=below_next (below_next ha hb2) hb3
 obtain⟨⟨y0,-⟩,⟨y1,-⟩,⟨y2,-⟩,⟨y3,-⟩,⟨y4,-⟩,⟨y5,-⟩,⟨y6,-⟩,⟨y7,-⟩,⟨y8,-⟩,⟨y9,-⟩,⟨y10,-⟩,⟨y11,-⟩⟩:=((Box12.new w (.slice a0 S.live.pool.n ac0) (.slice a1 S.live.pool.hn ac1) (.int .i64 S.live.time) (.int .i64 S.live.next) (.slice a2 S.live.sn ac2) (.slice a3 S.live.pn ac3) (.slice c0 S.safe.pool.n cc0) (.slice c1 S.safe.pool.hn cc1) (.int .i64 S.safe.time) (.int .i64 S.safe.next) (.slice c2 S.safe.sn cc2) (.slice c3 S.safe.pn cc3) 98).below hb2).below hb3
 obtain⟨⟨m0,-⟩,⟨m1,-⟩,⟨m2,-⟩,⟨m3,-⟩,⟨m4,-⟩,⟨m5,-⟩⟩:=(Box6.new (w.alloc (.cells #[.slice a0 S.live.pool.n ac0,.slice a1 S.live.pool.hn ac1,.int .i64 S.live.time,.int .i64 S.live.next,.slice a2 S.live.sn ac2,.slice a3 S.live.pn ac3,.slice c0 S.safe.pool.n cc0,.slice c1 S.safe.pool.hn cc1,.int .i64 S.safe.time,.int .i64 S.safe.next,.slice c2 S.safe.sn cc2,.slice c3 S.safe.pn cc3] 98)) (.slice l0 L.pool.n lc0) (.slice l1 L.pool.hn lc1) (.int .i64 L.time) (.int .i64 L.next) (.slice l2 L.sn lc2) (.slice l3 L.pn lc3) 39).below hb3
 have HR:=Box6.new ((w.alloc (.cells #[.slice a0 S.live.pool.n ac0,.slice a1 S.live.pool.hn ac1,.int .i64 S.live.time,.int .i64 S.live.next,.slice a2 S.live.sn ac2,.slice a3 S.live.pn ac3,.slice c0 S.safe.pool.n cc0,.slice c1 S.safe.pool.hn cc1,.int .i64 S.safe.time,.int .i64 S.safe.next,.slice c2 S.safe.sn cc2,.slice c3 S.safe.pn cc3] 98)).alloc (.cells #[.slice l0 L.pool.n lc0,.slice l1 L.pool.hn lc1,.int .i64 L.time,.int .i64 L.next,.slice l2 L.sn lc2,.slice l3 L.pn lc3] 39)) (.slice none 0 0) (.slice none 0 0) (.int .i64 0) (.int .i64 0) (.slice none 0 0) (.slice none 0 0) 39
 rw [World.size_alloc] at m0 m1 m2 m3 m4 m5
 rw [World.size_alloc,World.size_alloc] at HR
 have hz:(((w.alloc (.cells #[.slice a0 S.live.pool.n ac0,.slice a1 S.live.pool.hn ac1,.int .i64 S.live.time,.int .i64 S.live.next,.slice a2 S.live.sn ac2,.slice a3 S.live.pn ac3,.slice c0 S.safe.pool.n cc0,.slice c1 S.safe.pool.hn cc1,.int .i64 S.safe.time,.int .i64 S.safe.next,.slice c2 S.safe.sn cc2,.slice c3 S.safe.pn cc3] 98)).alloc (.cells #[.slice l0 L.pool.n lc0,.slice l1 L.pool.hn lc1,.int .i64 L.time,.int .i64 L.next,.slice l2 L.sn lc2,.slice l3 L.pn lc3] 39)).alloc (.cells #[.slice none 0 0,.slice none 0 0,.int .i64 0,.int .i64 0,.slice none 0 0,.slice none 0 0] 39)).heap.size=w.heap.size+3:=by rw [World.size_alloc,World.size_alloc,World.size_alloc]
 have hass:=assert_turned v
 go_enter Tryz.func49,Tryz.ntmps49
 go_wp2_with fail
 clear y0 y1 y2 y3 y4 y5 y6 y7 y8 y9 y10 y11 m0 m1 m2 m3 m4 m5
 generalize ((w.alloc (.cells #[.slice a0 S.live.pool.n ac0,.slice a1 S.live.pool.hn ac1,.int .i64 S.live.time,.int .i64 S.live.next,.slice a2 S.live.sn ac2,.slice a3 S.live.pn ac3,.slice c0 S.safe.pool.n cc0,.slice c1 S.safe.pool.hn cc1,.int .i64 S.safe.time,.int .i64 S.safe.next,.slice c2 S.safe.sn cc2,.slice c3 S.safe.pn cc3] 98)).alloc (.cells #[.slice l0 L.pool.n lc0,.slice l1 L.pool.hn lc1,.int .i64 L.time,.int .i64 L.next,.slice l2 L.sn lc2,.slice l3 L.pn lc3] 39)).alloc (.cells #[.slice none 0 0,.slice none 0 0,.int .i64 0,.int .i64 0,.slice none 0 0,.slice none 0 0] 39)=W2 at hb HR hz ⊢
 clear ha hb2 hb3
 refine(copied_any _ _ _ _ _ _ S.safe W2 (Hp.out.safe.below hb) b1 b2 b3 b4).mono ?_
 rintro e w3 ⟨q0,q1,q2,q3,rfl,ho,hb3⟩
 obtain⟨b0,d0,b1,d1,b2,d2,b3,d3,rfl,rfl,rfl,rfl⟩:=ho.form
 have HR3:=HR.below hb3
 have Ho:=hideW ho
 clear ho HR
 have HRz:=HR3.put (.slice b0 S.safe.pool.n d0) (.slice b1 S.safe.pool.hn d1) (.int .i64 S.safe.time) (.int .i64 S.safe.next) (.slice b2 S.safe.sn d2) (.slice b3 S.safe.pn d3)
 have hT:=Turned.put6 w3 (w.heap.size+1+1) (.slice b0 S.safe.pool.n d0) (.slice b1 S.safe.pool.hn d1) (.int .i64 S.safe.time) (.int .i64 S.safe.next) (.slice b2 S.safe.sn d2) (.slice b3 S.safe.pn d3)
 obtain⟨⟨r0,f0⟩,⟨r1,f1⟩,⟨r2,f2⟩,⟨r3,f3⟩,⟨r4,f4⟩,⟨r5,f5⟩⟩:=HR3
 go_wp2_with fail
 have hbz:=below_next hb hb3
 refine bodyPost_ret (v:=.agg #[.slice b0 S.safe.pool.n d0,.slice b1 S.safe.pool.hn d1,.int .i64 S.safe.time,.int .i64 S.safe.next,.slice b2 S.safe.sn d2,.slice b3 S.safe.pn d3]) (by simp [results,Tryz.results49,go_sem,HRz.1.1,HRz.2.1.1,HRz.2.2.1.1,HRz.2.2.2.1.1,HRz.2.2.2.2.1.1,HRz.2.2.2.2.2.1]) rfl ⟨_,_,_,_,rfl,?_,?_⟩
 ·have:=hT.size
  exact(Ho.out.turned hT (fun k e=>by omega)).wide (by omega) (by omega)
 ·exact hbz.trans (hT.below (B:=w.heap.size) hbz.size (fun k e=>by omega))
end Go.Proofs.YtihplgckbhnohaaGreatDoor
