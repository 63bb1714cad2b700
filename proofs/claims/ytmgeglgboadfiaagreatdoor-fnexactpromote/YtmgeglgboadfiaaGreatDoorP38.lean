/- For every argument that comes in the law FnExactPromote returns true: impl.Promote answers as spec.Promote, every field; it writes into no argument, and its answer owns its memory. The seven errors of the package are as its text lays them. -/
import Derived.Test.YtmgeglgboadfiaaGreatDoorP30
import Derived.Test.YtmgeglgboadfiaaGreatDoorP34
import Derived.Test.YtmgeglgboadfiaaGreatDoorP35
import Derived.Test.YtmgeglgboadfiaaGreatDoorP36
import Derived.Test.YtmgeglgboadfiaaGreatDoorP37
import Derived.Test.YtmgeglgboadfiaaGreatDoorP4
import Derived.Deep.RegionHeld3
import Derived.Test.YtmgeglgboadfiaaGreatDoorP1
import Derived.OpenShut
import Derived.ChangeOld
import Derived.ChangeMaps5
namespace Go.Proofs.YtmgeglgboadfiaaGreatDoor
open Go.ChangeShapes Go.WideShapes Go.ChangeAt Go.RowKit
open Go.ChangeMaps (open_string)
set_option linter.unusedVariables false
set_option maxRecDepth 20000 in
set_option maxHeartbeats 8000000 in
theorem fnExactPromote_walk(p:Nat→Addr)(vx0 vx1 vx2 vx3:Value)(X:WorldD)(name:ByteArray)(w:World)(hx:WorldAt w 0 w.heap.size vx0 vx1 vx2 vx3 X)(hwfx:WorldWf X)(hname:name.size≤maxLen)(hE:Errs w p):Calls Tryz.prog 6 #[worldV vx0 vx1 vx2 vx3 X,.string name] w fun e w'=>e = .returned (.bool true)∧Below w.heap.size w w':=by
 have Hpx:=hideW hx
 have HE:=hideW hE
 have SP:=hideW (show ∀ux0 ux1 ux2 ux3 w',worldN X≤1048576→WorldAt w' 0 w'.heap.size ux0 ux1 ux2 ux3 X→Calls Tryz.prog 20 #[worldV ux0 ux1 ux2 ux3 X,.string name] w' (NewWOut (promoteAns X name) w')from fun ux0 ux1 ux2 ux3 w' hN hAx=>by have hB:=world_bounds hN; exact(specPromote_any ux0 ux1 ux2 ux3 0 w'.heap.size X name w' hAx hB.1 hB.2.1 hB.2.2.1 hB.2.2.2 hname).mono (fun e w2 h=>promoteAns_of h))
 have IM:=hideW (show ∀ux0 ux1 ux2 ux3 w',worldN X≤1048576→Errs w' p→WorldAt w' 0 w'.heap.size ux0 ux1 ux2 ux3 X→Calls Tryz.prog 21 #[worldV ux0 ux1 ux2 ux3 X,.string name] w' (NewWOut (promoteAns X name) w')from fun ux0 ux1 ux2 ux3 w' hN hE' hAx=>by have hB:=world_bounds hN; exact(implPromote_any p ux0 ux1 ux2 ux3 0 w'.heap.size X name w' hE' hAx hwfx.prevs hB.1 hB.2.1 hB.2.2.1 hB.2.2.2 hname (Nat.le_refl _)).mono (fun e w2 h=>promoteAns_of h))
 have HSM:=hideW (show worldN X≤1048576→endW (promoteAns X name).world 1≤1000000000000∧0≤endW (promoteAns X name).world 1 from fun hN=>promoteAns_small hN)
 generalize promoteAns X name=o at SP IM HSM
 obtain⟨sx0a,tx0a,sx0b,tx0b,sx0c,tx0c,sx0d,tx0d,rfl,rfl,rfl,rfl⟩:=hx.form
 clear hE hx hwfx
 unfold maxLen at hname
 by_cases bigname:1048576<name.size
 ·have bigname':(1048576:Int)<(name.size:Int):=by omega
  have ha0:=below_alloc w (.cells #[.slice sx0a X.pool.n tx0a,.slice sx0b X.pool.hn tx0b,.int .i64 X.time,.int .i64 X.next,.slice sx0c X.sn tx0c,.slice sx0d X.pn tx0d] 29)
  have ha:=ha0
  go_enter Tryz.func6,Tryz.ntmps6
  go_wp2
  go_ret
  exact⟨rfl,ha⟩
 have bigname':¬(1048576:Int)<(name.size:Int):=by omega
 have ha0:=below_alloc w (.cells #[.slice sx0a X.pool.n tx0a,.slice sx0b X.pool.hn tx0b,.int .i64 X.time,.int .i64 X.next,.slice sx0c X.sn tx0c,.slice sx0d X.pn tx0d] 29)
 have ha:=ha0
 have hx0:=(Box6.new w (.slice sx0a X.pool.n tx0a) (.slice sx0b X.pool.hn tx0b) (.int .i64 X.time) (.int .i64 X.next) (.slice sx0c X.sn tx0c) (.slice sx0d X.pn tx0d) 29)
 have HX0a:=hideW hx0
 clear hx0
 go_enter Tryz.func6,Tryz.ntmps6
 go_wp2_with fail
 have zz0:(w.alloc (.cells #[.slice sx0a X.pool.n tx0a,.slice sx0b X.pool.hn tx0b,.int .i64 X.time,.int .i64 X.next,.slice sx0c X.sn tx0c,.slice sx0d X.pn tx0d] 29)).heap.size=w.heap.size+1:=by rw [World.size_alloc]
 have ZZ0:=hideW zz0
 clear zz0 ha0
 generalize (w.alloc (.cells #[.slice sx0a X.pool.n tx0a,.slice sx0b X.pool.hn tx0b,.int .i64 X.time,.int .i64 X.next,.slice sx0c X.sn tx0c,.slice sx0d X.pn tx0d] 29))=Wa at ha ZZ0 HX0a ⊢
 refine(szWorld_any _ _ _ _ _ _ X _ _ (Hpx.out.below ha) (by omega) (by omega)).mono ?_
 rintro e c0 ⟨⟨r0,rfl,hr1,hr2,hr3⟩,hbz⟩
 have HX0c0:=hideW (HX0a.out.below hbz)
 have hBc0:=below_next ha hbz
 have HR0:=hideW hr1
 have Zc0:=hideW hbz.size
 clear ha hbz hr1 HX0a
 by_cases hr0:r0<0
 ·go_wp2
  go_ret
  exact⟨rfl,hBc0⟩
 have HN0:=hideW (HR0.out (by omega))
 have HN:=hideW (show worldN X≤1048576 by have n0:=HN0.out; omega)
 have HNx:=hideW (show worldN X≤1048576 by have:=HN.out; omega)
 have hendx:=endW_small (W:=X) (by have:=HNx.out; omega)
 have hge:=HSM.out HN.out
 generalize hgq:endW o.world 1=ge at hge
 have Hge:=hideW hgq
 obtain⟨hge1,hge2⟩:=hge
 have hge0:¬ge<0:=by omega
 have hgg:(ge != ge)=false:=by simp
 clear hgq HSM
 obtain⟨⟨x0,-⟩,⟨x1,-⟩,⟨x2,-⟩,⟨x3,-⟩,⟨x4,-⟩,⟨x5,-⟩⟩:=HX0c0.out
 go_wp2_with fail
 clear x0 x1 x2 x3 x4 x5
 refine(toWorld_any _ _ _ _ _ _ X _ (Hpx.out.below hBc0) HNx.out).mono ?_
 rintro e d0 ⟨p0,p1,p2,p3,rfl,hoA,hb2⟩
 obtain⟨sx2a,tx2a,sx2b,tx2b,sx2c,tx2c,sx2d,tx2d,rfl,rfl,rfl,rfl⟩:=hoA.form
 have HoA:=hideW hoA
 have hBd0:=below_next hBc0 hb2
 have Zd0:=hideW hb2.size
 have HX0d0:=hideW (HX0c0.out.below hb2)
 clear HX0c0
 clear hoA hb2 hBc0
 go_wp2_with fail
 refine(SP.out _ _ _ _ _ HN.out (HoA.out.at.wide (Nat.zero_le _) (Nat.le_refl _))).mono ?_
 rintro e d1 ⟨p0,p1,p2,p3,rfl,hoB,hb3⟩
 obtain⟨so3a,to3a,so3b,to3b,so3c,to3c,so3d,to3d,rfl,rfl,rfl,rfl⟩:=hoB.form
 have hal:=below_alloc d1 (.cells #[.slice so3a o.world.pool.n to3a,.slice so3b o.world.pool.hn to3b,.int .i64 o.world.time,.int .i64 o.world.next,.slice so3c o.world.sn to3c,.slice so3d o.world.pn to3d,.int .i64 o.id,.int .i64 o.many,.int .i64 o.code] 39)
 have hba:=below_next hb3 hal
 have hBd2:=below_next hBd0 hba
 have HVd2:=hideW (Box9.new d1 (.slice so3a o.world.pool.n to3a) (.slice so3b o.world.pool.hn to3b) (.int .i64 o.world.time) (.int .i64 o.world.next) (.slice so3c o.world.sn to3c) (.slice so3d o.world.pn to3d) (.int .i64 o.id) (.int .i64 o.many) (.int .i64 o.code) 39)
 have HAd2:=hideW (hoB.below hal)
 have HX0d2:=hideW (HX0d0.out.below hba)
 clear HX0d0
 have Zd2:=hideW (show d0.heap.size≤d1.heap.size∧d1.heap.size<(d1.alloc (.cells #[.slice so3a o.world.pool.n to3a,.slice so3b o.world.pool.hn to3b,.int .i64 o.world.time,.int .i64 o.world.next,.slice so3c o.world.sn to3c,.slice so3d o.world.pn to3d,.int .i64 o.id,.int .i64 o.many,.int .i64 o.code] 39)).heap.size by have:=hb3.size; rw [World.size_alloc]; omega)
 clear hoB hb3 hal hba hBd0 HoA
 obtain⟨⟨x0,-⟩,⟨x1,-⟩,⟨x2,-⟩,⟨x3,-⟩,⟨x4,-⟩,⟨x5,-⟩⟩:=HX0d2.out
 go_wp2_with fail
 clear x0 x1 x2 x3 x4 x5
 generalize d1.alloc (.cells #[.slice so3a o.world.pool.n to3a,.slice so3b o.world.pool.hn to3b,.int .i64 o.world.time,.int .i64 o.world.next,.slice so3c o.world.sn to3c,.slice so3d o.world.pn to3d,.int .i64 o.id,.int .i64 o.many,.int .i64 o.code] 39)=D2 at hBd2 HVd2 HAd2 Zd2 HX0d2 ⊢
 generalize d1.heap.size=VV at HVd2 HAd2 Zd2 ⊢
 have ZA:=hideW (show w.heap.size+1≤d0.heap.size∧d0.heap.size≤VV∧VV<D2.heap.size by have:=ZZ0.out; have:=Zc0.out; have:=Zd0.out; have:=Zd2.out; omega)
 refine(toWorld_any _ _ _ _ _ _ X _ (Hpx.out.below hBd2) HNx.out).mono ?_
 rintro e f00 ⟨p0,p1,p2,p3,rfl,hoA,hb4⟩
 obtain⟨sx4a,tx4a,sx4b,tx4b,sx4c,tx4c,sx4d,tx4d,rfl,rfl,rfl,rfl⟩:=hoA.form
 have hal:=below_alloc f00 (.cells #[.slice sx4a X.pool.n tx4a,.slice sx4b X.pool.hn tx4b,.int .i64 X.time,.int .i64 X.next,.slice sx4c X.sn tx4c,.slice sx4d X.pn tx4d] 37)
 have hba:=below_next hb4 hal
 have hBf0:=below_next hBd2 hba
 have HX0f0:=hideW (HX0d2.out.below hba)
 have HVf0:=hideW (HVd2.out.below hba)
 have HAf0:=hideW (HAd2.out.below hba)
 clear HX0d2 HVd2 HAd2
 have HY0f0:=hideW (Box6.new f00 (.slice sx4a X.pool.n tx4a) (.slice sx4b X.pool.hn tx4b) (.int .i64 X.time) (.int .i64 X.next) (.slice sx4c X.sn tx4c) (.slice sx4d X.pn tx4d) 37)
 have HO0f0:=hideW (hoA.below hal)
 have Zf0:=hideW (show D2.heap.size≤f00.heap.size∧f00.heap.size<(f00.alloc (.cells #[.slice sx4a X.pool.n tx4a,.slice sx4b X.pool.hn tx4b,.int .i64 X.time,.int .i64 X.next,.slice sx4c X.sn tx4c,.slice sx4d X.pn tx4d] 37)).heap.size by have:=hb4.size; rw [World.size_alloc]; omega)
 clear hoA hb4 hal hba hBd2
 obtain⟨⟨y0,-⟩,⟨y1,-⟩,⟨y2,-⟩,⟨y3,-⟩,⟨y4,-⟩,⟨y5,-⟩⟩:=HY0f0.out
 go_wp2_with fail
 clear y0 y1 y2 y3 y4 y5
 generalize f00.alloc (.cells #[.slice sx4a X.pool.n tx4a,.slice sx4b X.pool.hn tx4b,.int .i64 X.time,.int .i64 X.next,.slice sx4c X.sn tx4c,.slice sx4d X.pn tx4d] 37)=F0 at hBf0 Zf0 HX0f0 HVf0 HAf0 HY0f0 HO0f0 ⊢
 generalize f00.heap.size=VY0 at HY0f0 HO0f0 Zf0 ⊢
 refine(IM.out _ _ _ _ F0 HN.out (HE.out.below hBf0) (HO0f0.out.at.wide (Nat.zero_le _) (by have:=Zf0.out; have:=Zf0.out; omega))).mono ?_
 rintro e g0 ⟨p0,p1,p2,p3,rfl,hoB,hb5⟩
 obtain⟨so9a,to9a,so9b,to9b,so9c,to9c,so9d,to9d,rfl,rfl,rfl,rfl⟩:=hoB.form
 have hal:=below_alloc g0 (.cells #[.slice so9a o.world.pool.n to9a,.slice so9b o.world.pool.hn to9b,.int .i64 o.world.time,.int .i64 o.world.next,.slice so9c o.world.sn to9c,.slice so9d o.world.pn to9d,.int .i64 o.id,.int .i64 o.many,.int .i64 o.code] 39)
 have hba:=below_next hb5 hal
 have hBg1:=below_next hBf0 hba
 have HX0g1:=hideW (HX0f0.out.below hba)
 have HVg1:=hideW (HVf0.out.below hba)
 have HAg1:=hideW (HAf0.out.below hba)
 have HY0g1:=hideW (HY0f0.out.below hba)
 have HO0g1:=hideW (HO0f0.out.below hba)
 clear HX0f0 HVf0 HAf0 HY0f0 HO0f0
 have HGg1:=hideW (Box9.new g0 (.slice so9a o.world.pool.n to9a) (.slice so9b o.world.pool.hn to9b) (.int .i64 o.world.time) (.int .i64 o.world.next) (.slice so9c o.world.sn to9c) (.slice so9d o.world.pn to9d) (.int .i64 o.id) (.int .i64 o.many) (.int .i64 o.code) 39)
 have HDg1:=hideW (hoB.below hal)
 have Zg1:=hideW (show F0.heap.size≤g0.heap.size∧g0.heap.size<(g0.alloc (.cells #[.slice so9a o.world.pool.n to9a,.slice so9b o.world.pool.hn to9b,.int .i64 o.world.time,.int .i64 o.world.next,.slice so9c o.world.sn to9c,.slice so9d o.world.pn to9d,.int .i64 o.id,.int .i64 o.many,.int .i64 o.code] 39)).heap.size by have:=hb5.size; rw [World.size_alloc]; omega)
 clear hoB hb5 hal hba hBf0
 obtain⟨⟨g0,-⟩,⟨g1,-⟩,⟨g2,-⟩,⟨g3,-⟩,⟨g4,-⟩,⟨g5,-⟩,⟨g6,-⟩,⟨g7,-⟩,⟨g8,-⟩⟩:=HGg1.out
 obtain⟨⟨v0,-⟩,⟨v1,-⟩,⟨v2,-⟩,⟨v3,-⟩,⟨v4,-⟩,⟨v5,-⟩,⟨v6,-⟩,⟨v7,-⟩,⟨v8,-⟩⟩:=HVg1.out
 go_wp2_with fail
 clear g0 g1 g2 g3 g4 g5 g6 g7 g8 v0 v1 v2 v3 v4 v5 v6 v7 v8
 generalize g0.alloc (.cells #[.slice so9a o.world.pool.n to9a,.slice so9b o.world.pool.hn to9b,.int .i64 o.world.time,.int .i64 o.world.next,.slice so9c o.world.sn to9c,.slice so9d o.world.pn to9d,.int .i64 o.id,.int .i64 o.many,.int .i64 o.code] 39)=G1 at hBg1 Zg1 HX0g1 HVg1 HAg1 HY0g1 HO0g1 HGg1 HDg1 ⊢
 generalize g0.heap.size=VG at HGg1 HDg1 Zg1 ⊢
 refine(eqWOut_same _ _ _ _ _ _ _ _ _ _ _ _ o G1 HDg1.out.at HAg1.out.at).mono ?_
 rintro e g2 ⟨rfl,hb6⟩
 have hBg2:=below_next hBg1 hb6
 have Zg2:=hideW hb6.size
 have HX0g2:=hideW (HX0g1.out.below hb6)
 have HVg2:=hideW (HVg1.out.below hb6)
 have HAg2:=hideW (HAg1.out.below hb6)
 have HY0g2:=hideW (HY0g1.out.below hb6)
 have HO0g2:=hideW (HO0g1.out.below hb6)
 have HGg2:=hideW (HGg1.out.below hb6)
 have HDg2:=hideW (HDg1.out.below hb6)
 clear HX0g1 HVg1 HAg1 HY0g1 HO0g1 HGg1 HDg1
 clear hb6 hBg1
 obtain⟨⟨x0,-⟩,⟨x1,-⟩,⟨x2,-⟩,⟨x3,-⟩,⟨x4,-⟩,⟨x5,-⟩⟩:=HX0g2.out
 obtain⟨⟨y0,-⟩,⟨y1,-⟩,⟨y2,-⟩,⟨y3,-⟩,⟨y4,-⟩,⟨y5,-⟩⟩:=HY0g2.out
 go_wp2_with fail
 go_region_held3 (fun w'=>w'.cell? ⟨w.heap.size,0,none⟩=some (.slice sx0a X.pool.n tx0a)∧w'.cell? ⟨w.heap.size,1,none⟩=some (.slice sx0b X.pool.hn tx0b)∧w'.cell? ⟨w.heap.size,2,none⟩=some (.int .i64 X.time)∧w'.cell? ⟨w.heap.size,3,none⟩=some (.int .i64 X.next)∧w'.cell? ⟨w.heap.size,4,none⟩=some (.slice sx0c X.sn tx0c)∧w'.cell? ⟨w.heap.size,5,none⟩=some (.slice sx0d X.pn tx0d)∧w'.cell? ⟨VY0,0,none⟩=some (.slice sx4a X.pool.n tx4a)∧w'.cell? ⟨VY0,1,none⟩=some (.slice sx4b X.pool.hn tx4b)∧w'.cell? ⟨VY0,2,none⟩=some (.int .i64 X.time)∧w'.cell? ⟨VY0,3,none⟩=some (.int .i64 X.next)∧w'.cell? ⟨VY0,4,none⟩=some (.slice sx4c X.sn tx4c)∧w'.cell? ⟨VY0,5,none⟩=some (.slice sx4d X.pn tx4d)) (go_keep)
  (first
   | (go_at_call 9; refine(toWorld_any _ _ _ _ 0 w.heap.size X _ ?_ HNx.out).mono ?_; (exact Hpx.out.below hBg2.drew); rintro e w7 ⟨p0,p1,p2,p3,rfl,ho7,hb7⟩; obtain⟨sx7a,tx7a,sx7b,tx7b,sx7c,tx7c,sx7d,tx7d,rfl,rfl,rfl,rfl⟩:=ho7.form; have hb7':=below_undrew hb7; obtain⟨⟨q0,-⟩,⟨q1,-⟩,⟨q2,-⟩,⟨q3,-⟩,⟨q4,-⟩,⟨q5,-⟩⟩:=HX0g2.out.below hb7'; obtain⟨⟨r0,-⟩,⟨r1,-⟩,⟨r2,-⟩,⟨r3,-⟩,⟨r4,-⟩,⟨r5,-⟩⟩:=HY0g2.out.below hb7')
   | (go_at_call 12; refine(eqWorld_same _ _ _ _ _ _ _ _ _ _ _ _ X _ (HO0g2.out.at.below hb7') ho7.at).mono ?_; rintro e k0 ⟨rfl,hb8⟩; have hb8':=below_next hb7' hb8; obtain⟨⟨s0,-⟩,⟨s1,-⟩,⟨s2,-⟩,⟨s3,-⟩,⟨s4,-⟩,⟨s5,-⟩⟩:=HX0g2.out.below hb8'; obtain⟨⟨t0,-⟩,⟨t1,-⟩,⟨t2,-⟩,⟨t3,-⟩,⟨t4,-⟩,⟨t5,-⟩⟩:=HY0g2.out.below hb8'))
 have hBk0:=below_next hBg2 hb8'
 have Zk0:=hideW hb8'.size
 have HX0k0:=hideW (HX0g2.out.below hb8')
 have HVk0:=hideW (HVg2.out.below hb8')
 have HAk0:=hideW (HAg2.out.below hb8')
 have HY0k0:=hideW (HY0g2.out.below hb8')
 have HO0k0:=hideW (HO0g2.out.below hb8')
 have HGk0:=hideW (HGg2.out.below hb8')
 have HDk0:=hideW (HDg2.out.below hb8')
 clear HX0g2 HVg2 HAg2 HY0g2 HO0g2 HGg2 HDg2
 clear x0 x1 x2 x3 x4 x5 y0 y1 y2 y3 y4 y5 q0 q1 q2 q3 q4 q5 r0 r1 r2 r3 r4 r5 s0 s1 s2 s3 s4 s5 t0 t1 t2 t3 t4 t5 hb7 hb7' hb8 hb8' ho7 hBg2
 obtain⟨⟨y0,-⟩,⟨y1,-⟩,⟨y2,-⟩,⟨y3,-⟩,⟨y4,-⟩,⟨y5,-⟩⟩:=HY0k0.out
 go_wp2_with fail
 clear y0 y1 y2 y3 y4 y5
 have hk0:endW X 1≤1000000000000∧0≤endW X 1:=hendx
 refine(markWorld_any _ _ _ _ _ _ X 1 _ HO0k0.out (by omega) hk0.1).mono ?_
 rintro e m0 ⟨rfl,-,htm⟩
 have q0:=ZZ0.out
 have q1:=Zc0.out
 have q2:=Zd0.out
 have q3:=Zd2.out
 have q4:=ZA.out
 have q5:=Zf0.out
 have q6:=Zg1.out
 have q7:=Zg2.out
 have q8:=Zk0.out
 have hBm0:Below w.heap.size w m0:=hBk0.trans (htm.below (B:=w.heap.size) (by omega) (fun k hk=>by omega))
 have HX0m0:=hideW (HX0k0.out.turned htm (fun hk=>by omega))
 have HVm0:=hideW (HVk0.out.turned htm (fun hk=>by omega))
 have HAm0:=hideW (HAk0.out.turned htm (fun k hk=>by omega))
 have HGm0:=hideW (HGk0.out.turned htm (fun hk=>by omega))
 have HDm0:=hideW (HDk0.out.turned htm (fun k hk=>by omega))
 have Zm0:=hideW htm.size
 clear htm hBk0 HX0k0 HVk0 HAk0 HY0k0 HO0k0 HGk0 HDk0 q0 q1 q2 q3 q4 q5 q6 q7 q8
 have hkn0:¬endW X 1<0:=by omega
 generalize endW X 1=kk at *
 obtain⟨⟨g0,-⟩,⟨g1,-⟩,⟨g2,-⟩,⟨g3,-⟩,⟨g4,-⟩,⟨g5,-⟩,⟨g6,-⟩,⟨g7,-⟩,⟨g8,-⟩⟩:=HGm0.out
 obtain⟨⟨v0,-⟩,⟨v1,-⟩,⟨v2,-⟩,⟨v3,-⟩,⟨v4,-⟩,⟨v5,-⟩,⟨v6,-⟩,⟨v7,-⟩,⟨v8,-⟩⟩:=HVm0.out
 go_wp2_with fail
 clear g0 g1 g2 g3 g4 g5 g6 g7 g8 v0 v1 v2 v3 v4 v5 v6 v7 v8
 refine(eqWOut_same _ _ _ _ _ _ _ _ _ _ _ _ o m0 HDm0.out.at HAm0.out.at).mono ?_
 rintro e n0 ⟨rfl,hb9⟩
 have hBn0:=below_next hBm0 hb9
 have Zn0:=hideW hb9.size
 have HX0n0:=hideW (HX0m0.out.below hb9)
 have HVn0:=hideW (HVm0.out.below hb9)
 have HAn0:=hideW (HAm0.out.below hb9)
 have HGn0:=hideW (HGm0.out.below hb9)
 have HDn0:=hideW (HDm0.out.below hb9)
 clear HX0m0 HVm0 HAm0 HGm0 HDm0
 clear hb9 hBm0
 obtain⟨⟨g0,-⟩,⟨g1,-⟩,⟨g2,-⟩,⟨g3,-⟩,⟨g4,-⟩,⟨g5,-⟩,⟨g6,-⟩,⟨g7,-⟩,⟨g8,-⟩⟩:=HGn0.out
 go_wp2_with fail
 clear g0 g1 g2 g3 g4 g5 g6 g7 g8
 refine(markWOut_any _ _ _ _ _ _ o 1 n0 HDn0.out (by have q0:=ZZ0.out; have q1:=Zc0.out; have q2:=Zd0.out; have q3:=Zd2.out; have q4:=ZA.out; have q5:=Zf0.out; have q6:=Zg1.out; have q7:=Zg2.out; have q8:=Zk0.out; have q9:=Zm0.out; have q10:=Zn0.out; omega) (by omega) (by rw [Hge.out]; exact hge1)).mono ?_
 rintro e n1 ⟨rfl,hDn,htm⟩
 rw [Hge.out]
 have q0:=ZZ0.out
 have q1:=Zc0.out
 have q2:=Zd0.out
 have q3:=Zd2.out
 have q4:=ZA.out
 have q5:=Zf0.out
 have q6:=Zg1.out
 have q7:=Zg2.out
 have q8:=Zk0.out
 have q9:=Zm0.out
 have q10:=Zn0.out
 have hBn1:Below w.heap.size w n1:=hBn0.trans (htm.below (B:=w.heap.size) (by omega) (fun k hk=>by omega))
 have HX0n1:=hideW (HX0n0.out.turned htm (fun hk=>by omega))
 have HVn1:=hideW (HVn0.out.turned htm (fun hk=>by omega))
 have HAn1:=hideW (HAn0.out.turned htm (fun k hk=>by omega))
 have HGn1:=hideW (HGn0.out.turned htm (fun hk=>by omega))
 have HDn1:=hideW hDn.at
 clear hDn htm hBn0 HX0n0 HVn0 HAn0 HGn0 HDn0 q0 q1 q2 q3 q4 q5 q6 q7 q8 q9 q10
 obtain⟨⟨g0,-⟩,⟨g1,-⟩,⟨g2,-⟩,⟨g3,-⟩,⟨g4,-⟩,⟨g5,-⟩,⟨g6,-⟩,⟨g7,-⟩,⟨g8,-⟩⟩:=HGn1.out
 go_wp2_with fail
 clear g0 g1 g2 g3 g4 g5 g6 g7 g8
 refine(heldWOut_any _ _ _ _ _ _ o 1 n1 HDn1.out (by omega) (by rw [Hge.out]; exact hge1)).mono ?_
 rintro e n2 ⟨rfl,hb9⟩
 rw [Hge.out]
 have hBn2:=below_next hBn1 hb9
 have HX0n2:=hideW (HX0n1.out.below hb9)
 have HVn2:=hideW (HVn1.out.below hb9)
 have HAn2:=hideW (HAn1.out.below hb9)
 have HGn2:=hideW (HGn1.out.below hb9)
 have HDn2:=hideW (HDn1.out.below hb9)
 clear HX0n1 HVn1 HAn1 HGn1 HDn1
 clear hb9 hBn1
 obtain⟨⟨x0,-⟩,⟨x1,-⟩,⟨x2,-⟩,⟨x3,-⟩,⟨x4,-⟩,⟨x5,-⟩⟩:=HX0n2.out
 go_wp2_with fail
 clear x0 x1 x2 x3 x4 x5
 refine(toWorld_any _ _ _ _ _ _ X _ (Hpx.out.below hBn2) HNx.out).mono ?_
 rintro e n3 ⟨p0,p1,p2,p3,rfl,hoA,hb2⟩
 obtain⟨sx13a,tx13a,sx13b,tx13b,sx13c,tx13c,sx13d,tx13d,rfl,rfl,rfl,rfl⟩:=hoA.form
 have HoA:=hideW hoA
 have hBn3:=below_next hBn2 hb2
 have HX0n3:=hideW (HX0n2.out.below hb2)
 have HVn3:=hideW (HVn2.out.below hb2)
 have HAn3:=hideW (HAn2.out.below hb2)
 have HGn3:=hideW (HGn2.out.below hb2)
 have HDn3:=hideW (HDn2.out.below hb2)
 clear HX0n2 HVn2 HAn2 HGn2 HDn2
 clear hoA hb2 hBn2
 go_wp2_with fail
 refine(IM.out _ _ _ _ _ HN.out (HE.out.below hBn3) (HoA.out.at.wide (Nat.zero_le _) (Nat.le_refl _))).mono ?_
 rintro e n4 ⟨p0,p1,p2,p3,rfl,hoB,hb3⟩
 obtain⟨so14a,to14a,so14b,to14b,so14c,to14c,so14d,to14d,rfl,rfl,rfl,rfl⟩:=hoB.form
 have hal:=below_alloc n4 (.cells #[.slice so14a o.world.pool.n to14a,.slice so14b o.world.pool.hn to14b,.int .i64 o.world.time,.int .i64 o.world.next,.slice so14c o.world.sn to14c,.slice so14d o.world.pn to14d,.int .i64 o.id,.int .i64 o.many,.int .i64 o.code] 39)
 have hba:=below_next hb3 hal
 have hBn5:=below_next hBn3 hba
 have HHn5:=hideW (Box9.new n4 (.slice so14a o.world.pool.n to14a) (.slice so14b o.world.pool.hn to14b) (.int .i64 o.world.time) (.int .i64 o.world.next) (.slice so14c o.world.sn to14c) (.slice so14d o.world.pn to14d) (.int .i64 o.id) (.int .i64 o.many) (.int .i64 o.code) 39)
 have HCn5:=hideW (hoB.below hal)
 have HX0n5:=hideW (HX0n3.out.below hba)
 have HVn5:=hideW (HVn3.out.below hba)
 have HAn5:=hideW (HAn3.out.below hba)
 have HGn5:=hideW (HGn3.out.below hba)
 have HDn5:=hideW (HDn3.out.below hba)
 clear HX0n3 HVn3 HAn3 HGn3 HDn3
 clear hoB hb3 hal hba hBn3 HoA
 obtain⟨⟨h0,-⟩,⟨h1,-⟩,⟨h2,-⟩,⟨h3,-⟩,⟨h4,-⟩,⟨h5,-⟩,⟨h6,-⟩,⟨h7,-⟩,⟨h8,-⟩⟩:=HHn5.out
 obtain⟨⟨v0,-⟩,⟨v1,-⟩,⟨v2,-⟩,⟨v3,-⟩,⟨v4,-⟩,⟨v5,-⟩,⟨v6,-⟩,⟨v7,-⟩,⟨v8,-⟩⟩:=HVn5.out
 go_wp2_with fail
 clear h0 h1 h2 h3 h4 h5 h6 h7 h8 v0 v1 v2 v3 v4 v5 v6 v7 v8
 generalize n4.alloc (.cells #[.slice so14a o.world.pool.n to14a,.slice so14b o.world.pool.hn to14b,.int .i64 o.world.time,.int .i64 o.world.next,.slice so14c o.world.sn to14c,.slice so14d o.world.pn to14d,.int .i64 o.id,.int .i64 o.many,.int .i64 o.code] 39)=N5 at hBn5 HHn5 HCn5 HX0n5 HVn5 HAn5 HGn5 HDn5 ⊢
 refine(eqWOut_same _ _ _ _ _ _ _ _ _ _ _ _ o _ HCn5.out.at HAn5.out.at).mono ?_
 rintro e n6 ⟨rfl,hb9⟩
 have hBn6:=below_next hBn5 hb9
 have HGn6:=hideW (HGn5.out.below hb9)
 have HDn6:=hideW (HDn5.out.below hb9)
 clear hb9 hBn5 HHn5 HCn5 HX0n5 HVn5 HAn5 HGn5 HDn5
 obtain⟨⟨g0,-⟩,⟨g1,-⟩,⟨g2,-⟩,⟨g3,-⟩,⟨g4,-⟩,⟨g5,-⟩,⟨g6,-⟩,⟨g7,-⟩,⟨g8,-⟩⟩:=HGn6.out
 go_wp2_with fail
 clear g0 g1 g2 g3 g4 g5 g6 g7 g8
 refine(heldWOut_any _ _ _ _ _ _ o 1 n6 HDn6.out (by omega) (by rw [Hge.out]; exact hge1)).mono ?_
 rintro e n7 ⟨rfl,hb9⟩
 rw [Hge.out]
 have hBn7:=below_next hBn6 hb9
 clear hb9 hBn6 HGn6 HDn6
 go_wp2
 go_ret
 exact⟨rfl,hBn7⟩
end Go.Proofs.YtmgeglgboadfiaaGreatDoor
