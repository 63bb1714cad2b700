/- For every argument that comes in the law FnExactStoreTurn returns true: impl.StoreTurn answers as spec.StoreTurn, every field; it writes into no argument, and its answer owns its memory. The seven errors of the package are as its text lays them. -/
import Derived.Test.YtihplgckbhnohaaGreatDoorG45
import Derived.Test.YtihplgckbhnohaaGreatDoorG46
import Derived.Test.YtihplgckbhnohaaGreatDoorG32
import Derived.Test.YtihplgckbhnohaaGreatDoorG25
import Derived.Test.YtihplgckbhnohaaGreatDoorG29
import Derived.Test.YtihplgckbhnohaaGreatDoorG28
import Derived.Test.YtihplgckbhnohaaGreatDoorG3
import Derived.Test.YtihplgckbhnohaaGreatDoorG1
import Derived.OpenShut
import Derived.ChangeOld
namespace Go.Proofs.YtihplgckbhnohaaGreatDoor
open Go.ChangeShapes Go.WideShapes Go.ChangeAt Go.RowKit
set_option linter.unusedVariables false
open Classical in
noncomputable def turnAns(S:StoreD)(X:WorldD):SOutD:=if StoreOk S then(if StoreOk ⟨X,S.safe⟩then⟨⟨X,S.safe⟩,0⟩else refuseS 7)else refuseS 1
theorem turnAns_small{S:StoreD}{X:WorldD}(hN:storeN S+worldN X≤1048576):endSt (turnAns S X).store 1≤1000000000000∧0≤endSt (turnAns S X).store 1:=by
 have hz:endSt (refuseS 1).store 1≤1000000000000∧0≤endSt (refuseS 1).store 1:=endSt_small (by decide)
 unfold turnAns
 by_cases a:StoreOk S
 ·rw [if_pos a]
  by_cases b:StoreOk ⟨X,S.safe⟩
  ·rw [if_pos b]
   refine endSt_small ?_
   unfold storeN at hN ⊢
   dsimp only
   omega
  ·rw [if_neg b]; exact hz
 ·rw [if_neg a]; exact hz
set_option maxRecDepth 20000 in
set_option maxHeartbeats 8000000 in
theorem fnExactStoreTurn_walk(p:Nat→Addr)(vs0 vs1 vs2 vs3 vs4 vs5 vs6 vs7:Value)(S:StoreD)(vx0 vx1 vx2 vx3:Value)(X:WorldD)(w:World)(hs:StoreAt w 0 w.heap.size vs0 vs1 vs2 vs3 vs4 vs5 vs6 vs7 S)(hwfs:WorldWf S.live)(hwgs:WorldWf S.safe)(hx:WorldAt w 0 w.heap.size vx0 vx1 vx2 vx3 X)(hwfx:WorldWf X)(hE:Errs w p):Calls Tryz.prog 5 #[storeV vs0 vs1 vs2 vs3 vs4 vs5 vs6 vs7 S,worldV vx0 vx1 vx2 vx3 X] w fun e w'=>e = .returned (.bool true)∧Below w.heap.size w w':=by
 have Hps:=hideW hs
 have Hpx:=hideW hx
 have HE:=hideW hE
 have SP:=hideW (show ∀us0 us1 us2 us3 us4 us5 us6 us7 ux0 ux1 ux2 ux3 w',storeN S+worldN X≤1048576→StoreAt w' 0 w'.heap.size us0 us1 us2 us3 us4 us5 us6 us7 S→WorldAt w' 0 w'.heap.size ux0 ux1 ux2 ux3 X→Calls Tryz.prog 18 #[storeV us0 us1 us2 us3 us4 us5 us6 us7 S,worldV ux0 ux1 ux2 ux3 X] w' (NewSOut (turnAns S X) w')from fun us0 us1 us2 us3 us4 us5 us6 us7 ux0 ux1 ux2 ux3 w' hN hAs hAx=>by refine(specStoreTurn_any ux0 ux1 ux2 ux3 X us0 us1 us2 us3 us4 us5 us6 us7 0 w'.heap.size S w' hAx hAs (world_bounds (Nat.le_trans (Nat.le_add_left _ _) hN)).1 (world_bounds (Nat.le_trans (Nat.le_add_left _ _) hN)).2.1 (world_bounds (Nat.le_trans (Nat.le_add_left _ _) hN)).2.2.1 (world_bounds (Nat.le_trans (Nat.le_add_left _ _) hN)).2.2.2 (store_bounds (Nat.le_trans (Nat.le_add_right _ _) hN)).2.1 (store_bounds (Nat.le_trans (Nat.le_add_right _ _) hN)).2.2.1 (store_bounds (Nat.le_trans (Nat.le_add_right _ _) hN)).2.2.2.1 (store_bounds (Nat.le_trans (Nat.le_add_right _ _) hN)).2.2.2.2).mono ?_; intro e w2 h; rcases h with⟨a,hn⟩ | ⟨a,b,hn⟩ | ⟨a,b,hn⟩; (unfold turnAns; rw [if_neg a]; exact hn); (unfold turnAns; rw [if_pos a,if_neg b]; exact hn); (unfold turnAns; rw [if_pos a,if_pos b]; exact hn))
 have IM:=hideW (show ∀us0 us1 us2 us3 us4 us5 us6 us7 ux0 ux1 ux2 ux3 w',storeN S+worldN X≤1048576→Errs w' p→StoreAt w' 0 w'.heap.size us0 us1 us2 us3 us4 us5 us6 us7 S→WorldAt w' 0 w'.heap.size ux0 ux1 ux2 ux3 X→Calls Tryz.prog 20 #[storeV us0 us1 us2 us3 us4 us5 us6 us7 S,worldV ux0 ux1 ux2 ux3 X] w' (NewSOut (turnAns S X) w')from fun us0 us1 us2 us3 us4 us5 us6 us7 ux0 ux1 ux2 ux3 w' hN hE' hAs hAx=>by refine(implStoreTurn_any p ux0 ux1 ux2 ux3 X us0 us1 us2 us3 us4 us5 us6 us7 0 w'.heap.size S w' hE' hAx hAs hwfs.prevs hwgs.prevs hwfx.prevs (world_bounds (Nat.le_trans (Nat.le_add_left _ _) hN)).1 (world_bounds (Nat.le_trans (Nat.le_add_left _ _) hN)).2.1 (world_bounds (Nat.le_trans (Nat.le_add_left _ _) hN)).2.2.1 (world_bounds (Nat.le_trans (Nat.le_add_left _ _) hN)).2.2.2 (store_bounds (Nat.le_trans (Nat.le_add_right _ _) hN)).2.1 (store_bounds (Nat.le_trans (Nat.le_add_right _ _) hN)).2.2.1 (store_bounds (Nat.le_trans (Nat.le_add_right _ _) hN)).2.2.2.1 (store_bounds (Nat.le_trans (Nat.le_add_right _ _) hN)).2.2.2.2).mono ?_; intro e w2 h; simp only [store_iff] at h; rcases h with⟨a,hn⟩ | ⟨a,b,hn⟩ | ⟨a,b,hn⟩; (unfold turnAns; rw [if_neg a]; exact hn); (unfold turnAns; rw [if_pos a,if_neg b]; exact hn); (unfold turnAns; rw [if_pos a,if_pos b]; exact hn))
 have HSM:=hideW (show storeN S+worldN X≤1048576→endSt (turnAns S X).store 1≤1000000000000∧0≤endSt (turnAns S X).store 1 from fun hN=>turnAns_small hN)
 generalize turnAns S X=o at SP IM HSM
 obtain⟨ss0a,ts0a,ss0b,ts0b,ss0c,ts0c,ss0d,ts0d,rfl,rfl,rfl,rfl⟩:=hs.live.form
 obtain⟨ss0e,ts0e,ss0f,ts0f,ss0g,ts0g,ss0h,ts0h,rfl,rfl,rfl,rfl⟩:=hs.safe.form
 obtain⟨sx0a,tx0a,sx0b,tx0b,sx0c,tx0c,sx0d,tx0d,rfl,rfl,rfl,rfl⟩:=hx.form
 clear hE hs hwfs hwgs hx hwfx
 have ha0:=below_alloc w (.cells #[.slice ss0a S.live.pool.n ts0a,.slice ss0b S.live.pool.hn ts0b,.int .i64 S.live.time,.int .i64 S.live.next,.slice ss0c S.live.sn ts0c,.slice ss0d S.live.pn ts0d,.slice ss0e S.safe.pool.n ts0e,.slice ss0f S.safe.pool.hn ts0f,.int .i64 S.safe.time,.int .i64 S.safe.next,.slice ss0g S.safe.sn ts0g,.slice ss0h S.safe.pn ts0h] 31)
 have ha1:=below_alloc (w.alloc (.cells #[.slice ss0a S.live.pool.n ts0a,.slice ss0b S.live.pool.hn ts0b,.int .i64 S.live.time,.int .i64 S.live.next,.slice ss0c S.live.sn ts0c,.slice ss0d S.live.pn ts0d,.slice ss0e S.safe.pool.n ts0e,.slice ss0f S.safe.pool.hn ts0f,.int .i64 S.safe.time,.int .i64 S.safe.next,.slice ss0g S.safe.sn ts0g,.slice ss0h S.safe.pn ts0h] 31)) (.cells #[.slice sx0a X.pool.n tx0a,.slice sx0b X.pool.hn tx0b,.int .i64 X.time,.int .i64 X.next,.slice sx0c X.sn tx0c,.slice sx0d X.pn tx0d] 29)
 have ha:=below_next (ha0) ha1
 have hx0:=((Box12.new w (.slice ss0a S.live.pool.n ts0a) (.slice ss0b S.live.pool.hn ts0b) (.int .i64 S.live.time) (.int .i64 S.live.next) (.slice ss0c S.live.sn ts0c) (.slice ss0d S.live.pn ts0d) (.slice ss0e S.safe.pool.n ts0e) (.slice ss0f S.safe.pool.hn ts0f) (.int .i64 S.safe.time) (.int .i64 S.safe.next) (.slice ss0g S.safe.sn ts0g) (.slice ss0h S.safe.pn ts0h) 31).below ha1)
 have HX0a:=hideW hx0
 clear hx0
 have hx1:=(Box6.new (w.alloc (.cells #[.slice ss0a S.live.pool.n ts0a,.slice ss0b S.live.pool.hn ts0b,.int .i64 S.live.time,.int .i64 S.live.next,.slice ss0c S.live.sn ts0c,.slice ss0d S.live.pn ts0d,.slice ss0e S.safe.pool.n ts0e,.slice ss0f S.safe.pool.hn ts0f,.int .i64 S.safe.time,.int .i64 S.safe.next,.slice ss0g S.safe.sn ts0g,.slice ss0h S.safe.pn ts0h] 31)) (.slice sx0a X.pool.n tx0a) (.slice sx0b X.pool.hn tx0b) (.int .i64 X.time) (.int .i64 X.next) (.slice sx0c X.sn tx0c) (.slice sx0d X.pn tx0d) 29)
 rw [World.size_alloc] at hx1
 have HX1a:=hideW hx1
 clear hx1
 obtain⟨⟨x0,-⟩,⟨x1,-⟩,⟨x2,-⟩,⟨x3,-⟩,⟨x4,-⟩,⟨x5,-⟩,⟨x6,-⟩,⟨x7,-⟩,⟨x8,-⟩,⟨x9,-⟩,⟨x10,-⟩,⟨x11,-⟩⟩:=HX0a.out
 go_enter Tryz.func5,Tryz.ntmps5
 go_wp2_with fail
 clear x0 x1 x2 x3 x4 x5 x6 x7 x8 x9 x10 x11
 have zz0:((w.alloc (.cells #[.slice ss0a S.live.pool.n ts0a,.slice ss0b S.live.pool.hn ts0b,.int .i64 S.live.time,.int .i64 S.live.next,.slice ss0c S.live.sn ts0c,.slice ss0d S.live.pn ts0d,.slice ss0e S.safe.pool.n ts0e,.slice ss0f S.safe.pool.hn ts0f,.int .i64 S.safe.time,.int .i64 S.safe.next,.slice ss0g S.safe.sn ts0g,.slice ss0h S.safe.pn ts0h] 31)).alloc (.cells #[.slice sx0a X.pool.n tx0a,.slice sx0b X.pool.hn tx0b,.int .i64 X.time,.int .i64 X.next,.slice sx0c X.sn tx0c,.slice sx0d X.pn tx0d] 29)).heap.size=w.heap.size+2:=by rw [World.size_alloc,World.size_alloc]
 have ZZ0:=hideW zz0
 clear zz0 ha0 ha1
 generalize ((w.alloc (.cells #[.slice ss0a S.live.pool.n ts0a,.slice ss0b S.live.pool.hn ts0b,.int .i64 S.live.time,.int .i64 S.live.next,.slice ss0c S.live.sn ts0c,.slice ss0d S.live.pn ts0d,.slice ss0e S.safe.pool.n ts0e,.slice ss0f S.safe.pool.hn ts0f,.int .i64 S.safe.time,.int .i64 S.safe.next,.slice ss0g S.safe.sn ts0g,.slice ss0h S.safe.pn ts0h] 31)).alloc (.cells #[.slice sx0a X.pool.n tx0a,.slice sx0b X.pool.hn tx0b,.int .i64 X.time,.int .i64 X.next,.slice sx0c X.sn tx0c,.slice sx0d X.pn tx0d] 29))=Wa at ha ZZ0 HX0a HX1a ⊢
 refine(szStore_any _ _ _ _ _ _ _ _ _ _ S _ _ (Hps.out.below ha) (by omega) (by omega)).mono ?_
 rintro e c0 ⟨⟨r0,rfl,hr1,hr2,hr3⟩,hbz⟩
 have HX0c0:=hideW (HX0a.out.below hbz)
 have HX1c0:=hideW (HX1a.out.below hbz)
 have hBc0:=below_next ha hbz
 have HR0:=hideW hr1
 have Zc0:=hideW hbz.size
 clear ha hbz hr1 HX0a HX1a
 by_cases hr0:r0<0
 ·go_wp2
  go_ret
  exact⟨rfl,hBc0⟩
 have HN0:=hideW (HR0.out (by omega))
 obtain⟨⟨x0,-⟩,⟨x1,-⟩,⟨x2,-⟩,⟨x3,-⟩,⟨x4,-⟩,⟨x5,-⟩⟩:=HX1c0.out
 go_wp2_with fail
 clear x0 x1 x2 x3 x4 x5
 refine(szWorld_any _ _ _ _ _ _ X _ _ (Hpx.out.below hBc0) (by omega) (by omega)).mono ?_
 rintro e c1 ⟨⟨r1,rfl,hr1,hr2,hr3⟩,hbz⟩
 have HX0c1:=hideW (HX0c0.out.below hbz)
 have HX1c1:=hideW (HX1c0.out.below hbz)
 have hBc1:=below_next hBc0 hbz
 have HR1:=hideW hr1
 have Zc1:=hideW hbz.size
 clear hBc0 hbz hr1 HX0c0 HX1c0
 by_cases hr1:r1<0
 ·go_wp2
  go_ret
  exact⟨rfl,hBc1⟩
 have HN1:=hideW (HR1.out (by omega))
 have HN:=hideW (show storeN S+worldN X≤1048576 by have n0:=HN0.out; have n1:=HN1.out; omega)
 have HNs:=hideW (show storeN S≤1048576 by have:=HN.out; omega)
 have hends:=endSt_small (S:=S) (by have:=HNs.out; omega)
 have HNx:=hideW (show worldN X≤1048576 by have:=HN.out; omega)
 have hendx:=endW_small (W:=X) (by have:=HNx.out; omega)
 have hge:=HSM.out HN.out
 generalize hgq:endSt o.store 1=ge at hge
 have Hge:=hideW hgq
 obtain⟨hge1,hge2⟩:=hge
 have hge0:¬ge<0:=by omega
 have hgg:(ge != ge)=false:=by simp
 clear hgq HSM
 obtain⟨⟨x0,-⟩,⟨x1,-⟩,⟨x2,-⟩,⟨x3,-⟩,⟨x4,-⟩,⟨x5,-⟩,⟨x6,-⟩,⟨x7,-⟩,⟨x8,-⟩,⟨x9,-⟩,⟨x10,-⟩,⟨x11,-⟩⟩:=HX0c1.out
 obtain⟨⟨y0,-⟩,⟨y1,-⟩,⟨y2,-⟩,⟨y3,-⟩,⟨y4,-⟩,⟨y5,-⟩⟩:=HX1c1.out
 have hzC:w.heap.size+1<c1.heap.size:=lt_of_cell y0
 go_upto_region 8 with fail
 go_cut [6] (fun v wc=>∃(VV lA hA:Nat) (so3a:Option Addr) (to3a:Nat) (so3b:Option Addr) (to3b:Nat) (so3c:Option Addr) (to3c:Nat) (so3d:Option Addr) (to3d:Nat) (so3e:Option Addr) (to3e:Nat) (so3f:Option Addr) (to3f:Nat) (so3g:Option Addr) (to3g:Nat) (so3h:Option Addr) (to3h:Nat),v = .pointer (some ⟨VV,0,none⟩)∧Box13 wc VV (.slice so3a o.store.live.pool.n to3a) (.slice so3b o.store.live.pool.hn to3b) (.int .i64 o.store.live.time) (.int .i64 o.store.live.next) (.slice so3c o.store.live.sn to3c) (.slice so3d o.store.live.pn to3d) (.slice so3e o.store.safe.pool.n to3e) (.slice so3f o.store.safe.pool.hn to3f) (.int .i64 o.store.safe.time) (.int .i64 o.store.safe.next) (.slice so3g o.store.safe.sn to3g) (.slice so3h o.store.safe.pn to3h) (.int .i64 o.code)∧StoreOwn wc lA hA (.slice so3a o.store.live.pool.n to3a) (.slice so3b o.store.live.pool.hn to3b) (.slice so3c o.store.live.sn to3c) (.slice so3d o.store.live.pn to3d) (.slice so3e o.store.safe.pool.n to3e) (.slice so3f o.store.safe.pool.hn to3f) (.slice so3g o.store.safe.sn to3g) (.slice so3h o.store.safe.pn to3h) o.store∧(c1.heap.size≤lA∧c1.heap.size≤VV∧VV<wc.heap.size∧hA≤wc.heap.size∧(VV<lA∨hA≤VV))∧Below c1.heap.size c1 wc)
 case first=>
  refine wp_region_held_drew (S:=(fun w'=>w'.cell? ⟨w.heap.size,0,none⟩=some (.slice ss0a S.live.pool.n ts0a)∧w'.cell? ⟨w.heap.size,1,none⟩=some (.slice ss0b S.live.pool.hn ts0b)∧w'.cell? ⟨w.heap.size,2,none⟩=some (.int .i64 S.live.time)∧w'.cell? ⟨w.heap.size,3,none⟩=some (.int .i64 S.live.next)∧w'.cell? ⟨w.heap.size,4,none⟩=some (.slice ss0c S.live.sn ts0c)∧w'.cell? ⟨w.heap.size,5,none⟩=some (.slice ss0d S.live.pn ts0d)∧w'.cell? ⟨w.heap.size,6,none⟩=some (.slice ss0e S.safe.pool.n ts0e)∧w'.cell? ⟨w.heap.size,7,none⟩=some (.slice ss0f S.safe.pool.hn ts0f)∧w'.cell? ⟨w.heap.size,8,none⟩=some (.int .i64 S.safe.time)∧w'.cell? ⟨w.heap.size,9,none⟩=some (.int .i64 S.safe.next)∧w'.cell? ⟨w.heap.size,10,none⟩=some (.slice ss0g S.safe.sn ts0g)∧w'.cell? ⟨w.heap.size,11,none⟩=some (.slice ss0h S.safe.pn ts0h)∧w'.cell? ⟨w.heap.size+1,0,none⟩=some (.slice sx0a X.pool.n tx0a)∧w'.cell? ⟨w.heap.size+1,1,none⟩=some (.slice sx0b X.pool.hn tx0b)∧w'.cell? ⟨w.heap.size+1,2,none⟩=some (.int .i64 X.time)∧w'.cell? ⟨w.heap.size+1,3,none⟩=some (.int .i64 X.next)∧w'.cell? ⟨w.heap.size+1,4,none⟩=some (.slice sx0c X.sn tx0c)∧w'.cell? ⟨w.heap.size+1,5,none⟩=some (.slice sx0d X.pn tx0d))) (by kernel_rfl) ?_ (fun hHeld=>?_)
  ·(try dsimp only)
   go_keep
  have hb0:Below c1.heap.size c1 c1.drew:=(Below.refl _ _).drew
  have hs0:c1.drew.heap.size≤c1.heap.size∧c1.heap.size≤c1.drew.heap.size:=⟨Nat.le_refl _,Nat.le_refl _⟩
  clear x0 x1 x2 x3 x4 x5 x6 x7 x8 x9 x10 x11 y0 y1 y2 y3 y4 y5
  generalize c1.drew=q0 at hb0 hs0 hHeld ⊢
  refine tk 0 (h:=tk 2 (h:=?_))
  refine rd [1,5] (rc (fun K hK=>?_) (rc (fun K hK=>?_) .nil))
  ·go_simp
   go_at_call 8
   refine(toStore_any _ _ _ _ _ _ _ _ _ _ S _ ((Hps.out.below hBc1).below hb0) HNs.out).mono ?_
   rintro e q1 ⟨p0,p1,p2,p3,p4,p5,p6,p7,rfl,oS1,hc1⟩
   obtain⟨ss21a,ts21a,ss21b,ts21b,ss21c,ts21c,ss21d,ts21d,rfl,rfl,rfl,rfl⟩:=oS1.at.live.form
   obtain⟨ss21e,ts21e,ss21f,ts21f,ss21g,ts21g,ss21h,ts21h,rfl,rfl,rfl,rfl⟩:=oS1.at.safe.form
   have hb1:=below_next hb0 hc1
   have hs1:=hc1.size
   obtain⟨⟨x0,-⟩,⟨x1,-⟩,⟨x2,-⟩,⟨x3,-⟩,⟨x4,-⟩,⟨x5,-⟩,⟨x6,-⟩,⟨x7,-⟩,⟨x8,-⟩,⟨x9,-⟩,⟨x10,-⟩,⟨x11,-⟩⟩:=HX0c1.out.below hb1
   obtain⟨⟨y0,-⟩,⟨y1,-⟩,⟨y2,-⟩,⟨y3,-⟩,⟨y4,-⟩,⟨y5,-⟩⟩:=HX1c1.out.below hb1
   (try go_wp2_with fail)
   refine hK.out _ _ (by(try dsimp only); go_keep) ?_
   clear hK K hHeld
   intro hHeld
   try simp only [Act.put,s1,s2,s3]
   clear x0 x1 x2 x3 x4 x5 x6 x7 x8 x9 x10 x11 y0 y1 y2 y3 y4 y5
   refine rd [3,5] (rc (fun K hK=>?_) (rc (fun K hK=>?_) .nil))
   ·go_simp
    go_at_call 19
    refine(toWorld_any _ _ _ _ _ _ X _ ((Hpx.out.below hBc1).below hb1) HNx.out).mono ?_
    rintro e q2 ⟨p0,p1,p2,p3,rfl,oX2,hc2⟩
    obtain⟨sx23a,tx23a,sx23b,tx23b,sx23c,tx23c,sx23d,tx23d,rfl,rfl,rfl,rfl⟩:=oX2.form
    have hb2:=below_next hb1 hc2
    have hs2:=hc2.size
    have oS2:=oS1.below hc2
    obtain⟨⟨x0,-⟩,⟨x1,-⟩,⟨x2,-⟩,⟨x3,-⟩,⟨x4,-⟩,⟨x5,-⟩,⟨x6,-⟩,⟨x7,-⟩,⟨x8,-⟩,⟨x9,-⟩,⟨x10,-⟩,⟨x11,-⟩⟩:=HX0c1.out.below hb2
    obtain⟨⟨y0,-⟩,⟨y1,-⟩,⟨y2,-⟩,⟨y3,-⟩,⟨y4,-⟩,⟨y5,-⟩⟩:=HX1c1.out.below hb2
    (try go_wp2_with fail)
    refine hK.out _ _ (by(try dsimp only); go_keep) ?_
    clear hK K hHeld
    intro hHeld
    try simp only [Act.put,s1,s2,s3]
    clear x0 x1 x2 x3 x4 x5 x6 x7 x8 x9 x10 x11 y0 y1 y2 y3 y4 y5
    refine rd [4,5] (rc (fun K hK=>?_) (rc (fun K hK=>?_) .nil))
    ·go_simp
     go_at_call 18
     refine(SP.out _ _ _ _ _ _ _ _ _ _ _ _ _ HN.out (StoreAt.mk (oS2.at.live.wide (Nat.zero_le _) (by omega)) (oS2.at.safe.wide (Nat.zero_le _) (by omega))) (oX2.at.wide (Nat.zero_le _) (by omega))).mono ?_
     rintro e q3 ⟨p0,p1,p2,p3,p4,p5,p6,p7,rfl,oO3,hc3⟩
     obtain⟨so3a,to3a,so3b,to3b,so3c,to3c,so3d,to3d,rfl,rfl,rfl,rfl⟩:=oO3.at.live.form
     obtain⟨so3e,to3e,so3f,to3f,so3g,to3g,so3h,to3h,rfl,rfl,rfl,rfl⟩:=oO3.at.safe.form
     have hb3:=below_next hb2 hc3
     have hs3:=hc3.size
     have oS3:=oS2.below hc3
     have oX3:=oX2.below hc3
     obtain⟨⟨x0,-⟩,⟨x1,-⟩,⟨x2,-⟩,⟨x3,-⟩,⟨x4,-⟩,⟨x5,-⟩,⟨x6,-⟩,⟨x7,-⟩,⟨x8,-⟩,⟨x9,-⟩,⟨x10,-⟩,⟨x11,-⟩⟩:=HX0c1.out.below hb3
     obtain⟨⟨y0,-⟩,⟨y1,-⟩,⟨y2,-⟩,⟨y3,-⟩,⟨y4,-⟩,⟨y5,-⟩⟩:=HX1c1.out.below hb3
     (try go_wp2_with fail)
     refine hK.out _ _ (by(try dsimp only); go_keep) ?_
     clear hK K hHeld
     intro hHeld
     try simp only [Act.put,s1,s2,s3]
     clear x0 x1 x2 x3 x4 x5 x6 x7 x8 x9 x10 x11 y0 y1 y2 y3 y4 y5
     refine rd [5] (rc (fun K hK=>?_) .nil)
     go_simp
     have hc4:=below_alloc q3 (.cells #[.slice none 0 0,.slice none 0 0,.int .i64 0,.int .i64 0,.slice none 0 0,.slice none 0 0,.slice none 0 0,.slice none 0 0,.int .i64 0,.int .i64 0,.slice none 0 0,.slice none 0 0,.int .i64 0] 43)
     have hb4:=below_next hb3 hc4
     have hs4:q3.heap.size<(q3.alloc (.cells #[.slice none 0 0,.slice none 0 0,.int .i64 0,.int .i64 0,.slice none 0 0,.slice none 0 0,.slice none 0 0,.slice none 0 0,.int .i64 0,.int .i64 0,.slice none 0 0,.slice none 0 0,.int .i64 0] 43)).heap.size:=by rw [World.size_alloc]; omega
     have kT4:=Box13.new q3 (.slice none 0 0) (.slice none 0 0) (.int .i64 0) (.int .i64 0) (.slice none 0 0) (.slice none 0 0) (.slice none 0 0) (.slice none 0 0) (.int .i64 0) (.int .i64 0) (.slice none 0 0) (.slice none 0 0) (.int .i64 0) 43
     have oS4:=oS3.below hc4
     have oX4:=oX3.below hc4
     have oO4:=oO3.below hc4
     obtain⟨⟨x0,-⟩,⟨x1,-⟩,⟨x2,-⟩,⟨x3,-⟩,⟨x4,-⟩,⟨x5,-⟩,⟨x6,-⟩,⟨x7,-⟩,⟨x8,-⟩,⟨x9,-⟩,⟨x10,-⟩,⟨x11,-⟩⟩:=HX0c1.out.below hb4
     obtain⟨⟨y0,-⟩,⟨y1,-⟩,⟨y2,-⟩,⟨y3,-⟩,⟨y4,-⟩,⟨y5,-⟩⟩:=HX1c1.out.below hb4
     (try go_wp2_with fail)
     refine hK.out _ _ (by(try dsimp only); go_keep) ?_
     clear hK K hHeld
     intro hHeld
     try simp only [Act.put,s1,s2,s3]
     clear x0 x1 x2 x3 x4 x5 x6 x7 x8 x9 x10 x11 y0 y1 y2 y3 y4 y5
     generalize q3.alloc (.cells #[.slice none 0 0,.slice none 0 0,.int .i64 0,.int .i64 0,.slice none 0 0,.slice none 0 0,.slice none 0 0,.slice none 0 0,.int .i64 0,.int .i64 0,.slice none 0 0,.slice none 0 0,.int .i64 0] 43)=q4 at hb4 kT4 oS4 oX4 oO4 hHeld hc4 hs4 ⊢
     refine rd [6] (rc (fun K hK=>?_) .nil)
     have kH:=hideW kT4
     obtain⟨⟨r0,g0⟩,⟨r1,g1⟩,⟨r2,g2⟩,⟨r3,g3⟩,⟨r4,g4⟩,⟨r5,g5⟩,⟨r6,g6⟩,⟨r7,g7⟩,⟨r8,g8⟩,⟨r9,g9⟩,⟨r10,g10⟩,⟨r11,g11⟩,⟨r12,g12⟩⟩:=kT4
     go_simp
     (try go_wp2_with fail)
     have hT5:Turned (fun k=>k=q3.heap.size) q4 (((((((((((((q4.setCell ⟨q3.heap.size,0,none⟩ (.slice so3a o.store.live.pool.n to3a)).setCell ⟨q3.heap.size,1,none⟩ (.slice so3b o.store.live.pool.hn to3b)).setCell ⟨q3.heap.size,2,none⟩ (.int .i64 o.store.live.time)).setCell ⟨q3.heap.size,3,none⟩ (.int .i64 o.store.live.next)).setCell ⟨q3.heap.size,4,none⟩ (.slice so3c o.store.live.sn to3c)).setCell ⟨q3.heap.size,5,none⟩ (.slice so3d o.store.live.pn to3d)).setCell ⟨q3.heap.size,6,none⟩ (.slice so3e o.store.safe.pool.n to3e)).setCell ⟨q3.heap.size,7,none⟩ (.slice so3f o.store.safe.pool.hn to3f)).setCell ⟨q3.heap.size,8,none⟩ (.int .i64 o.store.safe.time)).setCell ⟨q3.heap.size,9,none⟩ (.int .i64 o.store.safe.next)).setCell ⟨q3.heap.size,10,none⟩ (.slice so3g o.store.safe.sn to3g)).setCell ⟨q3.heap.size,11,none⟩ (.slice so3h o.store.safe.pn to3h)).setCell ⟨q3.heap.size,12,none⟩ (.int .i64 o.code)):=Turned.put13 q4 (q3.heap.size) (.slice so3a o.store.live.pool.n to3a) (.slice so3b o.store.live.pool.hn to3b) (.int .i64 o.store.live.time) (.int .i64 o.store.live.next) (.slice so3c o.store.live.sn to3c) (.slice so3d o.store.live.pn to3d) (.slice so3e o.store.safe.pool.n to3e) (.slice so3f o.store.safe.pool.hn to3f) (.int .i64 o.store.safe.time) (.int .i64 o.store.safe.next) (.slice so3g o.store.safe.sn to3g) (.slice so3h o.store.safe.pn to3h) (.int .i64 o.code)
     have hb5:=hb4.trans (hT5.below (B:=c1.heap.size) hb4.size (fun k e=>by omega))
     have hs5:=hT5.size
     obtain⟨⟨x0,-⟩,⟨x1,-⟩,⟨x2,-⟩,⟨x3,-⟩,⟨x4,-⟩,⟨x5,-⟩,⟨x6,-⟩,⟨x7,-⟩,⟨x8,-⟩,⟨x9,-⟩,⟨x10,-⟩,⟨x11,-⟩⟩:=HX0c1.out.below hb5
     obtain⟨⟨y0,-⟩,⟨y1,-⟩,⟨y2,-⟩,⟨y3,-⟩,⟨y4,-⟩,⟨y5,-⟩⟩:=HX1c1.out.below hb5
     refine hK.out _ _ (by(try dsimp only); go_keep) ?_
     clear hK K hHeld
     intro hHeld
     try simp only [Act.put,s1,s2,s3]
     clear x0 x1 x2 x3 x4 x5 x6 x7 x8 x9 x10 x11 y0 y1 y2 y3 y4 y5 r0 g0 r1 g1 r2 g2 r3 g3 r4 g4 r5 g5 r6 g6 r7 g7 r8 g8 r9 g9 r10 g10 r11 g11 r12 g12
     refine wpAnyH_done (by kernel_rfl) ?_ _
     go_wp2_with fail
     have kT5:=kH.out.put (.slice so3a o.store.live.pool.n to3a) (.slice so3b o.store.live.pool.hn to3b) (.int .i64 o.store.live.time) (.int .i64 o.store.live.next) (.slice so3c o.store.live.sn to3c) (.slice so3d o.store.live.pn to3d) (.slice so3e o.store.safe.pool.n to3e) (.slice so3f o.store.safe.pool.hn to3f) (.int .i64 o.store.safe.time) (.int .i64 o.store.safe.next) (.slice so3g o.store.safe.sn to3g) (.slice so3h o.store.safe.pn to3h) (.int .i64 o.code)
     have oO5:=oO4.turned hT5 (fun k e=>by omega)
     go_meet
     case rel=>exact⟨_,q2.heap.size,q3.heap.size,_,_,_,_,_,_,_,_,_,_,_,_,_,_,_,_,rfl,kT5,oO5,⟨by omega,by omega,by omega,by omega,by omega⟩,hb5⟩
    ·go_simp
     have hc6:=below_alloc q2 (.cells #[.slice none 0 0,.slice none 0 0,.int .i64 0,.int .i64 0,.slice none 0 0,.slice none 0 0,.slice none 0 0,.slice none 0 0,.int .i64 0,.int .i64 0,.slice none 0 0,.slice none 0 0,.int .i64 0] 43)
     have hb6:=below_next hb2 hc6
     have hs6:q2.heap.size<(q2.alloc (.cells #[.slice none 0 0,.slice none 0 0,.int .i64 0,.int .i64 0,.slice none 0 0,.slice none 0 0,.slice none 0 0,.slice none 0 0,.int .i64 0,.int .i64 0,.slice none 0 0,.slice none 0 0,.int .i64 0] 43)).heap.size:=by rw [World.size_alloc]; omega
     have kT6:=Box13.new q2 (.slice none 0 0) (.slice none 0 0) (.int .i64 0) (.int .i64 0) (.slice none 0 0) (.slice none 0 0) (.slice none 0 0) (.slice none 0 0) (.int .i64 0) (.int .i64 0) (.slice none 0 0) (.slice none 0 0) (.int .i64 0) 43
     have oS6:=oS2.below hc6
     have oX6:=oX2.below hc6
     obtain⟨⟨x0,-⟩,⟨x1,-⟩,⟨x2,-⟩,⟨x3,-⟩,⟨x4,-⟩,⟨x5,-⟩,⟨x6,-⟩,⟨x7,-⟩,⟨x8,-⟩,⟨x9,-⟩,⟨x10,-⟩,⟨x11,-⟩⟩:=HX0c1.out.below hb6
     obtain⟨⟨y0,-⟩,⟨y1,-⟩,⟨y2,-⟩,⟨y3,-⟩,⟨y4,-⟩,⟨y5,-⟩⟩:=HX1c1.out.below hb6
     (try go_wp2_with fail)
     refine hK.out _ _ (by(try dsimp only); go_keep) ?_
     clear hK K hHeld
     intro hHeld
     try simp only [Act.put,s1,s2,s3]
     clear x0 x1 x2 x3 x4 x5 x6 x7 x8 x9 x10 x11 y0 y1 y2 y3 y4 y5
     generalize q2.alloc (.cells #[.slice none 0 0,.slice none 0 0,.int .i64 0,.int .i64 0,.slice none 0 0,.slice none 0 0,.slice none 0 0,.slice none 0 0,.int .i64 0,.int .i64 0,.slice none 0 0,.slice none 0 0,.int .i64 0] 43)=q6 at hb6 kT6 oS6 oX6 hHeld hc6 hs6 ⊢
     refine rd [4] (rc (fun K hK=>?_) .nil)
     go_simp
     go_at_call 18
     refine(SP.out _ _ _ _ _ _ _ _ _ _ _ _ _ HN.out (StoreAt.mk (oS6.at.live.wide (Nat.zero_le _) (by omega)) (oS6.at.safe.wide (Nat.zero_le _) (by omega))) (oX6.at.wide (Nat.zero_le _) (by omega))).mono ?_
     rintro e q7 ⟨p0,p1,p2,p3,p4,p5,p6,p7,rfl,oO7,hc7⟩
     obtain⟨so3a,to3a,so3b,to3b,so3c,to3c,so3d,to3d,rfl,rfl,rfl,rfl⟩:=oO7.at.live.form
     obtain⟨so3e,to3e,so3f,to3f,so3g,to3g,so3h,to3h,rfl,rfl,rfl,rfl⟩:=oO7.at.safe.form
     have hb7:=below_next hb6 hc7
     have hs7:=hc7.size
     have oS7:=oS6.below hc7
     have oX7:=oX6.below hc7
     have kT7:=kT6.below hc7
     obtain⟨⟨x0,-⟩,⟨x1,-⟩,⟨x2,-⟩,⟨x3,-⟩,⟨x4,-⟩,⟨x5,-⟩,⟨x6,-⟩,⟨x7,-⟩,⟨x8,-⟩,⟨x9,-⟩,⟨x10,-⟩,⟨x11,-⟩⟩:=HX0c1.out.below hb7
     obtain⟨⟨y0,-⟩,⟨y1,-⟩,⟨y2,-⟩,⟨y3,-⟩,⟨y4,-⟩,⟨y5,-⟩⟩:=HX1c1.out.below hb7
     (try go_wp2_with fail)
     refine hK.out _ _ (by(try dsimp only); go_keep) ?_
     clear hK K hHeld
     intro hHeld
     try simp only [Act.put,s1,s2,s3]
     clear x0 x1 x2 x3 x4 x5 x6 x7 x8 x9 x10 x11 y0 y1 y2 y3 y4 y5
     refine rd [6] (rc (fun K hK=>?_) .nil)
     have kH:=hideW kT7
     obtain⟨⟨r0,g0⟩,⟨r1,g1⟩,⟨r2,g2⟩,⟨r3,g3⟩,⟨r4,g4⟩,⟨r5,g5⟩,⟨r6,g6⟩,⟨r7,g7⟩,⟨r8,g8⟩,⟨r9,g9⟩,⟨r10,g10⟩,⟨r11,g11⟩,⟨r12,g12⟩⟩:=kT7
     go_simp
     (try go_wp2_with fail)
     have hT8:Turned (fun k=>k=q2.heap.size) q7 (((((((((((((q7.setCell ⟨q2.heap.size,0,none⟩ (.slice so3a o.store.live.pool.n to3a)).setCell ⟨q2.heap.size,1,none⟩ (.slice so3b o.store.live.pool.hn to3b)).setCell ⟨q2.heap.size,2,none⟩ (.int .i64 o.store.live.time)).setCell ⟨q2.heap.size,3,none⟩ (.int .i64 o.store.live.next)).setCell ⟨q2.heap.size,4,none⟩ (.slice so3c o.store.live.sn to3c)).setCell ⟨q2.heap.size,5,none⟩ (.slice so3d o.store.live.pn to3d)).setCell ⟨q2.heap.size,6,none⟩ (.slice so3e o.store.safe.pool.n to3e)).setCell ⟨q2.heap.size,7,none⟩ (.slice so3f o.store.safe.pool.hn to3f)).setCell ⟨q2.heap.size,8,none⟩ (.int .i64 o.store.safe.time)).setCell ⟨q2.heap.size,9,none⟩ (.int .i64 o.store.safe.next)).setCell ⟨q2.heap.size,10,none⟩ (.slice so3g o.store.safe.sn to3g)).setCell ⟨q2.heap.size,11,none⟩ (.slice so3h o.store.safe.pn to3h)).setCell ⟨q2.heap.size,12,none⟩ (.int .i64 o.code)):=Turned.put13 q7 (q2.heap.size) (.slice so3a o.store.live.pool.n to3a) (.slice so3b o.store.live.pool.hn to3b) (.int .i64 o.store.live.time) (.int .i64 o.store.live.next) (.slice so3c o.store.live.sn to3c) (.slice so3d o.store.live.pn to3d) (.slice so3e o.store.safe.pool.n to3e) (.slice so3f o.store.safe.pool.hn to3f) (.int .i64 o.store.safe.time) (.int .i64 o.store.safe.next) (.slice so3g o.store.safe.sn to3g) (.slice so3h o.store.safe.pn to3h) (.int .i64 o.code)
     have hb8:=hb7.trans (hT8.below (B:=c1.heap.size) hb7.size (fun k e=>by omega))
     have hs8:=hT8.size
     obtain⟨⟨x0,-⟩,⟨x1,-⟩,⟨x2,-⟩,⟨x3,-⟩,⟨x4,-⟩,⟨x5,-⟩,⟨x6,-⟩,⟨x7,-⟩,⟨x8,-⟩,⟨x9,-⟩,⟨x10,-⟩,⟨x11,-⟩⟩:=HX0c1.out.below hb8
     obtain⟨⟨y0,-⟩,⟨y1,-⟩,⟨y2,-⟩,⟨y3,-⟩,⟨y4,-⟩,⟨y5,-⟩⟩:=HX1c1.out.below hb8
     refine hK.out _ _ (by(try dsimp only); go_keep) ?_
     clear hK K hHeld
     intro hHeld
     try simp only [Act.put,s1,s2,s3]
     clear x0 x1 x2 x3 x4 x5 x6 x7 x8 x9 x10 x11 y0 y1 y2 y3 y4 y5 r0 g0 r1 g1 r2 g2 r3 g3 r4 g4 r5 g5 r6 g6 r7 g7 r8 g8 r9 g9 r10 g10 r11 g11 r12 g12
     refine wpAnyH_done (by kernel_rfl) ?_ _
     go_wp2_with fail
     have kT8:=kH.out.put (.slice so3a o.store.live.pool.n to3a) (.slice so3b o.store.live.pool.hn to3b) (.int .i64 o.store.live.time) (.int .i64 o.store.live.next) (.slice so3c o.store.live.sn to3c) (.slice so3d o.store.live.pn to3d) (.slice so3e o.store.safe.pool.n to3e) (.slice so3f o.store.safe.pool.hn to3f) (.int .i64 o.store.safe.time) (.int .i64 o.store.safe.next) (.slice so3g o.store.safe.sn to3g) (.slice so3h o.store.safe.pn to3h) (.int .i64 o.code)
     have oO8:=oO7.turned hT8 (fun k e=>by omega)
     go_meet
     case rel=>exact⟨_,q6.heap.size,q7.heap.size,_,_,_,_,_,_,_,_,_,_,_,_,_,_,_,_,rfl,kT8,oO8,⟨by omega,by omega,by omega,by omega,by omega⟩,hb8⟩
   ·go_simp
    have hc9:=below_alloc q1 (.cells #[.slice none 0 0,.slice none 0 0,.int .i64 0,.int .i64 0,.slice none 0 0,.slice none 0 0,.slice none 0 0,.slice none 0 0,.int .i64 0,.int .i64 0,.slice none 0 0,.slice none 0 0,.int .i64 0] 43)
    have hb9:=below_next hb1 hc9
    have hs9:q1.heap.size<(q1.alloc (.cells #[.slice none 0 0,.slice none 0 0,.int .i64 0,.int .i64 0,.slice none 0 0,.slice none 0 0,.slice none 0 0,.slice none 0 0,.int .i64 0,.int .i64 0,.slice none 0 0,.slice none 0 0,.int .i64 0] 43)).heap.size:=by rw [World.size_alloc]; omega
    have kT9:=Box13.new q1 (.slice none 0 0) (.slice none 0 0) (.int .i64 0) (.int .i64 0) (.slice none 0 0) (.slice none 0 0) (.slice none 0 0) (.slice none 0 0) (.int .i64 0) (.int .i64 0) (.slice none 0 0) (.slice none 0 0) (.int .i64 0) 43
    have oS9:=oS1.below hc9
    obtain⟨⟨x0,-⟩,⟨x1,-⟩,⟨x2,-⟩,⟨x3,-⟩,⟨x4,-⟩,⟨x5,-⟩,⟨x6,-⟩,⟨x7,-⟩,⟨x8,-⟩,⟨x9,-⟩,⟨x10,-⟩,⟨x11,-⟩⟩:=HX0c1.out.below hb9
    obtain⟨⟨y0,-⟩,⟨y1,-⟩,⟨y2,-⟩,⟨y3,-⟩,⟨y4,-⟩,⟨y5,-⟩⟩:=HX1c1.out.below hb9
    (try go_wp2_with fail)
    refine hK.out _ _ (by(try dsimp only); go_keep) ?_
    clear hK K hHeld
    intro hHeld
    try simp only [Act.put,s1,s2,s3]
    clear x0 x1 x2 x3 x4 x5 x6 x7 x8 x9 x10 x11 y0 y1 y2 y3 y4 y5
    generalize q1.alloc (.cells #[.slice none 0 0,.slice none 0 0,.int .i64 0,.int .i64 0,.slice none 0 0,.slice none 0 0,.slice none 0 0,.slice none 0 0,.int .i64 0,.int .i64 0,.slice none 0 0,.slice none 0 0,.int .i64 0] 43)=q9 at hb9 kT9 oS9 hHeld hc9 hs9 ⊢
    refine rd [3] (rc (fun K hK=>?_) .nil)
    go_simp
    go_at_call 19
    refine(toWorld_any _ _ _ _ _ _ X _ ((Hpx.out.below hBc1).below hb9) HNx.out).mono ?_
    rintro e q10 ⟨p0,p1,p2,p3,rfl,oX10,hc10⟩
    obtain⟨sx23a,tx23a,sx23b,tx23b,sx23c,tx23c,sx23d,tx23d,rfl,rfl,rfl,rfl⟩:=oX10.form
    have hb10:=below_next hb9 hc10
    have hs10:=hc10.size
    have oS10:=oS9.below hc10
    have kT10:=kT9.below hc10
    obtain⟨⟨x0,-⟩,⟨x1,-⟩,⟨x2,-⟩,⟨x3,-⟩,⟨x4,-⟩,⟨x5,-⟩,⟨x6,-⟩,⟨x7,-⟩,⟨x8,-⟩,⟨x9,-⟩,⟨x10,-⟩,⟨x11,-⟩⟩:=HX0c1.out.below hb10
    obtain⟨⟨y0,-⟩,⟨y1,-⟩,⟨y2,-⟩,⟨y3,-⟩,⟨y4,-⟩,⟨y5,-⟩⟩:=HX1c1.out.below hb10
    (try go_wp2_with fail)
    refine hK.out _ _ (by(try dsimp only); go_keep) ?_
    clear hK K hHeld
    intro hHeld
    try simp only [Act.put,s1,s2,s3]
    clear x0 x1 x2 x3 x4 x5 x6 x7 x8 x9 x10 x11 y0 y1 y2 y3 y4 y5
    refine rd [4] (rc (fun K hK=>?_) .nil)
    go_simp
    go_at_call 18
    refine(SP.out _ _ _ _ _ _ _ _ _ _ _ _ _ HN.out (StoreAt.mk (oS10.at.live.wide (Nat.zero_le _) (by omega)) (oS10.at.safe.wide (Nat.zero_le _) (by omega))) (oX10.at.wide (Nat.zero_le _) (by omega))).mono ?_
    rintro e q11 ⟨p0,p1,p2,p3,p4,p5,p6,p7,rfl,oO11,hc11⟩
    obtain⟨so3a,to3a,so3b,to3b,so3c,to3c,so3d,to3d,rfl,rfl,rfl,rfl⟩:=oO11.at.live.form
    obtain⟨so3e,to3e,so3f,to3f,so3g,to3g,so3h,to3h,rfl,rfl,rfl,rfl⟩:=oO11.at.safe.form
    have hb11:=below_next hb10 hc11
    have hs11:=hc11.size
    have oS11:=oS10.below hc11
    have oX11:=oX10.below hc11
    have kT11:=kT10.below hc11
    obtain⟨⟨x0,-⟩,⟨x1,-⟩,⟨x2,-⟩,⟨x3,-⟩,⟨x4,-⟩,⟨x5,-⟩,⟨x6,-⟩,⟨x7,-⟩,⟨x8,-⟩,⟨x9,-⟩,⟨x10,-⟩,⟨x11,-⟩⟩:=HX0c1.out.below hb11
    obtain⟨⟨y0,-⟩,⟨y1,-⟩,⟨y2,-⟩,⟨y3,-⟩,⟨y4,-⟩,⟨y5,-⟩⟩:=HX1c1.out.below hb11
    (try go_wp2_with fail)
    refine hK.out _ _ (by(try dsimp only); go_keep) ?_
    clear hK K hHeld
    intro hHeld
    try simp only [Act.put,s1,s2,s3]
    clear x0 x1 x2 x3 x4 x5 x6 x7 x8 x9 x10 x11 y0 y1 y2 y3 y4 y5
    refine rd [6] (rc (fun K hK=>?_) .nil)
    have kH:=hideW kT11
    obtain⟨⟨r0,g0⟩,⟨r1,g1⟩,⟨r2,g2⟩,⟨r3,g3⟩,⟨r4,g4⟩,⟨r5,g5⟩,⟨r6,g6⟩,⟨r7,g7⟩,⟨r8,g8⟩,⟨r9,g9⟩,⟨r10,g10⟩,⟨r11,g11⟩,⟨r12,g12⟩⟩:=kT11
    go_simp
    (try go_wp2_with fail)
    have hT12:Turned (fun k=>k=q1.heap.size) q11 (((((((((((((q11.setCell ⟨q1.heap.size,0,none⟩ (.slice so3a o.store.live.pool.n to3a)).setCell ⟨q1.heap.size,1,none⟩ (.slice so3b o.store.live.pool.hn to3b)).setCell ⟨q1.heap.size,2,none⟩ (.int .i64 o.store.live.time)).setCell ⟨q1.heap.size,3,none⟩ (.int .i64 o.store.live.next)).setCell ⟨q1.heap.size,4,none⟩ (.slice so3c o.store.live.sn to3c)).setCell ⟨q1.heap.size,5,none⟩ (.slice so3d o.store.live.pn to3d)).setCell ⟨q1.heap.size,6,none⟩ (.slice so3e o.store.safe.pool.n to3e)).setCell ⟨q1.heap.size,7,none⟩ (.slice so3f o.store.safe.pool.hn to3f)).setCell ⟨q1.heap.size,8,none⟩ (.int .i64 o.store.safe.time)).setCell ⟨q1.heap.size,9,none⟩ (.int .i64 o.store.safe.next)).setCell ⟨q1.heap.size,10,none⟩ (.slice so3g o.store.safe.sn to3g)).setCell ⟨q1.heap.size,11,none⟩ (.slice so3h o.store.safe.pn to3h)).setCell ⟨q1.heap.size,12,none⟩ (.int .i64 o.code)):=Turned.put13 q11 (q1.heap.size) (.slice so3a o.store.live.pool.n to3a) (.slice so3b o.store.live.pool.hn to3b) (.int .i64 o.store.live.time) (.int .i64 o.store.live.next) (.slice so3c o.store.live.sn to3c) (.slice so3d o.store.live.pn to3d) (.slice so3e o.store.safe.pool.n to3e) (.slice so3f o.store.safe.pool.hn to3f) (.int .i64 o.store.safe.time) (.int .i64 o.store.safe.next) (.slice so3g o.store.safe.sn to3g) (.slice so3h o.store.safe.pn to3h) (.int .i64 o.code)
    have hb12:=hb11.trans (hT12.below (B:=c1.heap.size) hb11.size (fun k e=>by omega))
    have hs12:=hT12.size
    obtain⟨⟨x0,-⟩,⟨x1,-⟩,⟨x2,-⟩,⟨x3,-⟩,⟨x4,-⟩,⟨x5,-⟩,⟨x6,-⟩,⟨x7,-⟩,⟨x8,-⟩,⟨x9,-⟩,⟨x10,-⟩,⟨x11,-⟩⟩:=HX0c1.out.below hb12
    obtain⟨⟨y0,-⟩,⟨y1,-⟩,⟨y2,-⟩,⟨y3,-⟩,⟨y4,-⟩,⟨y5,-⟩⟩:=HX1c1.out.below hb12
    refine hK.out _ _ (by(try dsimp only); go_keep) ?_
    clear hK K hHeld
    intro hHeld
    try simp only [Act.put,s1,s2,s3]
    clear x0 x1 x2 x3 x4 x5 x6 x7 x8 x9 x10 x11 y0 y1 y2 y3 y4 y5 r0 g0 r1 g1 r2 g2 r3 g3 r4 g4 r5 g5 r6 g6 r7 g7 r8 g8 r9 g9 r10 g10 r11 g11 r12 g12
    refine wpAnyH_done (by kernel_rfl) ?_ _
    go_wp2_with fail
    have kT12:=kH.out.put (.slice so3a o.store.live.pool.n to3a) (.slice so3b o.store.live.pool.hn to3b) (.int .i64 o.store.live.time) (.int .i64 o.store.live.next) (.slice so3c o.store.live.sn to3c) (.slice so3d o.store.live.pn to3d) (.slice so3e o.store.safe.pool.n to3e) (.slice so3f o.store.safe.pool.hn to3f) (.int .i64 o.store.safe.time) (.int .i64 o.store.safe.next) (.slice so3g o.store.safe.sn to3g) (.slice so3h o.store.safe.pn to3h) (.int .i64 o.code)
    have oO12:=oO11.turned hT12 (fun k e=>by omega)
    go_meet
    case rel=>exact⟨_,q10.heap.size,q11.heap.size,_,_,_,_,_,_,_,_,_,_,_,_,_,_,_,_,rfl,kT12,oO12,⟨by omega,by omega,by omega,by omega,by omega⟩,hb12⟩
  ·go_simp
   have hc13:=below_alloc q0 (.cells #[.slice none 0 0,.slice none 0 0,.int .i64 0,.int .i64 0,.slice none 0 0,.slice none 0 0,.slice none 0 0,.slice none 0 0,.int .i64 0,.int .i64 0,.slice none 0 0,.slice none 0 0,.int .i64 0] 43)
   have hb13:=below_next hb0 hc13
   have hs13:q0.heap.size<(q0.alloc (.cells #[.slice none 0 0,.slice none 0 0,.int .i64 0,.int .i64 0,.slice none 0 0,.slice none 0 0,.slice none 0 0,.slice none 0 0,.int .i64 0,.int .i64 0,.slice none 0 0,.slice none 0 0,.int .i64 0] 43)).heap.size:=by rw [World.size_alloc]; omega
   have kT13:=Box13.new q0 (.slice none 0 0) (.slice none 0 0) (.int .i64 0) (.int .i64 0) (.slice none 0 0) (.slice none 0 0) (.slice none 0 0) (.slice none 0 0) (.int .i64 0) (.int .i64 0) (.slice none 0 0) (.slice none 0 0) (.int .i64 0) 43
   obtain⟨⟨x0,-⟩,⟨x1,-⟩,⟨x2,-⟩,⟨x3,-⟩,⟨x4,-⟩,⟨x5,-⟩,⟨x6,-⟩,⟨x7,-⟩,⟨x8,-⟩,⟨x9,-⟩,⟨x10,-⟩,⟨x11,-⟩⟩:=HX0c1.out.below hb13
   obtain⟨⟨y0,-⟩,⟨y1,-⟩,⟨y2,-⟩,⟨y3,-⟩,⟨y4,-⟩,⟨y5,-⟩⟩:=HX1c1.out.below hb13
   (try go_wp2_with fail)
   refine hK.out _ _ (by(try dsimp only); go_keep) ?_
   clear hK K hHeld
   intro hHeld
   try simp only [Act.put,s1,s2,s3]
   clear x0 x1 x2 x3 x4 x5 x6 x7 x8 x9 x10 x11 y0 y1 y2 y3 y4 y5
   generalize q0.alloc (.cells #[.slice none 0 0,.slice none 0 0,.int .i64 0,.int .i64 0,.slice none 0 0,.slice none 0 0,.slice none 0 0,.slice none 0 0,.int .i64 0,.int .i64 0,.slice none 0 0,.slice none 0 0,.int .i64 0] 43)=q13 at hb13 kT13 hHeld hc13 hs13 ⊢
   refine rd [1] (rc (fun K hK=>?_) .nil)
   go_simp
   go_at_call 8
   refine(toStore_any _ _ _ _ _ _ _ _ _ _ S _ ((Hps.out.below hBc1).below hb13) HNs.out).mono ?_
   rintro e q14 ⟨p0,p1,p2,p3,p4,p5,p6,p7,rfl,oS14,hc14⟩
   obtain⟨ss21a,ts21a,ss21b,ts21b,ss21c,ts21c,ss21d,ts21d,rfl,rfl,rfl,rfl⟩:=oS14.at.live.form
   obtain⟨ss21e,ts21e,ss21f,ts21f,ss21g,ts21g,ss21h,ts21h,rfl,rfl,rfl,rfl⟩:=oS14.at.safe.form
   have hb14:=below_next hb13 hc14
   have hs14:=hc14.size
   have kT14:=kT13.below hc14
   obtain⟨⟨x0,-⟩,⟨x1,-⟩,⟨x2,-⟩,⟨x3,-⟩,⟨x4,-⟩,⟨x5,-⟩,⟨x6,-⟩,⟨x7,-⟩,⟨x8,-⟩,⟨x9,-⟩,⟨x10,-⟩,⟨x11,-⟩⟩:=HX0c1.out.below hb14
   obtain⟨⟨y0,-⟩,⟨y1,-⟩,⟨y2,-⟩,⟨y3,-⟩,⟨y4,-⟩,⟨y5,-⟩⟩:=HX1c1.out.below hb14
   (try go_wp2_with fail)
   refine hK.out _ _ (by(try dsimp only); go_keep) ?_
   clear hK K hHeld
   intro hHeld
   try simp only [Act.put,s1,s2,s3]
   clear x0 x1 x2 x3 x4 x5 x6 x7 x8 x9 x10 x11 y0 y1 y2 y3 y4 y5
   refine rd [3] (rc (fun K hK=>?_) .nil)
   go_simp
   go_at_call 19
   refine(toWorld_any _ _ _ _ _ _ X _ ((Hpx.out.below hBc1).below hb14) HNx.out).mono ?_
   rintro e q15 ⟨p0,p1,p2,p3,rfl,oX15,hc15⟩
   obtain⟨sx23a,tx23a,sx23b,tx23b,sx23c,tx23c,sx23d,tx23d,rfl,rfl,rfl,rfl⟩:=oX15.form
   have hb15:=below_next hb14 hc15
   have hs15:=hc15.size
   have oS15:=oS14.below hc15
   have kT15:=kT14.below hc15
   obtain⟨⟨x0,-⟩,⟨x1,-⟩,⟨x2,-⟩,⟨x3,-⟩,⟨x4,-⟩,⟨x5,-⟩,⟨x6,-⟩,⟨x7,-⟩,⟨x8,-⟩,⟨x9,-⟩,⟨x10,-⟩,⟨x11,-⟩⟩:=HX0c1.out.below hb15
   obtain⟨⟨y0,-⟩,⟨y1,-⟩,⟨y2,-⟩,⟨y3,-⟩,⟨y4,-⟩,⟨y5,-⟩⟩:=HX1c1.out.below hb15
   (try go_wp2_with fail)
   refine hK.out _ _ (by(try dsimp only); go_keep) ?_
   clear hK K hHeld
   intro hHeld
   try simp only [Act.put,s1,s2,s3]
   clear x0 x1 x2 x3 x4 x5 x6 x7 x8 x9 x10 x11 y0 y1 y2 y3 y4 y5
   refine rd [4] (rc (fun K hK=>?_) .nil)
   go_simp
   go_at_call 18
   refine(SP.out _ _ _ _ _ _ _ _ _ _ _ _ _ HN.out (StoreAt.mk (oS15.at.live.wide (Nat.zero_le _) (by omega)) (oS15.at.safe.wide (Nat.zero_le _) (by omega))) (oX15.at.wide (Nat.zero_le _) (by omega))).mono ?_
   rintro e q16 ⟨p0,p1,p2,p3,p4,p5,p6,p7,rfl,oO16,hc16⟩
   obtain⟨so3a,to3a,so3b,to3b,so3c,to3c,so3d,to3d,rfl,rfl,rfl,rfl⟩:=oO16.at.live.form
   obtain⟨so3e,to3e,so3f,to3f,so3g,to3g,so3h,to3h,rfl,rfl,rfl,rfl⟩:=oO16.at.safe.form
   have hb16:=below_next hb15 hc16
   have hs16:=hc16.size
   have oS16:=oS15.below hc16
   have oX16:=oX15.below hc16
   have kT16:=kT15.below hc16
   obtain⟨⟨x0,-⟩,⟨x1,-⟩,⟨x2,-⟩,⟨x3,-⟩,⟨x4,-⟩,⟨x5,-⟩,⟨x6,-⟩,⟨x7,-⟩,⟨x8,-⟩,⟨x9,-⟩,⟨x10,-⟩,⟨x11,-⟩⟩:=HX0c1.out.below hb16
   obtain⟨⟨y0,-⟩,⟨y1,-⟩,⟨y2,-⟩,⟨y3,-⟩,⟨y4,-⟩,⟨y5,-⟩⟩:=HX1c1.out.below hb16
   (try go_wp2_with fail)
   refine hK.out _ _ (by(try dsimp only); go_keep) ?_
   clear hK K hHeld
   intro hHeld
   try simp only [Act.put,s1,s2,s3]
   clear x0 x1 x2 x3 x4 x5 x6 x7 x8 x9 x10 x11 y0 y1 y2 y3 y4 y5
   refine rd [6] (rc (fun K hK=>?_) .nil)
   have kH:=hideW kT16
   obtain⟨⟨r0,g0⟩,⟨r1,g1⟩,⟨r2,g2⟩,⟨r3,g3⟩,⟨r4,g4⟩,⟨r5,g5⟩,⟨r6,g6⟩,⟨r7,g7⟩,⟨r8,g8⟩,⟨r9,g9⟩,⟨r10,g10⟩,⟨r11,g11⟩,⟨r12,g12⟩⟩:=kT16
   go_simp
   (try go_wp2_with fail)
   have hT17:Turned (fun k=>k=q0.heap.size) q16 (((((((((((((q16.setCell ⟨q0.heap.size,0,none⟩ (.slice so3a o.store.live.pool.n to3a)).setCell ⟨q0.heap.size,1,none⟩ (.slice so3b o.store.live.pool.hn to3b)).setCell ⟨q0.heap.size,2,none⟩ (.int .i64 o.store.live.time)).setCell ⟨q0.heap.size,3,none⟩ (.int .i64 o.store.live.next)).setCell ⟨q0.heap.size,4,none⟩ (.slice so3c o.store.live.sn to3c)).setCell ⟨q0.heap.size,5,none⟩ (.slice so3d o.store.live.pn to3d)).setCell ⟨q0.heap.size,6,none⟩ (.slice so3e o.store.safe.pool.n to3e)).setCell ⟨q0.heap.size,7,none⟩ (.slice so3f o.store.safe.pool.hn to3f)).setCell ⟨q0.heap.size,8,none⟩ (.int .i64 o.store.safe.time)).setCell ⟨q0.heap.size,9,none⟩ (.int .i64 o.store.safe.next)).setCell ⟨q0.heap.size,10,none⟩ (.slice so3g o.store.safe.sn to3g)).setCell ⟨q0.heap.size,11,none⟩ (.slice so3h o.store.safe.pn to3h)).setCell ⟨q0.heap.size,12,none⟩ (.int .i64 o.code)):=Turned.put13 q16 (q0.heap.size) (.slice so3a o.store.live.pool.n to3a) (.slice so3b o.store.live.pool.hn to3b) (.int .i64 o.store.live.time) (.int .i64 o.store.live.next) (.slice so3c o.store.live.sn to3c) (.slice so3d o.store.live.pn to3d) (.slice so3e o.store.safe.pool.n to3e) (.slice so3f o.store.safe.pool.hn to3f) (.int .i64 o.store.safe.time) (.int .i64 o.store.safe.next) (.slice so3g o.store.safe.sn to3g) (.slice so3h o.store.safe.pn to3h) (.int .i64 o.code)
   have hb17:=hb16.trans (hT17.below (B:=c1.heap.size) hb16.size (fun k e=>by omega))
   have hs17:=hT17.size
   obtain⟨⟨x0,-⟩,⟨x1,-⟩,⟨x2,-⟩,⟨x3,-⟩,⟨x4,-⟩,⟨x5,-⟩,⟨x6,-⟩,⟨x7,-⟩,⟨x8,-⟩,⟨x9,-⟩,⟨x10,-⟩,⟨x11,-⟩⟩:=HX0c1.out.below hb17
   obtain⟨⟨y0,-⟩,⟨y1,-⟩,⟨y2,-⟩,⟨y3,-⟩,⟨y4,-⟩,⟨y5,-⟩⟩:=HX1c1.out.below hb17
   refine hK.out _ _ (by(try dsimp only); go_keep) ?_
   clear hK K hHeld
   intro hHeld
   try simp only [Act.put,s1,s2,s3]
   clear x0 x1 x2 x3 x4 x5 x6 x7 x8 x9 x10 x11 y0 y1 y2 y3 y4 y5 r0 g0 r1 g1 r2 g2 r3 g3 r4 g4 r5 g5 r6 g6 r7 g7 r8 g8 r9 g9 r10 g10 r11 g11 r12 g12
   refine wpAnyH_done (by kernel_rfl) ?_ _
   go_wp2_with fail
   have kT17:=kH.out.put (.slice so3a o.store.live.pool.n to3a) (.slice so3b o.store.live.pool.hn to3b) (.int .i64 o.store.live.time) (.int .i64 o.store.live.next) (.slice so3c o.store.live.sn to3c) (.slice so3d o.store.live.pn to3d) (.slice so3e o.store.safe.pool.n to3e) (.slice so3f o.store.safe.pool.hn to3f) (.int .i64 o.store.safe.time) (.int .i64 o.store.safe.next) (.slice so3g o.store.safe.sn to3g) (.slice so3h o.store.safe.pn to3h) (.int .i64 o.code)
   have oO17:=oO16.turned hT17 (fun k e=>by omega)
   go_meet
   case rel=>exact⟨_,q15.heap.size,q16.heap.size,_,_,_,_,_,_,_,_,_,_,_,_,_,_,_,_,rfl,kT17,oO17,⟨by omega,by omega,by omega,by omega,by omega⟩,hb17⟩
 obtain⟨VV,lA,hA,so3a,to3a,so3b,to3b,so3c,to3c,so3d,to3d,so3e,to3e,so3f,to3f,so3g,to3g,so3h,to3h,rfl,hVc,hOc,hZc,hbc⟩:=hcut
 have hBd2:=below_next hBc1 hbc
 have HVd2:=hideW hVc
 have HAd2:=hideW hOc
 have ZA:=hideW (show w.heap.size+2≤lA∧w.heap.size+2≤VV∧VV<wc.heap.size∧hA≤wc.heap.size∧(VV<lA∨hA≤VV)by omega)
 have HX0d2:=hideW (HX0c1.out.below hbc)
 have HX1d2:=hideW (HX1c1.out.below hbc)
 clear hVc hOc hZc hbc hBc1 HX0c1 HX1c1 hzC x0 x1 x2 x3 x4 x5 x6 x7 x8 x9 x10 x11 y0 y1 y2 y3 y4 y5
 obtain⟨⟨x0,-⟩,⟨x1,-⟩,⟨x2,-⟩,⟨x3,-⟩,⟨x4,-⟩,⟨x5,-⟩,⟨x6,-⟩,⟨x7,-⟩,⟨x8,-⟩,⟨x9,-⟩,⟨x10,-⟩,⟨x11,-⟩⟩:=HX0d2.out
 go_wp2_with fail
 clear x0 x1 x2 x3 x4 x5 x6 x7 x8 x9 x10 x11
 refine(toStore_any _ _ _ _ _ _ _ _ _ _ S _ (Hps.out.below hBd2) HNs.out).mono ?_
 rintro e f00 ⟨p0,p1,p2,p3,p4,p5,p6,p7,rfl,hoA,hb4⟩
 obtain⟨ss4a,ts4a,ss4b,ts4b,ss4c,ts4c,ss4d,ts4d,rfl,rfl,rfl,rfl⟩:=hoA.at.live.form
 obtain⟨ss4e,ts4e,ss4f,ts4f,ss4g,ts4g,ss4h,ts4h,rfl,rfl,rfl,rfl⟩:=hoA.at.safe.form
 have hal:=below_alloc f00 (.cells #[.slice ss4a S.live.pool.n ts4a,.slice ss4b S.live.pool.hn ts4b,.int .i64 S.live.time,.int .i64 S.live.next,.slice ss4c S.live.sn ts4c,.slice ss4d S.live.pn ts4d,.slice ss4e S.safe.pool.n ts4e,.slice ss4f S.safe.pool.hn ts4f,.int .i64 S.safe.time,.int .i64 S.safe.next,.slice ss4g S.safe.sn ts4g,.slice ss4h S.safe.pn ts4h] 41)
 have hba:=below_next hb4 hal
 have hBf0:=below_next hBd2 hba
 have HX0f0:=hideW (HX0d2.out.below hba)
 have HX1f0:=hideW (HX1d2.out.below hba)
 have HVf0:=hideW (HVd2.out.below hba)
 have HAf0:=hideW (HAd2.out.below hba)
 clear HX0d2 HX1d2 HVd2 HAd2
 have HY0f0:=hideW (Box12.new f00 (.slice ss4a S.live.pool.n ts4a) (.slice ss4b S.live.pool.hn ts4b) (.int .i64 S.live.time) (.int .i64 S.live.next) (.slice ss4c S.live.sn ts4c) (.slice ss4d S.live.pn ts4d) (.slice ss4e S.safe.pool.n ts4e) (.slice ss4f S.safe.pool.hn ts4f) (.int .i64 S.safe.time) (.int .i64 S.safe.next) (.slice ss4g S.safe.sn ts4g) (.slice ss4h S.safe.pn ts4h) 41)
 have HO0f0:=hideW (hoA.below hal)
 have Zf0:=hideW (show wc.heap.size≤f00.heap.size∧f00.heap.size<(f00.alloc (.cells #[.slice ss4a S.live.pool.n ts4a,.slice ss4b S.live.pool.hn ts4b,.int .i64 S.live.time,.int .i64 S.live.next,.slice ss4c S.live.sn ts4c,.slice ss4d S.live.pn ts4d,.slice ss4e S.safe.pool.n ts4e,.slice ss4f S.safe.pool.hn ts4f,.int .i64 S.safe.time,.int .i64 S.safe.next,.slice ss4g S.safe.sn ts4g,.slice ss4h S.safe.pn ts4h] 41)).heap.size by have:=hb4.size; rw [World.size_alloc]; omega)
 clear hoA hb4 hal hba hBd2
 obtain⟨⟨x0,-⟩,⟨x1,-⟩,⟨x2,-⟩,⟨x3,-⟩,⟨x4,-⟩,⟨x5,-⟩⟩:=HX1f0.out
 go_wp2_with fail
 clear x0 x1 x2 x3 x4 x5
 generalize f00.alloc (.cells #[.slice ss4a S.live.pool.n ts4a,.slice ss4b S.live.pool.hn ts4b,.int .i64 S.live.time,.int .i64 S.live.next,.slice ss4c S.live.sn ts4c,.slice ss4d S.live.pn ts4d,.slice ss4e S.safe.pool.n ts4e,.slice ss4f S.safe.pool.hn ts4f,.int .i64 S.safe.time,.int .i64 S.safe.next,.slice ss4g S.safe.sn ts4g,.slice ss4h S.safe.pn ts4h] 41)=F0 at hBf0 Zf0 HX0f0 HX1f0 HVf0 HAf0 HY0f0 HO0f0 ⊢
 generalize f00.heap.size=VY0 at HY0f0 HO0f0 Zf0 ⊢
 obtain⟨⟨x0,-⟩,⟨x1,-⟩,⟨x2,-⟩,⟨x3,-⟩,⟨x4,-⟩,⟨x5,-⟩⟩:=HX1f0.out
 go_wp2_with fail
 clear x0 x1 x2 x3 x4 x5
 refine(toWorld_any _ _ _ _ _ _ X _ (Hpx.out.below hBf0) HNx.out).mono ?_
 rintro e f10 ⟨p0,p1,p2,p3,rfl,hoA,hb4⟩
 obtain⟨sx5a,tx5a,sx5b,tx5b,sx5c,tx5c,sx5d,tx5d,rfl,rfl,rfl,rfl⟩:=hoA.form
 have hal:=below_alloc f10 (.cells #[.slice sx5a X.pool.n tx5a,.slice sx5b X.pool.hn tx5b,.int .i64 X.time,.int .i64 X.next,.slice sx5c X.sn tx5c,.slice sx5d X.pn tx5d] 39)
 have hba:=below_next hb4 hal
 have hBf1:=below_next hBf0 hba
 have HX0f1:=hideW (HX0f0.out.below hba)
 have HX1f1:=hideW (HX1f0.out.below hba)
 have HVf1:=hideW (HVf0.out.below hba)
 have HAf1:=hideW (HAf0.out.below hba)
 have HY0f1:=hideW (HY0f0.out.below hba)
 have HO0f1:=hideW (HO0f0.out.below hba)
 clear HX0f0 HX1f0 HVf0 HAf0 HY0f0 HO0f0
 have HY1f1:=hideW (Box6.new f10 (.slice sx5a X.pool.n tx5a) (.slice sx5b X.pool.hn tx5b) (.int .i64 X.time) (.int .i64 X.next) (.slice sx5c X.sn tx5c) (.slice sx5d X.pn tx5d) 39)
 have HO1f1:=hideW (hoA.below hal)
 have Zf1:=hideW (show F0.heap.size≤f10.heap.size∧f10.heap.size<(f10.alloc (.cells #[.slice sx5a X.pool.n tx5a,.slice sx5b X.pool.hn tx5b,.int .i64 X.time,.int .i64 X.next,.slice sx5c X.sn tx5c,.slice sx5d X.pn tx5d] 39)).heap.size by have:=hb4.size; rw [World.size_alloc]; omega)
 clear hoA hb4 hal hba hBf0
 obtain⟨⟨y0,-⟩,⟨y1,-⟩,⟨y2,-⟩,⟨y3,-⟩,⟨y4,-⟩,⟨y5,-⟩,⟨y6,-⟩,⟨y7,-⟩,⟨y8,-⟩,⟨y9,-⟩,⟨y10,-⟩,⟨y11,-⟩⟩:=HY0f1.out
 obtain⟨⟨z0,-⟩,⟨z1,-⟩,⟨z2,-⟩,⟨z3,-⟩,⟨z4,-⟩,⟨z5,-⟩⟩:=HY1f1.out
 go_wp2_with fail
 clear y0 y1 y2 y3 y4 y5 y6 y7 y8 y9 y10 y11 z0 z1 z2 z3 z4 z5
 generalize f10.alloc (.cells #[.slice sx5a X.pool.n tx5a,.slice sx5b X.pool.hn tx5b,.int .i64 X.time,.int .i64 X.next,.slice sx5c X.sn tx5c,.slice sx5d X.pn tx5d] 39)=F1 at hBf1 Zf1 HX0f1 HX1f1 HVf1 HAf1 HY0f1 HO0f1 HY1f1 HO1f1 ⊢
 generalize f10.heap.size=VY1 at HY1f1 HO1f1 Zf1 ⊢
 refine(IM.out _ _ _ _ _ _ _ _ _ _ _ _ F1 HN.out (HE.out.below hBf1) (StoreAt.mk (HO0f1.out.at.live.wide (Nat.zero_le _) (by have:=Zf1.out; have:=Zf0.out; have:=Zf1.out; omega)) (HO0f1.out.at.safe.wide (Nat.zero_le _) (by have:=Zf1.out; have:=Zf0.out; have:=Zf1.out; omega))) (HO1f1.out.at.wide (Nat.zero_le _) (by have:=Zf1.out; have:=Zf0.out; have:=Zf1.out; omega))).mono ?_
 rintro e g0 ⟨p0,p1,p2,p3,p4,p5,p6,p7,rfl,hoB,hb5⟩
 obtain⟨so9a,to9a,so9b,to9b,so9c,to9c,so9d,to9d,rfl,rfl,rfl,rfl⟩:=hoB.at.live.form
 obtain⟨so9e,to9e,so9f,to9f,so9g,to9g,so9h,to9h,rfl,rfl,rfl,rfl⟩:=hoB.at.safe.form
 have hal:=below_alloc g0 (.cells #[.slice so9a o.store.live.pool.n to9a,.slice so9b o.store.live.pool.hn to9b,.int .i64 o.store.live.time,.int .i64 o.store.live.next,.slice so9c o.store.live.sn to9c,.slice so9d o.store.live.pn to9d,.slice so9e o.store.safe.pool.n to9e,.slice so9f o.store.safe.pool.hn to9f,.int .i64 o.store.safe.time,.int .i64 o.store.safe.next,.slice so9g o.store.safe.sn to9g,.slice so9h o.store.safe.pn to9h,.int .i64 o.code] 43)
 have hba:=below_next hb5 hal
 have hBg1:=below_next hBf1 hba
 have HX0g1:=hideW (HX0f1.out.below hba)
 have HX1g1:=hideW (HX1f1.out.below hba)
 have HVg1:=hideW (HVf1.out.below hba)
 have HAg1:=hideW (HAf1.out.below hba)
 have HY0g1:=hideW (HY0f1.out.below hba)
 have HO0g1:=hideW (HO0f1.out.below hba)
 have HY1g1:=hideW (HY1f1.out.below hba)
 have HO1g1:=hideW (HO1f1.out.below hba)
 clear HX0f1 HX1f1 HVf1 HAf1 HY0f1 HO0f1 HY1f1 HO1f1
 have HGg1:=hideW (Box13.new g0 (.slice so9a o.store.live.pool.n to9a) (.slice so9b o.store.live.pool.hn to9b) (.int .i64 o.store.live.time) (.int .i64 o.store.live.next) (.slice so9c o.store.live.sn to9c) (.slice so9d o.store.live.pn to9d) (.slice so9e o.store.safe.pool.n to9e) (.slice so9f o.store.safe.pool.hn to9f) (.int .i64 o.store.safe.time) (.int .i64 o.store.safe.next) (.slice so9g o.store.safe.sn to9g) (.slice so9h o.store.safe.pn to9h) (.int .i64 o.code) 43)
 have HDg1:=hideW (hoB.below hal)
 have Zg1:=hideW (show F1.heap.size≤g0.heap.size∧g0.heap.size<(g0.alloc (.cells #[.slice so9a o.store.live.pool.n to9a,.slice so9b o.store.live.pool.hn to9b,.int .i64 o.store.live.time,.int .i64 o.store.live.next,.slice so9c o.store.live.sn to9c,.slice so9d o.store.live.pn to9d,.slice so9e o.store.safe.pool.n to9e,.slice so9f o.store.safe.pool.hn to9f,.int .i64 o.store.safe.time,.int .i64 o.store.safe.next,.slice so9g o.store.safe.sn to9g,.slice so9h o.store.safe.pn to9h,.int .i64 o.code] 43)).heap.size by have:=hb5.size; rw [World.size_alloc]; omega)
 clear hoB hb5 hal hba hBf1
 obtain⟨⟨g0,-⟩,⟨g1,-⟩,⟨g2,-⟩,⟨g3,-⟩,⟨g4,-⟩,⟨g5,-⟩,⟨g6,-⟩,⟨g7,-⟩,⟨g8,-⟩,⟨g9,-⟩,⟨g10,-⟩,⟨g11,-⟩,⟨g12,-⟩⟩:=HGg1.out
 obtain⟨⟨v0,-⟩,⟨v1,-⟩,⟨v2,-⟩,⟨v3,-⟩,⟨v4,-⟩,⟨v5,-⟩,⟨v6,-⟩,⟨v7,-⟩,⟨v8,-⟩,⟨v9,-⟩,⟨v10,-⟩,⟨v11,-⟩,⟨v12,-⟩⟩:=HVg1.out
 go_wp2_with fail
 clear g0 g1 g2 g3 g4 g5 g6 g7 g8 g9 g10 g11 g12 v0 v1 v2 v3 v4 v5 v6 v7 v8 v9 v10 v11 v12
 generalize g0.alloc (.cells #[.slice so9a o.store.live.pool.n to9a,.slice so9b o.store.live.pool.hn to9b,.int .i64 o.store.live.time,.int .i64 o.store.live.next,.slice so9c o.store.live.sn to9c,.slice so9d o.store.live.pn to9d,.slice so9e o.store.safe.pool.n to9e,.slice so9f o.store.safe.pool.hn to9f,.int .i64 o.store.safe.time,.int .i64 o.store.safe.next,.slice so9g o.store.safe.sn to9g,.slice so9h o.store.safe.pn to9h,.int .i64 o.code] 43)=G1 at hBg1 Zg1 HX0g1 HX1g1 HVg1 HAg1 HY0g1 HO0g1 HY1g1 HO1g1 HGg1 HDg1 ⊢
 generalize g0.heap.size=VG at HGg1 HDg1 Zg1 ⊢
 refine(eqSOut_same _ _ _ _ _ _ _ _ _ _ _ _ _ _ _ _ _ _ _ _ o G1 HDg1.out.at HAg1.out.at).mono ?_
 rintro e g2 ⟨rfl,hb6⟩
 have hBg2:=below_next hBg1 hb6
 have Zg2:=hideW hb6.size
 have HX0g2:=hideW (HX0g1.out.below hb6)
 have HX1g2:=hideW (HX1g1.out.below hb6)
 have HVg2:=hideW (HVg1.out.below hb6)
 have HAg2:=hideW (HAg1.out.below hb6)
 have HY0g2:=hideW (HY0g1.out.below hb6)
 have HO0g2:=hideW (HO0g1.out.below hb6)
 have HY1g2:=hideW (HY1g1.out.below hb6)
 have HO1g2:=hideW (HO1g1.out.below hb6)
 have HGg2:=hideW (HGg1.out.below hb6)
 have HDg2:=hideW (HDg1.out.below hb6)
 clear HX0g1 HX1g1 HVg1 HAg1 HY0g1 HO0g1 HY1g1 HO1g1 HGg1 HDg1
 clear hb6 hBg1
 obtain⟨⟨x0,-⟩,⟨x1,-⟩,⟨x2,-⟩,⟨x3,-⟩,⟨x4,-⟩,⟨x5,-⟩,⟨x6,-⟩,⟨x7,-⟩,⟨x8,-⟩,⟨x9,-⟩,⟨x10,-⟩,⟨x11,-⟩⟩:=HX0g2.out
 obtain⟨⟨y0,-⟩,⟨y1,-⟩,⟨y2,-⟩,⟨y3,-⟩,⟨y4,-⟩,⟨y5,-⟩,⟨y6,-⟩,⟨y7,-⟩,⟨y8,-⟩,⟨y9,-⟩,⟨y10,-⟩,⟨y11,-⟩⟩:=HY0g2.out
 go_wp2_with fail
 go_region_held3 (fun w'=>w'.cell? ⟨w.heap.size,0,none⟩=some (.slice ss0a S.live.pool.n ts0a)∧w'.cell? ⟨w.heap.size,1,none⟩=some (.slice ss0b S.live.pool.hn ts0b)∧w'.cell? ⟨w.heap.size,2,none⟩=some (.int .i64 S.live.time)∧w'.cell? ⟨w.heap.size,3,none⟩=some (.int .i64 S.live.next)∧w'.cell? ⟨w.heap.size,4,none⟩=some (.slice ss0c S.live.sn ts0c)∧w'.cell? ⟨w.heap.size,5,none⟩=some (.slice ss0d S.live.pn ts0d)∧w'.cell? ⟨w.heap.size,6,none⟩=some (.slice ss0e S.safe.pool.n ts0e)∧w'.cell? ⟨w.heap.size,7,none⟩=some (.slice ss0f S.safe.pool.hn ts0f)∧w'.cell? ⟨w.heap.size,8,none⟩=some (.int .i64 S.safe.time)∧w'.cell? ⟨w.heap.size,9,none⟩=some (.int .i64 S.safe.next)∧w'.cell? ⟨w.heap.size,10,none⟩=some (.slice ss0g S.safe.sn ts0g)∧w'.cell? ⟨w.heap.size,11,none⟩=some (.slice ss0h S.safe.pn ts0h)∧w'.cell? ⟨VY0,0,none⟩=some (.slice ss4a S.live.pool.n ts4a)∧w'.cell? ⟨VY0,1,none⟩=some (.slice ss4b S.live.pool.hn ts4b)∧w'.cell? ⟨VY0,2,none⟩=some (.int .i64 S.live.time)∧w'.cell? ⟨VY0,3,none⟩=some (.int .i64 S.live.next)∧w'.cell? ⟨VY0,4,none⟩=some (.slice ss4c S.live.sn ts4c)∧w'.cell? ⟨VY0,5,none⟩=some (.slice ss4d S.live.pn ts4d)∧w'.cell? ⟨VY0,6,none⟩=some (.slice ss4e S.safe.pool.n ts4e)∧w'.cell? ⟨VY0,7,none⟩=some (.slice ss4f S.safe.pool.hn ts4f)∧w'.cell? ⟨VY0,8,none⟩=some (.int .i64 S.safe.time)∧w'.cell? ⟨VY0,9,none⟩=some (.int .i64 S.safe.next)∧w'.cell? ⟨VY0,10,none⟩=some (.slice ss4g S.safe.sn ts4g)∧w'.cell? ⟨VY0,11,none⟩=some (.slice ss4h S.safe.pn ts4h)) (go_keep)
  (first
   | (go_at_call 8; refine(toStore_any _ _ _ _ _ _ _ _ 0 w.heap.size S _ ?_ HNs.out).mono ?_; (exact Hps.out.below hBg2.drew); rintro e w7 ⟨p0,p1,p2,p3,p4,p5,p6,p7,rfl,ho7,hb7⟩; obtain⟨ss7a,ts7a,ss7b,ts7b,ss7c,ts7c,ss7d,ts7d,rfl,rfl,rfl,rfl⟩:=ho7.at.live.form; obtain⟨ss7e,ts7e,ss7f,ts7f,ss7g,ts7g,ss7h,ts7h,rfl,rfl,rfl,rfl⟩:=ho7.at.safe.form; have hb7':=below_undrew hb7; obtain⟨⟨q0,-⟩,⟨q1,-⟩,⟨q2,-⟩,⟨q3,-⟩,⟨q4,-⟩,⟨q5,-⟩,⟨q6,-⟩,⟨q7,-⟩,⟨q8,-⟩,⟨q9,-⟩,⟨q10,-⟩,⟨q11,-⟩⟩:=HX0g2.out.below hb7'; obtain⟨⟨r0,-⟩,⟨r1,-⟩,⟨r2,-⟩,⟨r3,-⟩,⟨r4,-⟩,⟨r5,-⟩,⟨r6,-⟩,⟨r7,-⟩,⟨r8,-⟩,⟨r9,-⟩,⟨r10,-⟩,⟨r11,-⟩⟩:=HY0g2.out.below hb7')
   | (go_at_call 11; refine(eqStore_same _ _ _ _ _ _ _ _ _ _ _ _ _ _ _ _ _ _ _ _ S _ (HO0g2.out.at.below hb7') ho7.at).mono ?_; rintro e k0 ⟨rfl,hb8⟩; have hb8':=below_next hb7' hb8; obtain⟨⟨s0,-⟩,⟨s1,-⟩,⟨s2,-⟩,⟨s3,-⟩,⟨s4,-⟩,⟨s5,-⟩,⟨s6,-⟩,⟨s7,-⟩,⟨s8,-⟩,⟨s9,-⟩,⟨s10,-⟩,⟨s11,-⟩⟩:=HX0g2.out.below hb8'; obtain⟨⟨t0,-⟩,⟨t1,-⟩,⟨t2,-⟩,⟨t3,-⟩,⟨t4,-⟩,⟨t5,-⟩,⟨t6,-⟩,⟨t7,-⟩,⟨t8,-⟩,⟨t9,-⟩,⟨t10,-⟩,⟨t11,-⟩⟩:=HY0g2.out.below hb8'))
 have hBk0:=below_next hBg2 hb8'
 have Zk0:=hideW hb8'.size
 have HX0k0:=hideW (HX0g2.out.below hb8')
 have HX1k0:=hideW (HX1g2.out.below hb8')
 have HVk0:=hideW (HVg2.out.below hb8')
 have HAk0:=hideW (HAg2.out.below hb8')
 have HY0k0:=hideW (HY0g2.out.below hb8')
 have HO0k0:=hideW (HO0g2.out.below hb8')
 have HY1k0:=hideW (HY1g2.out.below hb8')
 have HO1k0:=hideW (HO1g2.out.below hb8')
 have HGk0:=hideW (HGg2.out.below hb8')
 have HDk0:=hideW (HDg2.out.below hb8')
 clear HX0g2 HX1g2 HVg2 HAg2 HY0g2 HO0g2 HY1g2 HO1g2 HGg2 HDg2
 clear x0 x1 x2 x3 x4 x5 x6 x7 x8 x9 x10 x11 y0 y1 y2 y3 y4 y5 y6 y7 y8 y9 y10 y11 q0 q1 q2 q3 q4 q5 q6 q7 q8 q9 q10 q11 r0 r1 r2 r3 r4 r5 r6 r7 r8 r9 r10 r11 s0 s1 s2 s3 s4 s5 s6 s7 s8 s9 s10 s11 t0 t1 t2 t3 t4 t5 t6 t7 t8 t9 t10 t11 hb7 hb7' hb8 hb8' ho7 hBg2
 obtain⟨⟨x0,-⟩,⟨x1,-⟩,⟨x2,-⟩,⟨x3,-⟩,⟨x4,-⟩,⟨x5,-⟩⟩:=HX1k0.out
 obtain⟨⟨y0,-⟩,⟨y1,-⟩,⟨y2,-⟩,⟨y3,-⟩,⟨y4,-⟩,⟨y5,-⟩⟩:=HY1k0.out
 go_wp2_with fail
 go_region_held3 (fun w'=>w'.cell? ⟨w.heap.size+1,0,none⟩=some (.slice sx0a X.pool.n tx0a)∧w'.cell? ⟨w.heap.size+1,1,none⟩=some (.slice sx0b X.pool.hn tx0b)∧w'.cell? ⟨w.heap.size+1,2,none⟩=some (.int .i64 X.time)∧w'.cell? ⟨w.heap.size+1,3,none⟩=some (.int .i64 X.next)∧w'.cell? ⟨w.heap.size+1,4,none⟩=some (.slice sx0c X.sn tx0c)∧w'.cell? ⟨w.heap.size+1,5,none⟩=some (.slice sx0d X.pn tx0d)∧w'.cell? ⟨VY1,0,none⟩=some (.slice sx5a X.pool.n tx5a)∧w'.cell? ⟨VY1,1,none⟩=some (.slice sx5b X.pool.hn tx5b)∧w'.cell? ⟨VY1,2,none⟩=some (.int .i64 X.time)∧w'.cell? ⟨VY1,3,none⟩=some (.int .i64 X.next)∧w'.cell? ⟨VY1,4,none⟩=some (.slice sx5c X.sn tx5c)∧w'.cell? ⟨VY1,5,none⟩=some (.slice sx5d X.pn tx5d)) (go_keep)
  (first
   | (go_at_call 19; refine(toWorld_any _ _ _ _ 0 w.heap.size X _ ?_ HNx.out).mono ?_; (exact Hpx.out.below hBk0.drew); rintro e w7 ⟨p0,p1,p2,p3,rfl,ho7,hb7⟩; obtain⟨sx7a,tx7a,sx7b,tx7b,sx7c,tx7c,sx7d,tx7d,rfl,rfl,rfl,rfl⟩:=ho7.form; have hb7':=below_undrew hb7; obtain⟨⟨q0,-⟩,⟨q1,-⟩,⟨q2,-⟩,⟨q3,-⟩,⟨q4,-⟩,⟨q5,-⟩⟩:=HX1k0.out.below hb7'; obtain⟨⟨r0,-⟩,⟨r1,-⟩,⟨r2,-⟩,⟨r3,-⟩,⟨r4,-⟩,⟨r5,-⟩⟩:=HY1k0.out.below hb7')
   | (go_at_call 21; refine(eqWorld_same _ _ _ _ _ _ _ _ _ _ _ _ X _ (HO1k0.out.at.below hb7') ho7.at).mono ?_; rintro e k1 ⟨rfl,hb8⟩; have hb8':=below_next hb7' hb8; obtain⟨⟨s0,-⟩,⟨s1,-⟩,⟨s2,-⟩,⟨s3,-⟩,⟨s4,-⟩,⟨s5,-⟩⟩:=HX1k0.out.below hb8'; obtain⟨⟨t0,-⟩,⟨t1,-⟩,⟨t2,-⟩,⟨t3,-⟩,⟨t4,-⟩,⟨t5,-⟩⟩:=HY1k0.out.below hb8'))
 have hBk1:=below_next hBk0 hb8'
 have Zk1:=hideW hb8'.size
 have HX0k1:=hideW (HX0k0.out.below hb8')
 have HX1k1:=hideW (HX1k0.out.below hb8')
 have HVk1:=hideW (HVk0.out.below hb8')
 have HAk1:=hideW (HAk0.out.below hb8')
 have HY0k1:=hideW (HY0k0.out.below hb8')
 have HO0k1:=hideW (HO0k0.out.below hb8')
 have HY1k1:=hideW (HY1k0.out.below hb8')
 have HO1k1:=hideW (HO1k0.out.below hb8')
 have HGk1:=hideW (HGk0.out.below hb8')
 have HDk1:=hideW (HDk0.out.below hb8')
 clear HX0k0 HX1k0 HVk0 HAk0 HY0k0 HO0k0 HY1k0 HO1k0 HGk0 HDk0
 clear x0 x1 x2 x3 x4 x5 y0 y1 y2 y3 y4 y5 q0 q1 q2 q3 q4 q5 r0 r1 r2 r3 r4 r5 s0 s1 s2 s3 s4 s5 t0 t1 t2 t3 t4 t5 hb7 hb7' hb8 hb8' ho7 hBk0
 obtain⟨⟨y0,-⟩,⟨y1,-⟩,⟨y2,-⟩,⟨y3,-⟩,⟨y4,-⟩,⟨y5,-⟩,⟨y6,-⟩,⟨y7,-⟩,⟨y8,-⟩,⟨y9,-⟩,⟨y10,-⟩,⟨y11,-⟩⟩:=HY0k1.out
 go_wp2_with fail
 clear y0 y1 y2 y3 y4 y5 y6 y7 y8 y9 y10 y11
 have hk0:endSt S 1≤1000000000000∧0≤endSt S 1:=hends
 refine(markStore_any _ _ _ _ _ _ _ _ _ _ S 1 _ HO0k1.out (by have q0:=ZZ0.out; have q1:=Zc0.out; have q2:=Zc1.out; have q3:=ZA.out; have q4:=Zf0.out; have q5:=Zf1.out; have q6:=Zg1.out; have q7:=Zg2.out; have q8:=Zk0.out; have q9:=Zk1.out; omega) (by omega) hk0.1).mono ?_
 rintro e m0 ⟨rfl,-,htm⟩
 have q0:=ZZ0.out
 have q1:=Zc0.out
 have q2:=Zc1.out
 have q3:=ZA.out
 have q4:=Zf0.out
 have q5:=Zf1.out
 have q6:=Zg1.out
 have q7:=Zg2.out
 have q8:=Zk0.out
 have q9:=Zk1.out
 have hBm0:Below w.heap.size w m0:=hBk1.trans (htm.below (B:=w.heap.size) (by omega) (fun k hk=>by omega))
 have HX0m0:=hideW (HX0k1.out.turned htm (fun hk=>by omega))
 have HX1m0:=hideW (HX1k1.out.turned htm (fun hk=>by omega))
 have HVm0:=hideW (HVk1.out.turned htm (fun hk=>by omega))
 have HAm0:=hideW (HAk1.out.turned htm (fun k hk=>by omega))
 have HY1m0:=hideW (HY1k1.out.turned htm (fun hk=>by omega))
 have HO1m0:=hideW (HO1k1.out.turned htm (fun k hk=>by omega))
 have HGm0:=hideW (HGk1.out.turned htm (fun hk=>by omega))
 have HDm0:=hideW (HDk1.out.turned htm (fun k hk=>by omega))
 have Zm0:=hideW htm.size
 clear htm hBk1 HX0k1 HX1k1 HVk1 HAk1 HY0k1 HO0k1 HY1k1 HO1k1 HGk1 HDk1 q0 q1 q2 q3 q4 q5 q6 q7 q8 q9
 have hkn0:¬endSt S 1<0:=by omega
 obtain⟨⟨y0,-⟩,⟨y1,-⟩,⟨y2,-⟩,⟨y3,-⟩,⟨y4,-⟩,⟨y5,-⟩⟩:=HY1m0.out
 go_wp2_with fail
 clear y0 y1 y2 y3 y4 y5
 have hk1:endW X (endSt S 1)≤1000000000000∧0≤endW X (endSt S 1):=endW_within (by have:=HNx.out; omega) (by omega) (by have:=endSt_big S 1; have:=HNs.out; omega)
 refine(markWorld_any _ _ _ _ _ _ X (endSt S 1) _ HO1m0.out (by omega) hk1.1).mono ?_
 rintro e m1 ⟨rfl,-,htm⟩
 have q0:=ZZ0.out
 have q1:=Zc0.out
 have q2:=Zc1.out
 have q3:=ZA.out
 have q4:=Zf0.out
 have q5:=Zf1.out
 have q6:=Zg1.out
 have q7:=Zg2.out
 have q8:=Zk0.out
 have q9:=Zk1.out
 have q10:=Zm0.out
 have hBm1:Below w.heap.size w m1:=hBm0.trans (htm.below (B:=w.heap.size) (by omega) (fun k hk=>by omega))
 have HX0m1:=hideW (HX0m0.out.turned htm (fun hk=>by omega))
 have HX1m1:=hideW (HX1m0.out.turned htm (fun hk=>by omega))
 have HVm1:=hideW (HVm0.out.turned htm (fun hk=>by omega))
 have HAm1:=hideW (HAm0.out.turned htm (fun k hk=>by omega))
 have HGm1:=hideW (HGm0.out.turned htm (fun hk=>by omega))
 have HDm1:=hideW (HDm0.out.turned htm (fun k hk=>by omega))
 have Zm1:=hideW htm.size
 clear htm hBm0 HX0m0 HX1m0 HVm0 HAm0 HY1m0 HO1m0 HGm0 HDm0 q0 q1 q2 q3 q4 q5 q6 q7 q8 q9 q10
 have hkn1:¬endW X (endSt S 1)<0:=by omega
 generalize endW X (endSt S 1)=kk at *
 obtain⟨⟨g0,-⟩,⟨g1,-⟩,⟨g2,-⟩,⟨g3,-⟩,⟨g4,-⟩,⟨g5,-⟩,⟨g6,-⟩,⟨g7,-⟩,⟨g8,-⟩,⟨g9,-⟩,⟨g10,-⟩,⟨g11,-⟩,⟨g12,-⟩⟩:=HGm1.out
 obtain⟨⟨v0,-⟩,⟨v1,-⟩,⟨v2,-⟩,⟨v3,-⟩,⟨v4,-⟩,⟨v5,-⟩,⟨v6,-⟩,⟨v7,-⟩,⟨v8,-⟩,⟨v9,-⟩,⟨v10,-⟩,⟨v11,-⟩,⟨v12,-⟩⟩:=HVm1.out
 go_wp2_with fail
 clear g0 g1 g2 g3 g4 g5 g6 g7 g8 g9 g10 g11 g12 v0 v1 v2 v3 v4 v5 v6 v7 v8 v9 v10 v11 v12
 refine(eqSOut_same _ _ _ _ _ _ _ _ _ _ _ _ _ _ _ _ _ _ _ _ o m1 HDm1.out.at HAm1.out.at).mono ?_
 rintro e n0 ⟨rfl,hb9⟩
 have hBn0:=below_next hBm1 hb9
 have Zn0:=hideW hb9.size
 have HX0n0:=hideW (HX0m1.out.below hb9)
 have HX1n0:=hideW (HX1m1.out.below hb9)
 have HVn0:=hideW (HVm1.out.below hb9)
 have HAn0:=hideW (HAm1.out.below hb9)
 have HGn0:=hideW (HGm1.out.below hb9)
 have HDn0:=hideW (HDm1.out.below hb9)
 clear HX0m1 HX1m1 HVm1 HAm1 HGm1 HDm1
 clear hb9 hBm1
 obtain⟨⟨g0,-⟩,⟨g1,-⟩,⟨g2,-⟩,⟨g3,-⟩,⟨g4,-⟩,⟨g5,-⟩,⟨g6,-⟩,⟨g7,-⟩,⟨g8,-⟩,⟨g9,-⟩,⟨g10,-⟩,⟨g11,-⟩,⟨g12,-⟩⟩:=HGn0.out
 go_wp2_with fail
 clear g0 g1 g2 g3 g4 g5 g6 g7 g8 g9 g10 g11 g12
 refine(markSOut_any _ _ _ _ _ _ _ _ _ _ o 1 n0 HDn0.out (by have q0:=ZZ0.out; have q1:=Zc0.out; have q2:=Zc1.out; have q3:=ZA.out; have q4:=Zf0.out; have q5:=Zf1.out; have q6:=Zg1.out; have q7:=Zg2.out; have q8:=Zk0.out; have q9:=Zk1.out; have q10:=Zm0.out; have q11:=Zm1.out; have q12:=Zn0.out; omega) (by omega) (by rw [Hge.out]; exact hge1)).mono ?_
 rintro e n1 ⟨rfl,hDn,htm⟩
 rw [Hge.out]
 have q0:=ZZ0.out
 have q1:=Zc0.out
 have q2:=Zc1.out
 have q3:=ZA.out
 have q4:=Zf0.out
 have q5:=Zf1.out
 have q6:=Zg1.out
 have q7:=Zg2.out
 have q8:=Zk0.out
 have q9:=Zk1.out
 have q10:=Zm0.out
 have q11:=Zm1.out
 have q12:=Zn0.out
 have hBn1:Below w.heap.size w n1:=hBn0.trans (htm.below (B:=w.heap.size) (by omega) (fun k hk=>by omega))
 have HX0n1:=hideW (HX0n0.out.turned htm (fun hk=>by omega))
 have HX1n1:=hideW (HX1n0.out.turned htm (fun hk=>by omega))
 have HVn1:=hideW (HVn0.out.turned htm (fun hk=>by omega))
 have HAn1:=hideW (HAn0.out.turned htm (fun k hk=>by omega))
 have HGn1:=hideW (HGn0.out.turned htm (fun hk=>by omega))
 have HDn1:=hideW hDn.at
 clear hDn htm hBn0 HX0n0 HX1n0 HVn0 HAn0 HGn0 HDn0 q0 q1 q2 q3 q4 q5 q6 q7 q8 q9 q10 q11 q12
 obtain⟨⟨g0,-⟩,⟨g1,-⟩,⟨g2,-⟩,⟨g3,-⟩,⟨g4,-⟩,⟨g5,-⟩,⟨g6,-⟩,⟨g7,-⟩,⟨g8,-⟩,⟨g9,-⟩,⟨g10,-⟩,⟨g11,-⟩,⟨g12,-⟩⟩:=HGn1.out
 go_wp2_with fail
 clear g0 g1 g2 g3 g4 g5 g6 g7 g8 g9 g10 g11 g12
 refine(heldSOut_any _ _ _ _ _ _ _ _ _ _ o 1 n1 HDn1.out (by omega) (by rw [Hge.out]; exact hge1)).mono ?_
 rintro e n2 ⟨rfl,hb9⟩
 rw [Hge.out]
 have hBn2:=below_next hBn1 hb9
 have HX0n2:=hideW (HX0n1.out.below hb9)
 have HX1n2:=hideW (HX1n1.out.below hb9)
 have HVn2:=hideW (HVn1.out.below hb9)
 have HAn2:=hideW (HAn1.out.below hb9)
 have HGn2:=hideW (HGn1.out.below hb9)
 have HDn2:=hideW (HDn1.out.below hb9)
 clear HX0n1 HX1n1 HVn1 HAn1 HGn1 HDn1
 clear hb9 hBn1
 obtain⟨⟨x0,-⟩,⟨x1,-⟩,⟨x2,-⟩,⟨x3,-⟩,⟨x4,-⟩,⟨x5,-⟩,⟨x6,-⟩,⟨x7,-⟩,⟨x8,-⟩,⟨x9,-⟩,⟨x10,-⟩,⟨x11,-⟩⟩:=HX0n2.out
 obtain⟨⟨y0,-⟩,⟨y1,-⟩,⟨y2,-⟩,⟨y3,-⟩,⟨y4,-⟩,⟨y5,-⟩⟩:=HX1n2.out
 have hzC:w.heap.size+1<n2.heap.size:=lt_of_cell y0
 go_upto_region 31 with fail
 go_cut [13] (fun v wc=>∃(VV lA hA:Nat) (so14a:Option Addr) (to14a:Nat) (so14b:Option Addr) (to14b:Nat) (so14c:Option Addr) (to14c:Nat) (so14d:Option Addr) (to14d:Nat) (so14e:Option Addr) (to14e:Nat) (so14f:Option Addr) (to14f:Nat) (so14g:Option Addr) (to14g:Nat) (so14h:Option Addr) (to14h:Nat),v = .pointer (some ⟨VV,0,none⟩)∧Box13 wc VV (.slice so14a o.store.live.pool.n to14a) (.slice so14b o.store.live.pool.hn to14b) (.int .i64 o.store.live.time) (.int .i64 o.store.live.next) (.slice so14c o.store.live.sn to14c) (.slice so14d o.store.live.pn to14d) (.slice so14e o.store.safe.pool.n to14e) (.slice so14f o.store.safe.pool.hn to14f) (.int .i64 o.store.safe.time) (.int .i64 o.store.safe.next) (.slice so14g o.store.safe.sn to14g) (.slice so14h o.store.safe.pn to14h) (.int .i64 o.code)∧StoreOwn wc lA hA (.slice so14a o.store.live.pool.n to14a) (.slice so14b o.store.live.pool.hn to14b) (.slice so14c o.store.live.sn to14c) (.slice so14d o.store.live.pn to14d) (.slice so14e o.store.safe.pool.n to14e) (.slice so14f o.store.safe.pool.hn to14f) (.slice so14g o.store.safe.sn to14g) (.slice so14h o.store.safe.pn to14h) o.store∧(n2.heap.size≤lA∧n2.heap.size≤VV∧VV<wc.heap.size∧hA≤wc.heap.size∧(VV<lA∨hA≤VV))∧Below n2.heap.size n2 wc)
 case first=>
  refine wp_region_held_drew (S:=(fun w'=>w'.cell? ⟨w.heap.size,0,none⟩=some (.slice ss0a S.live.pool.n ts0a)∧w'.cell? ⟨w.heap.size,1,none⟩=some (.slice ss0b S.live.pool.hn ts0b)∧w'.cell? ⟨w.heap.size,2,none⟩=some (.int .i64 S.live.time)∧w'.cell? ⟨w.heap.size,3,none⟩=some (.int .i64 S.live.next)∧w'.cell? ⟨w.heap.size,4,none⟩=some (.slice ss0c S.live.sn ts0c)∧w'.cell? ⟨w.heap.size,5,none⟩=some (.slice ss0d S.live.pn ts0d)∧w'.cell? ⟨w.heap.size,6,none⟩=some (.slice ss0e S.safe.pool.n ts0e)∧w'.cell? ⟨w.heap.size,7,none⟩=some (.slice ss0f S.safe.pool.hn ts0f)∧w'.cell? ⟨w.heap.size,8,none⟩=some (.int .i64 S.safe.time)∧w'.cell? ⟨w.heap.size,9,none⟩=some (.int .i64 S.safe.next)∧w'.cell? ⟨w.heap.size,10,none⟩=some (.slice ss0g S.safe.sn ts0g)∧w'.cell? ⟨w.heap.size,11,none⟩=some (.slice ss0h S.safe.pn ts0h)∧w'.cell? ⟨w.heap.size+1,0,none⟩=some (.slice sx0a X.pool.n tx0a)∧w'.cell? ⟨w.heap.size+1,1,none⟩=some (.slice sx0b X.pool.hn tx0b)∧w'.cell? ⟨w.heap.size+1,2,none⟩=some (.int .i64 X.time)∧w'.cell? ⟨w.heap.size+1,3,none⟩=some (.int .i64 X.next)∧w'.cell? ⟨w.heap.size+1,4,none⟩=some (.slice sx0c X.sn tx0c)∧w'.cell? ⟨w.heap.size+1,5,none⟩=some (.slice sx0d X.pn tx0d))) (by kernel_rfl) ?_ (fun hHeld=>?_)
  ·(try dsimp only)
   go_keep
  have hb0:Below n2.heap.size n2 n2.drew:=(Below.refl _ _).drew
  have hs0:n2.drew.heap.size≤n2.heap.size∧n2.heap.size≤n2.drew.heap.size:=⟨Nat.le_refl _,Nat.le_refl _⟩
  clear x0 x1 x2 x3 x4 x5 x6 x7 x8 x9 x10 x11 y0 y1 y2 y3 y4 y5
  generalize n2.drew=q0 at hb0 hs0 hHeld ⊢
  refine tk 0 (h:=tk 2 (h:=?_))
  refine rd [1,5] (rc (fun K hK=>?_) (rc (fun K hK=>?_) .nil))
  ·go_simp
   go_at_call 8
   refine(toStore_any _ _ _ _ _ _ _ _ _ _ S _ ((Hps.out.below hBn2).below hb0) HNs.out).mono ?_
   rintro e q1 ⟨p0,p1,p2,p3,p4,p5,p6,p7,rfl,oS1,hc1⟩
   obtain⟨ss31a,ts31a,ss31b,ts31b,ss31c,ts31c,ss31d,ts31d,rfl,rfl,rfl,rfl⟩:=oS1.at.live.form
   obtain⟨ss31e,ts31e,ss31f,ts31f,ss31g,ts31g,ss31h,ts31h,rfl,rfl,rfl,rfl⟩:=oS1.at.safe.form
   have hb1:=below_next hb0 hc1
   have hs1:=hc1.size
   obtain⟨⟨x0,-⟩,⟨x1,-⟩,⟨x2,-⟩,⟨x3,-⟩,⟨x4,-⟩,⟨x5,-⟩,⟨x6,-⟩,⟨x7,-⟩,⟨x8,-⟩,⟨x9,-⟩,⟨x10,-⟩,⟨x11,-⟩⟩:=HX0n2.out.below hb1
   obtain⟨⟨y0,-⟩,⟨y1,-⟩,⟨y2,-⟩,⟨y3,-⟩,⟨y4,-⟩,⟨y5,-⟩⟩:=HX1n2.out.below hb1
   (try go_wp2_with fail)
   refine hK.out _ _ (by(try dsimp only); go_keep) ?_
   clear hK K hHeld
   intro hHeld
   try simp only [Act.put,s1,s2,s3]
   clear x0 x1 x2 x3 x4 x5 x6 x7 x8 x9 x10 x11 y0 y1 y2 y3 y4 y5
   refine rd [3,5] (rc (fun K hK=>?_) (rc (fun K hK=>?_) .nil))
   ·go_simp
    go_at_call 19
    refine(toWorld_any _ _ _ _ _ _ X _ ((Hpx.out.below hBn2).below hb1) HNx.out).mono ?_
    rintro e q2 ⟨p0,p1,p2,p3,rfl,oX2,hc2⟩
    obtain⟨sx33a,tx33a,sx33b,tx33b,sx33c,tx33c,sx33d,tx33d,rfl,rfl,rfl,rfl⟩:=oX2.form
    have hb2:=below_next hb1 hc2
    have hs2:=hc2.size
    have oS2:=oS1.below hc2
    obtain⟨⟨x0,-⟩,⟨x1,-⟩,⟨x2,-⟩,⟨x3,-⟩,⟨x4,-⟩,⟨x5,-⟩,⟨x6,-⟩,⟨x7,-⟩,⟨x8,-⟩,⟨x9,-⟩,⟨x10,-⟩,⟨x11,-⟩⟩:=HX0n2.out.below hb2
    obtain⟨⟨y0,-⟩,⟨y1,-⟩,⟨y2,-⟩,⟨y3,-⟩,⟨y4,-⟩,⟨y5,-⟩⟩:=HX1n2.out.below hb2
    (try go_wp2_with fail)
    refine hK.out _ _ (by(try dsimp only); go_keep) ?_
    clear hK K hHeld
    intro hHeld
    try simp only [Act.put,s1,s2,s3]
    clear x0 x1 x2 x3 x4 x5 x6 x7 x8 x9 x10 x11 y0 y1 y2 y3 y4 y5
    refine rd [4,5] (rc (fun K hK=>?_) (rc (fun K hK=>?_) .nil))
    ·go_simp
     go_at_call 20
     refine(IM.out _ _ _ _ _ _ _ _ _ _ _ _ _ HN.out ((HE.out.below hBn2).below hb2) (StoreAt.mk (oS2.at.live.wide (Nat.zero_le _) (by omega)) (oS2.at.safe.wide (Nat.zero_le _) (by omega))) (oX2.at.wide (Nat.zero_le _) (by omega))).mono ?_
     rintro e q3 ⟨p0,p1,p2,p3,p4,p5,p6,p7,rfl,oO3,hc3⟩
     obtain⟨so14a,to14a,so14b,to14b,so14c,to14c,so14d,to14d,rfl,rfl,rfl,rfl⟩:=oO3.at.live.form
     obtain⟨so14e,to14e,so14f,to14f,so14g,to14g,so14h,to14h,rfl,rfl,rfl,rfl⟩:=oO3.at.safe.form
     have hb3:=below_next hb2 hc3
     have hs3:=hc3.size
     have oS3:=oS2.below hc3
     have oX3:=oX2.below hc3
     obtain⟨⟨x0,-⟩,⟨x1,-⟩,⟨x2,-⟩,⟨x3,-⟩,⟨x4,-⟩,⟨x5,-⟩,⟨x6,-⟩,⟨x7,-⟩,⟨x8,-⟩,⟨x9,-⟩,⟨x10,-⟩,⟨x11,-⟩⟩:=HX0n2.out.below hb3
     obtain⟨⟨y0,-⟩,⟨y1,-⟩,⟨y2,-⟩,⟨y3,-⟩,⟨y4,-⟩,⟨y5,-⟩⟩:=HX1n2.out.below hb3
     (try go_wp2_with fail)
     refine hK.out _ _ (by(try dsimp only); go_keep) ?_
     clear hK K hHeld
     intro hHeld
     try simp only [Act.put,s1,s2,s3]
     clear x0 x1 x2 x3 x4 x5 x6 x7 x8 x9 x10 x11 y0 y1 y2 y3 y4 y5
     refine rd [5] (rc (fun K hK=>?_) .nil)
     go_simp
     have hc4:=below_alloc q3 (.cells #[.slice none 0 0,.slice none 0 0,.int .i64 0,.int .i64 0,.slice none 0 0,.slice none 0 0,.slice none 0 0,.slice none 0 0,.int .i64 0,.int .i64 0,.slice none 0 0,.slice none 0 0,.int .i64 0] 43)
     have hb4:=below_next hb3 hc4
     have hs4:q3.heap.size<(q3.alloc (.cells #[.slice none 0 0,.slice none 0 0,.int .i64 0,.int .i64 0,.slice none 0 0,.slice none 0 0,.slice none 0 0,.slice none 0 0,.int .i64 0,.int .i64 0,.slice none 0 0,.slice none 0 0,.int .i64 0] 43)).heap.size:=by rw [World.size_alloc]; omega
     have kT4:=Box13.new q3 (.slice none 0 0) (.slice none 0 0) (.int .i64 0) (.int .i64 0) (.slice none 0 0) (.slice none 0 0) (.slice none 0 0) (.slice none 0 0) (.int .i64 0) (.int .i64 0) (.slice none 0 0) (.slice none 0 0) (.int .i64 0) 43
     have oS4:=oS3.below hc4
     have oX4:=oX3.below hc4
     have oO4:=oO3.below hc4
     obtain⟨⟨x0,-⟩,⟨x1,-⟩,⟨x2,-⟩,⟨x3,-⟩,⟨x4,-⟩,⟨x5,-⟩,⟨x6,-⟩,⟨x7,-⟩,⟨x8,-⟩,⟨x9,-⟩,⟨x10,-⟩,⟨x11,-⟩⟩:=HX0n2.out.below hb4
     obtain⟨⟨y0,-⟩,⟨y1,-⟩,⟨y2,-⟩,⟨y3,-⟩,⟨y4,-⟩,⟨y5,-⟩⟩:=HX1n2.out.below hb4
     (try go_wp2_with fail)
     refine hK.out _ _ (by(try dsimp only); go_keep) ?_
     clear hK K hHeld
     intro hHeld
     try simp only [Act.put,s1,s2,s3]
     clear x0 x1 x2 x3 x4 x5 x6 x7 x8 x9 x10 x11 y0 y1 y2 y3 y4 y5
     generalize q3.alloc (.cells #[.slice none 0 0,.slice none 0 0,.int .i64 0,.int .i64 0,.slice none 0 0,.slice none 0 0,.slice none 0 0,.slice none 0 0,.int .i64 0,.int .i64 0,.slice none 0 0,.slice none 0 0,.int .i64 0] 43)=q4 at hb4 kT4 oS4 oX4 oO4 hHeld hc4 hs4 ⊢
     refine rd [6] (rc (fun K hK=>?_) .nil)
     have kH:=hideW kT4
     obtain⟨⟨r0,g0⟩,⟨r1,g1⟩,⟨r2,g2⟩,⟨r3,g3⟩,⟨r4,g4⟩,⟨r5,g5⟩,⟨r6,g6⟩,⟨r7,g7⟩,⟨r8,g8⟩,⟨r9,g9⟩,⟨r10,g10⟩,⟨r11,g11⟩,⟨r12,g12⟩⟩:=kT4
     go_simp
     (try go_wp2_with fail)
     have hT5:Turned (fun k=>k=q3.heap.size) q4 (((((((((((((q4.setCell ⟨q3.heap.size,0,none⟩ (.slice so14a o.store.live.pool.n to14a)).setCell ⟨q3.heap.size,1,none⟩ (.slice so14b o.store.live.pool.hn to14b)).setCell ⟨q3.heap.size,2,none⟩ (.int .i64 o.store.live.time)).setCell ⟨q3.heap.size,3,none⟩ (.int .i64 o.store.live.next)).setCell ⟨q3.heap.size,4,none⟩ (.slice so14c o.store.live.sn to14c)).setCell ⟨q3.heap.size,5,none⟩ (.slice so14d o.store.live.pn to14d)).setCell ⟨q3.heap.size,6,none⟩ (.slice so14e o.store.safe.pool.n to14e)).setCell ⟨q3.heap.size,7,none⟩ (.slice so14f o.store.safe.pool.hn to14f)).setCell ⟨q3.heap.size,8,none⟩ (.int .i64 o.store.safe.time)).setCell ⟨q3.heap.size,9,none⟩ (.int .i64 o.store.safe.next)).setCell ⟨q3.heap.size,10,none⟩ (.slice so14g o.store.safe.sn to14g)).setCell ⟨q3.heap.size,11,none⟩ (.slice so14h o.store.safe.pn to14h)).setCell ⟨q3.heap.size,12,none⟩ (.int .i64 o.code)):=Turned.put13 q4 (q3.heap.size) (.slice so14a o.store.live.pool.n to14a) (.slice so14b o.store.live.pool.hn to14b) (.int .i64 o.store.live.time) (.int .i64 o.store.live.next) (.slice so14c o.store.live.sn to14c) (.slice so14d o.store.live.pn to14d) (.slice so14e o.store.safe.pool.n to14e) (.slice so14f o.store.safe.pool.hn to14f) (.int .i64 o.store.safe.time) (.int .i64 o.store.safe.next) (.slice so14g o.store.safe.sn to14g) (.slice so14h o.store.safe.pn to14h) (.int .i64 o.code)
     have hb5:=hb4.trans (hT5.below (B:=n2.heap.size) hb4.size (fun k e=>by omega))
     have hs5:=hT5.size
     obtain⟨⟨x0,-⟩,⟨x1,-⟩,⟨x2,-⟩,⟨x3,-⟩,⟨x4,-⟩,⟨x5,-⟩,⟨x6,-⟩,⟨x7,-⟩,⟨x8,-⟩,⟨x9,-⟩,⟨x10,-⟩,⟨x11,-⟩⟩:=HX0n2.out.below hb5
     obtain⟨⟨y0,-⟩,⟨y1,-⟩,⟨y2,-⟩,⟨y3,-⟩,⟨y4,-⟩,⟨y5,-⟩⟩:=HX1n2.out.below hb5
     refine hK.out _ _ (by(try dsimp only); go_keep) ?_
     clear hK K hHeld
     intro hHeld
     try simp only [Act.put,s1,s2,s3]
     clear x0 x1 x2 x3 x4 x5 x6 x7 x8 x9 x10 x11 y0 y1 y2 y3 y4 y5 r0 g0 r1 g1 r2 g2 r3 g3 r4 g4 r5 g5 r6 g6 r7 g7 r8 g8 r9 g9 r10 g10 r11 g11 r12 g12
     refine wpAnyH_done (by kernel_rfl) ?_ _
     go_wp2_with fail
     have kT5:=kH.out.put (.slice so14a o.store.live.pool.n to14a) (.slice so14b o.store.live.pool.hn to14b) (.int .i64 o.store.live.time) (.int .i64 o.store.live.next) (.slice so14c o.store.live.sn to14c) (.slice so14d o.store.live.pn to14d) (.slice so14e o.store.safe.pool.n to14e) (.slice so14f o.store.safe.pool.hn to14f) (.int .i64 o.store.safe.time) (.int .i64 o.store.safe.next) (.slice so14g o.store.safe.sn to14g) (.slice so14h o.store.safe.pn to14h) (.int .i64 o.code)
     have oO5:=oO4.turned hT5 (fun k e=>by omega)
     go_meet
     case rel=>exact⟨_,q2.heap.size,q3.heap.size,_,_,_,_,_,_,_,_,_,_,_,_,_,_,_,_,rfl,kT5,oO5,⟨by omega,by omega,by omega,by omega,by omega⟩,hb5⟩
    ·go_simp
     have hc6:=below_alloc q2 (.cells #[.slice none 0 0,.slice none 0 0,.int .i64 0,.int .i64 0,.slice none 0 0,.slice none 0 0,.slice none 0 0,.slice none 0 0,.int .i64 0,.int .i64 0,.slice none 0 0,.slice none 0 0,.int .i64 0] 43)
     have hb6:=below_next hb2 hc6
     have hs6:q2.heap.size<(q2.alloc (.cells #[.slice none 0 0,.slice none 0 0,.int .i64 0,.int .i64 0,.slice none 0 0,.slice none 0 0,.slice none 0 0,.slice none 0 0,.int .i64 0,.int .i64 0,.slice none 0 0,.slice none 0 0,.int .i64 0] 43)).heap.size:=by rw [World.size_alloc]; omega
     have kT6:=Box13.new q2 (.slice none 0 0) (.slice none 0 0) (.int .i64 0) (.int .i64 0) (.slice none 0 0) (.slice none 0 0) (.slice none 0 0) (.slice none 0 0) (.int .i64 0) (.int .i64 0) (.slice none 0 0) (.slice none 0 0) (.int .i64 0) 43
     have oS6:=oS2.below hc6
     have oX6:=oX2.below hc6
     obtain⟨⟨x0,-⟩,⟨x1,-⟩,⟨x2,-⟩,⟨x3,-⟩,⟨x4,-⟩,⟨x5,-⟩,⟨x6,-⟩,⟨x7,-⟩,⟨x8,-⟩,⟨x9,-⟩,⟨x10,-⟩,⟨x11,-⟩⟩:=HX0n2.out.below hb6
     obtain⟨⟨y0,-⟩,⟨y1,-⟩,⟨y2,-⟩,⟨y3,-⟩,⟨y4,-⟩,⟨y5,-⟩⟩:=HX1n2.out.below hb6
     (try go_wp2_with fail)
     refine hK.out _ _ (by(try dsimp only); go_keep) ?_
     clear hK K hHeld
     intro hHeld
     try simp only [Act.put,s1,s2,s3]
     clear x0 x1 x2 x3 x4 x5 x6 x7 x8 x9 x10 x11 y0 y1 y2 y3 y4 y5
     generalize q2.alloc (.cells #[.slice none 0 0,.slice none 0 0,.int .i64 0,.int .i64 0,.slice none 0 0,.slice none 0 0,.slice none 0 0,.slice none 0 0,.int .i64 0,.int .i64 0,.slice none 0 0,.slice none 0 0,.int .i64 0] 43)=q6 at hb6 kT6 oS6 oX6 hHeld hc6 hs6 ⊢
     refine rd [4] (rc (fun K hK=>?_) .nil)
     go_simp
     go_at_call 20
     refine(IM.out _ _ _ _ _ _ _ _ _ _ _ _ _ HN.out ((HE.out.below hBn2).below hb6) (StoreAt.mk (oS6.at.live.wide (Nat.zero_le _) (by omega)) (oS6.at.safe.wide (Nat.zero_le _) (by omega))) (oX6.at.wide (Nat.zero_le _) (by omega))).mono ?_
     rintro e q7 ⟨p0,p1,p2,p3,p4,p5,p6,p7,rfl,oO7,hc7⟩
     obtain⟨so14a,to14a,so14b,to14b,so14c,to14c,so14d,to14d,rfl,rfl,rfl,rfl⟩:=oO7.at.live.form
     obtain⟨so14e,to14e,so14f,to14f,so14g,to14g,so14h,to14h,rfl,rfl,rfl,rfl⟩:=oO7.at.safe.form
     have hb7:=below_next hb6 hc7
     have hs7:=hc7.size
     have oS7:=oS6.below hc7
     have oX7:=oX6.below hc7
     have kT7:=kT6.below hc7
     obtain⟨⟨x0,-⟩,⟨x1,-⟩,⟨x2,-⟩,⟨x3,-⟩,⟨x4,-⟩,⟨x5,-⟩,⟨x6,-⟩,⟨x7,-⟩,⟨x8,-⟩,⟨x9,-⟩,⟨x10,-⟩,⟨x11,-⟩⟩:=HX0n2.out.below hb7
     obtain⟨⟨y0,-⟩,⟨y1,-⟩,⟨y2,-⟩,⟨y3,-⟩,⟨y4,-⟩,⟨y5,-⟩⟩:=HX1n2.out.below hb7
     (try go_wp2_with fail)
     refine hK.out _ _ (by(try dsimp only); go_keep) ?_
     clear hK K hHeld
     intro hHeld
     try simp only [Act.put,s1,s2,s3]
     clear x0 x1 x2 x3 x4 x5 x6 x7 x8 x9 x10 x11 y0 y1 y2 y3 y4 y5
     refine rd [6] (rc (fun K hK=>?_) .nil)
     have kH:=hideW kT7
     obtain⟨⟨r0,g0⟩,⟨r1,g1⟩,⟨r2,g2⟩,⟨r3,g3⟩,⟨r4,g4⟩,⟨r5,g5⟩,⟨r6,g6⟩,⟨r7,g7⟩,⟨r8,g8⟩,⟨r9,g9⟩,⟨r10,g10⟩,⟨r11,g11⟩,⟨r12,g12⟩⟩:=kT7
     go_simp
     (try go_wp2_with fail)
     have hT8:Turned (fun k=>k=q2.heap.size) q7 (((((((((((((q7.setCell ⟨q2.heap.size,0,none⟩ (.slice so14a o.store.live.pool.n to14a)).setCell ⟨q2.heap.size,1,none⟩ (.slice so14b o.store.live.pool.hn to14b)).setCell ⟨q2.heap.size,2,none⟩ (.int .i64 o.store.live.time)).setCell ⟨q2.heap.size,3,none⟩ (.int .i64 o.store.live.next)).setCell ⟨q2.heap.size,4,none⟩ (.slice so14c o.store.live.sn to14c)).setCell ⟨q2.heap.size,5,none⟩ (.slice so14d o.store.live.pn to14d)).setCell ⟨q2.heap.size,6,none⟩ (.slice so14e o.store.safe.pool.n to14e)).setCell ⟨q2.heap.size,7,none⟩ (.slice so14f o.store.safe.pool.hn to14f)).setCell ⟨q2.heap.size,8,none⟩ (.int .i64 o.store.safe.time)).setCell ⟨q2.heap.size,9,none⟩ (.int .i64 o.store.safe.next)).setCell ⟨q2.heap.size,10,none⟩ (.slice so14g o.store.safe.sn to14g)).setCell ⟨q2.heap.size,11,none⟩ (.slice so14h o.store.safe.pn to14h)).setCell ⟨q2.heap.size,12,none⟩ (.int .i64 o.code)):=Turned.put13 q7 (q2.heap.size) (.slice so14a o.store.live.pool.n to14a) (.slice so14b o.store.live.pool.hn to14b) (.int .i64 o.store.live.time) (.int .i64 o.store.live.next) (.slice so14c o.store.live.sn to14c) (.slice so14d o.store.live.pn to14d) (.slice so14e o.store.safe.pool.n to14e) (.slice so14f o.store.safe.pool.hn to14f) (.int .i64 o.store.safe.time) (.int .i64 o.store.safe.next) (.slice so14g o.store.safe.sn to14g) (.slice so14h o.store.safe.pn to14h) (.int .i64 o.code)
     have hb8:=hb7.trans (hT8.below (B:=n2.heap.size) hb7.size (fun k e=>by omega))
     have hs8:=hT8.size
     obtain⟨⟨x0,-⟩,⟨x1,-⟩,⟨x2,-⟩,⟨x3,-⟩,⟨x4,-⟩,⟨x5,-⟩,⟨x6,-⟩,⟨x7,-⟩,⟨x8,-⟩,⟨x9,-⟩,⟨x10,-⟩,⟨x11,-⟩⟩:=HX0n2.out.below hb8
     obtain⟨⟨y0,-⟩,⟨y1,-⟩,⟨y2,-⟩,⟨y3,-⟩,⟨y4,-⟩,⟨y5,-⟩⟩:=HX1n2.out.below hb8
     refine hK.out _ _ (by(try dsimp only); go_keep) ?_
     clear hK K hHeld
     intro hHeld
     try simp only [Act.put,s1,s2,s3]
     clear x0 x1 x2 x3 x4 x5 x6 x7 x8 x9 x10 x11 y0 y1 y2 y3 y4 y5 r0 g0 r1 g1 r2 g2 r3 g3 r4 g4 r5 g5 r6 g6 r7 g7 r8 g8 r9 g9 r10 g10 r11 g11 r12 g12
     refine wpAnyH_done (by kernel_rfl) ?_ _
     go_wp2_with fail
     have kT8:=kH.out.put (.slice so14a o.store.live.pool.n to14a) (.slice so14b o.store.live.pool.hn to14b) (.int .i64 o.store.live.time) (.int .i64 o.store.live.next) (.slice so14c o.store.live.sn to14c) (.slice so14d o.store.live.pn to14d) (.slice so14e o.store.safe.pool.n to14e) (.slice so14f o.store.safe.pool.hn to14f) (.int .i64 o.store.safe.time) (.int .i64 o.store.safe.next) (.slice so14g o.store.safe.sn to14g) (.slice so14h o.store.safe.pn to14h) (.int .i64 o.code)
     have oO8:=oO7.turned hT8 (fun k e=>by omega)
     go_meet
     case rel=>exact⟨_,q6.heap.size,q7.heap.size,_,_,_,_,_,_,_,_,_,_,_,_,_,_,_,_,rfl,kT8,oO8,⟨by omega,by omega,by omega,by omega,by omega⟩,hb8⟩
   ·go_simp
    have hc9:=below_alloc q1 (.cells #[.slice none 0 0,.slice none 0 0,.int .i64 0,.int .i64 0,.slice none 0 0,.slice none 0 0,.slice none 0 0,.slice none 0 0,.int .i64 0,.int .i64 0,.slice none 0 0,.slice none 0 0,.int .i64 0] 43)
    have hb9:=below_next hb1 hc9
    have hs9:q1.heap.size<(q1.alloc (.cells #[.slice none 0 0,.slice none 0 0,.int .i64 0,.int .i64 0,.slice none 0 0,.slice none 0 0,.slice none 0 0,.slice none 0 0,.int .i64 0,.int .i64 0,.slice none 0 0,.slice none 0 0,.int .i64 0] 43)).heap.size:=by rw [World.size_alloc]; omega
    have kT9:=Box13.new q1 (.slice none 0 0) (.slice none 0 0) (.int .i64 0) (.int .i64 0) (.slice none 0 0) (.slice none 0 0) (.slice none 0 0) (.slice none 0 0) (.int .i64 0) (.int .i64 0) (.slice none 0 0) (.slice none 0 0) (.int .i64 0) 43
    have oS9:=oS1.below hc9
    obtain⟨⟨x0,-⟩,⟨x1,-⟩,⟨x2,-⟩,⟨x3,-⟩,⟨x4,-⟩,⟨x5,-⟩,⟨x6,-⟩,⟨x7,-⟩,⟨x8,-⟩,⟨x9,-⟩,⟨x10,-⟩,⟨x11,-⟩⟩:=HX0n2.out.below hb9
    obtain⟨⟨y0,-⟩,⟨y1,-⟩,⟨y2,-⟩,⟨y3,-⟩,⟨y4,-⟩,⟨y5,-⟩⟩:=HX1n2.out.below hb9
    (try go_wp2_with fail)
    refine hK.out _ _ (by(try dsimp only); go_keep) ?_
    clear hK K hHeld
    intro hHeld
    try simp only [Act.put,s1,s2,s3]
    clear x0 x1 x2 x3 x4 x5 x6 x7 x8 x9 x10 x11 y0 y1 y2 y3 y4 y5
    generalize q1.alloc (.cells #[.slice none 0 0,.slice none 0 0,.int .i64 0,.int .i64 0,.slice none 0 0,.slice none 0 0,.slice none 0 0,.slice none 0 0,.int .i64 0,.int .i64 0,.slice none 0 0,.slice none 0 0,.int .i64 0] 43)=q9 at hb9 kT9 oS9 hHeld hc9 hs9 ⊢
    refine rd [3] (rc (fun K hK=>?_) .nil)
    go_simp
    go_at_call 19
    refine(toWorld_any _ _ _ _ _ _ X _ ((Hpx.out.below hBn2).below hb9) HNx.out).mono ?_
    rintro e q10 ⟨p0,p1,p2,p3,rfl,oX10,hc10⟩
    obtain⟨sx33a,tx33a,sx33b,tx33b,sx33c,tx33c,sx33d,tx33d,rfl,rfl,rfl,rfl⟩:=oX10.form
    have hb10:=below_next hb9 hc10
    have hs10:=hc10.size
    have oS10:=oS9.below hc10
    have kT10:=kT9.below hc10
    obtain⟨⟨x0,-⟩,⟨x1,-⟩,⟨x2,-⟩,⟨x3,-⟩,⟨x4,-⟩,⟨x5,-⟩,⟨x6,-⟩,⟨x7,-⟩,⟨x8,-⟩,⟨x9,-⟩,⟨x10,-⟩,⟨x11,-⟩⟩:=HX0n2.out.below hb10
    obtain⟨⟨y0,-⟩,⟨y1,-⟩,⟨y2,-⟩,⟨y3,-⟩,⟨y4,-⟩,⟨y5,-⟩⟩:=HX1n2.out.below hb10
    (try go_wp2_with fail)
    refine hK.out _ _ (by(try dsimp only); go_keep) ?_
    clear hK K hHeld
    intro hHeld
    try simp only [Act.put,s1,s2,s3]
    clear x0 x1 x2 x3 x4 x5 x6 x7 x8 x9 x10 x11 y0 y1 y2 y3 y4 y5
    refine rd [4] (rc (fun K hK=>?_) .nil)
    go_simp
    go_at_call 20
    refine(IM.out _ _ _ _ _ _ _ _ _ _ _ _ _ HN.out ((HE.out.below hBn2).below hb10) (StoreAt.mk (oS10.at.live.wide (Nat.zero_le _) (by omega)) (oS10.at.safe.wide (Nat.zero_le _) (by omega))) (oX10.at.wide (Nat.zero_le _) (by omega))).mono ?_
    rintro e q11 ⟨p0,p1,p2,p3,p4,p5,p6,p7,rfl,oO11,hc11⟩
    obtain⟨so14a,to14a,so14b,to14b,so14c,to14c,so14d,to14d,rfl,rfl,rfl,rfl⟩:=oO11.at.live.form
    obtain⟨so14e,to14e,so14f,to14f,so14g,to14g,so14h,to14h,rfl,rfl,rfl,rfl⟩:=oO11.at.safe.form
    have hb11:=below_next hb10 hc11
    have hs11:=hc11.size
    have oS11:=oS10.below hc11
    have oX11:=oX10.below hc11
    have kT11:=kT10.below hc11
    obtain⟨⟨x0,-⟩,⟨x1,-⟩,⟨x2,-⟩,⟨x3,-⟩,⟨x4,-⟩,⟨x5,-⟩,⟨x6,-⟩,⟨x7,-⟩,⟨x8,-⟩,⟨x9,-⟩,⟨x10,-⟩,⟨x11,-⟩⟩:=HX0n2.out.below hb11
    obtain⟨⟨y0,-⟩,⟨y1,-⟩,⟨y2,-⟩,⟨y3,-⟩,⟨y4,-⟩,⟨y5,-⟩⟩:=HX1n2.out.below hb11
    (try go_wp2_with fail)
    refine hK.out _ _ (by(try dsimp only); go_keep) ?_
    clear hK K hHeld
    intro hHeld
    try simp only [Act.put,s1,s2,s3]
    clear x0 x1 x2 x3 x4 x5 x6 x7 x8 x9 x10 x11 y0 y1 y2 y3 y4 y5
    refine rd [6] (rc (fun K hK=>?_) .nil)
    have kH:=hideW kT11
    obtain⟨⟨r0,g0⟩,⟨r1,g1⟩,⟨r2,g2⟩,⟨r3,g3⟩,⟨r4,g4⟩,⟨r5,g5⟩,⟨r6,g6⟩,⟨r7,g7⟩,⟨r8,g8⟩,⟨r9,g9⟩,⟨r10,g10⟩,⟨r11,g11⟩,⟨r12,g12⟩⟩:=kT11
    go_simp
    (try go_wp2_with fail)
    have hT12:Turned (fun k=>k=q1.heap.size) q11 (((((((((((((q11.setCell ⟨q1.heap.size,0,none⟩ (.slice so14a o.store.live.pool.n to14a)).setCell ⟨q1.heap.size,1,none⟩ (.slice so14b o.store.live.pool.hn to14b)).setCell ⟨q1.heap.size,2,none⟩ (.int .i64 o.store.live.time)).setCell ⟨q1.heap.size,3,none⟩ (.int .i64 o.store.live.next)).setCell ⟨q1.heap.size,4,none⟩ (.slice so14c o.store.live.sn to14c)).setCell ⟨q1.heap.size,5,none⟩ (.slice so14d o.store.live.pn to14d)).setCell ⟨q1.heap.size,6,none⟩ (.slice so14e o.store.safe.pool.n to14e)).setCell ⟨q1.heap.size,7,none⟩ (.slice so14f o.store.safe.pool.hn to14f)).setCell ⟨q1.heap.size,8,none⟩ (.int .i64 o.store.safe.time)).setCell ⟨q1.heap.size,9,none⟩ (.int .i64 o.store.safe.next)).setCell ⟨q1.heap.size,10,none⟩ (.slice so14g o.store.safe.sn to14g)).setCell ⟨q1.heap.size,11,none⟩ (.slice so14h o.store.safe.pn to14h)).setCell ⟨q1.heap.size,12,none⟩ (.int .i64 o.code)):=Turned.put13 q11 (q1.heap.size) (.slice so14a o.store.live.pool.n to14a) (.slice so14b o.store.live.pool.hn to14b) (.int .i64 o.store.live.time) (.int .i64 o.store.live.next) (.slice so14c o.store.live.sn to14c) (.slice so14d o.store.live.pn to14d) (.slice so14e o.store.safe.pool.n to14e) (.slice so14f o.store.safe.pool.hn to14f) (.int .i64 o.store.safe.time) (.int .i64 o.store.safe.next) (.slice so14g o.store.safe.sn to14g) (.slice so14h o.store.safe.pn to14h) (.int .i64 o.code)
    have hb12:=hb11.trans (hT12.below (B:=n2.heap.size) hb11.size (fun k e=>by omega))
    have hs12:=hT12.size
    obtain⟨⟨x0,-⟩,⟨x1,-⟩,⟨x2,-⟩,⟨x3,-⟩,⟨x4,-⟩,⟨x5,-⟩,⟨x6,-⟩,⟨x7,-⟩,⟨x8,-⟩,⟨x9,-⟩,⟨x10,-⟩,⟨x11,-⟩⟩:=HX0n2.out.below hb12
    obtain⟨⟨y0,-⟩,⟨y1,-⟩,⟨y2,-⟩,⟨y3,-⟩,⟨y4,-⟩,⟨y5,-⟩⟩:=HX1n2.out.below hb12
    refine hK.out _ _ (by(try dsimp only); go_keep) ?_
    clear hK K hHeld
    intro hHeld
    try simp only [Act.put,s1,s2,s3]
    clear x0 x1 x2 x3 x4 x5 x6 x7 x8 x9 x10 x11 y0 y1 y2 y3 y4 y5 r0 g0 r1 g1 r2 g2 r3 g3 r4 g4 r5 g5 r6 g6 r7 g7 r8 g8 r9 g9 r10 g10 r11 g11 r12 g12
    refine wpAnyH_done (by kernel_rfl) ?_ _
    go_wp2_with fail
    have kT12:=kH.out.put (.slice so14a o.store.live.pool.n to14a) (.slice so14b o.store.live.pool.hn to14b) (.int .i64 o.store.live.time) (.int .i64 o.store.live.next) (.slice so14c o.store.live.sn to14c) (.slice so14d o.store.live.pn to14d) (.slice so14e o.store.safe.pool.n to14e) (.slice so14f o.store.safe.pool.hn to14f) (.int .i64 o.store.safe.time) (.int .i64 o.store.safe.next) (.slice so14g o.store.safe.sn to14g) (.slice so14h o.store.safe.pn to14h) (.int .i64 o.code)
    have oO12:=oO11.turned hT12 (fun k e=>by omega)
    go_meet
    case rel=>exact⟨_,q10.heap.size,q11.heap.size,_,_,_,_,_,_,_,_,_,_,_,_,_,_,_,_,rfl,kT12,oO12,⟨by omega,by omega,by omega,by omega,by omega⟩,hb12⟩
  ·go_simp
   have hc13:=below_alloc q0 (.cells #[.slice none 0 0,.slice none 0 0,.int .i64 0,.int .i64 0,.slice none 0 0,.slice none 0 0,.slice none 0 0,.slice none 0 0,.int .i64 0,.int .i64 0,.slice none 0 0,.slice none 0 0,.int .i64 0] 43)
   have hb13:=below_next hb0 hc13
   have hs13:q0.heap.size<(q0.alloc (.cells #[.slice none 0 0,.slice none 0 0,.int .i64 0,.int .i64 0,.slice none 0 0,.slice none 0 0,.slice none 0 0,.slice none 0 0,.int .i64 0,.int .i64 0,.slice none 0 0,.slice none 0 0,.int .i64 0] 43)).heap.size:=by rw [World.size_alloc]; omega
   have kT13:=Box13.new q0 (.slice none 0 0) (.slice none 0 0) (.int .i64 0) (.int .i64 0) (.slice none 0 0) (.slice none 0 0) (.slice none 0 0) (.slice none 0 0) (.int .i64 0) (.int .i64 0) (.slice none 0 0) (.slice none 0 0) (.int .i64 0) 43
   obtain⟨⟨x0,-⟩,⟨x1,-⟩,⟨x2,-⟩,⟨x3,-⟩,⟨x4,-⟩,⟨x5,-⟩,⟨x6,-⟩,⟨x7,-⟩,⟨x8,-⟩,⟨x9,-⟩,⟨x10,-⟩,⟨x11,-⟩⟩:=HX0n2.out.below hb13
   obtain⟨⟨y0,-⟩,⟨y1,-⟩,⟨y2,-⟩,⟨y3,-⟩,⟨y4,-⟩,⟨y5,-⟩⟩:=HX1n2.out.below hb13
   (try go_wp2_with fail)
   refine hK.out _ _ (by(try dsimp only); go_keep) ?_
   clear hK K hHeld
   intro hHeld
   try simp only [Act.put,s1,s2,s3]
   clear x0 x1 x2 x3 x4 x5 x6 x7 x8 x9 x10 x11 y0 y1 y2 y3 y4 y5
   generalize q0.alloc (.cells #[.slice none 0 0,.slice none 0 0,.int .i64 0,.int .i64 0,.slice none 0 0,.slice none 0 0,.slice none 0 0,.slice none 0 0,.int .i64 0,.int .i64 0,.slice none 0 0,.slice none 0 0,.int .i64 0] 43)=q13 at hb13 kT13 hHeld hc13 hs13 ⊢
   refine rd [1] (rc (fun K hK=>?_) .nil)
   go_simp
   go_at_call 8
   refine(toStore_any _ _ _ _ _ _ _ _ _ _ S _ ((Hps.out.below hBn2).below hb13) HNs.out).mono ?_
   rintro e q14 ⟨p0,p1,p2,p3,p4,p5,p6,p7,rfl,oS14,hc14⟩
   obtain⟨ss31a,ts31a,ss31b,ts31b,ss31c,ts31c,ss31d,ts31d,rfl,rfl,rfl,rfl⟩:=oS14.at.live.form
   obtain⟨ss31e,ts31e,ss31f,ts31f,ss31g,ts31g,ss31h,ts31h,rfl,rfl,rfl,rfl⟩:=oS14.at.safe.form
   have hb14:=below_next hb13 hc14
   have hs14:=hc14.size
   have kT14:=kT13.below hc14
   obtain⟨⟨x0,-⟩,⟨x1,-⟩,⟨x2,-⟩,⟨x3,-⟩,⟨x4,-⟩,⟨x5,-⟩,⟨x6,-⟩,⟨x7,-⟩,⟨x8,-⟩,⟨x9,-⟩,⟨x10,-⟩,⟨x11,-⟩⟩:=HX0n2.out.below hb14
   obtain⟨⟨y0,-⟩,⟨y1,-⟩,⟨y2,-⟩,⟨y3,-⟩,⟨y4,-⟩,⟨y5,-⟩⟩:=HX1n2.out.below hb14
   (try go_wp2_with fail)
   refine hK.out _ _ (by(try dsimp only); go_keep) ?_
   clear hK K hHeld
   intro hHeld
   try simp only [Act.put,s1,s2,s3]
   clear x0 x1 x2 x3 x4 x5 x6 x7 x8 x9 x10 x11 y0 y1 y2 y3 y4 y5
   refine rd [3] (rc (fun K hK=>?_) .nil)
   go_simp
   go_at_call 19
   refine(toWorld_any _ _ _ _ _ _ X _ ((Hpx.out.below hBn2).below hb14) HNx.out).mono ?_
   rintro e q15 ⟨p0,p1,p2,p3,rfl,oX15,hc15⟩
   obtain⟨sx33a,tx33a,sx33b,tx33b,sx33c,tx33c,sx33d,tx33d,rfl,rfl,rfl,rfl⟩:=oX15.form
   have hb15:=below_next hb14 hc15
   have hs15:=hc15.size
   have oS15:=oS14.below hc15
   have kT15:=kT14.below hc15
   obtain⟨⟨x0,-⟩,⟨x1,-⟩,⟨x2,-⟩,⟨x3,-⟩,⟨x4,-⟩,⟨x5,-⟩,⟨x6,-⟩,⟨x7,-⟩,⟨x8,-⟩,⟨x9,-⟩,⟨x10,-⟩,⟨x11,-⟩⟩:=HX0n2.out.below hb15
   obtain⟨⟨y0,-⟩,⟨y1,-⟩,⟨y2,-⟩,⟨y3,-⟩,⟨y4,-⟩,⟨y5,-⟩⟩:=HX1n2.out.below hb15
   (try go_wp2_with fail)
   refine hK.out _ _ (by(try dsimp only); go_keep) ?_
   clear hK K hHeld
   intro hHeld
   try simp only [Act.put,s1,s2,s3]
   clear x0 x1 x2 x3 x4 x5 x6 x7 x8 x9 x10 x11 y0 y1 y2 y3 y4 y5
   refine rd [4] (rc (fun K hK=>?_) .nil)
   go_simp
   go_at_call 20
   refine(IM.out _ _ _ _ _ _ _ _ _ _ _ _ _ HN.out ((HE.out.below hBn2).below hb15) (StoreAt.mk (oS15.at.live.wide (Nat.zero_le _) (by omega)) (oS15.at.safe.wide (Nat.zero_le _) (by omega))) (oX15.at.wide (Nat.zero_le _) (by omega))).mono ?_
   rintro e q16 ⟨p0,p1,p2,p3,p4,p5,p6,p7,rfl,oO16,hc16⟩
   obtain⟨so14a,to14a,so14b,to14b,so14c,to14c,so14d,to14d,rfl,rfl,rfl,rfl⟩:=oO16.at.live.form
   obtain⟨so14e,to14e,so14f,to14f,so14g,to14g,so14h,to14h,rfl,rfl,rfl,rfl⟩:=oO16.at.safe.form
   have hb16:=below_next hb15 hc16
   have hs16:=hc16.size
   have oS16:=oS15.below hc16
   have oX16:=oX15.below hc16
   have kT16:=kT15.below hc16
   obtain⟨⟨x0,-⟩,⟨x1,-⟩,⟨x2,-⟩,⟨x3,-⟩,⟨x4,-⟩,⟨x5,-⟩,⟨x6,-⟩,⟨x7,-⟩,⟨x8,-⟩,⟨x9,-⟩,⟨x10,-⟩,⟨x11,-⟩⟩:=HX0n2.out.below hb16
   obtain⟨⟨y0,-⟩,⟨y1,-⟩,⟨y2,-⟩,⟨y3,-⟩,⟨y4,-⟩,⟨y5,-⟩⟩:=HX1n2.out.below hb16
   (try go_wp2_with fail)
   refine hK.out _ _ (by(try dsimp only); go_keep) ?_
   clear hK K hHeld
   intro hHeld
   try simp only [Act.put,s1,s2,s3]
   clear x0 x1 x2 x3 x4 x5 x6 x7 x8 x9 x10 x11 y0 y1 y2 y3 y4 y5
   refine rd [6] (rc (fun K hK=>?_) .nil)
   have kH:=hideW kT16
   obtain⟨⟨r0,g0⟩,⟨r1,g1⟩,⟨r2,g2⟩,⟨r3,g3⟩,⟨r4,g4⟩,⟨r5,g5⟩,⟨r6,g6⟩,⟨r7,g7⟩,⟨r8,g8⟩,⟨r9,g9⟩,⟨r10,g10⟩,⟨r11,g11⟩,⟨r12,g12⟩⟩:=kT16
   go_simp
   (try go_wp2_with fail)
   have hT17:Turned (fun k=>k=q0.heap.size) q16 (((((((((((((q16.setCell ⟨q0.heap.size,0,none⟩ (.slice so14a o.store.live.pool.n to14a)).setCell ⟨q0.heap.size,1,none⟩ (.slice so14b o.store.live.pool.hn to14b)).setCell ⟨q0.heap.size,2,none⟩ (.int .i64 o.store.live.time)).setCell ⟨q0.heap.size,3,none⟩ (.int .i64 o.store.live.next)).setCell ⟨q0.heap.size,4,none⟩ (.slice so14c o.store.live.sn to14c)).setCell ⟨q0.heap.size,5,none⟩ (.slice so14d o.store.live.pn to14d)).setCell ⟨q0.heap.size,6,none⟩ (.slice so14e o.store.safe.pool.n to14e)).setCell ⟨q0.heap.size,7,none⟩ (.slice so14f o.store.safe.pool.hn to14f)).setCell ⟨q0.heap.size,8,none⟩ (.int .i64 o.store.safe.time)).setCell ⟨q0.heap.size,9,none⟩ (.int .i64 o.store.safe.next)).setCell ⟨q0.heap.size,10,none⟩ (.slice so14g o.store.safe.sn to14g)).setCell ⟨q0.heap.size,11,none⟩ (.slice so14h o.store.safe.pn to14h)).setCell ⟨q0.heap.size,12,none⟩ (.int .i64 o.code)):=Turned.put13 q16 (q0.heap.size) (.slice so14a o.store.live.pool.n to14a) (.slice so14b o.store.live.pool.hn to14b) (.int .i64 o.store.live.time) (.int .i64 o.store.live.next) (.slice so14c o.store.live.sn to14c) (.slice so14d o.store.live.pn to14d) (.slice so14e o.store.safe.pool.n to14e) (.slice so14f o.store.safe.pool.hn to14f) (.int .i64 o.store.safe.time) (.int .i64 o.store.safe.next) (.slice so14g o.store.safe.sn to14g) (.slice so14h o.store.safe.pn to14h) (.int .i64 o.code)
   have hb17:=hb16.trans (hT17.below (B:=n2.heap.size) hb16.size (fun k e=>by omega))
   have hs17:=hT17.size
   obtain⟨⟨x0,-⟩,⟨x1,-⟩,⟨x2,-⟩,⟨x3,-⟩,⟨x4,-⟩,⟨x5,-⟩,⟨x6,-⟩,⟨x7,-⟩,⟨x8,-⟩,⟨x9,-⟩,⟨x10,-⟩,⟨x11,-⟩⟩:=HX0n2.out.below hb17
   obtain⟨⟨y0,-⟩,⟨y1,-⟩,⟨y2,-⟩,⟨y3,-⟩,⟨y4,-⟩,⟨y5,-⟩⟩:=HX1n2.out.below hb17
   refine hK.out _ _ (by(try dsimp only); go_keep) ?_
   clear hK K hHeld
   intro hHeld
   try simp only [Act.put,s1,s2,s3]
   clear x0 x1 x2 x3 x4 x5 x6 x7 x8 x9 x10 x11 y0 y1 y2 y3 y4 y5 r0 g0 r1 g1 r2 g2 r3 g3 r4 g4 r5 g5 r6 g6 r7 g7 r8 g8 r9 g9 r10 g10 r11 g11 r12 g12
   refine wpAnyH_done (by kernel_rfl) ?_ _
   go_wp2_with fail
   have kT17:=kH.out.put (.slice so14a o.store.live.pool.n to14a) (.slice so14b o.store.live.pool.hn to14b) (.int .i64 o.store.live.time) (.int .i64 o.store.live.next) (.slice so14c o.store.live.sn to14c) (.slice so14d o.store.live.pn to14d) (.slice so14e o.store.safe.pool.n to14e) (.slice so14f o.store.safe.pool.hn to14f) (.int .i64 o.store.safe.time) (.int .i64 o.store.safe.next) (.slice so14g o.store.safe.sn to14g) (.slice so14h o.store.safe.pn to14h) (.int .i64 o.code)
   have oO17:=oO16.turned hT17 (fun k e=>by omega)
   go_meet
   case rel=>exact⟨_,q15.heap.size,q16.heap.size,_,_,_,_,_,_,_,_,_,_,_,_,_,_,_,_,rfl,kT17,oO17,⟨by omega,by omega,by omega,by omega,by omega⟩,hb17⟩
 obtain⟨VVb,lAb,hAb,so14a,to14a,so14b,to14b,so14c,to14c,so14d,to14d,so14e,to14e,so14f,to14f,so14g,to14g,so14h,to14h,rfl,hVc,hOc,hZc,hbc⟩:=hcut
 have hBn5:=below_next hBn2 hbc
 have HHn5:=hideW hVc
 have HCn5:=hideW hOc
 have HX0n5:=hideW (HX0n2.out.below hbc)
 have HX1n5:=hideW (HX1n2.out.below hbc)
 have HVn5:=hideW (HVn2.out.below hbc)
 have HAn5:=hideW (HAn2.out.below hbc)
 have HGn5:=hideW (HGn2.out.below hbc)
 have HDn5:=hideW (HDn2.out.below hbc)
 clear hVc hOc hZc hbc hBn2 hzC x0 x1 x2 x3 x4 x5 x6 x7 x8 x9 x10 x11 y0 y1 y2 y3 y4 y5 HX0n2 HX1n2 HVn2 HAn2 HGn2 HDn2
 obtain⟨⟨h0,-⟩,⟨h1,-⟩,⟨h2,-⟩,⟨h3,-⟩,⟨h4,-⟩,⟨h5,-⟩,⟨h6,-⟩,⟨h7,-⟩,⟨h8,-⟩,⟨h9,-⟩,⟨h10,-⟩,⟨h11,-⟩,⟨h12,-⟩⟩:=HHn5.out
 obtain⟨⟨v0,-⟩,⟨v1,-⟩,⟨v2,-⟩,⟨v3,-⟩,⟨v4,-⟩,⟨v5,-⟩,⟨v6,-⟩,⟨v7,-⟩,⟨v8,-⟩,⟨v9,-⟩,⟨v10,-⟩,⟨v11,-⟩,⟨v12,-⟩⟩:=HVn5.out
 go_wp2_with fail
 clear h0 h1 h2 h3 h4 h5 h6 h7 h8 h9 h10 h11 h12 v0 v1 v2 v3 v4 v5 v6 v7 v8 v9 v10 v11 v12
 refine(eqSOut_same _ _ _ _ _ _ _ _ _ _ _ _ _ _ _ _ _ _ _ _ o _ HCn5.out.at HAn5.out.at).mono ?_
 rintro e n6 ⟨rfl,hb9⟩
 have hBn6:=below_next hBn5 hb9
 have HGn6:=hideW (HGn5.out.below hb9)
 have HDn6:=hideW (HDn5.out.below hb9)
 clear hb9 hBn5 HHn5 HCn5 HX0n5 HX1n5 HVn5 HAn5 HGn5 HDn5
 obtain⟨⟨g0,-⟩,⟨g1,-⟩,⟨g2,-⟩,⟨g3,-⟩,⟨g4,-⟩,⟨g5,-⟩,⟨g6,-⟩,⟨g7,-⟩,⟨g8,-⟩,⟨g9,-⟩,⟨g10,-⟩,⟨g11,-⟩,⟨g12,-⟩⟩:=HGn6.out
 go_wp2_with fail
 clear g0 g1 g2 g3 g4 g5 g6 g7 g8 g9 g10 g11 g12
 refine(heldSOut_any _ _ _ _ _ _ _ _ _ _ o 1 n6 HDn6.out (by omega) (by rw [Hge.out]; exact hge1)).mono ?_
 rintro e n7 ⟨rfl,hb9⟩
 rw [Hge.out]
 have hBn7:=below_next hBn6 hb9
 clear hb9 hBn6 HGn6 HDn6
 go_wp2
 go_ret
 exact⟨rfl,hBn7⟩
end Go.Proofs.YtihplgckbhnohaaGreatDoor
