/- For every argument that comes in the law FnExactStoreSync returns true: impl.StoreSync answers as spec.StoreSync, every field; it writes into no argument, and its answer owns its memory. The seven errors of the package are as its text lays them. -/
import Derived.Test.YtihplgckbhnohaaGreatDoorG36
import Derived.Test.YtihplgckbhnohaaGreatDoorG32
import Derived.Test.YtihplgckbhnohaaGreatDoorG1
import Derived.OpenShut
import Derived.ChangeOld
namespace Go.Proofs.YtihplgckbhnohaaGreatDoor
open Go.ChangeShapes Go.WideShapes Go.ChangeAt Go.RowKit
set_option linter.unusedVariables false
open Classical in
noncomputable def syncAns(S:StoreD):SOutD:=if StoreOk S then(if S.live.time≠900000 then⟨⟨syncW S.live,syncW S.live⟩,0⟩else refuseS 6)else refuseS 1
theorem syncAns_of{S:StoreD}{o:SOutD}(h:(¬StoreOk S∧o=refuseS 1)∨(StoreOk S∧¬(S.live.time≠900000)∧o=refuseS 6)∨(StoreOk S∧(S.live.time≠900000)∧o=⟨⟨syncW S.live,syncW S.live⟩,0⟩)):o=syncAns S:=by
 unfold syncAns
 rcases h with⟨a,e⟩ | ⟨a,b,e⟩ | ⟨a,b,e⟩
 ·rw [if_neg a,e]
 ·rw [if_pos a,if_neg b,e]
 ·rw [if_pos a,if_pos b,e]
theorem syncAns_small{S:StoreD}(hN:storeN S≤1048576):endSt (syncAns S).store 1≤1000000000000∧0≤endSt (syncAns S).store 1:=by
 have hz:endSt (refuseS 1).store 1≤1000000000000∧0≤endSt (refuseS 1).store 1:=endSt_small (by decide)
 unfold syncAns
 have hw:worldN (syncW S.live)≤worldN S.live:=by
  have:=sync_less S.live.pool
  unfold worldN syncW
  dsimp only
  omega
 by_cases a:StoreOk S
 ·rw [if_pos a]
  by_cases b:S.live.time≠900000
  ·rw [if_pos b]
   refine endSt_small ?_
   unfold storeN at hN ⊢
   dsimp only
   omega
  ·rw [if_neg b]; exact hz
 ·rw [if_neg a]; exact hz
set_option maxRecDepth 20000 in
set_option maxHeartbeats 8000000 in
theorem fnExactStoreSync_walk(p:Nat→Addr)(vs0 vs1 vs2 vs3 vs4 vs5 vs6 vs7:Value)(S:StoreD)(w:World)(hs:StoreAt w 0 w.heap.size vs0 vs1 vs2 vs3 vs4 vs5 vs6 vs7 S)(hwfs:WorldWf S.live)(hwgs:WorldWf S.safe)(hE:Errs w p):Calls Tryz.prog 3 #[storeV vs0 vs1 vs2 vs3 vs4 vs5 vs6 vs7 S] w fun e w'=>e = .returned (.bool true)∧Below w.heap.size w w':=by
 have Hps:=hideW hs
 have HE:=hideW hE
 have SP:=hideW (show ∀us0 us1 us2 us3 us4 us5 us6 us7 w',storeN S≤1048576→StoreAt w' 0 w'.heap.size us0 us1 us2 us3 us4 us5 us6 us7 S→Calls Tryz.prog 7 #[storeV us0 us1 us2 us3 us4 us5 us6 us7 S] w' (NewSOut (syncAns S) w')from fun us0 us1 us2 us3 us4 us5 us6 us7 w' hN hAs=>by have hB:=store_bounds hN; refine(specStoreSync_any us0 us1 us2 us3 us4 us5 us6 us7 0 w'.heap.size S w' hAs hB.1.1 hB.1.2.1 hB.1.2.2.1 hB.1.2.2.2 (fun h=>by have ht:=h.live.names.1; unfold Between at ht; omega) (Nat.le_trans (sync_less S.live.pool) hB.1.1)).mono ?_; rintro e w2 ⟨o,hc,hn⟩; rw [←syncAns_of hc]; exact hn)
 have IM:=hideW (show ∀us0 us1 us2 us3 us4 us5 us6 us7 w',storeN S≤1048576→Errs w' p→StoreAt w' 0 w'.heap.size us0 us1 us2 us3 us4 us5 us6 us7 S→Calls Tryz.prog 9 #[storeV us0 us1 us2 us3 us4 us5 us6 us7 S] w' (NewSOut (syncAns S) w')from fun us0 us1 us2 us3 us4 us5 us6 us7 w' hN hE' hAs=>by have hB:=store_bounds hN; refine(implStoreSync_any p us0 us1 us2 us3 us4 us5 us6 us7 0 w'.heap.size S w' hE' hAs hwfs.prevs hwgs.prevs hB.1.1 hB.1.2.1 hB.1.2.2.1 hB.1.2.2.2).mono ?_; rintro e w2 ⟨o,hc,hn⟩; rw [store_iff] at hc; rw [←syncAns_of hc]; exact hn)
 have HSM:=hideW (show storeN S≤1048576→endSt (syncAns S).store 1≤1000000000000∧0≤endSt (syncAns S).store 1 from fun hN=>syncAns_small hN)
 generalize syncAns S=o at SP IM HSM
 obtain⟨ss0a,ts0a,ss0b,ts0b,ss0c,ts0c,ss0d,ts0d,rfl,rfl,rfl,rfl⟩:=hs.live.form
 obtain⟨ss0e,ts0e,ss0f,ts0f,ss0g,ts0g,ss0h,ts0h,rfl,rfl,rfl,rfl⟩:=hs.safe.form
 clear hE hs hwfs hwgs
 have ha0:=below_alloc w (.cells #[.slice ss0a S.live.pool.n ts0a,.slice ss0b S.live.pool.hn ts0b,.int .i64 S.live.time,.int .i64 S.live.next,.slice ss0c S.live.sn ts0c,.slice ss0d S.live.pn ts0d,.slice ss0e S.safe.pool.n ts0e,.slice ss0f S.safe.pool.hn ts0f,.int .i64 S.safe.time,.int .i64 S.safe.next,.slice ss0g S.safe.sn ts0g,.slice ss0h S.safe.pn ts0h] 31)
 have ha:=ha0
 have hx0:=(Box12.new w (.slice ss0a S.live.pool.n ts0a) (.slice ss0b S.live.pool.hn ts0b) (.int .i64 S.live.time) (.int .i64 S.live.next) (.slice ss0c S.live.sn ts0c) (.slice ss0d S.live.pn ts0d) (.slice ss0e S.safe.pool.n ts0e) (.slice ss0f S.safe.pool.hn ts0f) (.int .i64 S.safe.time) (.int .i64 S.safe.next) (.slice ss0g S.safe.sn ts0g) (.slice ss0h S.safe.pn ts0h) 31)
 have HX0a:=hideW hx0
 clear hx0
 go_enter Tryz.func3,Tryz.ntmps3
 go_wp2_with fail
 have zz0:(w.alloc (.cells #[.slice ss0a S.live.pool.n ts0a,.slice ss0b S.live.pool.hn ts0b,.int .i64 S.live.time,.int .i64 S.live.next,.slice ss0c S.live.sn ts0c,.slice ss0d S.live.pn ts0d,.slice ss0e S.safe.pool.n ts0e,.slice ss0f S.safe.pool.hn ts0f,.int .i64 S.safe.time,.int .i64 S.safe.next,.slice ss0g S.safe.sn ts0g,.slice ss0h S.safe.pn ts0h] 31)).heap.size=w.heap.size+1:=by rw [World.size_alloc]
 have ZZ0:=hideW zz0
 clear zz0 ha0
 generalize (w.alloc (.cells #[.slice ss0a S.live.pool.n ts0a,.slice ss0b S.live.pool.hn ts0b,.int .i64 S.live.time,.int .i64 S.live.next,.slice ss0c S.live.sn ts0c,.slice ss0d S.live.pn ts0d,.slice ss0e S.safe.pool.n ts0e,.slice ss0f S.safe.pool.hn ts0f,.int .i64 S.safe.time,.int .i64 S.safe.next,.slice ss0g S.safe.sn ts0g,.slice ss0h S.safe.pn ts0h] 31))=Wa at ha ZZ0 HX0a ⊢
 refine(szStore_any _ _ _ _ _ _ _ _ _ _ S _ _ (Hps.out.below ha) (by omega) (by omega)).mono ?_
 rintro e c0 ⟨⟨r0,rfl,hr1,hr2,hr3⟩,hbz⟩
 have HX0c0:=hideW (HX0a.out.below hbz)
 have hBc0:=below_next ha hbz
 have HR0:=hideW hr1
 have Zc0:=hideW hbz.size
 clear ha hbz hr1 HX0a
 by_cases hr0:r0<0
 ·go_wp2
  go_ret
  exact⟨rfl,hBc0⟩
 have HN0:=hideW (HR0.out (by omega))
 have HN:=hideW (show storeN S≤1048576 by have n0:=HN0.out; omega)
 have HNs:=hideW (show storeN S≤1048576 by have:=HN.out; omega)
 have hends:=endSt_small (S:=S) (by have:=HNs.out; omega)
 have hge:=HSM.out HN.out
 generalize hgq:endSt o.store 1=ge at hge
 have Hge:=hideW hgq
 obtain⟨hge1,hge2⟩:=hge
 have hge0:¬ge<0:=by omega
 have hgg:(ge != ge)=false:=by simp
 clear hgq HSM
 obtain⟨⟨x0,-⟩,⟨x1,-⟩,⟨x2,-⟩,⟨x3,-⟩,⟨x4,-⟩,⟨x5,-⟩,⟨x6,-⟩,⟨x7,-⟩,⟨x8,-⟩,⟨x9,-⟩,⟨x10,-⟩,⟨x11,-⟩⟩:=HX0c0.out
 go_wp2_with fail
 clear x0 x1 x2 x3 x4 x5 x6 x7 x8 x9 x10 x11
 refine(toStore_any _ _ _ _ _ _ _ _ _ _ S _ (Hps.out.below hBc0) HNs.out).mono ?_
 rintro e d0 ⟨p0,p1,p2,p3,p4,p5,p6,p7,rfl,hoA,hb2⟩
 obtain⟨ss2a,ts2a,ss2b,ts2b,ss2c,ts2c,ss2d,ts2d,rfl,rfl,rfl,rfl⟩:=hoA.at.live.form
 obtain⟨ss2e,ts2e,ss2f,ts2f,ss2g,ts2g,ss2h,ts2h,rfl,rfl,rfl,rfl⟩:=hoA.at.safe.form
 have HoA:=hideW hoA
 have hBd0:=below_next hBc0 hb2
 have Zd0:=hideW hb2.size
 have HX0d0:=hideW (HX0c0.out.below hb2)
 clear HX0c0
 clear hoA hb2 hBc0
 go_wp2_with fail
 refine(SP.out _ _ _ _ _ _ _ _ _ HN.out (StoreAt.mk (HoA.out.at.live.wide (Nat.zero_le _) (Nat.le_refl _)) (HoA.out.at.safe.wide (Nat.zero_le _) (Nat.le_refl _)))).mono ?_
 rintro e d1 ⟨p0,p1,p2,p3,p4,p5,p6,p7,rfl,hoB,hb3⟩
 obtain⟨so3a,to3a,so3b,to3b,so3c,to3c,so3d,to3d,rfl,rfl,rfl,rfl⟩:=hoB.at.live.form
 obtain⟨so3e,to3e,so3f,to3f,so3g,to3g,so3h,to3h,rfl,rfl,rfl,rfl⟩:=hoB.at.safe.form
 have hal:=below_alloc d1 (.cells #[.slice so3a o.store.live.pool.n to3a,.slice so3b o.store.live.pool.hn to3b,.int .i64 o.store.live.time,.int .i64 o.store.live.next,.slice so3c o.store.live.sn to3c,.slice so3d o.store.live.pn to3d,.slice so3e o.store.safe.pool.n to3e,.slice so3f o.store.safe.pool.hn to3f,.int .i64 o.store.safe.time,.int .i64 o.store.safe.next,.slice so3g o.store.safe.sn to3g,.slice so3h o.store.safe.pn to3h,.int .i64 o.code] 43)
 have hba:=below_next hb3 hal
 have hBd2:=below_next hBd0 hba
 have HVd2:=hideW (Box13.new d1 (.slice so3a o.store.live.pool.n to3a) (.slice so3b o.store.live.pool.hn to3b) (.int .i64 o.store.live.time) (.int .i64 o.store.live.next) (.slice so3c o.store.live.sn to3c) (.slice so3d o.store.live.pn to3d) (.slice so3e o.store.safe.pool.n to3e) (.slice so3f o.store.safe.pool.hn to3f) (.int .i64 o.store.safe.time) (.int .i64 o.store.safe.next) (.slice so3g o.store.safe.sn to3g) (.slice so3h o.store.safe.pn to3h) (.int .i64 o.code) 43)
 have HAd2:=hideW (hoB.below hal)
 have HX0d2:=hideW (HX0d0.out.below hba)
 clear HX0d0
 have Zd2:=hideW (show d0.heap.size≤d1.heap.size∧d1.heap.size<(d1.alloc (.cells #[.slice so3a o.store.live.pool.n to3a,.slice so3b o.store.live.pool.hn to3b,.int .i64 o.store.live.time,.int .i64 o.store.live.next,.slice so3c o.store.live.sn to3c,.slice so3d o.store.live.pn to3d,.slice so3e o.store.safe.pool.n to3e,.slice so3f o.store.safe.pool.hn to3f,.int .i64 o.store.safe.time,.int .i64 o.store.safe.next,.slice so3g o.store.safe.sn to3g,.slice so3h o.store.safe.pn to3h,.int .i64 o.code] 43)).heap.size by have:=hb3.size; rw [World.size_alloc]; omega)
 clear hoB hb3 hal hba hBd0 HoA
 obtain⟨⟨x0,-⟩,⟨x1,-⟩,⟨x2,-⟩,⟨x3,-⟩,⟨x4,-⟩,⟨x5,-⟩,⟨x6,-⟩,⟨x7,-⟩,⟨x8,-⟩,⟨x9,-⟩,⟨x10,-⟩,⟨x11,-⟩⟩:=HX0d2.out
 go_wp2_with fail
 clear x0 x1 x2 x3 x4 x5 x6 x7 x8 x9 x10 x11
 generalize d1.alloc (.cells #[.slice so3a o.store.live.pool.n to3a,.slice so3b o.store.live.pool.hn to3b,.int .i64 o.store.live.time,.int .i64 o.store.live.next,.slice so3c o.store.live.sn to3c,.slice so3d o.store.live.pn to3d,.slice so3e o.store.safe.pool.n to3e,.slice so3f o.store.safe.pool.hn to3f,.int .i64 o.store.safe.time,.int .i64 o.store.safe.next,.slice so3g o.store.safe.sn to3g,.slice so3h o.store.safe.pn to3h,.int .i64 o.code] 43)=D2 at hBd2 HVd2 HAd2 Zd2 HX0d2 ⊢
 generalize d1.heap.size=VV at HVd2 HAd2 Zd2 ⊢
 have ZA:=hideW (show w.heap.size+1≤d0.heap.size∧d0.heap.size≤VV∧VV<D2.heap.size by have:=ZZ0.out; have:=Zc0.out; have:=Zd0.out; have:=Zd2.out; omega)
 refine(toStore_any _ _ _ _ _ _ _ _ _ _ S _ (Hps.out.below hBd2) HNs.out).mono ?_
 rintro e f00 ⟨p0,p1,p2,p3,p4,p5,p6,p7,rfl,hoA,hb4⟩
 obtain⟨ss4a,ts4a,ss4b,ts4b,ss4c,ts4c,ss4d,ts4d,rfl,rfl,rfl,rfl⟩:=hoA.at.live.form
 obtain⟨ss4e,ts4e,ss4f,ts4f,ss4g,ts4g,ss4h,ts4h,rfl,rfl,rfl,rfl⟩:=hoA.at.safe.form
 have hal:=below_alloc f00 (.cells #[.slice ss4a S.live.pool.n ts4a,.slice ss4b S.live.pool.hn ts4b,.int .i64 S.live.time,.int .i64 S.live.next,.slice ss4c S.live.sn ts4c,.slice ss4d S.live.pn ts4d,.slice ss4e S.safe.pool.n ts4e,.slice ss4f S.safe.pool.hn ts4f,.int .i64 S.safe.time,.int .i64 S.safe.next,.slice ss4g S.safe.sn ts4g,.slice ss4h S.safe.pn ts4h] 41)
 have hba:=below_next hb4 hal
 have hBf0:=below_next hBd2 hba
 have HX0f0:=hideW (HX0d2.out.below hba)
 have HVf0:=hideW (HVd2.out.below hba)
 have HAf0:=hideW (HAd2.out.below hba)
 clear HX0d2 HVd2 HAd2
 have HY0f0:=hideW (Box12.new f00 (.slice ss4a S.live.pool.n ts4a) (.slice ss4b S.live.pool.hn ts4b) (.int .i64 S.live.time) (.int .i64 S.live.next) (.slice ss4c S.live.sn ts4c) (.slice ss4d S.live.pn ts4d) (.slice ss4e S.safe.pool.n ts4e) (.slice ss4f S.safe.pool.hn ts4f) (.int .i64 S.safe.time) (.int .i64 S.safe.next) (.slice ss4g S.safe.sn ts4g) (.slice ss4h S.safe.pn ts4h) 41)
 have HO0f0:=hideW (hoA.below hal)
 have Zf0:=hideW (show D2.heap.size≤f00.heap.size∧f00.heap.size<(f00.alloc (.cells #[.slice ss4a S.live.pool.n ts4a,.slice ss4b S.live.pool.hn ts4b,.int .i64 S.live.time,.int .i64 S.live.next,.slice ss4c S.live.sn ts4c,.slice ss4d S.live.pn ts4d,.slice ss4e S.safe.pool.n ts4e,.slice ss4f S.safe.pool.hn ts4f,.int .i64 S.safe.time,.int .i64 S.safe.next,.slice ss4g S.safe.sn ts4g,.slice ss4h S.safe.pn ts4h] 41)).heap.size by have:=hb4.size; rw [World.size_alloc]; omega)
 clear hoA hb4 hal hba hBd2
 obtain⟨⟨y0,-⟩,⟨y1,-⟩,⟨y2,-⟩,⟨y3,-⟩,⟨y4,-⟩,⟨y5,-⟩,⟨y6,-⟩,⟨y7,-⟩,⟨y8,-⟩,⟨y9,-⟩,⟨y10,-⟩,⟨y11,-⟩⟩:=HY0f0.out
 go_wp2_with fail
 clear y0 y1 y2 y3 y4 y5 y6 y7 y8 y9 y10 y11
 generalize f00.alloc (.cells #[.slice ss4a S.live.pool.n ts4a,.slice ss4b S.live.pool.hn ts4b,.int .i64 S.live.time,.int .i64 S.live.next,.slice ss4c S.live.sn ts4c,.slice ss4d S.live.pn ts4d,.slice ss4e S.safe.pool.n ts4e,.slice ss4f S.safe.pool.hn ts4f,.int .i64 S.safe.time,.int .i64 S.safe.next,.slice ss4g S.safe.sn ts4g,.slice ss4h S.safe.pn ts4h] 41)=F0 at hBf0 Zf0 HX0f0 HVf0 HAf0 HY0f0 HO0f0 ⊢
 generalize f00.heap.size=VY0 at HY0f0 HO0f0 Zf0 ⊢
 refine(IM.out _ _ _ _ _ _ _ _ F0 HN.out (HE.out.below hBf0) (StoreAt.mk (HO0f0.out.at.live.wide (Nat.zero_le _) (by have:=Zf0.out; have:=Zf0.out; omega)) (HO0f0.out.at.safe.wide (Nat.zero_le _) (by have:=Zf0.out; have:=Zf0.out; omega)))).mono ?_
 rintro e g0 ⟨p0,p1,p2,p3,p4,p5,p6,p7,rfl,hoB,hb5⟩
 obtain⟨so9a,to9a,so9b,to9b,so9c,to9c,so9d,to9d,rfl,rfl,rfl,rfl⟩:=hoB.at.live.form
 obtain⟨so9e,to9e,so9f,to9f,so9g,to9g,so9h,to9h,rfl,rfl,rfl,rfl⟩:=hoB.at.safe.form
 have hal:=below_alloc g0 (.cells #[.slice so9a o.store.live.pool.n to9a,.slice so9b o.store.live.pool.hn to9b,.int .i64 o.store.live.time,.int .i64 o.store.live.next,.slice so9c o.store.live.sn to9c,.slice so9d o.store.live.pn to9d,.slice so9e o.store.safe.pool.n to9e,.slice so9f o.store.safe.pool.hn to9f,.int .i64 o.store.safe.time,.int .i64 o.store.safe.next,.slice so9g o.store.safe.sn to9g,.slice so9h o.store.safe.pn to9h,.int .i64 o.code] 43)
 have hba:=below_next hb5 hal
 have hBg1:=below_next hBf0 hba
 have HX0g1:=hideW (HX0f0.out.below hba)
 have HVg1:=hideW (HVf0.out.below hba)
 have HAg1:=hideW (HAf0.out.below hba)
 have HY0g1:=hideW (HY0f0.out.below hba)
 have HO0g1:=hideW (HO0f0.out.below hba)
 clear HX0f0 HVf0 HAf0 HY0f0 HO0f0
 have HGg1:=hideW (Box13.new g0 (.slice so9a o.store.live.pool.n to9a) (.slice so9b o.store.live.pool.hn to9b) (.int .i64 o.store.live.time) (.int .i64 o.store.live.next) (.slice so9c o.store.live.sn to9c) (.slice so9d o.store.live.pn to9d) (.slice so9e o.store.safe.pool.n to9e) (.slice so9f o.store.safe.pool.hn to9f) (.int .i64 o.store.safe.time) (.int .i64 o.store.safe.next) (.slice so9g o.store.safe.sn to9g) (.slice so9h o.store.safe.pn to9h) (.int .i64 o.code) 43)
 have HDg1:=hideW (hoB.below hal)
 have Zg1:=hideW (show F0.heap.size≤g0.heap.size∧g0.heap.size<(g0.alloc (.cells #[.slice so9a o.store.live.pool.n to9a,.slice so9b o.store.live.pool.hn to9b,.int .i64 o.store.live.time,.int .i64 o.store.live.next,.slice so9c o.store.live.sn to9c,.slice so9d o.store.live.pn to9d,.slice so9e o.store.safe.pool.n to9e,.slice so9f o.store.safe.pool.hn to9f,.int .i64 o.store.safe.time,.int .i64 o.store.safe.next,.slice so9g o.store.safe.sn to9g,.slice so9h o.store.safe.pn to9h,.int .i64 o.code] 43)).heap.size by have:=hb5.size; rw [World.size_alloc]; omega)
 clear hoB hb5 hal hba hBf0
 obtain⟨⟨g0,-⟩,⟨g1,-⟩,⟨g2,-⟩,⟨g3,-⟩,⟨g4,-⟩,⟨g5,-⟩,⟨g6,-⟩,⟨g7,-⟩,⟨g8,-⟩,⟨g9,-⟩,⟨g10,-⟩,⟨g11,-⟩,⟨g12,-⟩⟩:=HGg1.out
 obtain⟨⟨v0,-⟩,⟨v1,-⟩,⟨v2,-⟩,⟨v3,-⟩,⟨v4,-⟩,⟨v5,-⟩,⟨v6,-⟩,⟨v7,-⟩,⟨v8,-⟩,⟨v9,-⟩,⟨v10,-⟩,⟨v11,-⟩,⟨v12,-⟩⟩:=HVg1.out
 go_wp2_with fail
 clear g0 g1 g2 g3 g4 g5 g6 g7 g8 g9 g10 g11 g12 v0 v1 v2 v3 v4 v5 v6 v7 v8 v9 v10 v11 v12
 generalize g0.alloc (.cells #[.slice so9a o.store.live.pool.n to9a,.slice so9b o.store.live.pool.hn to9b,.int .i64 o.store.live.time,.int .i64 o.store.live.next,.slice so9c o.store.live.sn to9c,.slice so9d o.store.live.pn to9d,.slice so9e o.store.safe.pool.n to9e,.slice so9f o.store.safe.pool.hn to9f,.int .i64 o.store.safe.time,.int .i64 o.store.safe.next,.slice so9g o.store.safe.sn to9g,.slice so9h o.store.safe.pn to9h,.int .i64 o.code] 43)=G1 at hBg1 Zg1 HX0g1 HVg1 HAg1 HY0g1 HO0g1 HGg1 HDg1 ⊢
 generalize g0.heap.size=VG at HGg1 HDg1 Zg1 ⊢
 refine(eqSOut_same _ _ _ _ _ _ _ _ _ _ _ _ _ _ _ _ _ _ _ _ o G1 HDg1.out.at HAg1.out.at).mono ?_
 rintro e g2 ⟨rfl,hb6⟩
 have hBg2:=below_next hBg1 hb6
 have Zg2:=hideW hb6.size
 have HX0g2:=hideW (HX0g1.out.below hb6)
 have HVg2:=hideW (HVg1.out.below hb6)
 have HAg2:=hideW (HAg1.out.below hb6)
 have HY0g2:=hideW (HY0g1.out.below hb6)
 have HO0g2:=hideW (HO0g1.out.below hb6)
 have HGg2:=hideW (HGg1.out.below hb6)
 have HDg2:=hideW (HDg1.out.below hb6)
 clear HX0g1 HVg1 HAg1 HY0g1 HO0g1 HGg1 HDg1
 clear hb6 hBg1
 obtain⟨⟨x0,-⟩,⟨x1,-⟩,⟨x2,-⟩,⟨x3,-⟩,⟨x4,-⟩,⟨x5,-⟩,⟨x6,-⟩,⟨x7,-⟩,⟨x8,-⟩,⟨x9,-⟩,⟨x10,-⟩,⟨x11,-⟩⟩:=HX0g2.out
 obtain⟨⟨y0,-⟩,⟨y1,-⟩,⟨y2,-⟩,⟨y3,-⟩,⟨y4,-⟩,⟨y5,-⟩,⟨y6,-⟩,⟨y7,-⟩,⟨y8,-⟩,⟨y9,-⟩,⟨y10,-⟩,⟨y11,-⟩⟩:=HY0g2.out
 go_wp2_with fail
 go_region_held3 (fun w'=>w'.cell? ⟨w.heap.size,0,none⟩=some (.slice ss0a S.live.pool.n ts0a)∧w'.cell? ⟨w.heap.size,1,none⟩=some (.slice ss0b S.live.pool.hn ts0b)∧w'.cell? ⟨w.heap.size,2,none⟩=some (.int .i64 S.live.time)∧w'.cell? ⟨w.heap.size,3,none⟩=some (.int .i64 S.live.next)∧w'.cell? ⟨w.heap.size,4,none⟩=some (.slice ss0c S.live.sn ts0c)∧w'.cell? ⟨w.heap.size,5,none⟩=some (.slice ss0d S.live.pn ts0d)∧w'.cell? ⟨w.heap.size,6,none⟩=some (.slice ss0e S.safe.pool.n ts0e)∧w'.cell? ⟨w.heap.size,7,none⟩=some (.slice ss0f S.safe.pool.hn ts0f)∧w'.cell? ⟨w.heap.size,8,none⟩=some (.int .i64 S.safe.time)∧w'.cell? ⟨w.heap.size,9,none⟩=some (.int .i64 S.safe.next)∧w'.cell? ⟨w.heap.size,10,none⟩=some (.slice ss0g S.safe.sn ts0g)∧w'.cell? ⟨w.heap.size,11,none⟩=some (.slice ss0h S.safe.pn ts0h)∧w'.cell? ⟨VY0,0,none⟩=some (.slice ss4a S.live.pool.n ts4a)∧w'.cell? ⟨VY0,1,none⟩=some (.slice ss4b S.live.pool.hn ts4b)∧w'.cell? ⟨VY0,2,none⟩=some (.int .i64 S.live.time)∧w'.cell? ⟨VY0,3,none⟩=some (.int .i64 S.live.next)∧w'.cell? ⟨VY0,4,none⟩=some (.slice ss4c S.live.sn ts4c)∧w'.cell? ⟨VY0,5,none⟩=some (.slice ss4d S.live.pn ts4d)∧w'.cell? ⟨VY0,6,none⟩=some (.slice ss4e S.safe.pool.n ts4e)∧w'.cell? ⟨VY0,7,none⟩=some (.slice ss4f S.safe.pool.hn ts4f)∧w'.cell? ⟨VY0,8,none⟩=some (.int .i64 S.safe.time)∧w'.cell? ⟨VY0,9,none⟩=some (.int .i64 S.safe.next)∧w'.cell? ⟨VY0,10,none⟩=some (.slice ss4g S.safe.sn ts4g)∧w'.cell? ⟨VY0,11,none⟩=some (.slice ss4h S.safe.pn ts4h)) (go_keep)
  (first
   | (go_at_call 8; refine(toStore_any _ _ _ _ _ _ _ _ 0 w.heap.size S _ ?_ HNs.out).mono ?_; (exact Hps.out.below hBg2.drew); rintro e w7 ⟨p0,p1,p2,p3,p4,p5,p6,p7,rfl,ho7,hb7⟩; obtain⟨ss7a,ts7a,ss7b,ts7b,ss7c,ts7c,ss7d,ts7d,rfl,rfl,rfl,rfl⟩:=ho7.at.live.form; obtain⟨ss7e,ts7e,ss7f,ts7f,ss7g,ts7g,ss7h,ts7h,rfl,rfl,rfl,rfl⟩:=ho7.at.safe.form; have hb7':=below_undrew hb7; obtain⟨⟨q0,-⟩,⟨q1,-⟩,⟨q2,-⟩,⟨q3,-⟩,⟨q4,-⟩,⟨q5,-⟩,⟨q6,-⟩,⟨q7,-⟩,⟨q8,-⟩,⟨q9,-⟩,⟨q10,-⟩,⟨q11,-⟩⟩:=HX0g2.out.below hb7'; obtain⟨⟨r0,-⟩,⟨r1,-⟩,⟨r2,-⟩,⟨r3,-⟩,⟨r4,-⟩,⟨r5,-⟩,⟨r6,-⟩,⟨r7,-⟩,⟨r8,-⟩,⟨r9,-⟩,⟨r10,-⟩,⟨r11,-⟩⟩:=HY0g2.out.below hb7')
   | (go_at_call 11; refine(eqStore_same _ _ _ _ _ _ _ _ _ _ _ _ _ _ _ _ _ _ _ _ S _ (HO0g2.out.at.below hb7') ho7.at).mono ?_; rintro e k0 ⟨rfl,hb8⟩; have hb8':=below_next hb7' hb8; obtain⟨⟨s0,-⟩,⟨s1,-⟩,⟨s2,-⟩,⟨s3,-⟩,⟨s4,-⟩,⟨s5,-⟩,⟨s6,-⟩,⟨s7,-⟩,⟨s8,-⟩,⟨s9,-⟩,⟨s10,-⟩,⟨s11,-⟩⟩:=HX0g2.out.below hb8'; obtain⟨⟨t0,-⟩,⟨t1,-⟩,⟨t2,-⟩,⟨t3,-⟩,⟨t4,-⟩,⟨t5,-⟩,⟨t6,-⟩,⟨t7,-⟩,⟨t8,-⟩,⟨t9,-⟩,⟨t10,-⟩,⟨t11,-⟩⟩:=HY0g2.out.below hb8'))
 have hBk0:=below_next hBg2 hb8'
 have Zk0:=hideW hb8'.size
 have HX0k0:=hideW (HX0g2.out.below hb8')
 have HVk0:=hideW (HVg2.out.below hb8')
 have HAk0:=hideW (HAg2.out.below hb8')
 have HY0k0:=hideW (HY0g2.out.below hb8')
 have HO0k0:=hideW (HO0g2.out.below hb8')
 have HGk0:=hideW (HGg2.out.below hb8')
 have HDk0:=hideW (HDg2.out.below hb8')
 clear HX0g2 HVg2 HAg2 HY0g2 HO0g2 HGg2 HDg2
 clear x0 x1 x2 x3 x4 x5 x6 x7 x8 x9 x10 x11 y0 y1 y2 y3 y4 y5 y6 y7 y8 y9 y10 y11 q0 q1 q2 q3 q4 q5 q6 q7 q8 q9 q10 q11 r0 r1 r2 r3 r4 r5 r6 r7 r8 r9 r10 r11 s0 s1 s2 s3 s4 s5 s6 s7 s8 s9 s10 s11 t0 t1 t2 t3 t4 t5 t6 t7 t8 t9 t10 t11 hb7 hb7' hb8 hb8' ho7 hBg2
 obtain⟨⟨y0,-⟩,⟨y1,-⟩,⟨y2,-⟩,⟨y3,-⟩,⟨y4,-⟩,⟨y5,-⟩,⟨y6,-⟩,⟨y7,-⟩,⟨y8,-⟩,⟨y9,-⟩,⟨y10,-⟩,⟨y11,-⟩⟩:=HY0k0.out
 go_wp2_with fail
 clear y0 y1 y2 y3 y4 y5 y6 y7 y8 y9 y10 y11
 have hk0:endSt S 1≤1000000000000∧0≤endSt S 1:=hends
 refine(markStore_any _ _ _ _ _ _ _ _ _ _ S 1 _ HO0k0.out (by have q0:=ZZ0.out; have q1:=Zc0.out; have q2:=Zd0.out; have q3:=Zd2.out; have q4:=ZA.out; have q5:=Zf0.out; have q6:=Zg1.out; have q7:=Zg2.out; have q8:=Zk0.out; omega) (by omega) hk0.1).mono ?_
 rintro e m0 ⟨rfl,-,htm⟩
 have q0:=ZZ0.out
 have q1:=Zc0.out
 have q2:=Zd0.out
 have q3:=Zd2.out
 have q4:=ZA.out
 have q5:=Zf0.out
 have q6:=Zg1.out
 have q7:=Zg2.out
 have q8:=Zk0.out
 have hBm0:Below w.heap.size w m0:=hBk0.trans (htm.below (B:=w.heap.size) (by omega) (fun k hk=>by omega))
 have HX0m0:=hideW (HX0k0.out.turned htm (fun hk=>by omega))
 have HVm0:=hideW (HVk0.out.turned htm (fun hk=>by omega))
 have HAm0:=hideW (HAk0.out.turned htm (fun k hk=>by omega))
 have HGm0:=hideW (HGk0.out.turned htm (fun hk=>by omega))
 have HDm0:=hideW (HDk0.out.turned htm (fun k hk=>by omega))
 have Zm0:=hideW htm.size
 clear htm hBk0 HX0k0 HVk0 HAk0 HY0k0 HO0k0 HGk0 HDk0 q0 q1 q2 q3 q4 q5 q6 q7 q8
 have hkn0:¬endSt S 1<0:=by omega
 generalize endSt S 1=kk at *
 obtain⟨⟨g0,-⟩,⟨g1,-⟩,⟨g2,-⟩,⟨g3,-⟩,⟨g4,-⟩,⟨g5,-⟩,⟨g6,-⟩,⟨g7,-⟩,⟨g8,-⟩,⟨g9,-⟩,⟨g10,-⟩,⟨g11,-⟩,⟨g12,-⟩⟩:=HGm0.out
 obtain⟨⟨v0,-⟩,⟨v1,-⟩,⟨v2,-⟩,⟨v3,-⟩,⟨v4,-⟩,⟨v5,-⟩,⟨v6,-⟩,⟨v7,-⟩,⟨v8,-⟩,⟨v9,-⟩,⟨v10,-⟩,⟨v11,-⟩,⟨v12,-⟩⟩:=HVm0.out
 go_wp2_with fail
 clear g0 g1 g2 g3 g4 g5 g6 g7 g8 g9 g10 g11 g12 v0 v1 v2 v3 v4 v5 v6 v7 v8 v9 v10 v11 v12
 refine(eqSOut_same _ _ _ _ _ _ _ _ _ _ _ _ _ _ _ _ _ _ _ _ o m0 HDm0.out.at HAm0.out.at).mono ?_
 rintro e n0 ⟨rfl,hb9⟩
 have hBn0:=below_next hBm0 hb9
 have Zn0:=hideW hb9.size
 have HX0n0:=hideW (HX0m0.out.below hb9)
 have HVn0:=hideW (HVm0.out.below hb9)
 have HAn0:=hideW (HAm0.out.below hb9)
 have HGn0:=hideW (HGm0.out.below hb9)
 have HDn0:=hideW (HDm0.out.below hb9)
 clear HX0m0 HVm0 HAm0 HGm0 HDm0
 clear hb9 hBm0
 obtain⟨⟨g0,-⟩,⟨g1,-⟩,⟨g2,-⟩,⟨g3,-⟩,⟨g4,-⟩,⟨g5,-⟩,⟨g6,-⟩,⟨g7,-⟩,⟨g8,-⟩,⟨g9,-⟩,⟨g10,-⟩,⟨g11,-⟩,⟨g12,-⟩⟩:=HGn0.out
 go_wp2_with fail
 clear g0 g1 g2 g3 g4 g5 g6 g7 g8 g9 g10 g11 g12
 refine(markSOut_any _ _ _ _ _ _ _ _ _ _ o 1 n0 HDn0.out (by have q0:=ZZ0.out; have q1:=Zc0.out; have q2:=Zd0.out; have q3:=Zd2.out; have q4:=ZA.out; have q5:=Zf0.out; have q6:=Zg1.out; have q7:=Zg2.out; have q8:=Zk0.out; have q9:=Zm0.out; have q10:=Zn0.out; omega) (by omega) (by rw [Hge.out]; exact hge1)).mono ?_
 rintro e n1 ⟨rfl,hDn,htm⟩
 rw [Hge.out]
 have q0:=ZZ0.out
 have q1:=Zc0.out
 have q2:=Zd0.out
 have q3:=Zd2.out
 have q4:=ZA.out
 have q5:=Zf0.out
 have q6:=Zg1.out
 have q7:=Zg2.out
 have q8:=Zk0.out
 have q9:=Zm0.out
 have q10:=Zn0.out
 have hBn1:Below w.heap.size w n1:=hBn0.trans (htm.below (B:=w.heap.size) (by omega) (fun k hk=>by omega))
 have HX0n1:=hideW (HX0n0.out.turned htm (fun hk=>by omega))
 have HVn1:=hideW (HVn0.out.turned htm (fun hk=>by omega))
 have HAn1:=hideW (HAn0.out.turned htm (fun k hk=>by omega))
 have HGn1:=hideW (HGn0.out.turned htm (fun hk=>by omega))
 have HDn1:=hideW hDn.at
 clear hDn htm hBn0 HX0n0 HVn0 HAn0 HGn0 HDn0 q0 q1 q2 q3 q4 q5 q6 q7 q8 q9 q10
 obtain⟨⟨g0,-⟩,⟨g1,-⟩,⟨g2,-⟩,⟨g3,-⟩,⟨g4,-⟩,⟨g5,-⟩,⟨g6,-⟩,⟨g7,-⟩,⟨g8,-⟩,⟨g9,-⟩,⟨g10,-⟩,⟨g11,-⟩,⟨g12,-⟩⟩:=HGn1.out
 go_wp2_with fail
 clear g0 g1 g2 g3 g4 g5 g6 g7 g8 g9 g10 g11 g12
 refine(heldSOut_any _ _ _ _ _ _ _ _ _ _ o 1 n1 HDn1.out (by omega) (by rw [Hge.out]; exact hge1)).mono ?_
 rintro e n2 ⟨rfl,hb9⟩
 rw [Hge.out]
 have hBn2:=below_next hBn1 hb9
 have HX0n2:=hideW (HX0n1.out.below hb9)
 have HVn2:=hideW (HVn1.out.below hb9)
 have HAn2:=hideW (HAn1.out.below hb9)
 have HGn2:=hideW (HGn1.out.below hb9)
 have HDn2:=hideW (HDn1.out.below hb9)
 clear HX0n1 HVn1 HAn1 HGn1 HDn1
 clear hb9 hBn1
 obtain⟨⟨x0,-⟩,⟨x1,-⟩,⟨x2,-⟩,⟨x3,-⟩,⟨x4,-⟩,⟨x5,-⟩,⟨x6,-⟩,⟨x7,-⟩,⟨x8,-⟩,⟨x9,-⟩,⟨x10,-⟩,⟨x11,-⟩⟩:=HX0n2.out
 go_wp2_with fail
 clear x0 x1 x2 x3 x4 x5 x6 x7 x8 x9 x10 x11
 refine(toStore_any _ _ _ _ _ _ _ _ _ _ S _ (Hps.out.below hBn2) HNs.out).mono ?_
 rintro e n3 ⟨p0,p1,p2,p3,p4,p5,p6,p7,rfl,hoA,hb2⟩
 obtain⟨ss13a,ts13a,ss13b,ts13b,ss13c,ts13c,ss13d,ts13d,rfl,rfl,rfl,rfl⟩:=hoA.at.live.form
 obtain⟨ss13e,ts13e,ss13f,ts13f,ss13g,ts13g,ss13h,ts13h,rfl,rfl,rfl,rfl⟩:=hoA.at.safe.form
 have HoA:=hideW hoA
 have hBn3:=below_next hBn2 hb2
 have HX0n3:=hideW (HX0n2.out.below hb2)
 have HVn3:=hideW (HVn2.out.below hb2)
 have HAn3:=hideW (HAn2.out.below hb2)
 have HGn3:=hideW (HGn2.out.below hb2)
 have HDn3:=hideW (HDn2.out.below hb2)
 clear HX0n2 HVn2 HAn2 HGn2 HDn2
 clear hoA hb2 hBn2
 go_wp2_with fail
 refine(IM.out _ _ _ _ _ _ _ _ _ HN.out (HE.out.below hBn3) (StoreAt.mk (HoA.out.at.live.wide (Nat.zero_le _) (Nat.le_refl _)) (HoA.out.at.safe.wide (Nat.zero_le _) (Nat.le_refl _)))).mono ?_
 rintro e n4 ⟨p0,p1,p2,p3,p4,p5,p6,p7,rfl,hoB,hb3⟩
 obtain⟨so14a,to14a,so14b,to14b,so14c,to14c,so14d,to14d,rfl,rfl,rfl,rfl⟩:=hoB.at.live.form
 obtain⟨so14e,to14e,so14f,to14f,so14g,to14g,so14h,to14h,rfl,rfl,rfl,rfl⟩:=hoB.at.safe.form
 have hal:=below_alloc n4 (.cells #[.slice so14a o.store.live.pool.n to14a,.slice so14b o.store.live.pool.hn to14b,.int .i64 o.store.live.time,.int .i64 o.store.live.next,.slice so14c o.store.live.sn to14c,.slice so14d o.store.live.pn to14d,.slice so14e o.store.safe.pool.n to14e,.slice so14f o.store.safe.pool.hn to14f,.int .i64 o.store.safe.time,.int .i64 o.store.safe.next,.slice so14g o.store.safe.sn to14g,.slice so14h o.store.safe.pn to14h,.int .i64 o.code] 43)
 have hba:=below_next hb3 hal
 have hBn5:=below_next hBn3 hba
 have HHn5:=hideW (Box13.new n4 (.slice so14a o.store.live.pool.n to14a) (.slice so14b o.store.live.pool.hn to14b) (.int .i64 o.store.live.time) (.int .i64 o.store.live.next) (.slice so14c o.store.live.sn to14c) (.slice so14d o.store.live.pn to14d) (.slice so14e o.store.safe.pool.n to14e) (.slice so14f o.store.safe.pool.hn to14f) (.int .i64 o.store.safe.time) (.int .i64 o.store.safe.next) (.slice so14g o.store.safe.sn to14g) (.slice so14h o.store.safe.pn to14h) (.int .i64 o.code) 43)
 have HCn5:=hideW (hoB.below hal)
 have HX0n5:=hideW (HX0n3.out.below hba)
 have HVn5:=hideW (HVn3.out.below hba)
 have HAn5:=hideW (HAn3.out.below hba)
 have HGn5:=hideW (HGn3.out.below hba)
 have HDn5:=hideW (HDn3.out.below hba)
 clear HX0n3 HVn3 HAn3 HGn3 HDn3
 clear hoB hb3 hal hba hBn3 HoA
 obtain⟨⟨h0,-⟩,⟨h1,-⟩,⟨h2,-⟩,⟨h3,-⟩,⟨h4,-⟩,⟨h5,-⟩,⟨h6,-⟩,⟨h7,-⟩,⟨h8,-⟩,⟨h9,-⟩,⟨h10,-⟩,⟨h11,-⟩,⟨h12,-⟩⟩:=HHn5.out
 obtain⟨⟨v0,-⟩,⟨v1,-⟩,⟨v2,-⟩,⟨v3,-⟩,⟨v4,-⟩,⟨v5,-⟩,⟨v6,-⟩,⟨v7,-⟩,⟨v8,-⟩,⟨v9,-⟩,⟨v10,-⟩,⟨v11,-⟩,⟨v12,-⟩⟩:=HVn5.out
 go_wp2_with fail
 clear h0 h1 h2 h3 h4 h5 h6 h7 h8 h9 h10 h11 h12 v0 v1 v2 v3 v4 v5 v6 v7 v8 v9 v10 v11 v12
 generalize n4.alloc (.cells #[.slice so14a o.store.live.pool.n to14a,.slice so14b o.store.live.pool.hn to14b,.int .i64 o.store.live.time,.int .i64 o.store.live.next,.slice so14c o.store.live.sn to14c,.slice so14d o.store.live.pn to14d,.slice so14e o.store.safe.pool.n to14e,.slice so14f o.store.safe.pool.hn to14f,.int .i64 o.store.safe.time,.int .i64 o.store.safe.next,.slice so14g o.store.safe.sn to14g,.slice so14h o.store.safe.pn to14h,.int .i64 o.code] 43)=N5 at hBn5 HHn5 HCn5 HX0n5 HVn5 HAn5 HGn5 HDn5 ⊢
 refine(eqSOut_same _ _ _ _ _ _ _ _ _ _ _ _ _ _ _ _ _ _ _ _ o _ HCn5.out.at HAn5.out.at).mono ?_
 rintro e n6 ⟨rfl,hb9⟩
 have hBn6:=below_next hBn5 hb9
 have HGn6:=hideW (HGn5.out.below hb9)
 have HDn6:=hideW (HDn5.out.below hb9)
 clear hb9 hBn5 HHn5 HCn5 HX0n5 HVn5 HAn5 HGn5 HDn5
 obtain⟨⟨g0,-⟩,⟨g1,-⟩,⟨g2,-⟩,⟨g3,-⟩,⟨g4,-⟩,⟨g5,-⟩,⟨g6,-⟩,⟨g7,-⟩,⟨g8,-⟩,⟨g9,-⟩,⟨g10,-⟩,⟨g11,-⟩,⟨g12,-⟩⟩:=HGn6.out
 go_wp2_with fail
 clear g0 g1 g2 g3 g4 g5 g6 g7 g8 g9 g10 g11 g12
 refine(heldSOut_any _ _ _ _ _ _ _ _ _ _ o 1 n6 HDn6.out (by omega) (by rw [Hge.out]; exact hge1)).mono ?_
 rintro e n7 ⟨rfl,hb9⟩
 rw [Hge.out]
 have hBn7:=below_next hBn6 hb9
 clear hb9 hBn6 HGn6 HDn6
 go_wp2
 go_ret
 exact⟨rfl,hBn7⟩
end Go.Proofs.YtihplgckbhnohaaGreatDoor
