/- What impl.homesRight answers. -/
import Derived.Test.YtmgeglgboadfiaaGreatDoorP16
import Derived.Test.YtmgeglgboadfiaaGreatDoorP15
import Derived.Deep.LoopGhost
import Derived.BigRegion
import Derived.Test.YtmgeglgboadfiaaGreatDoorP4
import Derived.Test.YtmgeglgboadfiaaGreatDoorP1
import Derived.Test.YtmgeglgboadfiaaGreatDoorP3
import Derived.Shelf.Abstract
namespace Go.Proofs.YtmgeglgboadfiaaGreatDoor
open Go.RowKit Go.Maps
set_option linter.unusedVariables false
theorem cell_side{P:Program}{k:TypeId}{w w1:World}{M n g o:Nat}{D:DataW Value}{v:Value}(hg:w.grownBy w1 (some M))(hm:w.ownsMap P k rawE M n D)(h:w.cell? ⟨g,o,none⟩=some v):w1.cell? ⟨g,o,none⟩=some v:=by
 refine(hg.cell_far ⟨g,o,none⟩ (lt_of_cell h) ?_).trans h
 intro e
 simp only [Option.some.injEq] at e
 subst e
 obtain⟨es,clock,hb,-⟩:=hm
 simp [World.cell?,hb] at h
theorem grown_next{w w1 w2:World}{row:Option Nat}(h:w.grownBy w1 row)(k:w1.grownBy w2 row):w.grownBy w2 row:=
 ⟨k.os.trans h.os,k.tape.trans h.tape,k.output.trans h.output,Nat.le_trans h.size k.size,fun i hi hne=>(k.block i (Nat.lt_of_lt_of_le hi h.size) hne).trans (h.block i hi hne)⟩
theorem MemsAt.side{P:Program}{kt:TypeId}{w w1:World}{M n lo hi:Nat}{D:DataW Value}{v:Value}{W:WorldD}{vd:Nat→Value}(h:MemsAt w lo hi v W vd)(hg:w.grownBy w1 (some M))(hm:w.ownsMap P kt rawE M n D)(i:Nat)(hi':i<memN W) :
  ∃g c,v = .slice (some ⟨g,0,none⟩) (memN W) c∧w1.cell? ⟨g,i*5,none⟩=some (.int .i64 (memOf W i).prev)∧w1.cell? ⟨g,i*5+1,none⟩=some (.int .i64 (memOf W i).time)∧w1.cell? ⟨g,i*5+2,none⟩=some (.int .i64 (memOf W i).rs)∧w1.cell? ⟨g,i*5+3,none⟩=some (.int .i64 (memOf W i).rb)∧w1.cell? ⟨g,i*5+4,none⟩=some (vd i):=by
 obtain⟨g,c,e,h0,h1,h2,h3,h4⟩:=h.cells i hi'
 exact⟨g,c,e,cell_side hg hm h0,cell_side hg hm h1,cell_side hg hm h2,cell_side hg hm h3,cell_side hg hm h4⟩
theorem Box6.side{w w1:World}{M b:Nat}{a0 a1 a2 a3 a4 a5:Value}(h:Box6 w b a0 a1 a2 a3 a4 a5)(hg:w.grownBy w1 (some M))(hne:b≠M):Box6 w1 b a0 a1 a2 a3 a4 a5:=by
 obtain⟨h0,h1,h2,h3,h4,h5⟩:=h
 have hc:∀{o:Nat} {v:Value},Cell w b o v→Cell w1 b o v:=fun hc=>⟨(hg.cell_far _ (lt_of_cell hc.1) (fun e=>hne (Option.some.inj e))).trans hc.1,(hg.frozen_far _ (lt_of_cell hc.1) (fun e=>hne (Option.some.inj e))).trans hc.2⟩
 exact⟨hc h0,hc h1,hc h2,hc h3,hc h4,hc h5⟩
theorem field_time(v:Value)(s:SnapD)(w:World):(Instr.field 99 (snapV v s) 4).run Tryz.prog w = .ok (.int .i64 s.time) w:=by kernel_rfl
theorem lawP0:Go.WideMaps.KeyLaw Tryz.prog 61:=deep_law_laid laidW (m:=5) (by decide) (lessW (by kernel_rfl)) (by kernel_rfl) (by kernel_rfl)
theorem homesT:Tryz.prog.underlying 251=some (.map 61 2):=by kernel_rfl
theorem zeroI(w:World):(zeroValue 2).run Tryz.prog w = .ok (.int .i64 0) w:=by kernel_rfl
theorem wrap_small{n:Int}(h0:-9223372036854775808≤n)(h1:n<9223372036854775808):IntKind.i64.wrap n=n:=by
 unfold IntKind.wrap
 simp only [IntKind.signed,IntKind.bits,Bool.true_and]
 split
 ·rename_i hc
  have hc':=of_decide_eq_true hc
  omega
 ·rename_i hc
  have hc':=of_decide_eq_false (Bool.eq_false_iff.2 hc)
  omega
theorem homes_bool{N n r h:Nat}(hr:r≤n)(hn:n≤200)(hh:h≤9223372036854775807):((N:Int) == IntKind.i64.wrap (IntKind.i64.wrap ((n:Int) - (r:Int)) - (h:Int)))=true↔N+r+h=n:=by
 have e1:IntKind.i64.wrap ((n:Int) - (r:Int))=(n:Int) - (r:Int):=wrap_small (by omega) (by omega)
 rw [e1]
 have e2:IntKind.i64.wrap ((n:Int) - (r:Int) - (h:Int))=(n:Int) - (r:Int) - (h:Int):=wrap_small (by omega) (by omega)
 rw [e2,beq_iff_eq]
 omega
theorem hownLook{w:World}{b n:Nat}{D:DataW Value}{ky v:Value}{kl:Lit}(h:w.ownsMap Tryz.prog 61 rawE b n D)(hkey:keyOf Tryz.prog 61 ky=some kl)(hat:D.atKey kl (.held (.int .i64 0)) = .held v):(Instr.lookup 251 (.map (some b)) ky false).run Tryz.prog w = .ok v w:=by
 obtain⟨v',ps,hrun,hv⟩:=h.lookup lawP homesT (zeroI w) (rawE_mk _) hkey
 have e1:=rawE_inv hv
 rw [hat] at e1
 obtain rfl:=DataW.held.inj e1
 exact hrun
set_option maxRecDepth 20000 in
set_option maxHeartbeats 400000 in
theorem homesRight_any(v0 v1 v2 v3:Value)(lo hi:Nat)(W:WorldD)(A:Nat)(w:World)(h:WorldAt w lo hi v0 v1 v2 v3 W)(hs:W.sn≤8)(hp:W.pn≤20)(hA:AheadFn w lo hi W A)(hD:IdsDist W)(hwf:PrevsWf W)(hR:Right W.pool)(hT:TimesOk W)(hTr:∀i,i<memN W→TreeOk W.pool (memOf W i).rs (memOf W i).rb) :
  Calls Tryz.prog 208 #[worldV v0 v1 v2 v3 W,aheadV A] w fun e w'=>BoolIs (HomesOk W) e∧Below w.heap.size w w':=by
 obtain⟨key,hK⟩:=home_keys hR hTr
 have HK:=hideW hK
 have Hp:=hideW h
 have HA:=hideW hA
 have HD:=hideW hD
 have Hwf:=hideW hwf
 have HR:=hideW hR
 have HTm:=hideW hT
 have HTr:=hideW hTr
 clear h hA hD hwf hR hT hTr hK
 have ha:=below_alloc w (.cells #[v0,v1,.int .i64 W.time,.int .i64 W.next,v2,v3] 37)
 have HB:=hideW (Box6.new w v0 v1 (.int .i64 W.time) (.int .i64 W.next) v2 v3 37)
 have hz1:(w.alloc (.cells #[v0,v1,.int .i64 W.time,.int .i64 W.next,v2,v3] 37)).heap.size=w.heap.size+1:=World.size_alloc _ _
 have hm:=World.ownsMap_made (w.alloc (.cells #[v0,v1,.int .i64 W.time,.int .i64 W.next,v2,v3] 37)) Tryz.prog 61 rawE
 rw [hz1] at hm
 have HM:=hideW hm
 have HB2:=hideW (HB.out.below (below_alloc _ (.map #[] 0)))
 have Hb2:=hideW (below_next ha (below_alloc _ (.map #[] 0)))
 have hmm:=@run_makeMap Tryz.prog
 obtain⟨⟨x0,-⟩,⟨x2,-⟩,⟨x4,-⟩,⟨x6,-⟩,⟨x8,-⟩,⟨x10,-⟩⟩:=HB2.out
 clear hm
 go_enter Tryz.func208,Tryz.ntmps208
 go_wp2_with fail
 go_step3
 go_wp2_with fail
 go_step3
 go_wp2_with fail
 clear x0 x2 x4 x6 x8 x10 ha HB
 have Hz0:=hideW (show((w.alloc (.cells #[v0,v1,.int .i64 W.time,.int .i64 W.next,v2,v3] 37)).alloc (.map #[] 0)).heap.size=w.heap.size+2 by rw [World.size_alloc,hz1])
 clear hz1
 generalize (w.alloc (.cells #[v0,v1,.int .i64 W.time,.int .i64 W.next,v2,v3] 37)).alloc (.map #[] 0)=W0 at HM HB2 Hb2 Hz0 ⊢
 refine(membersOf_any v0 v1 v2 v3 lo hi W W0 (Hp.out.below Hb2.out) hs hp).mono ?_
 rintro e w1 ⟨vm,vd,rfl,hm,hb1⟩
 have HMs:=hideW hm
 have HX1:=hideW (HB2.out.below hb1)
 have HM1:=hideW (HM.out.kept (grownL hb1 none) (by simp))
 have hB1:=below_next Hb2.out hb1
 have hz:w.heap.size+2≤w1.heap.size:=by have h1:=hb1.size; have h2:=Hz0.out; omega
 obtain⟨am,cm,rfl,hcm⟩:=id hm.form
 have hmn:memN W≤28:=by unfold memN; omega
 clear hb1 hm HB2 Hb2 HM Hz0
 go_wp2
 go_loopw [6,15] (fun s i wr=>∃k:Nat,k≤memN W∧s = .bool true∧i = .int .i64 k∧wr.ownsMap Tryz.prog 61 rawE (w.heap.size+1) (homesL W k).length (homeD key (homesL W k).length)∧DistL (homesL W k).length key∧w1.grownBy wr (some (w.heap.size+1))∧Below w.heap.size w wr) (fun _ i _=>memN W - (intOf i).toNat)
 case atStart=>exact⟨0,Nat.zero_le _,rfl,rfl,HM1.out,fun i hi=>absurd hi (Nat.not_lt_zero _),World.grownBy.refl _ _,hB1⟩
 case round=>
  obtain⟨k,hk,rfl,rfl,hown,hdist,hgr,hb⟩:=hrel
  have Hown:=hideW hown
  have Hdist:=hideW hdist
  have Hgr:=hideW hgr
  clear hown hdist hgr
  by_cases hlt:k<memN W
  rotate_left
  ·obtain rfl:k=memN W:=by omega
   obtain⟨⟨m0,a0,c0,rfl,mc0,-⟩,⟨m1,a1,c1,rfl,mc1,-⟩⟩:=id Hp.out.pool
   have hsz:=HK.out.size Hdist.out
   have hln:=(Hown.out.kept (grownL ((Below.refl _ _).drew) none) (by simp)).len homesT 3
   rw [hsz] at hln
   have Hsz:=hideW hsz
   clear hsz
   have hroom:=roomN_le W.pool.s W.pool.n
   have h200:=HR.out.1
   unfold maxLen at m0 m1
   have HX2:=hideW (HX1.out.side Hgr.out (by omega))
   obtain⟨⟨x0,-⟩,⟨x1,-⟩,⟨x2,-⟩,⟨x3,-⟩,⟨x4,-⟩,⟨x5,-⟩⟩:=HX2.out
   have HND:=hideW (HK.out.dist.1 Hdist.out)
   have hrm:roomP W.pool=(roomN W.pool.s W.pool.n:Int):=if_pos HR.out
   generalize hN:(homesL W (memN W)).length=N at *
   have HN:=hideW hN
   clear hN
   go_wp2_with fail
   go_region_held3 (fun w'=>w'.cell? ⟨w.heap.size,0,none⟩=some (.slice a0 W.pool.n c0)∧w'.cell? ⟨w.heap.size,1,none⟩=some (.slice a1 W.pool.hn c1)∧(Builtin.len_ #[251] 3 #[.map (some (w.heap.size+1))]).run Tryz.prog w' = .ok (.int .i64 (N:Nat)) w') (go_keep)
    (first
     | (go_at_call 227; refine(implPoolRoom_any _ _ lo hi W.pool _ ((Hp.out.below hb).pool.below (Below.refl _ _).drew)).mono ?_; rintro e w5 ⟨rfl,hb5⟩; have hC5:=below_undrew hb5; obtain⟨⟨k0,_⟩,⟨k1,_⟩,_⟩:=HX2.out.below hC5; have hl5:=(Hown.out.kept (grownL hC5 none) (by simp)).len homesT 3; rw [Hsz.out] at hl5))
   have hres:=homes_bool (N:=N) hroom h200 (by omega:W.pool.hn≤9223372036854775807)
   have Hres:=hideW hres
   have hbx:=below_next hb hC5
   clear hres hln hl5 hrm hroom h200
   go_wp2
   try rw [Exit.noGoto_ret]
   go_ret
   refine⟨⟨_,rfl,?_⟩,hbx⟩
   rw [Hres.out]
   unfold HomesOk
   rw [HN.out]
   exact⟨fun hx=>⟨HND.out,hx⟩,fun hx=>hx.2⟩
  have hlt':(k:Int)<(memN W:Int):=by omega
  obtain⟨g,cg,e,q0,q1,q2,q3,q4⟩:=HMs.out.side Hgr.out HM1.out k hlt
  obtain⟨-,ad,cd,hvk,-,-⟩:=id (HMs.out.dead k hlt)
  rw [hvk] at q4
  cases e
  have hbs:=below_alloc wr (.cells #[.int .i64 (memOf W k).prev,.int .i64 (memOf W k).time,.int .i64 (memOf W k).rs,.int .i64 (memOf W k).rb,.slice ad (memOf W k).dn cd] 224)
  have HV:=hideW (Box5M.new wr (.int .i64 (memOf W k).prev) (.int .i64 (memOf W k).time) (.int .i64 (memOf W k).rs) (.int .i64 (memOf W k).rb) (.slice ad (memOf W k).dn cd) 224)
  have HX2:=hideW ((HX1.out.side Hgr.out (by omega)).below hbs)
  have hb2:=below_next hb hbs
  have Hown2:=hideW (Hown.out.kept (grownL hbs none) (by simp))
  have Hgr2:=hideW (grown_next Hgr.out (grownL hbs (some (w.heap.size+1))))
  have HA2:=hideW (HA.out.below hb2)
  have Hp2:=hideW (Hp.out.below hb2)
  have Hwk:=hideW (Hwf.out k hlt)
  have HTk:=hideW (HTr.out k hlt)
  have Htk:=hideW (HTm.out (memOf W k).prev)
  have Hym:=hideW (show youngM W (memOf W k)=youngF (treeL W.pool (memOf W k).rs (memOf W k).rb) (aheadOf W (memOf W k).prev).time from rfl)
  have Hlen:=hideW (show(homesL W (k+1)).length=(homesL W k).length+(youngM W (memOf W k)).length from List.length_append)
  have Hat:=hideW (fun (j:Nat) (hj:j<(youngM W (memOf W k)).length)=>homes_at W (k:=k) (n:=memN W) hlt hj)
  have Hyl:=hideW (youngM_len W (memOf W k))
  have Hhl:=hideW (homes_len W k)
  clear hvk hbs Hgr Hown
  generalize memOf W k=mk at *
  go_wp2_with fail
  clear q0 q1 q2 q3 q4
  have Hsz2:=hideW (show w.heap.size+2≤(wr.alloc (.cells #[.int .i64 mk.prev,.int .i64 mk.time,.int .i64 mk.rs,.int .i64 mk.rb,.slice ad mk.dn cd] 224)).heap.size from Nat.le_trans hz Hgr2.out.size)
  generalize wr.alloc (.cells #[.int .i64 mk.prev,.int .i64 mk.time,.int .i64 mk.rs,.int .i64 mk.rb,.slice ad mk.dn cd] 224)=W2 at HV HX2 HA2 Hp2 hb2 Hown2 Hgr2 Hsz2 ⊢
  generalize wr.heap.size=V at HV ⊢
  obtain⟨⟨y0,-⟩,⟨y1,-⟩,⟨y2,-⟩,⟨y3,-⟩,⟨y4,-⟩⟩:=HV.out
  obtain⟨⟨x0,-⟩,⟨x1,-⟩,⟨x2,-⟩,⟨x3,-⟩,⟨x4,-⟩,⟨x5,-⟩⟩:=HX2.out
  have htl:=treeL_len W.pool mk.rs mk.rb
  have HPk:=hideW (show PtrsOk (treeL W.pool mk.rs mk.rb).length (fstL (treeL W.pool mk.rs mk.rb)) (sndL (treeL W.pool mk.rs mk.rb))from ptrsOk_list HR.out (fun x hx=>(tree_mem HR.out HTk.out hx).1) (tree_nodup' HR.out HTk.out) (by omega))
  have hfd:=field_dead
  have hft:=field_time
  generalize hAh:aheadOf W mk.prev=S at Htk Hym ⊢
  have HAh:=hideW hAh
  clear hAh
  generalize hTl:treeL W.pool mk.rs mk.rb=tree at HPk htl Hym ⊢
  have HTl:=hideW hTl
  clear hTl
  go_region_held3 (fun w'=>w'.cell? ⟨w.heap.size,0,none⟩=some v0∧w'.cell? ⟨w.heap.size,1,none⟩=some v1∧w'.cell? ⟨w.heap.size,2,none⟩=some (.int .i64 W.time)∧w'.cell? ⟨w.heap.size,3,none⟩=some (.int .i64 W.next)∧w'.cell? ⟨w.heap.size,4,none⟩=some v2∧w'.cell? ⟨w.heap.size,5,none⟩=some v3∧w'.cell? ⟨V,0,none⟩=some (.int .i64 mk.prev)∧w'.cell? ⟨V,2,none⟩=some (.int .i64 mk.rs)∧w'.cell? ⟨V,3,none⟩=some (.int .i64 mk.rb)) (go_keep)
   (first
    | (go_at_call 226; refine(ptrsOf_any v0 v1 v2 v3 lo hi W mk.rs mk.rb _ ?_ HR.out HTk.out).mono ?_; (exact Hp2.out.below (Below.refl _ _).drew); rintro e w5 ⟨vt,rfl,hrt,hb5⟩; rw [HTl.out] at hrt; obtain⟨at1,ct1,rfl,-⟩:=owns_form hrt; have hC5:=below_undrew hb5; obtain⟨⟨k0,_⟩,⟨k1,_⟩,⟨k2,_⟩,⟨k3,_⟩,⟨k4,_⟩,⟨k5,_⟩⟩:=HX2.out.below hC5; obtain⟨⟨l0,_⟩,_,⟨l2,_⟩,⟨l3,_⟩,_⟩:=HV.out.below hC5)
    | (go_at_call 190; refine(ahead_any lo hi W A mk.prev _ (HA2.out.below hC5) HD.out Hwk.out hp).mono ?_; rintro e w6 ⟨aa,ca,rfl,hpd,hb6⟩; rw [HAh.out]; have hC6:=below_next hC5 hb6; obtain⟨⟨f0,_⟩,⟨f1,_⟩,⟨f2,_⟩,⟨f3,_⟩,⟨f4,_⟩,⟨f5,_⟩⟩:=HX2.out.below hC6; obtain⟨⟨g0,_⟩,_,⟨g2,_⟩,⟨g3,_⟩,_⟩:=HV.out.below hC6)
    | (go_at_call 151; refine(implSplit_any _ tree.length 0 _ (fstL tree) (sndL tree) S.time _ ((hrt.below hb6).atW (by omega))).mono ?_; rintro e w7 ⟨vy,vz,ly,lz,rfl,hY,-,hy,-,-,hb7⟩; rw [(hY.1 ⟨HPk.out,Htk.out⟩).trans (young_eq tree S.time)] at hy; rw [←Hym.out] at hy; obtain⟨ay,cy,rfl,hcy⟩:=owns_form hy; have hC7:=below_next hC6 hb7; obtain⟨⟨m0,_⟩,⟨m1,_⟩,⟨m2,_⟩,⟨m3,_⟩,⟨m4,_⟩,⟨m5,_⟩⟩:=HX2.out.below hC7; obtain⟨⟨n0,_⟩,_,⟨n2,_⟩,⟨n3,_⟩,_⟩:=HV.out.below hC7))
  have HY:=hideW hy
  have Hown7:=hideW (Hown2.out.kept (grownL hC7 none) (by simp))
  have Hgr7:=hideW (grown_next Hgr2.out (grownL hC7 (some (w.heap.size+1))))
  have HX7:=hideW (HX2.out.below hC7)
  have hb8:=below_next hb2 hC7
  have hz7:w.heap.size+2≤w7.heap.size:=Nat.le_trans Hsz2.out hC7.size
  have hyl:=Hyl.out
  have hhl:=Hhl.out
  clear hy hC7 hb7 hC6 hb6 hC5 hb5 hrt hpd hY HX2 HV HA2 Hp2 Hown2 Hgr2 Hsz2 HPk Htk hfd hft x0 x1 x2 x3 x4 x5 y0 y1 y2 y3 y4 k0 k1 k2 k3 k4 k5 l0 l2 l3 f0 f1 f2 f3 f4 f5 g0 g2 g3 m0 m1 m2 m3 m4 m5 n0 n2 n3
  generalize hyg:youngM W mk=yl at *
  go_wp2_with fail
  go_loopw [6,31] (fun s i wr=>∃j:Nat,j≤yl.length∧s = .bool true∧i = .int .i64 j∧wr.ownsMap Tryz.prog 61 rawE (w.heap.size+1) ((homesL W k).length+j) (homeD key ((homesL W k).length+j))∧DistL ((homesL W k).length+j) key∧w7.grownBy wr (some (w.heap.size+1))∧Below w.heap.size w wr) (fun _ i _=>yl.length - (intOf i).toNat)
  case atStart=>exact⟨0,Nat.zero_le _,rfl,rfl,Hown7.out,Hdist.out,World.grownBy.refl _ _,hb8⟩
  case round=>
   clear hb8
   obtain⟨j,hj,rfl,rfl,hown,hdj,hgr,hb8⟩:=hrel
   have Hown:=hideW hown
   have Hdj:=hideW hdj
   have Hgr:=hideW hgr
   clear hown hdj hgr
   by_cases hjl:j<yl.length
   rotate_left
   ·obtain rfl:j=yl.length:=by omega
    go_wp2
    go_roundw
    case rel=>
     refine⟨k+1,by omega,rfl,by go_num,?_,?_,grown_next Hgr7.out Hgr.out,hb8⟩
     ·rw [Hlen.out]; exact Hown.out
     ·rw [Hlen.out]; exact Hdj.out
    case measure=>simp [intOf]; omega
   have hjl':(j:Int)<(yl.length:Int):=by omega
   obtain⟨-,a7,c7,e7,-,hcl⟩:=id (HY.out.atW (by omega))
   cases e7
   obtain⟨b7,o7,rfl,-,-,hcl⟩:=hcl (by omega)
   have q0:=cell_side Hgr.out Hown7.out (hcl j hjl).1
   have q1:=cell_side Hgr.out Hown7.out (hcl j hjl).2
   clear hcl
   obtain⟨hpl,hpe⟩:=Hat.out j hjl
   have hkey:keyOf Tryz.prog 61 (.agg #[.int .i64 (fstL yl j),.int .i64 (sndL yl j)])=some (key ((homesL W k).length+j)):=by
    have:=HK.out.at_ _ hpl
    rw [hpe] at this
    exact this
   have Hpl:=hideW hpl
   have Hkey:=hideW hkey
   clear hpe hpl hkey
   have hbs:=below_alloc wr (.cells #[.int .i64 (fstL yl j),.int .i64 (sndL yl j)] 61)
   have HV:=hideW (Box2.new wr (.int .i64 (fstL yl j)) (.int .i64 (sndL yl j)) 61)
   have Hown3:=hideW ((Hown.out.kept (grownL hbs none) (by simp)).kept (grownL ((Below.refl _ _).drew) none) (by simp))
   have Hgr3:=hideW (grown_next Hgr.out (grownL hbs (some (w.heap.size+1))))
   have hb9:=below_next hb8 hbs
   have Hsz3:=hideW (show w.heap.size+1<wr.heap.size by have:=Hgr.out.size; omega)
   clear hbs Hgr Hown
   have hpb:(homesL W k).length+j≤3000:=by omega
   generalize hpg:(homesL W k).length+j=p at *
   have Hpg:=hideW hpg
   clear hpg
   generalize fstL yl j=xs at *
   generalize sndL yl j=xb at *
   go_wp2_with fail
   clear q0 q1
   generalize wr.alloc (.cells #[.int .i64 xs,.int .i64 xb] 61)=W3 at HV Hown3 Hgr3 hb9 ⊢
   generalize wr.heap.size=V at HV Hsz3 ⊢
   by_cases hnew:∀i,i<p→key i≠key p
   ·have hl0:=hownLook Hown3.out Hkey.out (HK.out.new hnew)
    obtain⟨ev,st,wa,wb,he,hl1,hst,hownb,hga,hgb⟩:=entry_own Hown3.out lawP0 homesT (by unfold maxLen; omega) zeroI Hkey.out (HK.out.new hnew) (val:=.int .i64 1)
    obtain⟨⟨y0,-⟩,⟨y1,-⟩⟩:=HV.out.below ((Below.refl _ _).drew)
    have z0:=(hgb.cell_far _ (lt_of_cell y0) (fun e=>by have h1:=Option.some.inj e; have h2:=Hsz3.out; simp only at h1; omega)).trans y0
    have z1:=(hgb.cell_far _ (lt_of_cell y1) (fun e=>by have h1:=Option.some.inj e; have h2:=Hsz3.out; simp only at h1; omega)).trans y1
    have hl2:=hownLook hownb Hkey.out (HK.out.put p _)
    have Hownb:=hideW hownb
    have Hgb:=hideW (grown_next (grown_next Hgr3.out (grownL ((Below.refl _ _).drew) (some (w.heap.size+1)))) hgb)
    have hbb:=hb9.drew.grown hgb (Nat.le_trans hb9.size (Nat.le_refl _)) (fun q e=>by cases e; omega)
    have Hnew:=hideW hnew
    clear hownb hga hgb hnew hb9 hb8
    unfold goInt at he hst
    go_region
    clear hl0 hl1 he hst y0 y1
    go_wp2
    go_roundw
    case rel=>exact⟨j+1,by omega,rfl,by go_num,by rw [show(homesL W k).length+(j+1)=p+1 by have:=Hpg.out; omega]; exact Hownb.out,by rw [show(homesL W k).length+(j+1)=p+1 by have:=Hpg.out; omega]; exact distL_succ.2 ⟨Hdj.out,Hnew.out⟩,Hgb.out,hbb⟩
    case measure=>simp [intOf]; omega
   ·obtain⟨i0,hi0,he0⟩:∃i,i<p∧key i=key p:=by
     by_cases hx:∃i,i<p∧key i=key p
     ·exact hx
     ·exact absurd (fun i hi e=>hx ⟨i,hi,e⟩) hnew
    have Hnot:=hideW (HK.out.not_nodup hi0 Hpl.out he0)
    have hl0:=hownLook Hown3.out Hkey.out (HK.out.old hi0 he0 Hdj.out)
    obtain⟨ev,st,wa,wb,he,hl1,hst,hownb,hga,hgb⟩:=entry_own Hown3.out lawP0 homesT (by unfold maxLen; omega) zeroI Hkey.out (HK.out.old hi0 he0 Hdj.out) (val:=.int .i64 2)
    obtain⟨⟨y0,-⟩,⟨y1,-⟩⟩:=HV.out.below ((Below.refl _ _).drew)
    have z0:=(hgb.cell_far _ (lt_of_cell y0) (fun e=>by have h1:=Option.some.inj e; have h2:=Hsz3.out; simp only at h1; omega)).trans y0
    have z1:=(hgb.cell_far _ (lt_of_cell y1) (fun e=>by have h1:=Option.some.inj e; have h2:=Hsz3.out; simp only at h1; omega)).trans y1
    have hl2:=hownLook hownb Hkey.out (HK.out.put p _)
    have hbb:=hb9.drew.grown hgb (Nat.le_trans hb9.size (Nat.le_refl _)) (fun q e=>by cases e; omega)
    clear hownb hga hgb hnew hb9 hb8 hi0 he0
    unfold goInt at he hst
    go_region
    clear hl0 hl1 he hst y0 y1
    go_wp2_with fail
    go_region
    go_wp2
    rw [Exit.noGoto_ret]
    go_ret
    exact⟨BoolIs.no fun hx=>Hnot.out hx.1,hbb.drew⟩
set_option maxRecDepth 20000 in
set_option maxHeartbeats 400000 in
theorem implWorldRight_any(v0 v1 v2 v3:Value)(lo hi:Nat)(W:WorldD)(w:World)(h:WorldAt w lo hi v0 v1 v2 v3 W)(hwf:PrevsWf W) :
  Calls Tryz.prog 165 #[worldV v0 v1 v2 v3 W] w fun e w'=>BoolIs (ImplW W) e∧Below w.heap.size w w':=by
 have Hp:=hideW h
 have Hwf:=hideW hwf
 clear h hwf
 have ha:=below_alloc w (.cells #[v0,v1,.int .i64 W.time,.int .i64 W.next,v2,v3] 37)
 have HB:=hideW (Box6.new w v0 v1 (.int .i64 W.time) (.int .i64 W.next) v2 v3 37)
 obtain⟨⟨x0,-⟩,⟨x1,-⟩,⟨x2,-⟩,⟨x3,-⟩,⟨x4,-⟩,⟨x5,-⟩⟩:=HB.out
 go_enter Tryz.func165,Tryz.ntmps165
 go_wp2_with fail
 generalize w.alloc (.cells #[v0,v1,.int .i64 W.time,.int .i64 W.next,v2,v3] 37)=W0 at ha HB x0 x1 x2 x3 x4 x5 ⊢
 refine(countRight_any W.time W0).mono ?_
 rintro e w1 ⟨⟨t1,rfl,ht1⟩,rfl⟩
 have Ht1:=hideW ht1
 clear ht1
 cases t1
 ·have Hn:=hideW (show ¬ImplW W from fun hI=>absurd (Ht1.out.2 hI.names.time) (by simp))
  clear Ht1
  go_wp2
  go_ret
  exact⟨BoolIs.no Hn.out,ha⟩
 have H1:=hideW (Ht1.out.1 rfl)
 clear Ht1
 go_wp2_with fail
 refine(countRight_any W.next _).mono ?_
 rintro e w1 ⟨⟨t1,rfl,ht1⟩,rfl⟩
 have Ht1:=hideW ht1
 clear ht1
 cases t1
 ·have Hn:=hideW (show ¬ImplW W from fun hI=>absurd (Ht1.out.2 hI.names.next) (by simp))
  clear Ht1
  go_wp2
  go_ret
  exact⟨BoolIs.no Hn.out,ha⟩
 have H2:=hideW (Ht1.out.1 rfl)
 clear Ht1
 go_wp2_with fail
 refine(setsRight_any v2 W.sn lo hi W.sets _ (Hp.out.below ha).sets).mono ?_
 rintro e w2 ⟨⟨t1,rfl,ht1⟩,hc⟩
 have Ht1:=hideW ht1
 have hb2:=below_next ha hc
 have HB2:=hideW (HB.out.below hc)
 clear ht1 hc x0 x1 x2 x3 x4 x5
 obtain⟨⟨x0,-⟩,⟨x1,-⟩,⟨x2,-⟩,⟨x3,-⟩,⟨x4,-⟩,⟨x5,-⟩⟩:=HB2.out
 cases t1
 ·have Hn:=hideW (show ¬ImplW W from fun hI=>absurd (Ht1.out.2 hI.names.sets) (by simp))
  clear Ht1
  go_wp2
  go_ret
  exact⟨BoolIs.no Hn.out,hb2⟩
 have H3:=hideW (Ht1.out.1 rfl)
 clear Ht1
 have hs:=H3.out.1
 go_wp2_with fail
 refine(snapsRight_any v0 v1 v2 v3 lo hi W _ (Hp.out.below hb2) hs).mono ?_
 rintro e w3 ⟨⟨t1,rfl,ht1⟩,hc⟩
 have Ht1:=hideW ht1
 have hb3:=below_next hb2 hc
 have HB3:=hideW (HB2.out.below hc)
 clear ht1 hc x0 x1 x2 x3 x4 x5
 obtain⟨⟨x0,-⟩,⟨x1,-⟩,⟨x2,-⟩,⟨x3,-⟩,⟨x4,-⟩,⟨x5,-⟩⟩:=HB3.out
 cases t1
 ·have Hn:=hideW (show ¬ImplW W from fun hI=>absurd (Ht1.out.2 hI.names.snaps) (by simp))
  clear Ht1
  go_wp2
  go_ret
  exact⟨BoolIs.no Hn.out,hb3⟩
 have H4:=hideW (Ht1.out.1 rfl)
 clear Ht1
 have hp:=H4.out.1
 have HN:=hideW (show ImplN W from⟨H1.out,H2.out,H3.out,H4.out⟩)
 go_wp2_with fail
 refine(implPoolRight_any v0 v1 lo hi W.pool _ (Hp.out.below hb3).pool).mono ?_
 rintro e w4 ⟨⟨t1,rfl,ht1⟩,hc⟩
 have Ht1:=hideW ht1
 have hb4:=below_next hb3 hc
 have HB4:=hideW (HB3.out.below hc)
 clear ht1 hc x0 x1 x2 x3 x4 x5
 obtain⟨⟨x0,-⟩,⟨x1,-⟩,⟨x2,-⟩,⟨x3,-⟩,⟨x4,-⟩,⟨x5,-⟩⟩:=HB4.out
 cases t1
 ·have Hn:=hideW (show ¬ImplW W from fun hI=>absurd (Ht1.out.2 hI.right) (by simp))
  clear Ht1
  go_wp2
  go_ret
  exact⟨BoolIs.no Hn.out,hb4⟩
 have H5:=hideW (Ht1.out.1 rfl)
 clear Ht1
 go_wp2_with fail
 refine(aheadIn_any v0 v1 v2 v3 lo hi W _ (Hp.out.below hb4) hp HN.out.idsWf).mono ?_
 rintro e w5 ⟨A,rfl,hA,hc⟩
 have HA5:=hideW hA
 have hb5:=below_next hb4 hc
 have HB5:=hideW (HB4.out.below hc)
 clear hA hc x0 x1 x2 x3 x4 x5
 obtain⟨⟨x0,-⟩,⟨x1,-⟩,⟨x2,-⟩,⟨x3,-⟩,⟨x4,-⟩,⟨x5,-⟩⟩:=HB5.out
 go_wp2_with fail
 refine(prevsRight_any v0 v1 v2 v3 lo hi W A _ (Hp.out.below hb5) hs hp HA5.out HN.out.dist Hwf.out).mono ?_
 rintro e w6 ⟨⟨t1,rfl,ht1⟩,hc⟩
 have Ht1:=hideW ht1
 have hb6:=below_next hb5 hc
 have HB6:=hideW (HB5.out.below hc)
 have HA6:=hideW (HA5.out.below hc)
 clear ht1 hc x0 x1 x2 x3 x4 x5
 obtain⟨⟨x0,-⟩,⟨x1,-⟩,⟨x2,-⟩,⟨x3,-⟩,⟨x4,-⟩,⟨x5,-⟩⟩:=HB6.out
 cases t1
 ·have Hn:=hideW (show ¬ImplW W from fun hI=>absurd (Ht1.out.2 hI.prevs) (by simp))
  clear Ht1
  go_wp2
  go_ret
  exact⟨BoolIs.no Hn.out,hb6⟩
 have H7:=hideW (Ht1.out.1 rfl)
 clear Ht1
 go_wp2_with fail
 refine(linesRight_any v0 v1 v2 v3 lo hi W A _ (Hp.out.below hb6) hp hs HA6.out HN.out.dist (HN.out.prevOk H7.out)).mono ?_
 rintro e w7 ⟨⟨t1,rfl,ht1⟩,hc⟩
 have Ht1:=hideW ht1
 have hb7:=below_next hb6 hc
 have HB7:=hideW (HB6.out.below hc)
 have HA7:=hideW (HA6.out.below hc)
 clear ht1 hc x0 x1 x2 x3 x4 x5
 obtain⟨⟨x0,-⟩,⟨x1,-⟩,⟨x2,-⟩,⟨x3,-⟩,⟨x4,-⟩,⟨x5,-⟩⟩:=HB7.out
 cases t1
 ·have Hn:=hideW (show ¬ImplW W from fun hI=>absurd (Ht1.out.2 hI.lines) (by simp))
  clear Ht1
  go_wp2
  go_ret
  exact⟨BoolIs.no Hn.out,hb7⟩
 have H8:=hideW (Ht1.out.1 rfl)
 clear Ht1
 go_wp2_with fail
 refine(treesRight_any v0 v1 v2 v3 lo hi W A _ (Hp.out.below hb7) hs hp HA7.out HN.out.dist Hwf.out H5.out HN.out.times).mono ?_
 rintro e w8 ⟨⟨t1,rfl,ht1⟩,hc⟩
 have Ht1:=hideW ht1
 have hb8:=below_next hb7 hc
 have HB8:=hideW (HB7.out.below hc)
 have HA8:=hideW (HA7.out.below hc)
 clear ht1 hc x0 x1 x2 x3 x4 x5
 obtain⟨⟨x0,-⟩,⟨x1,-⟩,⟨x2,-⟩,⟨x3,-⟩,⟨x4,-⟩,⟨x5,-⟩⟩:=HB8.out
 cases t1
 ·have Hn:=hideW (show ¬ImplW W from fun hI=>absurd (Ht1.out.2 hI.trees) (by simp))
  clear Ht1
  go_wp2
  go_ret
  exact⟨BoolIs.no Hn.out,hb8⟩
 have H9:=hideW (Ht1.out.1 rfl)
 clear Ht1
 go_wp2_with fail
 refine(homesRight_any v0 v1 v2 v3 lo hi W A _ (Hp.out.below hb8) hs hp HA8.out HN.out.dist Hwf.out H5.out HN.out.times H9.out.1).mono ?_
 rintro e w9 ⟨⟨t1,rfl,ht1⟩,hc⟩
 have Ht1:=hideW ht1
 have hb9:=below_next hb8 hc
 clear ht1 hc
 have Hn:=hideW (show t1=true↔ImplW W from⟨fun e=>⟨HN.out,H5.out,H7.out,H8.out,H9.out,Ht1.out.1 e⟩,fun hI=>Ht1.out.2 hI.homes⟩)
 clear Ht1
 go_wp2
 go_ret
 exact⟨⟨t1,rfl,Hn.out⟩,hb9⟩
end Go.Proofs.YtmgeglgboadfiaaGreatDoor

namespace Go.Proofs.YtmgeglgboadfiaaGreatDoor
open Go.RowKit
set_option linter.unusedVariables false
def Box4(w:World)(b:Nat)(v0 v1 v2 v3:Value):Prop:=Cell w b 0 v0∧Cell w b 1 v1∧Cell w b 2 v2∧Cell w b 3 v3
theorem Box4.below{w w':World}{b:Nat}{v0 v1 v2 v3:Value}(h:Box4 w b v0 v1 v2 v3)(t:Below w.heap.size w w'):Box4 w' b v0 v1 v2 v3:=⟨h.1.below t,h.2.1.below t,h.2.2.1.below t,h.2.2.2.below t⟩
theorem Box4.turned{S:Nat→Prop}{w w':World}{b:Nat}{v0 v1 v2 v3:Value}(h:Box4 w b v0 v1 v2 v3)(t:Turned S w w')(hs:¬S b):Box4 w' b v0 v1 v2 v3:=⟨h.1.turned t hs,h.2.1.turned t hs,h.2.2.1.turned t hs,h.2.2.2.turned t hs⟩
theorem Box4.new(w:World)(v0 v1 v2 v3:Value)(t:TypeId):Box4 (w.alloc (.cells #[v0,v1,v2,v3] t)) w.heap.size v0 v1 v2 v3:=by
 have hb:(w.alloc (.cells #[v0,v1,v2,v3] t)).heap[w.heap.size]?=some (.cells #[v0,v1,v2,v3] t):=heap_alloc_new _ _
 exact⟨cell_of_block hb rfl,cell_of_block hb rfl,cell_of_block hb rfl,cell_of_block hb rfl⟩
abbrev put4(w:World)(b:Nat)(u0 u1 u2 u3:Value):World:=(((w.setCell ⟨b,0,none⟩ u0).setCell ⟨b,1,none⟩ u1).setCell ⟨b,2,none⟩ u2).setCell ⟨b,3,none⟩ u3
theorem Box4.put{w:World}{b:Nat}{v0 v1 v2 v3:Value}(h:Box4 w b v0 v1 v2 v3)(u0 u1 u2 u3:Value):Box4 (put4 w b u0 u1 u2 u3) b u0 u1 u2 u3:=by
 obtain⟨h0,h1,h2,h3⟩:=h
 exact⟨((((h0.set _).other _ (Or.inr (by omega))).other _ (Or.inr (by omega))).other _ (Or.inr (by omega))),
  ((((h1.other _ (Or.inr (by omega))).set _).other _ (Or.inr (by omega))).other _ (Or.inr (by omega))),
  ((((h2.other _ (Or.inr (by omega))).other _ (Or.inr (by omega))).set _).other _ (Or.inr (by omega))),
  ((((h3.other _ (Or.inr (by omega))).other _ (Or.inr (by omega))).other _ (Or.inr (by omega))).set _)⟩
theorem Turned.put4(w:World)(b:Nat)(u0 u1 u2 u3:Value):Turned (fun k=>k=b) w (put4 w b u0 u1 u2 u3):=(((Turned.put w b 0 u0).trans (Turned.put _ b 1 u1)).trans (Turned.put _ b 2 u2)).trans (Turned.put _ b 3 u3)
def AskedAt(w:World)(p:Nat→Addr)(v:Value)(m:Nat)(g:Nat→Nat)(lb:Nat→Array Value)(ei:Nat→Nat):Prop:=
 m≤1000∧∃a c,v = .slice a m c∧(0<m→∃b off,a=some ⟨b,off,none⟩∧∀i,i<m→w.cell? ⟨b,off+i*2,none⟩=some (.func (.func (g i)) #[] (lb i))∧w.cell? ⟨b,off+i*2+1,none⟩=some (errV (p (ei i))))
theorem AskedAt.below{w w':World}{p:Nat→Addr}{v:Value}{m:Nat}{g:Nat→Nat}{lb:Nat→Array Value}{ei:Nat→Nat}(h:AskedAt w p v m g lb ei)(t:Below w.heap.size w w'):AskedAt w' p v m g lb ei:=by
 obtain⟨m1,a,c,hv,hx⟩:=h
 refine⟨m1,a,c,hv,fun h0=>?_⟩
 obtain⟨b,off,ha,hc⟩:=hx h0
 exact⟨b,off,ha,fun i hi=>⟨(t.cell (lt_of_cell (hc i hi).1)).trans (hc i hi).1,(t.cell (lt_of_cell (hc i hi).2)).trans (hc i hi).2⟩⟩
theorem AskedAt.cells{w:World}{p:Nat→Addr}{a:Option Addr}{c m:Nat}{g:Nat→Nat}{lb:Nat→Array Value}{ei:Nat→Nat}(h:AskedAt w p (.slice a m c) m g lb ei){i:Nat}(hi:i<m):∃b off,a=some ⟨b,off,none⟩∧w.cell? ⟨b,off+i*2,none⟩=some (.func (.func (g i)) #[] (lb i))∧w.cell? ⟨b,off+i*2+1,none⟩=some (errV (p (ei i))):=by
 obtain⟨m1,a0,c0,hv,hx⟩:=h
 simp only [Value.slice.injEq,true_and] at hv
 obtain⟨rfl,rfl⟩:=hv
 obtain⟨b,off,ha,hc⟩:=hx (by omega)
 exact⟨b,off,ha,hc i hi⟩
def RefI(W:WorldD)(long bad:Prop)(m:Nat)(Q:Nat→Prop)(ei:Nat→Nat)(r:Option Nat):Prop:=
 (long∧r=some 1)∨(¬long∧(¬ImplW W∨bad)∧r=some 0)∨(¬long∧ImplW W∧¬bad∧∃i,i<m∧¬Q i∧(∀j,j<i→Q j)∧r=some (ei i))∨(¬long∧ImplW W∧¬bad∧(∀j,j<m→Q j)∧r=none)
def refV(p:Nat→Addr):Option Nat→Value
 | none=>.nilIface
 | some i=>errV (p i)
set_option maxRecDepth 20000 in
set_option maxHeartbeats 2000000 in
theorem refused_any(p:Nat→Addr)(tv nv qv dv:Value)(nt nn m:Nat)(tx nx:Nat→ByteArray)(g:Nat→Nat)(lb:Nat→Array Value)(ei:Nat→Nat)(Q:Nat→Prop)(v0 v1 v2 v3:Value)(lo hi:Nat)(W:WorldD)(w:World)(hE:Errs w p)(h:WorldAt w lo hi v0 v1 v2 v3 W)(hwf:PrevsWf W)
  (ht:TextsAt w tv nt tx) (hn:TextsAt w nv nn nx) (hq:AskedAt w p qv m g lb ei) (eg:∀i,i<m→Enters Tryz.prog (g i))
  (hQ:∀i,i<m→∀w',Below w.heap.size w w'→ImplW W→(∀j,j<i→Q j)→Calls Tryz.prog (g i) (#[worldV v0 v1 v2 v3 W] ++ lb i) w' fun e w''=>BoolIs (Q i) e∧Below w'.heap.size w' w'') :
  Calls Tryz.prog 105 #[.agg #[tv,nv,qv,dv],worldV v0 v1 v2 v3 W] w fun e w'=>∃r,e = .returned (refV p r)∧RefI W (∃i,i<nt∧8000<(tx i).size) (∃i,i<nn∧¬NameP (nx i)) m Q ei r∧Below w.heap.size w w':=by
 have Hp:=hideE h
 have HE:=hideE hE
 have Ht:=hideE ht
 have Hn:=hideE hn
 have Hq:=hideE hq
 have HQ:=hideE hQ
 have Hg:=hideE eg
 obtain⟨t1,ta,tc,rfl,-⟩:=ht
 obtain⟨n1,na,nc,rfl,-⟩:=hn
 obtain⟨m1,qa,qc,rfl,-⟩:=hq
 clear h hE hQ eg
 have hb0:=below_alloc w (.cells #[.slice ta nt tc,.slice na nn nc,.slice qa m qc,dv] 86)
 have hb1:=below_alloc (w.alloc (.cells #[.slice ta nt tc,.slice na nn nc,.slice qa m qc,dv] 86)) (.cells #[v0,v1,.int .i64 W.time,.int .i64 W.next,v2,v3] 37)
 have hb:=below_next hb0 hb1
 have hd:=(Box4.new w (.slice ta nt tc) (.slice na nn nc) (.slice qa m qc) (dv) 86).below hb1
 have hx:=Box6.new (w.alloc (.cells #[.slice ta nt tc,.slice na nn nc,.slice qa m qc,dv] 86)) (v0) (v1) (.int .i64 W.time) (.int .i64 W.next) (v2) (v3) 37
 rw [World.size_alloc] at hx
 have HD:=hideE hd
 have HX:=hideE hx
 clear hd hx
 obtain⟨⟨d0,-⟩,⟨d1,-⟩,⟨d2,-⟩,⟨d3,-⟩⟩:=HD.out
 go_enter Tryz.func105,Tryz.ntmps105
 go_wp2_with fail
 clear d0 d1 d2 d3
 generalize ((w.alloc (.cells #[.slice ta nt tc,.slice na nn nc,.slice qa m qc,dv] 86)).alloc (.cells #[v0,v1,.int .i64 W.time,.int .i64 W.next,v2,v3] 37))=W1 at hb HD HX ⊢
 clear hb0 hb1
 refine(hasT1_any _ nt tx W1 (Ht.out.below hb)).mono ?_
 rintro e w2 ⟨⟨t,rfl,htt⟩,hb2⟩
 have hB2:=below_next hb hb2
 have HD2:=hideE (HD.out.below hb2)
 have HX2:=hideE (HX.out.below hb2)
 clear hb2 hb HD HX
 by_cases hl:∃i,i<nt∧8000<(tx i).size
 ·obtain rfl:t=true:=htt.2 hl
  have HL:=hideE hl
  have he1:w2.cell? ⟨3,0,none⟩=some (errV (p 1)):=(HE.out.below hB2).cell 1 (by omega)
  clear htt hl
  go_wp2
  go_ret
  exact⟨some 1,rfl,Or.inl ⟨HL.out,rfl⟩,hB2⟩
 obtain rfl:t=false:=bool_no htt hl
 have HL:=hideE hl
 clear htt hl
 obtain⟨⟨x0,-⟩,⟨x1,-⟩,⟨x2,-⟩,⟨x3,-⟩,⟨x4,-⟩,⟨x5,-⟩⟩:=HX2.out
 go_wp2_with fail
 clear x0 x1 x2 x3 x4 x5
 refine(implWorldRight_any _ _ _ _ lo hi W w2 (Hp.out.below hB2) hwf).mono ?_
 rintro e w3 ⟨⟨t,rfl,htt⟩,hb3⟩
 have hB3:=below_next hB2 hb3
 have HD3:=hideE (HD2.out.below hb3)
 have HX3:=hideE (HX2.out.below hb3)
 clear hb3 hB2 HD2 HX2
 by_cases hw:ImplW W
 rotate_left
 ·obtain rfl:t=false:=bool_no htt hw
  have HW:=hideE hw
  have he1:w3.cell? ⟨4,0,none⟩=some (errV (p 0)):=(HE.out.below hB3).cell 0 (by omega)
  clear htt hw
  go_wp2
  go_ret
  exact⟨some 0,rfl,Or.inr (Or.inl ⟨HL.out,Or.inl HW.out,rfl⟩),hB3⟩
 obtain rfl:t=true:=htt.2 hw
 have HW:=hideE hw
 clear htt hw
 obtain⟨⟨d0,-⟩,⟨d1,-⟩,⟨d2,-⟩,⟨d3,-⟩⟩:=HD3.out
 go_wp2_with fail
 clear d0 d1 d2 d3
 refine(hasT2_any _ nn nx w3 (Hn.out.below hB3)).mono ?_
 rintro e w4 ⟨⟨t,rfl,htt⟩,hb4⟩
 have hB4:=below_next hB3 hb4
 have HD4:=hideE (HD3.out.below hb4)
 have HX4:=hideE (HX3.out.below hb4)
 clear hb4 hB3 HD3 HX3
 by_cases hl:∃i,i<nn∧¬NameP (nx i)
 ·obtain rfl:t=true:=htt.2 hl
  have HN:=hideE hl
  have he1:w4.cell? ⟨4,0,none⟩=some (errV (p 0)):=(HE.out.below hB4).cell 0 (by omega)
  clear htt hl
  go_wp2
  go_ret
  exact⟨some 0,rfl,Or.inr (Or.inl ⟨HL.out,Or.inr HN.out,rfl⟩),hB4⟩
 obtain rfl:t=false:=bool_no htt hl
 have HN:=hideE hl
 clear htt hl
 obtain⟨⟨d0,-⟩,⟨d1,-⟩,⟨d2,-⟩,⟨d3,-⟩⟩:=HD4.out
 go_wp2
 clear d0 d1 d2 d3
 go_loopw [23] (fun i wr=>∃k:Nat,k≤m∧i = .int .i64 k∧(∀j,j<k→Q j)∧Box6 wr (w.heap.size+1) (v0) (v1) (.int .i64 W.time) (.int .i64 W.next) (v2) (v3)∧Below w.heap.size w wr) (fun i _=>m - (intOf i).toNat)
 case atStart=>exact⟨0,Nat.zero_le _,rfl,fun j hj=>absurd hj (Nat.not_lt_zero _),HX4.out,hB4⟩
 case round=>
  obtain⟨k,hk,rfl,hall,hX,hb⟩:=hrel
  have Hall:=hideE hall
  have HXr:=hideE hX
  clear hall hX
  by_cases hlt:k<m
  ·have hlt':(k:Int)<(m:Int):=by omega
   obtain⟨b,off,rfl,q0,q1⟩:=(Hq.out.below hb).cells hlt
   have hal:=below_alloc wr (.cells #[.func (.func (g k)) #[] (lb k),errV (p (ei k))] 75)
   have HV:=hideE (Box2.new wr (.func (.func (g k)) #[] (lb k)) (errV (p (ei k))) 75)
   have HXs:=hideE (HXr.out.below hal)
   have hbs:=below_next hb hal
   have e0:∀(args:Array Value) (w:World),(callFunc (g k) args).run Tryz.prog w = .ok (.enter (g k) args) w:=Hg.out k hlt
   have hst:=fun (w:World) (a:Addr)=>run_store Tryz.prog w a (.func (.func (g k)) #[] (lb k)) .plain rfl
   obtain⟨⟨z0,-⟩,⟨z1,-⟩⟩:=HV.out
   obtain⟨⟨x0,-⟩,⟨x1,-⟩,⟨x2,-⟩,⟨x3,-⟩,⟨x4,-⟩,⟨x5,-⟩⟩:=HXs.out
   go_wp2_with fail
   clear x0 x1 x2 x3 x4 x5 z0 z1 q0 q1 hst
   generalize wr.alloc (.cells #[.func (.func (g k)) #[] (lb k),errV (p (ei k))] 75)=W5 at HV HXs hbs ⊢
   generalize wr.heap.size=V at HV ⊢
   refine(HQ.out k hlt W5 hbs HW.out Hall.out).mono ?_
   rintro e w6 ⟨⟨t,rfl,htt⟩,hb6⟩
   have hB6:=below_next hbs hb6
   have HV6:=hideE (HV.out.below hb6)
   have HX6:=hideE (HXs.out.below hb6)
   clear hb6 hbs hal e0
   by_cases hf:Q k
   ·obtain rfl:t=true:=htt.2 hf
    have HF:=hideE hf
    clear htt hf
    go_wp2
    go_roundw
    case rel=>
     refine⟨k+1,by omega,by go_num,fun j hj=>?_,HX6.out,hB6⟩
     by_cases e:j=k
     ·subst e; exact HF.out
     ·exact Hall.out j (by omega)
    case measure=>simp [intOf]; omega
   ·obtain rfl:t=false:=bool_no htt hf
    have HF:=hideE hf
    clear htt hf
    obtain⟨⟨z0,-⟩,⟨z1,-⟩⟩:=HV6.out
    go_wp2
    go_ret
    exact⟨some (ei k),rfl,Or.inr (Or.inr (Or.inl ⟨HL.out,HW.out,HN.out,k,hlt,HF.out,Hall.out,rfl⟩)),hB6⟩
  ·obtain rfl:k=m:=by omega
   go_wp2
   go_ret
   exact⟨none,rfl,Or.inr (Or.inr (Or.inr ⟨HL.out,HW.out,HN.out,Hall.out,rfl⟩)),hb⟩
end Go.Proofs.YtmgeglgboadfiaaGreatDoor
