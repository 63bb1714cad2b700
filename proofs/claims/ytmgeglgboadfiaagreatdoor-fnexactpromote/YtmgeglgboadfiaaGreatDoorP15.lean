/- What impl.memberRight answers. -/
import Derived.Test.YtmgeglgboadfiaaGreatDoorP4
import Derived.Test.YtmgeglgboadfiaaGreatDoorP14
import Derived.Deep.RegionHeld3
import Derived.Test.YtmgeglgboadfiaaGreatDoorP7
namespace Go.Proofs.YtmgeglgboadfiaaGreatDoor
open Go.RowKit Go.Maps
set_option linter.unusedVariables false
abbrev memV(vd:Value)(m:MemD):Value:=.agg #[.int .i64 m.prev,.int .i64 m.time,.int .i64 m.rs,.int .i64 m.rb,vd]
theorem RowL.putNe{w:World}{base b:Nat}{v:Value}{l:List (Int×Int)}(h:RowL w base v l)(hb:v.ownBlock≠some b)(o:Nat)(u:Value):RowL (w.setCell ⟨b,o,none⟩ u) base v l:=by
 refine⟨h.1,h.2.imp id ?_⟩
 rintro⟨g,cap,cur,e,h1,h2,h3⟩
 subst e
 exact⟨g,cap,cur,rfl,h1,(Below.heap_setCell _ _ _ _ (fun e=>hb (by simp [Value.ownBlock]; exact e))).trans h2,h3⟩
def MemI(W:WorldD)(m:MemD)(S:SnapD):Prop:=m.rb≤m.time∧PSameL (youngF (treeL W.pool m.rs m.rb) S.time).length (fstL (youngF (treeL W.pool m.rs m.rb) S.time)) (sndL (youngF (treeL W.pool m.rs m.rb) S.time)) (lack (treeL W.pool m.rs m.rb) (treeL W.pool S.rs S.rb))∧PSameL m.dn m.ds m.db (lack (treeL W.pool S.rs S.rb) (inBoth (treeL W.pool m.rs m.rb) (treeL W.pool S.rs S.rb)))
theorem mem_iff(W:WorldD)(m:MemD)(S:SnapD):MemI W m S↔(m.rb≤m.time∧PSame (youngF (treeL W.pool m.rs m.rb) S.time).length (fstL (youngF (treeL W.pool m.rs m.rb) S.time)) (sndL (youngF (treeL W.pool m.rs m.rb) S.time)) (lack (treeL W.pool m.rs m.rb) (treeL W.pool S.rs S.rb)).length (fstL (lack (treeL W.pool m.rs m.rb) (treeL W.pool S.rs S.rb))) (sndL (lack (treeL W.pool m.rs m.rb) (treeL W.pool S.rs S.rb)))∧PSame m.dn m.ds m.db (lack (treeL W.pool S.rs S.rb) (inBoth (treeL W.pool m.rs m.rb) (treeL W.pool S.rs S.rb))).length (fstL (lack (treeL W.pool S.rs S.rb) (inBoth (treeL W.pool m.rs m.rb) (treeL W.pool S.rs S.rb)))) (sndL (lack (treeL W.pool S.rs S.rb) (inBoth (treeL W.pool m.rs m.rb) (treeL W.pool S.rs S.rb))))):=Iff.rfl
theorem young_take(l:List (Int×Int))(t:Int):∀k,k≤l.length→youngL (fstL l) (sndL l) t k=youngF (l.take k) t
 | 0,_=>by simp [youngL,youngF]
 | k+1,hk=>by
  have hk':k<l.length:=by omega
  unfold youngL
  rw [young_take l t k (by omega)]
  unfold youngF
  rw [List.take_succ_eq_append_getElem hk',List.filter_append,List.filter_cons]
  simp only [List.filter_nil]
  unfold fstL sndL
  rw [getD_lt hk']
  by_cases h:t<(l[k]).2
  ·rw [if_pos h,if_pos (by simpa using h)]
  ·rw [if_neg h,if_neg (by simpa using h),List.append_nil]
theorem young_eq(l:List (Int×Int))(t:Int):youngL (fstL l) (sndL l) t l.length=youngF l t:=by
 rw [young_take l t _ (Nat.le_refl _),List.take_length]
theorem field_dead(v v':Value)(w:World):(Instr.field 201 (.agg #[v,v']) 0).run Tryz.prog w = .ok v w:=by kernel_rfl
set_option maxRecDepth 20000 in
set_option maxHeartbeats 8000000 in
theorem memberRight_any(v0 v1 v2 v3:Value)(lo hi:Nat)(W:WorldD)(m:MemD)(S:SnapD)(ad sa:Option Addr)(cd sc:Nat)(w:World)(h:WorldAt w lo hi v0 v1 v2 v3 W)(hR:Right W.pool)(hTt:TreeOk W.pool m.rs m.rb)(hTo:TreeOk W.pool S.rs S.rb)(hD:PtrsAt w lo hi (.slice ad m.dn cd) m.dn m.ds m.db)(ht:TimeOk S.time) :
  Calls Tryz.prog 225 #[worldV v0 v1 v2 v3 W,memV (.slice ad m.dn cd) m,snapV (.slice sa S.dn sc) S] w fun e w'=>BoolIs (MemI W m S) e∧Below w.heap.size w w':=by
 unfold snapV
 have Hp:=hideW h
 have HR:=hideW hR
 have HTt:=hideW hTt
 have HTo:=hideW hTo
 have HDd:=hideW hD
 have Htm:=hideW ht
 clear h hR hTt hTo hD ht
 have hst:∀Wa Wb Wc:World,Wa=w.alloc (.cells #[v0,v1,.int .i64 W.time,.int .i64 W.next,v2,v3] 37)→Wb=Wa.alloc (.cells #[.int .i64 m.prev,.int .i64 m.time,.int .i64 m.rs,.int .i64 m.rb,.slice ad m.dn cd] 224)→Wc=Wb.alloc (.cells #[.int .i64 S.id,.string S.name,.string S.set,.int .i64 S.prev,.int .i64 S.time,.int .i64 S.rs,.int .i64 S.rb,.slice sa S.dn sc] 99)→Box6 Wc w.heap.size v0 v1 (.int .i64 W.time) (.int .i64 W.next) v2 v3∧Box5M Wc (w.heap.size+1) (.int .i64 m.prev) (.int .i64 m.time) (.int .i64 m.rs) (.int .i64 m.rb) (.slice ad m.dn cd)∧Box8 Wc (w.heap.size+2) (.int .i64 S.id) (.string S.name) (.string S.set) (.int .i64 S.prev) (.int .i64 S.time) (.int .i64 S.rs) (.int .i64 S.rb) (.slice sa S.dn sc)∧Below w.heap.size w Wc:=by
  rintro Wa Wb Wc ea eb ec
  have ha:=below_alloc w (.cells #[v0,v1,.int .i64 W.time,.int .i64 W.next,v2,v3] 37)
  have h1:=Box6.new w v0 v1 (.int .i64 W.time) (.int .i64 W.next) v2 v3 37
  have z1:Wa.heap.size=w.heap.size+1:=by rw [ea]; exact World.size_alloc _ _
  rw [←ea] at ha h1
  have hb:=below_alloc Wa (.cells #[.int .i64 m.prev,.int .i64 m.time,.int .i64 m.rs,.int .i64 m.rb,.slice ad m.dn cd] 224)
  have h2:=Box5M.new Wa (.int .i64 m.prev) (.int .i64 m.time) (.int .i64 m.rs) (.int .i64 m.rb) (.slice ad m.dn cd) 224
  have z2:Wb.heap.size=w.heap.size+2:=by rw [eb,World.size_alloc,z1]
  rw [←eb,z1] at h2
  rw [←eb] at hb
  have hc:=below_alloc Wb (.cells #[.int .i64 S.id,.string S.name,.string S.set,.int .i64 S.prev,.int .i64 S.time,.int .i64 S.rs,.int .i64 S.rb,.slice sa S.dn sc] 99)
  have h3:=Box8.new Wb (.int .i64 S.id) (.string S.name) (.string S.set) (.int .i64 S.prev) (.int .i64 S.time) (.int .i64 S.rs) (.int .i64 S.rb) (.slice sa S.dn sc) 99
  rw [←ec,z2] at h3
  rw [←ec] at hc
  exact⟨(h1.below hb).below hc,h2.below hc,h3,below_next (below_next ha hb) hc⟩
 obtain⟨hx,hm,hsn,hbw⟩:=hst _ _ _ rfl rfl rfl
 have HXs:=hideW hx
 have HMs:=hideW hm
 have HSs:=hideW hsn
 clear hx hm hsn hst
 go_enter Tryz.func225,Tryz.ntmps225
 go_wp2_with fail
 generalize ((w.alloc (.cells #[v0,v1,.int .i64 W.time,.int .i64 W.next,v2,v3] 37)).alloc (.cells #[.int .i64 m.prev,.int .i64 m.time,.int .i64 m.rs,.int .i64 m.rb,.slice ad m.dn cd] 224)).alloc (.cells #[.int .i64 S.id,.string S.name,.string S.set,.int .i64 S.prev,.int .i64 S.time,.int .i64 S.rs,.int .i64 S.rb,.slice sa S.dn sc] 99)=W0 at HXs HMs HSs hbw ⊢
 obtain⟨⟨x0,-⟩,⟨x1,-⟩,⟨x2,-⟩,⟨x3,-⟩,⟨x4,-⟩,⟨x5,-⟩⟩:=HXs.out
 obtain⟨-,-,⟨y2,-⟩,⟨y3,-⟩,-⟩:=HMs.out
 obtain⟨-,-,⟨z5,-⟩,⟨z6,-⟩,-⟩:=HSs.out
 refine wp_region_held_drew (S:=(fun w'=>w'.cell? ⟨w.heap.size,0,none⟩=some v0∧w'.cell? ⟨w.heap.size,1,none⟩=some v1∧w'.cell? ⟨w.heap.size,2,none⟩=some (.int .i64 W.time)∧w'.cell? ⟨w.heap.size,3,none⟩=some (.int .i64 W.next)∧w'.cell? ⟨w.heap.size,4,none⟩=some v2∧w'.cell? ⟨w.heap.size,5,none⟩=some v3∧w'.cell? ⟨w.heap.size+1,2,none⟩=some (.int .i64 m.rs)∧w'.cell? ⟨w.heap.size+1,3,none⟩=some (.int .i64 m.rb)∧w'.cell? ⟨w.heap.size+2,5,none⟩=some (.int .i64 S.rs)∧w'.cell? ⟨w.heap.size+2,6,none⟩=some (.int .i64 S.rb))) (by kernel_rfl) ?_ (fun hHeld=>?_)
 ·(try dsimp only)
  go_keep
 have hbd:Below W0.heap.size W0 W0.drew:=(Below.refl _ _).drew
 have hdz:W0.drew.heap.size=W0.heap.size:=rfl
 refine tk 0 (h:=tk 1 (h:=tk 2 (h:=tk 4 (h:=tk 5 (h:=tk 6 (h:=?_))))))
 refine rd [3,8] (rc (fun K hK=>?_) (rc (fun K hK=>?_) .nil))
 ·go_simp
  go_at_call 226
  refine(ptrsOf_any v0 v1 v2 v3 lo hi W m.rs m.rb _ ?_ HR.out HTt.out).mono ?_
  ·exact Hp.out.below (below_next hbw hbd)
  rintro e w1 ⟨vt,rfl,hrt,hbn1⟩
  obtain⟨at1,ct1,rfl,-⟩:=owns_form hrt
  have hC1:Below W0.heap.size W0 w1:=below_next hbd hbn1
  obtain⟨⟨k0,_⟩,⟨k1,_⟩,⟨k2,_⟩,⟨k3,_⟩,⟨k4,_⟩,⟨k5,_⟩⟩:=HXs.out.below hC1
  obtain⟨_,_,⟨l2,_⟩,⟨l3,_⟩,_⟩:=HMs.out.below hC1
  obtain⟨_,_,⟨n5,_⟩,⟨n6,_⟩,_⟩:=HSs.out.below hC1
  (try go_wp2_with fail)
  refine hK.out _ _ (by(try dsimp only); go_keep) ?_
  clear hK K hHeld
  intro hHeld
  try simp only [Act.put,s1,s2,s3]
  refine rd [7,8] (rc (fun K hK=>?_) (rc (fun K hK=>?_) .nil))
  ·go_simp
   go_at_call 226
   refine(ptrsOf_any v0 v1 v2 v3 lo hi W S.rs S.rb _ ?_ HR.out HTo.out).mono ?_
   ·exact Hp.out.below (below_next hbw hC1)
   rintro e w2 ⟨va,rfl,hra,hbn2⟩
   obtain⟨av,cv,rfl,-⟩:=owns_form hra
   have hC2:Below W0.heap.size W0 w2:=below_next hC1 hbn2
   obtain⟨⟨k0,_⟩,⟨k1,_⟩,⟨k2,_⟩,⟨k3,_⟩,⟨k4,_⟩,⟨k5,_⟩⟩:=HXs.out.below hC2
   obtain⟨_,_,⟨l2,_⟩,⟨l3,_⟩,_⟩:=HMs.out.below hC2
   obtain⟨_,_,⟨n5,_⟩,⟨n6,_⟩,_⟩:=HSs.out.below hC2
   (try go_wp2_with fail)
   refine hK.out _ _ (by(try dsimp only); go_keep) ?_
   clear hK K hHeld
   intro hHeld
   try simp only [Act.put,s1,s2,s3]
   refine rd [8] (rc (fun K hK=>?_) .nil)
   go_simp
   have hal:=below_alloc w2 (.cells #[.slice none 0 0] 62)
   have hC3:Below W0.heap.size W0 (w2.alloc (.cells #[.slice none 0 0] 62)):=below_next hC2 hal
   have hct:Cell (w2.alloc (.cells #[.slice none 0 0] 62)) w2.heap.size 0 (.slice none 0 0):=cell_of_block (heap_alloc_new _ _) rfl
   obtain⟨⟨k0,_⟩,⟨k1,_⟩,⟨k2,_⟩,⟨k3,_⟩,⟨k4,_⟩,⟨k5,_⟩⟩:=HXs.out.below hC3
   obtain⟨_,_,⟨l2,_⟩,⟨l3,_⟩,_⟩:=HMs.out.below hC3
   obtain⟨_,_,⟨n5,_⟩,⟨n6,_⟩,_⟩:=HSs.out.below hC3
   (try go_wp2_with fail)
   refine hK.out _ _ (by(try dsimp only); go_keep) ?_
   clear hK K hHeld
   intro hHeld
   try simp only [Act.put,s1,s2,s3]
   refine tk 9 (h:=?_)
   refine rd [10] (rc (fun K hK=>?_) .nil)
   go_simp
   have halz:=below_alloc w2 (.cells #[.slice av (treeL W.pool S.rs S.rb).length cv] 62)
   have hCz:Below W0.heap.size W0 (w2.alloc (.cells #[.slice av (treeL W.pool S.rs S.rb).length cv] 62)):=below_next hC2 halz
   obtain⟨⟨k0,_⟩,⟨k1,_⟩,⟨k2,_⟩,⟨k3,_⟩,⟨k4,_⟩,⟨k5,_⟩⟩:=HXs.out.below hCz
   obtain⟨_,_,⟨l2,_⟩,⟨l3,_⟩,_⟩:=HMs.out.below hCz
   obtain⟨_,_,⟨n5,_⟩,⟨n6,_⟩,_⟩:=HSs.out.below hCz
   (try go_wp2_with fail)
   refine hK.out _ _ (by(try dsimp only); go_keep) ?_
   clear hK K hHeld
   intro hHeld
   try simp only [Act.put,s1,s2,s3]
   refine wpAnyH_done (by kernel_rfl) ?_ _
   have HTc:=hideW (show Cell (w2.alloc (.cells #[.slice av (treeL W.pool S.rs S.rb).length cv] 62)) w2.heap.size 0 (.slice av (treeL W.pool S.rs S.rb).length cv)from cell_of_block (heap_alloc_new _ _) rfl)
   have HRt:=hideW (((hrt.below hbn2).below halz).mono (Nat.zero_le _))
   have HRa:=hideW ((hra.below halz).mono (Nat.zero_le _))
   clear hal hct hC3 halz
   have HXz:=hideW (HXs.out.below hCz)
   have HMz:=hideW (HMs.out.below hCz)
   have HSz:=hideW (HSs.out.below hCz)
   have hBz:=below_next hbw hCz
   clear hCz hHeld
   as_aux_lemma=>
   generalize (w2.alloc (.cells #[.slice av (treeL W.pool S.rs S.rb).length cv] 62))=wz at HTc HRt HRa HXz HMz HSz hBz ⊢
   generalize w2.heap.size=T at HTc ⊢
   have hln:=treeL_len W.pool m.rs m.rb
   have hlo:=treeL_len W.pool S.rs S.rb
   have HPk:=hideW (show PtrsOk (treeL W.pool m.rs m.rb).length (fstL (treeL W.pool m.rs m.rb)) (sndL (treeL W.pool m.rs m.rb))from ptrsOk_list HR.out (fun x hx=>(tree_mem HR.out HTt.out hx).1) (tree_nodup' HR.out HTt.out) (by omega))
   have HMi:=hideW (mem_iff W m S)
   clear HTt HTo HR Hp HXz
   generalize treeL W.pool m.rs m.rb=tree at *
   generalize treeL W.pool S.rs S.rb=old at *
   have hlk:(inBoth tree old).length≤tree.length:=List.length_filter_le _ _
   have hlw:(lack tree old).length≤tree.length:=List.length_filter_le _ _
   have hld:(lack old (inBoth tree old)).length≤old.length:=List.length_filter_le _ _
   have hly:(youngF tree S.time).length≤tree.length:=List.length_filter_le _ _
   have hmf:∀(fn:Fn) (first cap:Array Value) (w:World),(Instr.makeFunc fn first cap).run Tryz.prog w = .ok (.func fn first cap) w:=fun _ _ _ _=>rfl
   go_wp2_with fail
   refine(partAhead_any _ _ 0 _ 0 _ T tree old wz (HRt.out.atW (by omega)) (by omega) (HRa.out.atW (by omega)) HTc.out.1).mono ?_
   rintro e w3 ⟨vk,vo,rfl,hk3,ho3,-,hb3⟩
   obtain⟨ak,ck,rfl,-⟩:=owns_form hk3
   obtain⟨ao,co,rfl,-⟩:=owns_form ho3
   have hal3:=below_alloc w3 (.cells #[.slice ak (inBoth tree old).length ck] 62)
   have HTc4:=hideW ((HTc.out.below hb3).below hal3)
   have HRt4:=hideW ((HRt.out.below hb3).below hal3)
   have HRa4:=hideW ((HRa.out.below hb3).below hal3)
   have HK4:=hideW (hk3.below hal3)
   have HO4:=hideW (ho3.below hal3)
   have HM4:=hideW ((HMz.out.below hb3).below hal3)
   have HS4:=hideW ((HSz.out.below hb3).below hal3)
   have HKc:=hideW (show Cell (w3.alloc (.cells #[.slice ak (inBoth tree old).length ck] 62)) w3.heap.size 0 (.slice ak (inBoth tree old).length ck)from cell_of_block (heap_alloc_new _ _) rfl)
   have hB4:=below_next (below_next hBz hb3) hal3
   clear hk3 ho3 hb3 hal3 HTc HRt HRa HMz HSz hBz
   obtain⟨c0,-⟩:=HTc4.out
   go_wp2_with fail
   clear c0
   generalize w3.alloc (.cells #[.slice ak (inBoth tree old).length ck] 62)=w4 at HTc4 HRt4 HRa4 HK4 HO4 HM4 HS4 HKc hB4 ⊢
   generalize w3.heap.size=T9 at HKc ⊢
   refine(partKept_any _ _ 0 _ 0 _ T9 old (inBoth tree old) w4 (HRa4.out.atW (by omega)) (by omega) (HK4.out.atW (by omega)) HKc.out.1).mono ?_
   rintro e w5 ⟨vx,vdr,rfl,-,hdr,-,hb5⟩
   obtain⟨adr,cdr,rfl,-⟩:=owns_form hdr
   have HRt5:=hideW (HRt4.out.below hb5)
   have HO5:=hideW (HO4.out.below hb5)
   have HM5:=hideW (HM4.out.below hb5)
   have HS5:=hideW (HS4.out.below hb5)
   have HDr5:=hideW hdr
   have hB5:=below_next hB4 hb5
   clear hdr hb5 HTc4 HRt4 HRa4 HK4 HO4 HM4 HS4 HKc hB4
   obtain⟨-,⟨c4,-⟩,-⟩:=HS5.out
   go_wp2_with fail
   clear c4
   refine(implSplit_any _ tree.length 0 _ (fstL tree) (sndL tree) S.time w5 (HRt5.out.atW (by omega))).mono ?_
   rintro e w6 ⟨vy,vz,ly,lz,rfl,hY,-,hy,-,-,hb6⟩
   rw [(hY.1 ⟨HPk.out,Htm.out⟩).trans (young_eq tree S.time)] at hy
   have hfd:∀w,(Instr.field 201 (.agg #[vy,vz]) 0).run Tryz.prog w = .ok vy w:=field_dead vy vz
   have HY6:=hideW hy
   have HO6:=hideW (HO5.out.below hb6)
   have HM6:=hideW (HM5.out.below hb6)
   have HDr6:=hideW (HDr5.out.below hb6)
   have hB6:=below_next hB5 hb6
   clear hY hy hb6 HRt5 HO5 HM5 HS5 HDr5 hB5
   obtain⟨-,⟨c1,-⟩,-,⟨c3,-⟩,⟨c5,-⟩⟩:=HM6.out
   by_cases h1:m.rb≤m.time
   rotate_left
   ·have Hn:=hideW (show ¬MemI W m S from fun h=>h1 (HMi.out.1 h).1)
    go_wp2
    go_ret
    exact⟨BoolIs.no Hn.out,hB6⟩
   have H1:=hideW h1
   go_wp2_with fail
   clear h1 c1 c3 c5 hfd
   refine(implPtrsSame_any _ _ _ 0 _ _ 0 _ _ _ _ _ w6 (HY6.out.atW (by omega)) (HO6.out.atW (by omega))).mono ?_
   rintro e w7 ⟨⟨t7,rfl,ht7⟩,hb7⟩
   have HM7:=hideW (HM6.out.below hb7)
   have HDr7:=hideW (HDr6.out.below hb7)
   have hB7:=below_next hB6 hb7
   have Ht7:=hideW ht7
   clear ht7 hb7 HY6 HO6 HM6 HDr6 hB6
   obtain⟨-,⟨c1,-⟩,-,⟨c3,-⟩,⟨c5,-⟩⟩:=HM7.out
   cases t7
   ·have Hn:=hideW (show ¬MemI W m S from fun h=>absurd (Ht7.out.2 (HMi.out.1 h).2.1) (by simp))
    clear Ht7
    go_wp2
    go_ret
    exact⟨BoolIs.no Hn.out,hB7⟩
   have H2:=hideW (Ht7.out.1 rfl)
   clear Ht7
   go_wp2_with fail
   clear c1 c3 c5
   refine(implPtrsSame_any _ _ _ lo hi _ 0 _ _ _ _ _ w7 (HDd.out.below hB7) (HDr7.out.atW (by omega))).mono ?_
   rintro e w8 ⟨⟨t8,rfl,ht8⟩,hb8⟩
   have Ht8:=hideW (ht8.trans ⟨fun h=>HMi.out.2 ⟨H1.out,H2.out,h⟩,fun h=>(HMi.out.1 h).2.2⟩)
   have hB8:=below_next hB7 hb8
   clear ht8 hb8
   go_wp2
   go_ret
   exact⟨⟨t8,rfl,Ht8.out⟩,hB8⟩
  ·go_simp
   have hal:=below_alloc w1 (.cells #[.slice none 0 0] 62)
   have hC2:Below W0.heap.size W0 (w1.alloc (.cells #[.slice none 0 0] 62)):=below_next hC1 hal
   have hct:Cell (w1.alloc (.cells #[.slice none 0 0] 62)) w1.heap.size 0 (.slice none 0 0):=cell_of_block (heap_alloc_new _ _) rfl
   obtain⟨⟨k0,_⟩,⟨k1,_⟩,⟨k2,_⟩,⟨k3,_⟩,⟨k4,_⟩,⟨k5,_⟩⟩:=HXs.out.below hC2
   obtain⟨_,_,⟨l2,_⟩,⟨l3,_⟩,_⟩:=HMs.out.below hC2
   obtain⟨_,_,⟨n5,_⟩,⟨n6,_⟩,_⟩:=HSs.out.below hC2
   (try go_wp2_with fail)
   refine hK.out _ _ (by(try dsimp only); go_keep) ?_
   clear hK K hHeld
   intro hHeld
   try simp only [Act.put,s1,s2,s3]
   refine rd [7] (rc (fun K hK=>?_) .nil)
   go_simp
   go_at_call 226
   refine(ptrsOf_any v0 v1 v2 v3 lo hi W S.rs S.rb _ ?_ HR.out HTo.out).mono ?_
   ·exact Hp.out.below (below_next hbw hC2)
   rintro e w2 ⟨va,rfl,hra,hbn2⟩
   obtain⟨av,cv,rfl,-⟩:=owns_form hra
   have hC3:Below W0.heap.size W0 w2:=below_next hC2 hbn2
   obtain⟨⟨k0,_⟩,⟨k1,_⟩,⟨k2,_⟩,⟨k3,_⟩,⟨k4,_⟩,⟨k5,_⟩⟩:=HXs.out.below hC3
   obtain⟨_,_,⟨l2,_⟩,⟨l3,_⟩,_⟩:=HMs.out.below hC3
   obtain⟨_,_,⟨n5,_⟩,⟨n6,_⟩,_⟩:=HSs.out.below hC3
   (try go_wp2_with fail)
   refine hK.out _ _ (by(try dsimp only); go_keep) ?_
   clear hK K hHeld
   intro hHeld
   try simp only [Act.put,s1,s2,s3]
   refine tk 9 (h:=?_)
   have hcz:=hct.below hbn2
   have hrz:=(hrt.below hal).below hbn2
   have hsz1:(w1.alloc (.cells #[.slice none 0 0] 62)).heap.size=w1.heap.size+1:=World.size_alloc _ _
   have hnt:Value.ownBlock (.slice at1 (treeL W.pool m.rs m.rb).length ct1)≠some w1.heap.size:=fun e=>by have:=(hrt.lt e).2; omega
   have hna:Value.ownBlock (.slice av (treeL W.pool S.rs S.rb).length cv)≠some w1.heap.size:=fun e=>by have:=(hra.lt e).1; omega
   have hT1:=hC1.size
   obtain⟨sq0,sq1⟩:=hcz
   refine rd [10] (rc (fun K hK=>?_) .nil)
   go_simp
   have hCz:Below W0.heap.size W0 (w2.setCell ⟨w1.heap.size,0,none⟩ (.slice av (treeL W.pool S.rs S.rb).length cv)):=hC3.setCell (show W0.heap.size≤w1.heap.size by omega) _
   obtain⟨⟨k0,_⟩,⟨k1,_⟩,⟨k2,_⟩,⟨k3,_⟩,⟨k4,_⟩,⟨k5,_⟩⟩:=HXs.out.below hCz
   obtain⟨_,_,⟨l2,_⟩,⟨l3,_⟩,_⟩:=HMs.out.below hCz
   obtain⟨_,_,⟨n5,_⟩,⟨n6,_⟩,_⟩:=HSs.out.below hCz
   (try go_wp2_with fail)
   refine hK.out _ _ (by(try dsimp only); go_keep) ?_
   clear hK K hHeld
   intro hHeld
   try simp only [Act.put,s1,s2,s3]
   refine wpAnyH_done (by kernel_rfl) ?_ _
   have HTc:=hideW (show Cell (w2.setCell ⟨w1.heap.size,0,none⟩ (.slice av (treeL W.pool S.rs S.rb).length cv)) w1.heap.size 0 (.slice av (treeL W.pool S.rs S.rb).length cv)from Cell.set ⟨sq0,sq1⟩ _)
   have HRt:=hideW ((hrz.putNe hnt 0 (.slice av (treeL W.pool S.rs S.rb).length cv)).mono (Nat.zero_le _))
   have HRa:=hideW ((hra.putNe hna 0 (.slice av (treeL W.pool S.rs S.rb).length cv)).mono (Nat.zero_le _))
   have HXz:=hideW (HXs.out.below hCz)
   have HMz:=hideW (HMs.out.below hCz)
   have HSz:=hideW (HSs.out.below hCz)
   have hBz:=below_next hbw hCz
   clear hCz hHeld
   as_aux_lemma=>
   generalize (w2.setCell ⟨w1.heap.size,0,none⟩ (.slice av (treeL W.pool S.rs S.rb).length cv))=wz at HTc HRt HRa HXz HMz HSz hBz ⊢
   generalize w1.heap.size=T at HTc ⊢
   have hln:=treeL_len W.pool m.rs m.rb
   have hlo:=treeL_len W.pool S.rs S.rb
   have HPk:=hideW (show PtrsOk (treeL W.pool m.rs m.rb).length (fstL (treeL W.pool m.rs m.rb)) (sndL (treeL W.pool m.rs m.rb))from ptrsOk_list HR.out (fun x hx=>(tree_mem HR.out HTt.out hx).1) (tree_nodup' HR.out HTt.out) (by omega))
   have HMi:=hideW (mem_iff W m S)
   clear HTt HTo HR Hp HXz
   generalize treeL W.pool m.rs m.rb=tree at *
   generalize treeL W.pool S.rs S.rb=old at *
   have hlk:(inBoth tree old).length≤tree.length:=List.length_filter_le _ _
   have hlw:(lack tree old).length≤tree.length:=List.length_filter_le _ _
   have hld:(lack old (inBoth tree old)).length≤old.length:=List.length_filter_le _ _
   have hly:(youngF tree S.time).length≤tree.length:=List.length_filter_le _ _
   have hmf:∀(fn:Fn) (first cap:Array Value) (w:World),(Instr.makeFunc fn first cap).run Tryz.prog w = .ok (.func fn first cap) w:=fun _ _ _ _=>rfl
   go_wp2_with fail
   refine(partAhead_any _ _ 0 _ 0 _ T tree old wz (HRt.out.atW (by omega)) (by omega) (HRa.out.atW (by omega)) HTc.out.1).mono ?_
   rintro e w3 ⟨vk,vo,rfl,hk3,ho3,-,hb3⟩
   obtain⟨ak,ck,rfl,-⟩:=owns_form hk3
   obtain⟨ao,co,rfl,-⟩:=owns_form ho3
   have hal3:=below_alloc w3 (.cells #[.slice ak (inBoth tree old).length ck] 62)
   have HTc4:=hideW ((HTc.out.below hb3).below hal3)
   have HRt4:=hideW ((HRt.out.below hb3).below hal3)
   have HRa4:=hideW ((HRa.out.below hb3).below hal3)
   have HK4:=hideW (hk3.below hal3)
   have HO4:=hideW (ho3.below hal3)
   have HM4:=hideW ((HMz.out.below hb3).below hal3)
   have HS4:=hideW ((HSz.out.below hb3).below hal3)
   have HKc:=hideW (show Cell (w3.alloc (.cells #[.slice ak (inBoth tree old).length ck] 62)) w3.heap.size 0 (.slice ak (inBoth tree old).length ck)from cell_of_block (heap_alloc_new _ _) rfl)
   have hB4:=below_next (below_next hBz hb3) hal3
   clear hk3 ho3 hb3 hal3 HTc HRt HRa HMz HSz hBz
   obtain⟨c0,-⟩:=HTc4.out
   go_wp2_with fail
   clear c0
   generalize w3.alloc (.cells #[.slice ak (inBoth tree old).length ck] 62)=w4 at HTc4 HRt4 HRa4 HK4 HO4 HM4 HS4 HKc hB4 ⊢
   generalize w3.heap.size=T9 at HKc ⊢
   refine(partKept_any _ _ 0 _ 0 _ T9 old (inBoth tree old) w4 (HRa4.out.atW (by omega)) (by omega) (HK4.out.atW (by omega)) HKc.out.1).mono ?_
   rintro e w5 ⟨vx,vdr,rfl,-,hdr,-,hb5⟩
   obtain⟨adr,cdr,rfl,-⟩:=owns_form hdr
   have HRt5:=hideW (HRt4.out.below hb5)
   have HO5:=hideW (HO4.out.below hb5)
   have HM5:=hideW (HM4.out.below hb5)
   have HS5:=hideW (HS4.out.below hb5)
   have HDr5:=hideW hdr
   have hB5:=below_next hB4 hb5
   clear hdr hb5 HTc4 HRt4 HRa4 HK4 HO4 HM4 HS4 HKc hB4
   obtain⟨-,⟨c4,-⟩,-⟩:=HS5.out
   go_wp2_with fail
   clear c4
   refine(implSplit_any _ tree.length 0 _ (fstL tree) (sndL tree) S.time w5 (HRt5.out.atW (by omega))).mono ?_
   rintro e w6 ⟨vy,vz,ly,lz,rfl,hY,-,hy,-,-,hb6⟩
   rw [(hY.1 ⟨HPk.out,Htm.out⟩).trans (young_eq tree S.time)] at hy
   have hfd:∀w,(Instr.field 201 (.agg #[vy,vz]) 0).run Tryz.prog w = .ok vy w:=field_dead vy vz
   have HY6:=hideW hy
   have HO6:=hideW (HO5.out.below hb6)
   have HM6:=hideW (HM5.out.below hb6)
   have HDr6:=hideW (HDr5.out.below hb6)
   have hB6:=below_next hB5 hb6
   clear hY hy hb6 HRt5 HO5 HM5 HS5 HDr5 hB5
   obtain⟨-,⟨c1,-⟩,-,⟨c3,-⟩,⟨c5,-⟩⟩:=HM6.out
   by_cases h1:m.rb≤m.time
   rotate_left
   ·have Hn:=hideW (show ¬MemI W m S from fun h=>h1 (HMi.out.1 h).1)
    go_wp2
    go_ret
    exact⟨BoolIs.no Hn.out,hB6⟩
   have H1:=hideW h1
   go_wp2_with fail
   clear h1 c1 c3 c5 hfd
   refine(implPtrsSame_any _ _ _ 0 _ _ 0 _ _ _ _ _ w6 (HY6.out.atW (by omega)) (HO6.out.atW (by omega))).mono ?_
   rintro e w7 ⟨⟨t7,rfl,ht7⟩,hb7⟩
   have HM7:=hideW (HM6.out.below hb7)
   have HDr7:=hideW (HDr6.out.below hb7)
   have hB7:=below_next hB6 hb7
   have Ht7:=hideW ht7
   clear ht7 hb7 HY6 HO6 HM6 HDr6 hB6
   obtain⟨-,⟨c1,-⟩,-,⟨c3,-⟩,⟨c5,-⟩⟩:=HM7.out
   cases t7
   ·have Hn:=hideW (show ¬MemI W m S from fun h=>absurd (Ht7.out.2 (HMi.out.1 h).2.1) (by simp))
    clear Ht7
    go_wp2
    go_ret
    exact⟨BoolIs.no Hn.out,hB7⟩
   have H2:=hideW (Ht7.out.1 rfl)
   clear Ht7
   go_wp2_with fail
   clear c1 c3 c5
   refine(implPtrsSame_any _ _ _ lo hi _ 0 _ _ _ _ _ w7 (HDd.out.below hB7) (HDr7.out.atW (by omega))).mono ?_
   rintro e w8 ⟨⟨t8,rfl,ht8⟩,hb8⟩
   have Ht8:=hideW (ht8.trans ⟨fun h=>HMi.out.2 ⟨H1.out,H2.out,h⟩,fun h=>(HMi.out.1 h).2.2⟩)
   have hB8:=below_next hB7 hb8
   clear ht8 hb8
   go_wp2
   go_ret
   exact⟨⟨t8,rfl,Ht8.out⟩,hB8⟩
 ·go_simp
  have hal:=below_alloc W0.drew (.cells #[.slice none 0 0] 62)
  have hC1:Below W0.heap.size W0 (W0.drew.alloc (.cells #[.slice none 0 0] 62)):=below_next hbd hal
  have hct:Cell (W0.drew.alloc (.cells #[.slice none 0 0] 62)) W0.drew.heap.size 0 (.slice none 0 0):=cell_of_block (heap_alloc_new _ _) rfl
  obtain⟨⟨k0,_⟩,⟨k1,_⟩,⟨k2,_⟩,⟨k3,_⟩,⟨k4,_⟩,⟨k5,_⟩⟩:=HXs.out.below hC1
  obtain⟨_,_,⟨l2,_⟩,⟨l3,_⟩,_⟩:=HMs.out.below hC1
  obtain⟨_,_,⟨n5,_⟩,⟨n6,_⟩,_⟩:=HSs.out.below hC1
  (try go_wp2_with fail)
  refine hK.out _ _ (by(try dsimp only); go_keep) ?_
  clear hK K hHeld
  intro hHeld
  try simp only [Act.put,s1,s2,s3]
  refine rd [3] (rc (fun K hK=>?_) .nil)
  go_simp
  go_at_call 226
  refine(ptrsOf_any v0 v1 v2 v3 lo hi W m.rs m.rb _ ?_ HR.out HTt.out).mono ?_
  ·exact Hp.out.below (below_next hbw hC1)
  rintro e w1 ⟨vt,rfl,hrt,hbn1⟩
  obtain⟨at1,ct1,rfl,-⟩:=owns_form hrt
  have hC2:Below W0.heap.size W0 w1:=below_next hC1 hbn1
  obtain⟨⟨k0,_⟩,⟨k1,_⟩,⟨k2,_⟩,⟨k3,_⟩,⟨k4,_⟩,⟨k5,_⟩⟩:=HXs.out.below hC2
  obtain⟨_,_,⟨l2,_⟩,⟨l3,_⟩,_⟩:=HMs.out.below hC2
  obtain⟨_,_,⟨n5,_⟩,⟨n6,_⟩,_⟩:=HSs.out.below hC2
  (try go_wp2_with fail)
  refine hK.out _ _ (by(try dsimp only); go_keep) ?_
  clear hK K hHeld
  intro hHeld
  try simp only [Act.put,s1,s2,s3]
  refine rd [7] (rc (fun K hK=>?_) .nil)
  go_simp
  go_at_call 226
  refine(ptrsOf_any v0 v1 v2 v3 lo hi W S.rs S.rb _ ?_ HR.out HTo.out).mono ?_
  ·exact Hp.out.below (below_next hbw hC2)
  rintro e w2 ⟨va,rfl,hra,hbn2⟩
  obtain⟨av,cv,rfl,-⟩:=owns_form hra
  have hC3:Below W0.heap.size W0 w2:=below_next hC2 hbn2
  obtain⟨⟨k0,_⟩,⟨k1,_⟩,⟨k2,_⟩,⟨k3,_⟩,⟨k4,_⟩,⟨k5,_⟩⟩:=HXs.out.below hC3
  obtain⟨_,_,⟨l2,_⟩,⟨l3,_⟩,_⟩:=HMs.out.below hC3
  obtain⟨_,_,⟨n5,_⟩,⟨n6,_⟩,_⟩:=HSs.out.below hC3
  (try go_wp2_with fail)
  refine hK.out _ _ (by(try dsimp only); go_keep) ?_
  clear hK K hHeld
  intro hHeld
  try simp only [Act.put,s1,s2,s3]
  refine tk 9 (h:=?_)
  rw [hdz] at hct
  have hcz:=(hct.below hbn1).below hbn2
  have hrz:=hrt.below hbn2
  have hsz1:(W0.drew.alloc (.cells #[.slice none 0 0] 62)).heap.size=W0.heap.size+1:=World.size_alloc _ _
  have hsz2:(W0.alloc (.cells #[.slice none 0 0] 62)).drew.heap.size=W0.heap.size+1:=World.size_alloc _ _
  have hT2:=hbn1.size
  have hnt:Value.ownBlock (.slice at1 (treeL W.pool m.rs m.rb).length ct1)≠some W0.heap.size:=fun e=>by have:=(hrt.lt e).1; omega
  have hna:Value.ownBlock (.slice av (treeL W.pool S.rs S.rb).length cv)≠some W0.heap.size:=fun e=>by have:=(hra.lt e).1; omega
  obtain⟨sq0,sq1⟩:=hcz
  refine rd [10] (rc (fun K hK=>?_) .nil)
  go_simp
  have hCz:Below W0.heap.size W0 (w2.setCell ⟨W0.heap.size,0,none⟩ (.slice av (treeL W.pool S.rs S.rb).length cv)):=hC3.setCell (show W0.heap.size≤W0.heap.size by omega) _
  obtain⟨⟨k0,_⟩,⟨k1,_⟩,⟨k2,_⟩,⟨k3,_⟩,⟨k4,_⟩,⟨k5,_⟩⟩:=HXs.out.below hCz
  obtain⟨_,_,⟨l2,_⟩,⟨l3,_⟩,_⟩:=HMs.out.below hCz
  obtain⟨_,_,⟨n5,_⟩,⟨n6,_⟩,_⟩:=HSs.out.below hCz
  (try go_wp2_with fail)
  refine hK.out _ _ (by(try dsimp only); go_keep) ?_
  clear hK K hHeld
  intro hHeld
  try simp only [Act.put,s1,s2,s3]
  refine wpAnyH_done (by kernel_rfl) ?_ _
  have HTc:=hideW (show Cell (w2.setCell ⟨W0.heap.size,0,none⟩ (.slice av (treeL W.pool S.rs S.rb).length cv)) W0.heap.size 0 (.slice av (treeL W.pool S.rs S.rb).length cv)from Cell.set ⟨sq0,sq1⟩ _)
  have HRt:=hideW ((hrz.putNe hnt 0 (.slice av (treeL W.pool S.rs S.rb).length cv)).mono (Nat.zero_le _))
  have HRa:=hideW ((hra.putNe hna 0 (.slice av (treeL W.pool S.rs S.rb).length cv)).mono (Nat.zero_le _))
  have HXz:=hideW (HXs.out.below hCz)
  have HMz:=hideW (HMs.out.below hCz)
  have HSz:=hideW (HSs.out.below hCz)
  have hBz:=below_next hbw hCz
  clear hCz hHeld
  as_aux_lemma=>
  generalize (w2.setCell ⟨W0.heap.size,0,none⟩ (.slice av (treeL W.pool S.rs S.rb).length cv))=wz at HTc HRt HRa HXz HMz HSz hBz ⊢
  generalize W0.heap.size=T at HTc ⊢
  have hln:=treeL_len W.pool m.rs m.rb
  have hlo:=treeL_len W.pool S.rs S.rb
  have HPk:=hideW (show PtrsOk (treeL W.pool m.rs m.rb).length (fstL (treeL W.pool m.rs m.rb)) (sndL (treeL W.pool m.rs m.rb))from ptrsOk_list HR.out (fun x hx=>(tree_mem HR.out HTt.out hx).1) (tree_nodup' HR.out HTt.out) (by omega))
  have HMi:=hideW (mem_iff W m S)
  clear HTt HTo HR Hp HXz
  generalize treeL W.pool m.rs m.rb=tree at *
  generalize treeL W.pool S.rs S.rb=old at *
  have hlk:(inBoth tree old).length≤tree.length:=List.length_filter_le _ _
  have hlw:(lack tree old).length≤tree.length:=List.length_filter_le _ _
  have hld:(lack old (inBoth tree old)).length≤old.length:=List.length_filter_le _ _
  have hly:(youngF tree S.time).length≤tree.length:=List.length_filter_le _ _
  have hmf:∀(fn:Fn) (first cap:Array Value) (w:World),(Instr.makeFunc fn first cap).run Tryz.prog w = .ok (.func fn first cap) w:=fun _ _ _ _=>rfl
  go_wp2_with fail
  refine(partAhead_any _ _ 0 _ 0 _ T tree old wz (HRt.out.atW (by omega)) (by omega) (HRa.out.atW (by omega)) HTc.out.1).mono ?_
  rintro e w3 ⟨vk,vo,rfl,hk3,ho3,-,hb3⟩
  obtain⟨ak,ck,rfl,-⟩:=owns_form hk3
  obtain⟨ao,co,rfl,-⟩:=owns_form ho3
  have hal3:=below_alloc w3 (.cells #[.slice ak (inBoth tree old).length ck] 62)
  have HTc4:=hideW ((HTc.out.below hb3).below hal3)
  have HRt4:=hideW ((HRt.out.below hb3).below hal3)
  have HRa4:=hideW ((HRa.out.below hb3).below hal3)
  have HK4:=hideW (hk3.below hal3)
  have HO4:=hideW (ho3.below hal3)
  have HM4:=hideW ((HMz.out.below hb3).below hal3)
  have HS4:=hideW ((HSz.out.below hb3).below hal3)
  have HKc:=hideW (show Cell (w3.alloc (.cells #[.slice ak (inBoth tree old).length ck] 62)) w3.heap.size 0 (.slice ak (inBoth tree old).length ck)from cell_of_block (heap_alloc_new _ _) rfl)
  have hB4:=below_next (below_next hBz hb3) hal3
  clear hk3 ho3 hb3 hal3 HTc HRt HRa HMz HSz hBz
  obtain⟨c0,-⟩:=HTc4.out
  go_wp2_with fail
  clear c0
  generalize w3.alloc (.cells #[.slice ak (inBoth tree old).length ck] 62)=w4 at HTc4 HRt4 HRa4 HK4 HO4 HM4 HS4 HKc hB4 ⊢
  generalize w3.heap.size=T9 at HKc ⊢
  refine(partKept_any _ _ 0 _ 0 _ T9 old (inBoth tree old) w4 (HRa4.out.atW (by omega)) (by omega) (HK4.out.atW (by omega)) HKc.out.1).mono ?_
  rintro e w5 ⟨vx,vdr,rfl,-,hdr,-,hb5⟩
  obtain⟨adr,cdr,rfl,-⟩:=owns_form hdr
  have HRt5:=hideW (HRt4.out.below hb5)
  have HO5:=hideW (HO4.out.below hb5)
  have HM5:=hideW (HM4.out.below hb5)
  have HS5:=hideW (HS4.out.below hb5)
  have HDr5:=hideW hdr
  have hB5:=below_next hB4 hb5
  clear hdr hb5 HTc4 HRt4 HRa4 HK4 HO4 HM4 HS4 HKc hB4
  obtain⟨-,⟨c4,-⟩,-⟩:=HS5.out
  go_wp2_with fail
  clear c4
  refine(implSplit_any _ tree.length 0 _ (fstL tree) (sndL tree) S.time w5 (HRt5.out.atW (by omega))).mono ?_
  rintro e w6 ⟨vy,vz,ly,lz,rfl,hY,-,hy,-,-,hb6⟩
  rw [(hY.1 ⟨HPk.out,Htm.out⟩).trans (young_eq tree S.time)] at hy
  have hfd:∀w,(Instr.field 201 (.agg #[vy,vz]) 0).run Tryz.prog w = .ok vy w:=field_dead vy vz
  have HY6:=hideW hy
  have HO6:=hideW (HO5.out.below hb6)
  have HM6:=hideW (HM5.out.below hb6)
  have HDr6:=hideW (HDr5.out.below hb6)
  have hB6:=below_next hB5 hb6
  clear hY hy hb6 HRt5 HO5 HM5 HS5 HDr5 hB5
  obtain⟨-,⟨c1,-⟩,-,⟨c3,-⟩,⟨c5,-⟩⟩:=HM6.out
  by_cases h1:m.rb≤m.time
  rotate_left
  ·have Hn:=hideW (show ¬MemI W m S from fun h=>h1 (HMi.out.1 h).1)
   go_wp2
   go_ret
   exact⟨BoolIs.no Hn.out,hB6⟩
  have H1:=hideW h1
  go_wp2_with fail
  clear h1 c1 c3 c5 hfd
  refine(implPtrsSame_any _ _ _ 0 _ _ 0 _ _ _ _ _ w6 (HY6.out.atW (by omega)) (HO6.out.atW (by omega))).mono ?_
  rintro e w7 ⟨⟨t7,rfl,ht7⟩,hb7⟩
  have HM7:=hideW (HM6.out.below hb7)
  have HDr7:=hideW (HDr6.out.below hb7)
  have hB7:=below_next hB6 hb7
  have Ht7:=hideW ht7
  clear ht7 hb7 HY6 HO6 HM6 HDr6 hB6
  obtain⟨-,⟨c1,-⟩,-,⟨c3,-⟩,⟨c5,-⟩⟩:=HM7.out
  cases t7
  ·have Hn:=hideW (show ¬MemI W m S from fun h=>absurd (Ht7.out.2 (HMi.out.1 h).2.1) (by simp))
   clear Ht7
   go_wp2
   go_ret
   exact⟨BoolIs.no Hn.out,hB7⟩
  have H2:=hideW (Ht7.out.1 rfl)
  clear Ht7
  go_wp2_with fail
  clear c1 c3 c5
  refine(implPtrsSame_any _ _ _ lo hi _ 0 _ _ _ _ _ w7 (HDd.out.below hB7) (HDr7.out.atW (by omega))).mono ?_
  rintro e w8 ⟨⟨t8,rfl,ht8⟩,hb8⟩
  have Ht8:=hideW (ht8.trans ⟨fun h=>HMi.out.2 ⟨H1.out,H2.out,h⟩,fun h=>(HMi.out.1 h).2.2⟩)
  have hB8:=below_next hB7 hb8
  clear ht8 hb8
  go_wp2
  go_ret
  exact⟨⟨t8,rfl,Ht8.out⟩,hB8⟩
theorem old_of{W:WorldD}(h:∀i,i<memN W→TreeOk W.pool (memOf W i).rs (memOf W i).rb)(x:Int):TreeOk W.pool (aheadOf W x).rs (aheadOf W x).rb:=by
 by_cases hx:∃k,SnapNo W x k
 ·obtain⟨k,hk⟩:=hx
  rw [aheadOf_at hk]
  have:=h k (by unfold memN; have:=hk.1; omega)
  rw [memOf_snap hk.1] at this
  exact this
 ·have:aheadOf W x=zeroSnap:=by
   unfold aheadOf
   rw [dif_neg hx]
  rw [this]
  exact Or.inl ⟨rfl,rfl⟩
def MemIk(W:WorldD)(i:Nat):Prop:=MemI W (memOf W i) (aheadOf W (memOf W i).prev)
def TreesI(W:WorldD):Prop:=(∀i,i<memN W→TreeOk W.pool (memOf W i).rs (memOf W i).rb)∧∀i,i<memN W→MemIk W i
def TimesOk(W:WorldD):Prop:=∀x,TimeOk (aheadOf W x).time
set_option maxRecDepth 20000 in
set_option maxHeartbeats 4000000 in
theorem treesRight_any(v0 v1 v2 v3:Value)(lo hi:Nat)(W:WorldD)(A:Nat)(w:World)(h:WorldAt w lo hi v0 v1 v2 v3 W)(hs:W.sn≤8)(hp:W.pn≤20)(hA:AheadFn w lo hi W A)(hD:IdsDist W)(hwf:PrevsWf W)(hR:Right W.pool)(hT:TimesOk W) :
  Calls Tryz.prog 207 #[worldV v0 v1 v2 v3 W,aheadV A] w fun e w'=>BoolIs (TreesI W) e∧Below w.heap.size w w':=by
 have Hp:=hideW h
 have HA:=hideW hA
 have HD:=hideW hD
 have Hwf:=hideW hwf
 have HR:=hideW hR
 have HTm:=hideW hT
 clear h hA hD hwf hR hT
 have ha:=below_alloc w (.cells #[v0,v1,.int .i64 W.time,.int .i64 W.next,v2,v3] 37)
 have HB:=hideW (Box6.new w v0 v1 (.int .i64 W.time) (.int .i64 W.next) v2 v3 37)
 obtain⟨⟨x0,-⟩,⟨x2,-⟩,⟨x4,-⟩,⟨x6,-⟩,⟨x8,-⟩,⟨x10,-⟩⟩:=HB.out
 go_enter Tryz.func207,Tryz.ntmps207
 go_wp2_with fail
 clear x0 x2 x4 x6 x8 x10
 generalize w.alloc (.cells #[v0,v1,.int .i64 W.time,.int .i64 W.next,v2,v3] 37)=W0 at ha HB ⊢
 refine(membersOf_any v0 v1 v2 v3 lo hi W W0 (Hp.out.below ha) hs hp).mono ?_
 rintro e w1 ⟨vm,vd,rfl,hm,hb1⟩
 have HM:=hideW hm
 have HX1:=hideW (HB.out.below hb1)
 have hB1:=below_next ha hb1
 obtain⟨am,cm,rfl,hcm⟩:=id hm.form
 have hmn:memN W≤28:=by unfold memN; omega
 clear ha hb1 hm HB
 go_wp2
 go_loopw [14] (fun i wr=>∃k:Nat,k≤memN W∧i = .int .i64 k∧(∀j,j<k→TreeOk W.pool (memOf W j).rs (memOf W j).rb)∧Below w1.heap.size w1 wr) (fun i _=>memN W - (intOf i).toNat)
 case atStart=>exact⟨0,Nat.zero_le _,rfl,fun j hj=>absurd hj (Nat.not_lt_zero _),Below.refl _ _⟩
 case round=>
  obtain⟨k,hk,rfl,hall,hb⟩:=hrel
  have Hall:=hideW hall
  clear hall
  by_cases hlt:k<memN W
  ·have hlt':(k:Int)<(memN W:Int):=by omega
   obtain⟨g,cg,e,q0,q1,q2,q3,q4⟩:=(HM.out.below hb).cells k hlt
   obtain⟨-,ad,cd,hvk,-,-⟩:=id ((HM.out.below hb).dead k hlt)
   rw [hvk] at q4
   cases e
   have hbs:=below_alloc wr (.cells #[.int .i64 (memOf W k).prev,.int .i64 (memOf W k).time,.int .i64 (memOf W k).rs,.int .i64 (memOf W k).rb,.slice ad (memOf W k).dn cd] 224)
   have HV:=hideW (Box5M.new wr (.int .i64 (memOf W k).prev) (.int .i64 (memOf W k).time) (.int .i64 (memOf W k).rs) (.int .i64 (memOf W k).rb) (.slice ad (memOf W k).dn cd) 224)
   have HX2:=hideW ((HX1.out.below hb).below hbs)
   have hb2:=below_next hb hbs
   clear hvk hbs
   obtain⟨⟨y0,-⟩,⟨y1,-⟩,⟨y2,-⟩,⟨y3,-⟩,⟨y4,-⟩⟩:=HV.out
   obtain⟨⟨x0,-⟩,⟨x2,-⟩,-⟩:=HX2.out
   go_wp2_with fail
   clear q0 q1 q2 q3 q4 y0 y1 y2 y3 y4 x0 x2
   refine(treeThere_any v0 v1 lo hi W.pool (memOf W k).rs (memOf W k).rb _ (Hp.out.pool.below (below_next hB1 hb2)) HR.out).mono ?_
   rintro e w6 ⟨⟨t6,rfl,ht6⟩,hb6⟩
   have Ht:=hideW (ht6.trans (tree_iff HR.out))
   have hb7:=below_next hb2 hb6
   clear ht6 hb6 hb2 HV HX2
   cases t6
   ·have Hn:=hideW (show ¬TreeOk W.pool (memOf W k).rs (memOf W k).rb from fun hA=>absurd (Ht.out.2 hA) (by simp))
    clear Ht
    go_wp2
    go_ret
    exact⟨BoolIs.no fun hA=>Hn.out (hA.1 k hlt),below_next hB1 hb7⟩
   ·have Hn:=hideW (Ht.out.1 rfl)
    clear Ht
    go_wp2
    go_roundw
    case rel=>exact⟨k+1,by omega,by go_num,relNext hlt Hall.out Hn.out,hb7⟩
    case measure=>simp [intOf]; omega
  obtain rfl:k=memN W:=by omega
  have HTr:=hideW Hall.out
  clear Hall hlt hk
  go_wp2
  go_loopw [27] (fun i wr=>∃k:Nat,k≤memN W∧i = .int .i64 k∧(∀j,j<k→MemIk W j)∧Below w1.heap.size w1 wr) (fun i _=>memN W - (intOf i).toNat)
  case atStart=>exact⟨0,Nat.zero_le _,rfl,fun j hj=>absurd hj (Nat.not_lt_zero _),hb⟩
  case round=>
   clear hb
   obtain⟨k,hk,rfl,hall,hb⟩:=hrel
   have Hall:=hideW hall
   clear hall
   by_cases hlt:k<memN W
   rotate_left
   ·obtain rfl:k=memN W:=by omega
    go_wp2
    go_ret
    exact⟨BoolIs.yes ⟨HTr.out,Hall.out⟩,below_next hB1 hb⟩
   have hlt':(k:Int)<(memN W:Int):=by omega
   obtain⟨g,cg,e,q0,q1,q2,q3,q4⟩:=(HM.out.below hb).cells k hlt
   have hdd:=(HM.out.below hb).dead k hlt
   obtain⟨-,ad,cd,hvk,-,-⟩:=id hdd
   rw [hvk] at q4 hdd
   cases e
   have hbs:=below_alloc wr (.cells #[.int .i64 (memOf W k).prev,.int .i64 (memOf W k).time,.int .i64 (memOf W k).rs,.int .i64 (memOf W k).rb,.slice ad (memOf W k).dn cd] 224)
   have HV:=hideW (Box5M.new wr (.int .i64 (memOf W k).prev) (.int .i64 (memOf W k).time) (.int .i64 (memOf W k).rs) (.int .i64 (memOf W k).rb) (.slice ad (memOf W k).dn cd) 224)
   have HX2:=hideW ((HX1.out.below hb).below hbs)
   have Hdd:=hideW (hdd.below hbs)
   have hb2:=below_next hb hbs
   have HA2:=hideW (HA.out.below (below_next hB1 hb2))
   have Hp2:=hideW (Hp.out.below (below_next hB1 hb2))
   have Hwk:=hideW (Hwf.out k hlt)
   have HTk:=hideW (HTr.out k hlt)
   have HTo:=hideW (old_of HTr.out (memOf W k).prev)
   have Htk:=hideW (HTm.out (memOf W k).prev)
   have Hpk:=hideW (show MemIk W k↔MemI W (memOf W k) (aheadOf W (memOf W k).prev)from Iff.rfl)
   clear hvk hbs hdd
   generalize memOf W k=mk at *
   go_wp2_with fail
   clear q0 q1 q2 q3 q4
   generalize wr.alloc (.cells #[.int .i64 mk.prev,.int .i64 mk.time,.int .i64 mk.rs,.int .i64 mk.rb,.slice ad mk.dn cd] 224)=W2 at HV HX2 Hdd HA2 Hp2 hb2 ⊢
   generalize wr.heap.size=V at HV ⊢
   obtain⟨⟨y0,-⟩,⟨y1,-⟩,⟨y2,-⟩,⟨y3,-⟩,⟨y4,-⟩⟩:=HV.out
   obtain⟨⟨x0,-⟩,⟨x1,-⟩,⟨x2,-⟩,⟨x3,-⟩,⟨x4,-⟩,⟨x5,-⟩⟩:=HX2.out
   go_region_held3 (fun w'=>w'.cell? ⟨w.heap.size,0,none⟩=some v0∧w'.cell? ⟨w.heap.size,1,none⟩=some v1∧w'.cell? ⟨w.heap.size,2,none⟩=some (.int .i64 W.time)∧w'.cell? ⟨w.heap.size,3,none⟩=some (.int .i64 W.next)∧w'.cell? ⟨w.heap.size,4,none⟩=some v2∧w'.cell? ⟨w.heap.size,5,none⟩=some v3∧w'.cell? ⟨V,0,none⟩=some (.int .i64 mk.prev)∧w'.cell? ⟨V,1,none⟩=some (.int .i64 mk.time)∧w'.cell? ⟨V,2,none⟩=some (.int .i64 mk.rs)∧w'.cell? ⟨V,3,none⟩=some (.int .i64 mk.rb)∧w'.cell? ⟨V,4,none⟩=some (.slice ad mk.dn cd)) (go_keep)
    (first
     | (go_at_call 190; refine(ahead_any lo hi W A mk.prev _ ?_ HD.out Hwk.out hp).mono ?_; (exact HA2.out.below (Below.refl _ _).drew); rintro e w6 ⟨aa,ca,rfl,hpd,hb6⟩; have hC6:=below_undrew hb6; obtain⟨⟨k0,_⟩,⟨k1,_⟩,⟨k2,_⟩,⟨k3,_⟩,⟨k4,_⟩,⟨k5,_⟩⟩:=HX2.out.below hC6; obtain⟨⟨l0,_⟩,⟨l1,_⟩,⟨l2,_⟩,⟨l3,_⟩,⟨l4,_⟩⟩:=HV.out.below hC6)
     | (go_at_call 225; refine(memberRight_any v0 v1 v2 v3 lo hi W mk (aheadOf W mk.prev) ad aa cd ca _ (Hp2.out.below hC6) HR.out HTk.out HTo.out (Hdd.out.below hC6) Htk.out).mono ?_; rintro e w7 ⟨⟨t7,rfl,ht7⟩,hb7⟩; obtain⟨⟨f0,_⟩,⟨f1,_⟩,⟨f2,_⟩,⟨f3,_⟩,⟨f4,_⟩,⟨f5,_⟩⟩:=(HX2.out.below hC6).below hb7; obtain⟨⟨g0,_⟩,⟨g1,_⟩,⟨g2,_⟩,⟨g3,_⟩,⟨g4,_⟩⟩:=(HV.out.below hC6).below hb7))
   have hb8:=below_next (below_next hb2 hC6) hb7
   have Ht:=hideW (ht7.trans Hpk.out.symm)
   clear ht7 hb7 hC6 hb6 hpd k0 k1 k2 k3 k4 k5 l0 l1 l2 l3 l4 f0 f1 f2 f3 f4 f5 g0 g1 g2 g3 g4 x0 x1 x2 x3 x4 x5 y0 y1 y2 y3 y4
   cases t7
   ·have Hn:=hideW (show ¬MemIk W k from fun hA=>absurd (Ht.out.2 hA) (by simp))
    clear Ht
    go_wp2
    go_ret
    exact⟨BoolIs.no fun hA=>Hn.out (hA.2 k hlt),below_next hB1 hb8⟩
   ·have Hn:=hideW (Ht.out.1 rfl)
    clear Ht
    go_wp2
    go_roundw
    case rel=>exact⟨k+1,by omega,by go_num,relNext hlt Hall.out Hn.out,hb8⟩
    case measure=>simp [intOf]; omega
end Go.Proofs.YtmgeglgboadfiaaGreatDoor
