/- What impl.TreePtrs answers; lists of pointers as answers. -/
import Derived.Test.YtihdcanckbkgfaaGreatDoorH25
import Derived.Test.YtihdcanckbkgfaaGreatDoorH9
import Derived.Test.YtihdcanckbkgfaaGreatDoorH13
import Derived.Test.YtihdcanckbkgfaaGreatDoorH20
import Derived.Test.YtihdcanckbkgfaaGreatDoorH18
import Derived.Test.YtihdcanckbkgfaaGreatDoorH24
import Derived.Test.YtihdcanckbkgfaaGreatDoorH11
import Derived.Test.YtihdcanckbkgfaaGreatDoorH3
import Derived.Deep.RegionHeld3
import Derived.Test.YtihdcanckbkgfaaGreatDoorH12
import Derived.Test.YtihdcanckbkgfaaGreatDoorProg
import GoSem.ClaimJoined
import GoSem.ClaimMapViews
import Derived.JoinedTies
import Derived.KernelRfl
import Derived.RowKit
import Derived.Test.YtihdcanckbkgfaaGreatDoorH1
import Derived.Deep.QuietTactic
import Derived.BigQuiet
namespace Go.Proofs.YtihdcanckbkgfaaGreatDoor
open Go.RowKit
set_option linter.unusedVariables false
def TreeList(p:PoolD)(xs xb:Int)(l:List (Int×Int)):Prop:=(TreeR p xs xb→l=treeL p xs xb)∧(¬TreeR p xs xb→l = [])
def NewPtrs(p:PoolD)(xs xb:Int)(w:World)(e:Ending)(w':World):Prop:=∃v l,e = .returned v∧TreeList p xs xb l∧RowL w' w.heap.size v l∧Below w.heap.size w w'
set_option maxRecDepth 20000 in
set_option maxHeartbeats 1000000 in
theorem implTreePtrs_any(v0 v1:Value)(lo hi:Nat)(p:PoolD)(xs xb:Int)(w:World)(h1:PoolAt w lo hi v0 v1 p) :
  Calls Tryz.prog 122 #[.agg #[v0,v1],.agg #[.int .i64 xs,.int .i64 xb]] w (NewPtrs p xs xb w):=by
 have Hp:=hideT h1
 obtain⟨a,c,a',c',rfl,rfl⟩:∃a c a' c',v0 = .slice a p.n c∧v1 = .slice a' p.hn c':=by
  obtain⟨⟨_,a,c,h1,_⟩,⟨_,a',c',h3,_⟩⟩:=h1
  exact⟨a,c,a',c',h1,h3⟩
 clear h1
 have hst:=start22 w (.slice a p.n c) (.slice a' p.hn c') (.int .i64 xs) (.int .i64 xb) 33 56
 go_enter Tryz.func122,Tryz.ntmps122
 go_wp2_with fail
 generalize (w.alloc (.cells #[.slice a p.n c,.slice a' p.hn c'] 33)).alloc (.cells #[.int .i64 xs,.int .i64 xb] 56)=W at hst ⊢
 obtain⟨hB,hX,hba,hz⟩:=hst
 refine(implTreeRight_any _ _ lo hi p xs xb W (Hp.out.below hba)).mono ?_
 rintro e w1 ⟨⟨t,rfl,ht⟩,hb1⟩
 have HB1:=hideT (hB.below hb1)
 have HX1:=hideT (hX.below hb1)
 have hB1:=below_next hba hb1
 clear hB hX hba hb1 hz
 by_cases hR:TreeR p xs xb
 ·have HR:=hideT hR
  obtain rfl:t=true:=ht.2 hR
  clear ht hR
  have HP:=hideT (show Nil xs xb∨Points p xs xb from HR.out.2.imp id (fun h=>h.1.1))
  obtain⟨⟨x0,x1⟩,⟨x2,x3⟩⟩:=HB1.out
  obtain⟨⟨y0,y1⟩,⟨y2,y3⟩⟩:=HX1.out
  go_wp2_with fail
  refine(ptrs0_any p HR.out.1 _ lo hi xs xb _ (Hp.out.1.below hB1) HP.out).mono ?_
  rintro e w2 ⟨v,rfl,hr,hb2⟩
  obtain⟨va,vc,rfl,_⟩:=owns_form hr
  have Hr:=hideT (show RowL w2 w1.heap.size (.slice va (treeL p xs xb).length vc) (treeL p xs xb)from hr)
  have hB2:=below_next hB1 hb2
  have hz1:=hB1.size
  clear hb2 hr
  go_wp2
  go_ret
  exact⟨_,treeL p xs xb,rfl,⟨fun _=>rfl,fun h=>absurd HR.out h⟩,Hr.out.mono hz1,hB2⟩
 ·have HR:=hideT hR
  obtain rfl:t=false:=bool_no ht hR
  clear ht hR
  go_wp2
  go_ret
  exact⟨_,[],rfl,⟨fun h=>absurd h HR.out,fun _=>rfl⟩,RowL.nil _ _,hB1⟩
structure RowV (w:World) (lo hi:Nat) (v:Value) (n:Nat) (f g:Nat→Int) (b:Nat):Prop where
 own:PtrsOwn w b v n f g
 place:0<n→lo≤b∧b<hi
theorem RowV.below{w w':World}{lo hi:Nat}{v:Value}{n:Nat}{f g:Nat→Int}{b:Nat}(h:RowV w lo hi v n f g b)(t:Below w.heap.size w w'):RowV w' lo hi v n f g b:=⟨h.own.below t,h.place⟩
theorem RowV.turned{S:Nat→Prop}{w w':World}{lo hi:Nat}{v:Value}{n:Nat}{f g:Nat→Int}{b:Nat}(h:RowV w lo hi v n f g b)(t:Turned S w w')(hs:∀k,S k→k<lo∨hi≤k):RowV w' lo hi v n f g b:=
 ⟨h.own.turned t (fun h0 hx=>by have:=h.place h0; have:=hs _ hx; omega),h.place⟩
theorem RowV.at'{w:World}{lo hi:Nat}{v:Value}{n:Nat}{f g:Nat→Int}{b:Nat}(h:RowV w lo hi v n f g b):PtrsAt w lo hi v n f g:=h.own.at h.place
theorem field_timeE(v:Value)(s:SnapD)(w:World):(Instr.field 91 (.agg #[.int .i64 s.id,.string s.name,.string s.set,.int .i64 s.prev,.int .i64 s.time,.int .i64 s.rs,.int .i64 s.rb,v]) 4).run Tryz.prog w = .ok (.int .i64 s.time) w:=by kernel_rfl
set_option maxRecDepth 20000 in
set_option maxHeartbeats 2000000 in
theorem chAhead_any(C lo hi:Nat)(z0 z1 z2 z3 u6 u7 u8:Value)(W:WorldD)(x:Int)(w:World)(h:WorldAt w lo hi z0 z1 z2 z3 W)(hC:Box9 w C z0 z1 (.int .i64 W.time) (.int .i64 W.next) z2 z3 u6 u7 u8)(hn:W.pn≤20)(hwf:IdsWf W.pn W.snaps)(hD:IdsDist W)(hx:(Lit.int .i64 x).wf=true) :
  Calls Tryz.prog 101 #[.pointer (some ⟨C,0,none⟩),.int .i64 x] w fun e w'=>∃a c,e = .returned (snapV (.slice a (aheadOf W x).dn c) (aheadOf W x))∧Below w.heap.size w w':=by
 have Hp:=hideW h
 obtain⟨l0,lc0,l1,lc1,l2,lc2,l3,lc3,rfl,rfl,rfl,rfl⟩:=h.form
 have HD:=hideW hD
 have Hwf:=hideW hwf
 have Hx:=hideW hx
 have ha:=below_alloc w (.cells #[.int .i64 0,.string ⟨#[]⟩,.string ⟨#[]⟩,.int .i64 0,.int .i64 0,.int .i64 0,.int .i64 0,.slice none 0 0] 91)
 obtain⟨⟨x0,-⟩,⟨x1,-⟩,⟨x2,-⟩,⟨x3,-⟩,⟨x4,-⟩,⟨x5,-⟩,-⟩:=hC.below ha
 have HR:=hideW (Box8.new w (.int .i64 0) (.string ⟨#[]⟩) (.string ⟨#[]⟩) (.int .i64 0) (.int .i64 0) (.int .i64 0) (.int .i64 0) (.slice none 0 0) 91)
 clear h hD hwf hx hC
 obtain⟨S,hS⟩:∃S,S=aheadOf W x:=⟨_,rfl⟩
 rw [←hS]
 unfold snapV
 have HS:=hideW hS
 clear hS
 go_enter Tryz.func101,Tryz.ntmps101
 go_wp2_with fail
 clear x0 x1 x2 x3 x4 x5
 generalize w.alloc (.cells #[.int .i64 0,.string ⟨#[]⟩,.string ⟨#[]⟩,.int .i64 0,.int .i64 0,.int .i64 0,.int .i64 0,.slice none 0 0] 91)=W1 at ha HR ⊢
 refine(aheadIn_any _ _ _ _ lo hi W W1 (Hp.out.below ha) hn Hwf.out).mono ?_
 rintro e w2 ⟨A,rfl,hA,hb2⟩
 have HA:=hideW hA
 clear hA
 go_wp2_with fail
 refine(ahead_any lo hi W A x w2 HA.out HD.out Hx.out hn).mono ?_
 rw [←HS.out]
 unfold snapV
 rintro e w3 ⟨a,c,rfl,hpd,hb3⟩
 have hb:=below_next (below_next ha hb2) hb3
 have HR3:=hideW ((HR.out.below hb2).below hb3)
 clear hpd
 obtain⟨⟨⟨r0,g0⟩,⟨r1,g1⟩,⟨r2,g2⟩,⟨r3,g3⟩⟩,⟨r4,g4⟩,⟨r5,g5⟩,⟨r6,g6⟩,⟨r7,g7⟩⟩:=HR3.out
 go_wp2_with fail
 have HRz:=HR3.out.put (.int .i64 S.id) (.string S.name) (.string S.set) (.int .i64 S.prev) (.int .i64 S.time) (.int .i64 S.rs) (.int .i64 S.rb) (.slice a S.dn c)
 have hT:=Turned.put8 w3 w.heap.size (.int .i64 S.id) (.string S.name) (.string S.set) (.int .i64 S.prev) (.int .i64 S.time) (.int .i64 S.rs) (.int .i64 S.rb) (.slice a S.dn c)
 clear r0 g0 r1 g1 r2 g2 r3 g3 r4 g4 r5 g5 r6 g6 r7 g7
 refine bodyPost_ret (v:=.agg #[.int .i64 S.id,.string S.name,.string S.set,.int .i64 S.prev,.int .i64 S.time,.int .i64 S.rs,.int .i64 S.rb,.slice a S.dn c]) (by simp [results,Tryz.results101,go_sem,HRz.1.1.1,HRz.1.2.1.1,HRz.1.2.2.1.1,HRz.1.2.2.2.1,HRz.2.1.1,HRz.2.2.1.1,HRz.2.2.2.1.1,HRz.2.2.2.2.1]) rfl ⟨a,c,rfl,?_⟩
 ·exact hb.trans (hT.below (B:=w.heap.size) hb.size (fun k e=>by omega))
noncomputable def shedL(W:WorldD)(s:SetD):List (Int×Int):=youngL (fstL (treeL W.pool s.rs s.rb)) (sndL (treeL W.pool s.rs s.rb)) (aheadOf W s.prev).time (treeL W.pool s.rs s.rb).length
theorem getL{l:List (Int×Int)}{i:Nat}(hi:i<l.length):(fstL l i,sndL l i)∈l:=by
 have e:(fstL l i,sndL l i)=l[i]:=by
  unfold fstL sndL
  rw [List.getD_eq_getElem?_getD,List.getElem?_eq_getElem hi]
  rfl
 rw [e]
 exact List.getElem_mem hi
theorem rowL_all(l:List (Int×Int)):((List.range l.length).map fun i=>(fstL l i,sndL l i))=l:=by
 refine List.ext_getElem (by simp) (fun i h1 h2=>?_)
 rw [List.getElem_map,List.getElem_range]
 unfold fstL sndL
 rw [List.getD_eq_getElem?_getD,List.getElem?_eq_getElem h2]
 rfl
theorem ptrs_tree{p:PoolD}{rs rb:Int}(hR:Right p)(hT:TreeOk p rs rb):PtrsOk (treeL p rs rb).length (fstL (treeL p rs rb)) (sndL (treeL p rs rb)):=by
 refine⟨by have:=treeL_len p rs rb; omega,fun i hi=>?_,fun i hi k hk e=>?_⟩
 ·have h:=tree_mem hR hT (getL hi)
  have hf:=points_fits hR h.1
  have hb:=hf.1
  have h1:=h.1
  have h2:=hR.1
  unfold Points at h1
  unfold BirthOk at hb
  unfold PtrOk
  dsimp only at h1 hb ⊢
  have h3:=h1.2.2.2
  omega
 ·have hn:=(HoldOk.tree hR hT).2.2
  have hi':i<((treeL p rs rb).map Prod.fst).length:=by rw [List.length_map]; exact hi
  have hk':k<((treeL p rs rb).map Prod.fst).length:=by rw [List.length_map]; omega
  have e1:∀j (hj:j<((treeL p rs rb).map Prod.fst).length),((treeL p rs rb).map Prod.fst)[j]=fstL (treeL p rs rb) j:=fun j hj=>by
   rw [List.length_map] at hj
   rw [List.getElem_map]
   unfold fstL
   rw [List.getD_eq_getElem?_getD,List.getElem?_eq_getElem hj]
   rfl
  have:=(List.getElem_inj (h₀:=hk') (h₁:=hi') hn).1 (by rw [e1,e1]; exact e)
  omega
theorem shed_ok{W:WorldD}{s:SetD}(hR:Right W.pool)(hT:TreeOk W.pool s.rs s.rb):HoldOk W.pool (shedL W s):=by
 refine(HoldOk.tree hR hT).sub ?_
 have:=young_sub (fstL (treeL W.pool s.rs s.rb)) (sndL (treeL W.pool s.rs s.rb)) (aheadOf W s.prev).time (treeL W.pool s.rs s.rb).length
 rwa [rowL_all] at this
set_option maxRecDepth 20000 in
set_option maxHeartbeats 2000000 in
theorem shed_any(C bs o2:Nat)(P Q R:Nat→Prop)(z0 z1 z2 z3 u8:Value)(id m:Int)(W:WorldD)(s:SetD)(w:World)(hin:WorldIn w P Q R z0 z1 z2 z3 W)(hltS:∀j,P j∨Q j∨R j→C+1≤j∧j<w.heap.size)(hC:Box9 w C z0 z1 (.int .i64 W.time) (.int .i64 W.next) z2 z3 (.int .i64 id) (.int .i64 m) u8)(hs:(fun w':World=>w'.cell? ⟨bs,o2+2,none⟩=some (.int .i64 s.prev)∧w'.cell? ⟨bs,o2+3,none⟩=some (.int .i64 s.rs)∧w'.cell? ⟨bs,o2+4,none⟩=some (.int .i64 s.rb)) w)(hbs:bs≠C)(hR:Right W.pool)(hT:TreeOk W.pool s.rs s.rb)(ht:TimeOk (aheadOf W s.prev).time)(hn:W.pn≤20)(hwf:IdsWf W.pn W.snaps)(hD:IdsDist W)(hx:(Lit.int .i64 s.prev).wf=true)(hm:0≤m)(hm':m≤900000) :
  Calls Tryz.prog 80 #[.pointer (some ⟨C,0,none⟩),.pointer (some ⟨bs,o2,none⟩)] w fun e w'=>(∃v,e = .returned v)∧∃y0 y1,Box9 w' C y0 y1 (.int .i64 W.time) (.int .i64 W.next) z2 z3 (.int .i64 id) (.int .i64 (m+((shedL W s).length:Int))) u8∧PoolIn w' (fun j=>P j∨(w.heap.size≤j∧j<w'.heap.size)) y0 y1 (holdAll W.pool (shedL W s))∧Turned (fun j=>j=C) w w':=by
 have hWat:WorldAt w 0 w.heap.size z0 z1 z2 z3 W:=WorldOwn.at (lo:=0) (hi:=w.heap.size) ⟨P,Q,R,hin,fun k hk=>⟨Nat.zero_le _,(hltS k hk).2⟩⟩
 obtain⟨l0,lc0,l1,lc1,l2,lc2,l3,lc3,rfl,rfl,rfl,rfl⟩:=hWat.form
 have hbl:bs<w.heap.size:=lt_of_cell hs.1
 have hCl:=hC.1.lt
 have HC:=hideW hC
 have HP:=hideW hin.pool
 have HPl:=hideW (show ∀k,P k→C<k∧k<w.heap.size from fun k hk=>by have:=hltS k (Or.inl hk); omega)
 have HOk:=hideW (ptrs_tree hR hT)
 have HHo:=hideW (shed_ok hR hT)
 have Ht:=hideW ht
 have HTP:=hideW (show ∀w',Below w.heap.size w w'→Calls Tryz.prog 122 #[.agg #[.slice l0 W.pool.n lc0,.slice l1 W.pool.hn lc1],.agg #[.int .i64 s.rs,.int .i64 s.rb]] w' fun e w''=>∃a c,e = .returned (.slice a (treeL W.pool s.rs s.rb).length c)∧RowL w'' w'.heap.size (.slice a (treeL W.pool s.rs s.rb).length c) (treeL W.pool s.rs s.rb)∧Below w'.heap.size w' w'' from fun w' hb'=>by
  refine(implTreePtrs_any _ _ 0 w.heap.size W.pool s.rs s.rb w' (hWat.pool.below hb')).mono ?_
  rintro e w2 ⟨v,l,rfl,hl,hr,hb2⟩
  rw [hl.1 ⟨hR,hT⟩] at hr
  obtain⟨a,c,rfl,-⟩:=owns_form hr
  exact⟨a,c,rfl,hr,hb2⟩)
 have HAH:=hideW (show ∀w',Below w.heap.size w w'→Calls Tryz.prog 101 #[.pointer (some ⟨C,0,none⟩),.int .i64 s.prev] w' fun e w''=>(∃a c,e = .returned (snapV (.slice a (aheadOf W s.prev).dn c) (aheadOf W s.prev)))∧Below w'.heap.size w' w'' from fun w' hb'=>by
  refine(chAhead_any C 0 w.heap.size _ _ _ _ _ _ _ W s.prev w' (hWat.below hb') (hC.below hb') hn hwf hD hx).mono ?_
  rintro e w2 ⟨a,c,rfl,hb2⟩
  exact⟨⟨a,c,rfl⟩,hb2⟩)
 have HKP:=hideW (show ∀w',Below w.heap.size w w'→(fun w':World=>w'.cell? ⟨bs,o2+2,none⟩=some (.int .i64 s.prev)∧w'.cell? ⟨bs,o2+3,none⟩=some (.int .i64 s.rs)∧w'.cell? ⟨bs,o2+4,none⟩=some (.int .i64 s.rb)) w' from fun w' hb=>⟨(hb.cell (p:=⟨bs,o2+2,none⟩) hbl).trans hs.1,(hb.cell (p:=⟨bs,o2+3,none⟩) hbl).trans hs.2.1,(hb.cell (p:=⟨bs,o2+4,none⟩) hbl).trans hs.2.2⟩)
 have hmf:∀(fn:Fn) (first cap:Array Value) (w:World),(Instr.makeFunc fn first cap).run Tryz.prog w = .ok (.func fn first cap) w:=fun _ _ _ _=>rfl
 have hb0:Below w.heap.size w w.drew:=(Below.refl _ _).drew
 obtain⟨⟨x0,-⟩,⟨x1,-⟩,-⟩:=hC.below hb0
 unfold shedL at HHo ⊢
 generalize treeL W.pool s.rs s.rb=L at HOk HHo HTP ⊢
 generalize aheadOf W s.prev=A at HHo HAH Ht ⊢
 unfold snapV at HAH
 have hft:=fun (a:Option Addr) (c:Nat) (w:World)=>field_timeE (.slice a A.dn c) A w
 clear hin hltS hC hs hR hT ht hn hwf hD hx hWat
 go_enter Tryz.func80,Tryz.ntmps80
 go_wp2_with fail
 refine wp_region_held_drew (S:=(fun w':World=>w'.cell? ⟨bs,o2+2,none⟩=some (.int .i64 s.prev)∧w'.cell? ⟨bs,o2+3,none⟩=some (.int .i64 s.rs)∧w'.cell? ⟨bs,o2+4,none⟩=some (.int .i64 s.rb))) (by kernel_rfl) (HKP.out _ hb0) (fun hHeld=>?_)
 generalize w.drew=q0 at hHeld x0 x1 hb0 ⊢
 refine tk 0 (h:=tk 1 (h:=tk 2 (h:=tk 3 (h:=tk 5 (h:=tk 6 (h:=tk 7 (h:=tk 8 (h:=tk 10 (h:=tk 11 (h:=tk 12 (h:=tk 13 (h:=tk 14 (h:=tk 17 (h:=tk 18 (h:=?_)))))))))))))))
 refine rd [4] (rc (fun K hK=>?_) .nil)
 go_simp
 (try go_wp2_with fail)
 refine hK.out _ _ (HKP.out _ hb0) ?_
 clear hK K
 intro hHeld
 try simp only [Act.put,s1,s2,s3]
 clear x0 x1
 refine rd [9] (rc (fun K hK=>?_) .nil)
 go_simp
 go_at_call 122
 refine(HTP.out _ hb0).mono ?_
 rintro e w2 ⟨a2,c2,rfl,hr2,hb2⟩
 have HR2:=hideW hr2
 have hb2':=below_next hb0 hb2
 clear hr2
 (try go_wp2_with fail)
 refine hK.out _ _ (HKP.out _ hb2') ?_
 clear hK K
 intro hHeld
 try simp only [Act.put,s1,s2,s3]
 refine rd [15] (rc (fun K hK=>?_) .nil)
 go_simp
 go_at_call 101
 refine(HAH.out _ hb2').mono ?_
 rintro e w3 ⟨⟨a3,c3,rfl⟩,hb3⟩
 have hb3':=below_next hb2' hb3
 have HR3:=hideW (RowL.below HR2.out hb3)
 (try go_wp2_with fail)
 refine hK.out _ _ (HKP.out _ hb3') ?_
 clear hK K
 intro hHeld
 try simp only [Act.put,s1,s2,s3]
 refine tk 16 (h:=?_)
 refine rd [19] (rc (fun K hK=>?_) .nil)
 go_simp
 go_at_call 121
 have hz0:=hb0.size
 have hz3:=hb3'.size
 have hpt:PtrsAt w3 0 w3.heap.size (.slice a2 L.length c2) L.length (fstL L) (sndL L):=by
  obtain⟨b,ho,hb⟩:=RowL.own HR3.out (by have:=HOk.out.1; unfold maxLen; omega)
  exact ho.at (fun h0=>⟨Nat.zero_le _,(hb h0).2.2⟩)
 refine(letGo_any C 0 w3.heap.size L.length P _ _ _ _ u8 _ W.time W.next id m A.time W.pool (fstL L) (sndL L) w3 hpt HOk.out Ht.out HHo.out (HC.out.below hb3') (HP.out.below hb3') (fun k hk=>by have:=HPl.out k hk; omega) hm hm').mono ?_
 rintro e wz ⟨vo,y0,y1,rfl,-,hCz,hPz,hTz⟩
 have HCz:=hideW hCz
 have HPz:=hideW hPz
 have HTz:=hideW (show Turned (fun j=>j=C) w wz from(Turned.of_below hb3').trans hTz)
 clear hCz hPz hpt
 (try go_wp2_with fail)
 refine hK.out _ _ ?_ ?_
 ·have h:=HKP.out _ hb3'
  have hbl3:bs<w3.heap.size:=by omega
  exact⟨(hTz.cell (o:=o2+2) hbl3 hbs).trans h.1,(hTz.cell (o:=o2+3) hbl3 hbs).trans h.2.1,(hTz.cell (o:=o2+4) hbl3 hbs).trans h.2.2⟩
 clear hK K hHeld
 intro hHeld
 try simp only [Act.put,s1,s2,s3]
 refine wpAnyH_done (by kernel_rfl) ?_ _
 go_wp2_with fail
 go_end0
 exact⟨⟨_,rfl⟩,y0,y1,HCz.out,HPz.out.mono (fun j h=>h.imp (fun h=>h) (fun h=>⟨by omega,h.2⟩)),HTz.out⟩
set_option maxRecDepth 20000 in
set_option maxHeartbeats 2000000 in
theorem chSet1_any(s:SetD)(a:Option Addr)(c B:Nat)(name:ByteArray)(w:World)(h0:w.cell? ⟨B,0,none⟩=some (.string name)) :
  Calls Tryz.prog 125 #[.agg #[.string s.name,.int .i64 s.origin,.int .i64 s.prev,.int .i64 s.rs,.int .i64 s.rb,.slice a s.dn c],.pointer (some ⟨B,0,none⟩)] w fun e w'=>BoolIs (s.name=name) e∧Below w.heap.size w w':=by
 have ha:=below_alloc w (.cells #[.string s.name,.int .i64 s.origin,.int .i64 s.prev,.int .i64 s.rs,.int .i64 s.rb,.slice a s.dn c] 61)
 have k0:=(ha.cell (lt_of_cell h0)).trans h0
 clear h0
 obtain⟨⟨x0,-⟩,⟨x1,-⟩,⟨x2,-⟩,⟨x3,-⟩,⟨x4,-⟩,⟨x5,-⟩⟩:=Box6.new w (.string s.name) (.int .i64 s.origin) (.int .i64 s.prev) (.int .i64 s.rs) (.int .i64 s.rb) (.slice a s.dn c) 61
 by_cases e1:s.name=name
 ·skip
  have a1:=str_eq e1
  have H:=hideW e1
  clear e1
  go_enter Tryz.func125,Tryz.ntmps125
  go_wp2
  go_ret
  exact⟨BoolIs.yes H.out,ha⟩
 ·skip
  have a1:=str_ne e1
  have H:=hideW e1
  clear e1
  go_enter Tryz.func125,Tryz.ntmps125
  go_wp2
  go_ret
  exact⟨BoolIs.no H.out,ha⟩
theorem first_at{n k:Nat}{f:Nat→SetD}{name:ByteArray}{e:Ending}(hn:(f k).name=name)(hf:∀j,j<k→(f j).name≠name)(hk:k<n)
  (hr:(∃i:Nat,i<n∧(f i).name=name∧(∀j,j<i→¬(f j).name=name)∧e = .returned (.int .i64 (i:Int)))∨((∀j,j<n→¬(f j).name=name)∧e = .returned (.int .i64 (-1)))):e = .returned (.int .i64 (k:Int)):=by
 rcases hr with⟨i,hi,h1,h2,rfl⟩ | ⟨h1,_⟩
 ·obtain rfl:i=k:=by
   rcases Nat.lt_trichotomy i k with h | h | h
   ·exact absurd h1 (hf i h)
   ·exact h
   ·exact absurd hn (h2 k h)
  rfl
 ·exact absurd hn (h1 k hk)
set_option maxRecDepth 20000 in
set_option maxHeartbeats 2000000 in
theorem chSet_any(C lo hi n k c2:Nat)(a2:Option Addr)(f:Nat→SetD)(name:ByteArray)(w:World)(hc:w.cell? ⟨C,4,none⟩=some (.slice a2 n c2))(hS:SetsAt w lo hi (.slice a2 n c2) n f)(hn:n≤8)(hk:k<n)(hname:(f k).name=name)(hfirst:∀j,j<k→(f j).name≠name) :
  Calls Tryz.prog 81 #[.pointer (some ⟨C,0,none⟩),.string name] w fun e w'=>(∃b off,a2=some ⟨b,off,none⟩∧e = .returned (.pointer (some ⟨b,off+k*6,none⟩)))∧Below w.heap.size w w':=by
 have Hp:=hideW hS
 have Hn:=hideW hname
 have Hf:=hideW hfirst
 obtain⟨b,off,vd,rfl,-⟩:=hS.cells hk
 clear hS hname hfirst
 have ha:=below_alloc w (.cells #[.string name] 9)
 have c0:(w.alloc (.cells #[.string name] 9)).cell? ⟨w.heap.size,0,none⟩=some (.string name):=World.cell?_alloc_at _ _ _ _ rfl
 have hc1:=(ha.cell (lt_of_cell hc)).trans hc
 have C0:=hideW c0
 have hk':(k:Int)<(n:Int):=by omega
 clear c0 hc
 go_enter Tryz.func81,Tryz.ntmps81
 go_wp2_with fail
 generalize w.alloc (.cells #[.string name] 9)=W1 at ha hc1 C0 ⊢
 have IX:=hideW (show ∀w',Below W1.heap.size W1 w'→Calls Tryz.prog 124 #[.slice (some ⟨b,off,none⟩) n c2,.func (.func 125) #[] #[.pointer (some ⟨w.heap.size,0,none⟩)]] w' fun e w''=>e = .returned (.int .i64 (k:Int))∧Below w'.heap.size w' w'' from fun w' hb'=>by
  refine(indexSet_any 125 #[.pointer (some ⟨w.heap.size,0,none⟩)] (enters_of Tryz.func125 (by kernel_rfl) rfl) (fun i=>(f i).name=name) _ n lo hi f w' ((Hp.out.below ha).below hb') (by omega) (fun i hi' a c w'' hbw hp=>chSet1_any (f i) a c _ name w'' (((below_next hb' hbw).cell (lt_of_cell C0.out)).trans C0.out))).mono ?_
  rintro e w2 ⟨hr,hb2⟩
  exact⟨first_at Hn.out Hf.out hk hr,hb2⟩)
 go_region_held3 (fun w'=>w'.cell? ⟨C,4,none⟩=some (.slice (some ⟨b,off,none⟩) n c2)) (go_keep)
  (first | (go_at_call 124; refine(IX.out _ (Below.refl _ _).drew).mono ?_; rintro e w2 ⟨rfl,hb2⟩; have hb2':=below_undrew hb2; have hc2:=(hb2'.cell (lt_of_cell hc1)).trans hc1))
 go_wp2
 go_ret
 exact⟨⟨b,off,rfl,rfl⟩,below_next ha hb2'⟩
end Go.Proofs.YtihdcanckbkgfaaGreatDoor

namespace Go.Proofs.YtihdcanckbkgfaaGreatDoor
open Go.RowKit Go.Maps
set_option linter.unusedVariables false

def setN(s:SetD):Nat:=s.name.size+s.dn
def setsN(f:Nat→SetD):Nat→Nat
 | 0=>0
 | k+1=>setsN f k+setN (f k)
def snapN(s:SnapD):Nat:=s.name.size+s.set.size+s.dn
def snapsN(f:Nat→SnapD):Nat→Nat
 | 0=>0
 | k+1=>snapsN f k+snapN (f k)
def worldN(W:WorldD):Nat:=poolN W.pool+(W.sn+setsN W.sets W.sn)+(W.pn+snapsN W.snaps W.pn)
set_option maxRecDepth 20000 in
set_option maxHeartbeats 400000 in
theorem szSet_any(v:Value)(lo hi:Nat)(s:SetD)(left:Int)(w:World)(h1:PtrsAt w lo hi v s.dn s.ds s.db)(m1:s.name.size≤maxLen)(hl0:0≤left)(hl1:left≤1048576) :
  Calls Tryz.prog 57 #[setV v s,.int .i64 left] w fun e w'=>LeftIs (setN s) left e∧Below w.heap.size w w':=by
 unfold setV
 have H1:=hideW h1
 obtain⟨-,a,c,rfl,-⟩:=id h1
 clear h1
 unfold maxLen at m1
 have hbw:=below_alloc w (.cells #[.string s.name,.int .i64 s.origin,.int .i64 s.prev,.int .i64 s.rs,.int .i64 s.rb,.slice a s.dn c] 99)
 go_enter Tryz.func57,Tryz.ntmps57
 by_cases h:left - (s.name.size:Int)<0
 ·go_wp2
  go_ret
  exact⟨⟨-1,rfl,by omega,by omega,by omega⟩,hbw⟩
 ·go_wp2_with fail
  refine(szPtrS_any _ s.dn lo hi _ _ _ _ (H1.out.below hbw) (by omega) (by omega)).mono ?_
  rintro e w1 ⟨⟨r,rfl,hr1,hr2,hr3⟩,hb1⟩
  have hb2:=below_next hbw hb1
  have Hr:=hideW hr1
  clear hr1 hb1 hbw
  by_cases h2:r<0
  ·go_wp2
   go_ret
   exact⟨⟨-1,rfl,by omega,by omega,by omega⟩,hb2⟩
  ·go_wp2
   go_ret
   refine⟨⟨_,rfl,fun _=>?_,by omega,by omega⟩,hb2⟩
   have:=Hr.out (by omega)
   unfold setN
   omega
set_option maxRecDepth 20000 in
set_option maxHeartbeats 400000 in
theorem szSnap_any(v:Value)(lo hi:Nat)(s:SnapD)(left:Int)(w:World)(h1:PtrsAt w lo hi v s.dn s.ds s.db)(m1:s.name.size≤maxLen)(m2:s.set.size≤maxLen)(hl0:0≤left)(hl1:left≤1048576) :
  Calls Tryz.prog 58 #[snapV v s,.int .i64 left] w fun e w'=>LeftIs (snapN s) left e∧Below w.heap.size w w':=by
 unfold snapV
 have H1:=hideW h1
 obtain⟨-,a,c,rfl,-⟩:=id h1
 clear h1
 unfold maxLen at m1 m2
 have hbw:=below_alloc w (.cells #[.int .i64 s.id,.string s.name,.string s.set,.int .i64 s.prev,.int .i64 s.time,.int .i64 s.rs,.int .i64 s.rb,.slice a s.dn c] 102)
 go_enter Tryz.func58,Tryz.ntmps58
 by_cases h:left - (s.name.size:Int)<0
 ·go_wp2
  go_ret
  exact⟨⟨-1,rfl,by omega,by omega,by omega⟩,hbw⟩
 ·by_cases h':left - (s.name.size:Int) - (s.set.size:Int)<0
  ·go_wp2
   go_ret
   exact⟨⟨-1,rfl,by omega,by omega,by omega⟩,hbw⟩
  ·go_wp2_with fail
   refine(szPtrS_any _ s.dn lo hi _ _ _ _ (H1.out.below hbw) (by omega) (by omega)).mono ?_
   rintro e w1 ⟨⟨r,rfl,hr1,hr2,hr3⟩,hb1⟩
   have hb2:=below_next hbw hb1
   have Hr:=hideW hr1
   clear hr1 hb1 hbw
   by_cases h2:r<0
   ·go_wp2
    go_ret
    exact⟨⟨-1,rfl,by omega,by omega,by omega⟩,hb2⟩
   ·go_wp2
    go_ret
    refine⟨⟨_,rfl,fun _=>?_,by omega,by omega⟩,hb2⟩
    have:=Hr.out (by omega)
    unfold snapN
    omega
end Go.Proofs.YtihdcanckbkgfaaGreatDoor

namespace Go.Proofs.YtihdcanckbkgfaaGreatDoor
open Go.RowKit
set_option linter.unusedVariables false
set_option maxRecDepth 20000 in
set_option maxHeartbeats 400000 in
theorem eqPtr_any(a b c d:Int)(w:World) :
  Calls Tryz.prog 138 #[.agg #[.int .i64 a,.int .i64 b],.agg #[.int .i64 c,.int .i64 d]] w fun e w'=>BoolIs (PtrEq a b c d) e∧Below w.heap.size w w':=by
 by_cases h1:a=c
 ·by_cases h2:b=d
  ·subst h1 h2
   go_enter Tryz.func138,Tryz.ntmps138
   go_wp2
   go_ret
   exact⟨BoolIs.yes ⟨rfl,rfl⟩,((Below.refl _ _).alloc (Nat.le_refl _) _).alloc (by simp) _⟩
  ·subst h1
   have hb:(b != d)=true:=by simp [h2]
   have H2:Hid (¬PtrEq a b a d):=fun h=>h2 h.2
   clear h2
   go_enter Tryz.func138,Tryz.ntmps138
   go_wp2
   go_ret
   exact⟨BoolIs.no H2.out,((Below.refl _ _).alloc (Nat.le_refl _) _).alloc (by simp) _⟩
 ·have hb:(a != c)=true:=by simp [h1]
  have H2:Hid (¬PtrEq a b c d):=fun h=>h1 h.1
  clear h1
  go_enter Tryz.func138,Tryz.ntmps138
  go_wp2
  go_ret
  exact⟨BoolIs.no H2.out,((Below.refl _ _).alloc (Nat.le_refl _) _).alloc (by simp) _⟩
set_option maxRecDepth 20000 in
set_option maxHeartbeats 400000 in
theorem eqInt64S_any(v v':Value)(n n' lo hi lo' hi':Nat)(f f':Nat→Int)(w:World)(h1:IntsAt w lo hi v n f)(h2:IntsAt w lo' hi' v' n' f') :
  Calls Tryz.prog 88 #[v,v'] w fun e w'=>BoolIs (IntsEq n n' f f') e∧Below w.heap.size w w':=by
 obtain⟨m1,a,c,rfl,mc,g1⟩:=h1
 obtain⟨m2,a',c',rfl,mc',g2⟩:=h2
 unfold maxLen at m1 m2
 by_cases hn:n=n'
 ·subst hn
  have hne:((n:Int) != (n:Int))=false:=by simp
  go_enter Tryz.func88,Tryz.ntmps88
  go_wp2
  go_loopw [5] (fun i wr=>∃k:Nat,k≤n∧i = .int .i64 k∧(∀j,j<k→f j=f' j)∧Below w.heap.size w wr) (fun i _=>n - (intOf i).toNat)
  case atStart=>exact⟨0,Nat.zero_le _,rfl,fun j h=>absurd h (Nat.not_lt_zero _),Below.refl _ _⟩
  case round=>
   obtain⟨k,hk,rfl,hall,hb⟩:=hrel
   have Hall:Hid (∀j,j<k→f j=f' j):=hall
   clear hall
   by_cases hlt:k<n
   ·have hlt':(k:Int)<(n:Int):=by omega
    obtain⟨b,off,rfl,_,_,k1⟩:=g1 (by omega)
    obtain⟨b',off',rfl,_,_,k2⟩:=g2 (by omega)
    have hc1:wr.cell? ⟨b,off+k,none⟩=some (.int .i64 (f k)):=(hb.cell (lt_of_cell (k1 k hlt))).trans (k1 k hlt)
    have hc2:wr.cell? ⟨b',off'+k,none⟩=some (.int .i64 (f' k)):=(hb.cell (lt_of_cell (k2 k hlt))).trans (k2 k hlt)
    clear k1 k2 g1 g2
    by_cases he:f k=f' k
    ·have he':(f k != f' k)=false:=by simp [he]
     have He:Hid (f k=f' k):=he
     clear he
     go_wp2_with fail
     go_quiet (fail)
     go_wp2
     go_roundw
     case rel=>exact⟨k+1,by omega,by go_num,relNext hlt Hall.out He.out,below_drewN hb _⟩
     case measure=>simp [intOf]; omega
    ·have he':(f k != f' k)=true:=by simp [he]
     have He:Hid (¬f k=f' k):=he
     clear he
     go_wp2_with fail
     go_quiet (fail)
     go_wp2
     go_ret
     exact⟨BoolIs.no fun h=>He.out (h.2 k hlt),below_drewN hb _⟩
   ·go_wp2
    go_ret
    exact⟨BoolIs.yes ⟨rfl,fun i hi=>Hall.out i (by omega)⟩,hb⟩
 ·have hne:((n:Int) != (n':Int))=true:=by simp; omega
  have Hn:Hid (¬n=n'):=hn
  clear hn
  go_enter Tryz.func88,Tryz.ntmps88
  go_wp2
  go_ret
  exact⟨BoolIs.no fun h=>Hn.out h.1,Below.refl _ _⟩
set_option maxRecDepth 20000 in
set_option maxHeartbeats 400000 in
theorem eqPtrS_any(v v':Value)(n n' lo hi lo' hi':Nat)(f g f' g':Nat→Int)(w:World)(h1:PtrsAt w lo hi v n f g)(h2:PtrsAt w lo' hi' v' n' f' g') :
  Calls Tryz.prog 139 #[v,v'] w fun e w'=>BoolIs (PtrsEq n n' f g f' g') e∧Below w.heap.size w w':=by
 obtain⟨m1,a,c,rfl,mc,g1⟩:=h1
 obtain⟨m2,a',c',rfl,mc',g2⟩:=h2
 unfold maxLen at m1 m2
 by_cases hn:n=n'
 ·subst hn
  have hne:((n:Int) != (n:Int))=false:=by simp
  go_enter Tryz.func139,Tryz.ntmps139
  go_wp2
  go_loopw [5] (fun i wr=>∃k:Nat,k≤n∧i = .int .i64 k∧(∀j,j<k→f j=f' j∧g j=g' j)∧Below w.heap.size w wr) (fun i _=>n - (intOf i).toNat)
  case atStart=>exact⟨0,Nat.zero_le _,rfl,fun j h=>absurd h (Nat.not_lt_zero _),Below.refl _ _⟩
  case round=>
   obtain⟨k,hk,rfl,hall,hb⟩:=hrel
   have Hall:Hid (∀j,j<k→f j=f' j∧g j=g' j):=hall
   clear hall
   by_cases hlt:k<n
   ·have hlt':(k:Int)<(n:Int):=by omega
    obtain⟨b,off,rfl,_,_,k1⟩:=g1 (by omega)
    obtain⟨b',off',rfl,_,_,k2⟩:=g2 (by omega)
    have hc1:wr.cell? ⟨b,off+k*2,none⟩=some (.int .i64 (f k)):=(hb.cell (lt_of_cell (k1 k hlt).1)).trans (k1 k hlt).1
    have hd1:wr.cell? ⟨b,off+k*2+1,none⟩=some (.int .i64 (g k)):=(hb.cell (lt_of_cell (k1 k hlt).2)).trans (k1 k hlt).2
    have hc2:wr.cell? ⟨b',off'+k*2,none⟩=some (.int .i64 (f' k)):=(hb.cell (lt_of_cell (k2 k hlt).1)).trans (k2 k hlt).1
    have hd2:wr.cell? ⟨b',off'+k*2+1,none⟩=some (.int .i64 (g' k)):=(hb.cell (lt_of_cell (k2 k hlt).2)).trans (k2 k hlt).2
    clear k1 k2 g1 g2
    go_wp2_with fail
    go_region_held3 (fun w'=>w'.cell? ⟨b,off+k*2,none⟩=some (.int .i64 (f k))∧w'.cell? ⟨b,off+k*2+1,none⟩=some (.int .i64 (g k))∧w'.cell? ⟨b',off'+k*2,none⟩=some (.int .i64 (f' k))∧w'.cell? ⟨b',off'+k*2+1,none⟩=some (.int .i64 (g' k))) (go_keep)
     (first | (go_at_call 138; refine(eqPtr_any _ _ _ _ _).mono ?_; rintro e w1 ⟨⟨t,rfl,ht⟩,hb1⟩; have z1:=(hb1.cell (p:=⟨b,off+k*2,none⟩) (lt_of_cell hc1)).trans hc1; have z2:=(hb1.cell (p:=⟨b,off+k*2+1,none⟩) (lt_of_cell hd1)).trans hd1; have z3:=(hb1.cell (p:=⟨b',off'+k*2,none⟩) (lt_of_cell hc2)).trans hc2; have z4:=(hb1.cell (p:=⟨b',off'+k*2+1,none⟩) (lt_of_cell hd2)).trans hd2))
    have Ht:Hid (t=true↔PtrEq (f k) (g k) (f' k) (g' k)):=ht
    have hb2:=below_call hb hb1
    clear ht z1 z2 z3 z4 hc1 hd1 hc2 hd2 hb1
    cases t
    ·go_wp2
     go_ret
     exact⟨BoolIs.no fun h=>absurd (Ht.out.2 (h.2 k hlt)) (by simp),hb2⟩
    ·go_wp2
     go_roundw
     case rel=>exact⟨k+1,by omega,by go_num,relNext hlt Hall.out (Ht.out.1 rfl),hb2⟩
     case measure=>simp [intOf]; omega
   ·go_wp2
    go_ret
    exact⟨BoolIs.yes ⟨rfl,fun i hi=>Hall.out i (by omega)⟩,hb⟩
 ·have hne:((n:Int) != (n':Int))=true:=by simp; omega
  have Hn:Hid (¬n=n'):=hn
  clear hn
  go_enter Tryz.func139,Tryz.ntmps139
  go_wp2
  go_ret
  exact⟨BoolIs.no fun h=>Hn.out h.1,Below.refl _ _⟩
set_option maxRecDepth 20000 in
set_option maxHeartbeats 400000 in
theorem eqSlot_any(v0 v1 v2 u0 u1 u2:Value)(lo hi lo' hi':Nat)(s t:SlotD)(w:World)(h1:SlotAt w lo hi v0 v1 v2 s)(h2:SlotAt w lo' hi' u0 u1 u2 t) :
  Calls Tryz.prog 137 #[.agg #[v0,v1,v2],.agg #[u0,u1,u2]] w fun e w'=>BoolIs (SlotEq s t) e∧Below w.heap.size w w':=by
 obtain⟨rfl,p1,rfl,m1⟩:=h1
 obtain⟨rfl,p2,rfl,m2⟩:=h2
 have q1:=p1
 have q2:=p2
 obtain⟨_,a,c,rfl,_⟩:=p1
 obtain⟨_,a',c',rfl,_⟩:=p2
 by_cases h1:s.birth=t.birth
 ·have hb:(s.birth != t.birth)=false:=by simp [h1]
  have H1:Hid (s.birth=t.birth):=h1
  clear h1
  go_enter Tryz.func137,Tryz.ntmps137
  go_wp2_with fail
  have hbw:=((Below.refl w.heap.size w).alloc (Nat.le_refl _) (.cells #[.int .i64 s.birth,.slice a s.kn c,.string s.data] 110)).alloc (by simp) (.cells #[.int .i64 t.birth,.slice a' t.kn c',.string t.data] 110)
  refine(eqPtrS_any _ _ _ _ _ _ _ _ _ _ _ _ _ (q1.below hbw) (q2.below hbw)).mono ?_
  rintro e w1 ⟨⟨x,rfl,hx⟩,hb1⟩
  have Hx:Hid (x=true↔PtrsEq s.kn t.kn s.ks s.kb t.ks t.kb):=hx
  have hb2:=below_next hbw hb1
  have e1:=hb1.cell (p:=⟨w.heap.size,2,none⟩) (by simp; omega)
  have e2:=hb1.cell (p:=⟨w.heap.size+1,2,none⟩) (by simp)
  simp at e1 e2
  clear hx hb1 hbw
  cases x
  ·go_wp2
   go_ret
   exact⟨BoolIs.no fun h=>absurd (Hx.out.2 h.2.1) (by simp),hb2⟩
  ·by_cases h3:s.data=t.data
   ·have h3':=str_eq h3
    have H3:Hid (s.data=t.data):=h3
    clear h3
    go_wp2
    go_ret
    exact⟨BoolIs.yes ⟨H1.out,(by simpa using Hx.out),H3.out⟩,hb2⟩
   ·have h3':=str_ne h3
    have H3:Hid (¬s.data=t.data):=h3
    clear h3
    go_wp2
    go_ret
    exact⟨BoolIs.no fun h=>H3.out h.2.2,hb2⟩
 ·have hb:(s.birth != t.birth)=true:=by simp [h1]
  have H1:Hid (¬s.birth=t.birth):=h1
  clear h1
  go_enter Tryz.func137,Tryz.ntmps137
  go_wp2
  go_ret
  exact⟨BoolIs.no fun h=>H1.out h.1,((Below.refl _ _).alloc (Nat.le_refl _) _).alloc (by simp) _⟩
set_option maxRecDepth 20000 in
set_option maxHeartbeats 400000 in
theorem eqSlotS_any(v v':Value)(n n' lo hi lo' hi':Nat)(f f':Nat→SlotD)(w:World)(h1:SlotsAt w lo hi v n f)(h2:SlotsAt w lo' hi' v' n' f') :
  Calls Tryz.prog 87 #[v,v'] w fun e w'=>BoolIs (SlotsEq n n' f f') e∧Below w.heap.size w w':=by
 obtain⟨m1,a,c,rfl,mc,g1⟩:=h1
 obtain⟨m2,a',c',rfl,mc',g2⟩:=h2
 unfold maxLen at m1 m2
 by_cases hn:n=n'
 ·subst hn
  have hne:((n:Int) != (n:Int))=false:=by simp
  go_enter Tryz.func87,Tryz.ntmps87
  go_wp2
  go_loopw [5] (fun i wr=>∃k:Nat,k≤n∧i = .int .i64 k∧(∀j,j<k→SlotEq (f j) (f' j))∧Below w.heap.size w wr) (fun i _=>n - (intOf i).toNat)
  case atStart=>exact⟨0,Nat.zero_le _,rfl,fun j h=>absurd h (Nat.not_lt_zero _),Below.refl _ _⟩
  case round=>
   obtain⟨k,hk,rfl,hall,hb⟩:=hrel
   have Hall:Hid (∀j,j<k→SlotEq (f j) (f' j)):=hall
   clear hall
   by_cases hlt:k<n
   ·have hlt':(k:Int)<(n:Int):=by omega
    obtain⟨b,off,rfl,_,_,k1⟩:=g1 (by omega)
    obtain⟨b',off',rfl,_,_,k2⟩:=g2 (by omega)
    obtain⟨x0,x1,x2,c0,c1,c2,hs⟩:=k1 k hlt
    obtain⟨y0,y1,y2,d0,d1,d2,ht⟩:=k2 k hlt
    have hc0:=(hb.cell (lt_of_cell c0)).trans c0
    have hc1:=(hb.cell (lt_of_cell c1)).trans c1
    have hc2:=(hb.cell (lt_of_cell c2)).trans c2
    have hd0:=(hb.cell (lt_of_cell d0)).trans d0
    have hd1:=(hb.cell (lt_of_cell d1)).trans d1
    have hd2:=(hb.cell (lt_of_cell d2)).trans d2
    have hs':=hs.below hb
    have ht':=ht.below hb
    clear k1 k2 g1 g2 c0 c1 c2 d0 d1 d2 hs ht
    have hs2:=hs'
    have ht2:=ht'
    obtain⟨rfl,⟨_,sa,sc,rfl,_⟩,rfl,_⟩:=hs2
    obtain⟨rfl,⟨_,ta,tc,rfl,_⟩,rfl,_⟩:=ht2
    go_wp2_with fail
    go_region_held3 (fun w'=>w'.cell? ⟨b,off+k*3,none⟩=some (.int .i64 (f k).birth)∧w'.cell? ⟨b,off+k*3+1,none⟩=some (.slice sa (f k).kn sc)∧w'.cell? ⟨b,off+k*3+2,none⟩=some (.string (f k).data)∧w'.cell? ⟨b',off'+k*3,none⟩=some (.int .i64 (f' k).birth)∧w'.cell? ⟨b',off'+k*3+1,none⟩=some (.slice ta (f' k).kn tc)∧w'.cell? ⟨b',off'+k*3+2,none⟩=some (.string (f' k).data)) (go_keep)
     (first | (go_at_call 137; refine(eqSlot_any _ _ _ _ _ _ lo hi lo' hi' (f k) (f' k) _ ?_ ?_).mono ?_; (exact hs'.below ((Below.refl _ _).drew)); (exact ht'.below ((Below.refl _ _).drew)); rintro e w1 ⟨⟨t,rfl,hx⟩,hb1⟩; have z1:=(hb1.cell (p:=⟨b,off+k*3,none⟩) (lt_of_cell hc0)).trans hc0; have z2:=(hb1.cell (p:=⟨b,off+k*3+1,none⟩) (lt_of_cell hc1)).trans hc1; have z3:=(hb1.cell (p:=⟨b,off+k*3+2,none⟩) (lt_of_cell hc2)).trans hc2; have y1:=(hb1.cell (p:=⟨b',off'+k*3,none⟩) (lt_of_cell hd0)).trans hd0; have y2:=(hb1.cell (p:=⟨b',off'+k*3+1,none⟩) (lt_of_cell hd1)).trans hd1; have y3:=(hb1.cell (p:=⟨b',off'+k*3+2,none⟩) (lt_of_cell hd2)).trans hd2))
    have Ht:Hid (t=true↔SlotEq (f k) (f' k)):=hx
    have hb2:=below_call hb hb1
    clear hx z1 z2 z3 y1 y2 y3 hc0 hc1 hc2 hd0 hd1 hd2 hb1
    cases t
    ·go_wp2
     go_ret
     exact⟨BoolIs.no fun h=>absurd (Ht.out.2 (h.2 k hlt)) (by simp),hb2⟩
    ·go_wp2
     go_roundw
     case rel=>exact⟨k+1,by omega,by go_num,relNext hlt Hall.out (Ht.out.1 rfl),hb2⟩
     case measure=>simp [intOf]; omega
   ·go_wp2
    go_ret
    exact⟨BoolIs.yes ⟨rfl,fun i hi=>Hall.out i (by omega)⟩,hb⟩
 ·have hne:((n:Int) != (n':Int))=true:=by simp; omega
  have Hn:Hid (¬n=n'):=hn
  clear hn
  go_enter Tryz.func87,Tryz.ntmps87
  go_wp2
  go_ret
  exact⟨BoolIs.no fun h=>Hn.out h.1,Below.refl _ _⟩
set_option maxRecDepth 20000 in
set_option maxHeartbeats 400000 in
theorem eqPool_any(v0 v1 u0 u1:Value)(lo hi lo' hi':Nat)(p q:PoolD)(w:World)(h1:PoolAt w lo hi v0 v1 p)(h2:PoolAt w lo' hi' u0 u1 q) :
  Calls Tryz.prog 39 #[.agg #[v0,v1],.agg #[u0,u1]] w fun e w'=>BoolIs (PoolEq p q) e∧Below w.heap.size w w':=by
 have q1:=h1
 have q2:=h2
 obtain⟨⟨_,a,c,rfl,_⟩,⟨_,a1,c1,rfl,_⟩⟩:=h1
 obtain⟨⟨_,b,d,rfl,_⟩,⟨_,b1,d1,rfl,_⟩⟩:=h2
 go_enter Tryz.func39,Tryz.ntmps39
 go_wp2_with fail
 have hbw:=((Below.refl w.heap.size w).alloc (Nat.le_refl _) (.cells #[.slice a p.n c,.slice a1 p.hn c1] 33)).alloc (by simp) (.cells #[.slice b q.n d,.slice b1 q.hn d1] 33)
 refine(eqSlotS_any _ _ _ _ _ _ _ _ _ _ _ (q1.1.below hbw) (q2.1.below hbw)).mono ?_
 rintro e w1 ⟨⟨x,rfl,hx⟩,hb1⟩
 have Hx:Hid (x=true↔SlotsEq p.n q.n p.s q.s):=hx
 have hb2:=below_next hbw hb1
 have e1:=hb1.cell (p:=⟨w.heap.size,1,none⟩) (by simp; omega)
 have e2:=hb1.cell (p:=⟨w.heap.size+1,1,none⟩) (by simp)
 simp at e1 e2
 clear hx hb1 hbw
 cases x
 ·go_wp2
  go_ret
  exact⟨BoolIs.no fun h=>absurd (Hx.out.2 h.1) (by simp),hb2⟩
 ·go_wp2_with fail
  refine(eqInt64S_any _ _ _ _ _ _ _ _ _ _ _ (q1.2.below hb2) (q2.2.below hb2)).mono ?_
  rintro e w2 ⟨⟨y,rfl,hy⟩,hb3⟩
  have Hy:Hid (y=true↔IntsEq p.hn q.hn p.h q.h):=hy
  have hb4:=below_next hb2 hb3
  clear hy hb3 hb2
  cases y
  ·go_wp2
   go_ret
   exact⟨BoolIs.no fun h=>absurd (Hy.out.2 h.2) (by simp),hb4⟩
  ·go_wp2
   go_ret
   exact⟨BoolIs.yes ⟨(by simpa using Hx.out),(by simpa using Hy.out)⟩,hb4⟩
end Go.Proofs.YtihdcanckbkgfaaGreatDoor
