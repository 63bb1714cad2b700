/- What is asked of a set that is rolled back: whether the snapshot ahead is its own. -/
import Derived.Test.YtihdcanckbkgfaaGreatDoorG23
import Derived.Test.YtihdcanckbkgfaaGreatDoorG25
import Derived.Test.YtihdcanckbkgfaaGreatDoorG16
import Derived.Test.YtihdcanckbkgfaaGreatDoorG14
import Derived.Deep.RegionHeld3
import Derived.Test.YtihdcanckbkgfaaGreatDoorG4
import Derived.Deep.DeepCutAuto
import Derived.Test.YtihdcanckbkgfaaGreatDoorG19
import Derived.Test.YtihdcanckbkgfaaGreatDoorG21
import Derived.Test.YtihdcanckbkgfaaGreatDoorG5
import Derived.Deep.RegionLawGrows
import Derived.Test.YtihdcanckbkgfaaGreatDoorG24
namespace Go.Proofs.YtihdcanckbkgfaaGreatDoor
open Go.RowKit
set_option linter.unusedVariables false
theorem fieldPrev(v:Value)(s:SetD)(w:World):(Instr.field 61 (setV v s) 2).run Tryz.prog w = .ok (.int .i64 s.prev) w:=by kernel_rfl
theorem setAt_wf{W:WorldD}(h:PrevsWf W)(x:ByteArray):(Lit.int .i64 (setAt W x).prev).wf=true:=by
 by_cases hx:∃k,SetNo W x k
 ·obtain⟨k,hk⟩:=hx
  rw [setAt_at hk]
  have:=h (W.pn+k) (by have:=hk.1; unfold memN; omega)
  rw [memOf_set] at this
  exact this
 ·have e:setAt W x=zeroSetD:=by unfold setAt; rw [dif_neg hx]
  rw [e]
  decide
theorem ImplN.setsDist{W:WorldD}(h:ImplN W):NamesDist W:=fun i hi j hj e=>by
 have hr:∀{a b:Nat},a<b→b<W.sn→Rises (W.sets a).name (W.sets b).name:=by
  intro a b hab hb
  induction b with
  | zero=>omega
  | succ b ih=>
   have h1:=(h.sets.2 (b+1) hb).2
   have h2:lastN W.sets (b+1)=(W.sets b).name:=by unfold lastN; simp
   rw [h2] at h1
   by_cases e:a=b
   ·subst e; exact h1
   ·exact rises_trans (ih (by omega) (by omega)) h1
 exact rises_ne (hr hj hi) e
set_option maxRecDepth 20000 in
set_option maxHeartbeats 2000000 in
theorem behindOwnSnapQ_any(v0 v1 v2 v3:Value)(lo hi:Nat)(W:WorldD)(B:Nat)(name:ByteArray)(w:World)(h:WorldAt w lo hi v0 v1 v2 v3 W)(hI:ImplN W)(hwf:PrevsWf W)(hsz:name.size≤maxLen)(hc:w.cell? ⟨B,0,none⟩=some (.string name)) :
  Calls Tryz.prog 98 #[worldV v0 v1 v2 v3 W,.pointer (some ⟨B,0,none⟩)] w fun e w'=>BoolIs ((aheadOf W (setAt W name).prev).set=name) e∧Below w.heap.size w w':=by
 have Hp:=hideW h
 have HI:=hideW hI
 have Hx:=hideW (setAt_wf hwf name)
 have Hz:=hideW hsz
 have h8:=hI.sets.1
 have h20:=hI.snaps.1
 clear h hI hwf hsz
 obtain⟨S1,hS1⟩:∃S1,S1=setAt W name:=⟨_,rfl⟩
 have HLK:=hideW (show ∀(w2 w':World) (vd:Nat→Value),SetsMap w' W (w2.heap.size+1) W.sn vd→SetDeads w2 lo hi W.sn W.sets vd→∃a c,(Instr.lookup 138 (.map (some (w2.heap.size+1))) (.string name) false).run Tryz.prog w' = .ok (setV (.slice a S1.dn c) S1) w' from fun w2 w' vd hm hd=>by
  obtain⟨a,c,hat,-⟩:=setNames_look HI.out.setsDist hd name
  rw [hS1]
  exact⟨a,c,sets_run hm Hz.out hat⟩)
 rw [←hS1] at Hx ⊢
 clear hS1
 obtain⟨A1,hA1⟩:∃A1,A1=aheadOf W S1.prev:=⟨_,rfl⟩
 have HAC:=hideW (show ∀(A:Nat) (w':World),AheadFn w' lo hi W A→Calls Tryz.prog 144 #[.int .i64 S1.prev,.pointer (some ⟨A,0,none⟩)] w' fun e w''=>(∃a c,e = .returned (snapV (.slice a A1.dn c) A1))∧Below w'.heap.size w' w'' from fun A w' hA=>by
  refine(ahead_any lo hi W A S1.prev w' hA HI.out.dist Hx.out h20).mono ?_
  rw [←hA1]
  rintro e w2 ⟨a,c,rfl,-,hb⟩
  exact⟨⟨a,c,rfl⟩,hb⟩)
 rw [←hA1]
 clear hA1
 have ha:=below_alloc w (.cells #[v0,v1,.int .i64 W.time,.int .i64 W.next,v2,v3] 37)
 have hc1:=(ha.cell (lt_of_cell hc)).trans hc
 have HB:=hideW (Box6.new w (v0) (v1) (.int .i64 W.time) (.int .i64 W.next) (v2) (v3) 37)
 have HCc:=hideW hc1
 obtain⟨⟨x0,-⟩,⟨x1,-⟩,⟨x2,-⟩,⟨x3,-⟩,⟨x4,-⟩,⟨x5,-⟩⟩:=HB.out
 go_enter Tryz.func98,Tryz.ntmps98
 go_wp2_with fail
 generalize w.alloc (.cells #[v0,v1,.int .i64 W.time,.int .i64 W.next,v2,v3] 37)=W0 at ha hc1 HB HCc x0 x1 x2 x3 x4 x5 ⊢
 clear hc
 by_cases hq:A1.set=name
 ·have HQ:=hideW hq
  have e0:(A1.set.toList == name.toList)=true:=str_eq hq
  clear hq
  go_region_held3 (fun w'=>w'.cell? ⟨w.heap.size,0,none⟩=some (v0)∧w'.cell? ⟨w.heap.size,1,none⟩=some (v1)∧w'.cell? ⟨w.heap.size,2,none⟩=some (.int .i64 W.time)∧w'.cell? ⟨w.heap.size,3,none⟩=some (.int .i64 W.next)∧w'.cell? ⟨w.heap.size,4,none⟩=some (v2)∧w'.cell? ⟨w.heap.size,5,none⟩=some (v3)∧w'.cell? ⟨B,0,none⟩=some (.string name)) (go_keep)
   (first
    | (go_at_call 99; refine(aheadIn_any v0 v1 v2 v3 lo hi W _ ((Hp.out.below ha).below (Below.refl _ _).drew) h20 HI.out.idsWf).mono ?_; rintro e w2 ⟨A,rfl,hA,hb2⟩; have hb2':=below_undrew hb2; obtain⟨⟨y0,-⟩,⟨y1,-⟩,⟨y2,-⟩,⟨y3,-⟩,⟨y4,-⟩,⟨y5,-⟩⟩:=HB.out.below hb2'; have hc2:=(hb2'.cell (lt_of_cell HCc.out)).trans HCc.out; have HA:=hideW hA; clear hA)
    | (go_at_call 100; refine(setsByName_any v0 v1 v2 v3 lo hi W _ ((Hp.out.below ha).below hb2') h8).mono ?_; rintro e w3 ⟨vd,rfl,hm,hd,hb3⟩; have hb3':=below_next hb2' hb3; obtain⟨a3,c3,hlk⟩:=HLK.out w2 _ _ hm hd; have hfp:=fun w=>fieldPrev (.slice a3 S1.dn c3) S1 w; obtain⟨⟨z0,-⟩,⟨z1,-⟩,⟨z2,-⟩,⟨z3,-⟩,⟨z4,-⟩,⟨z5,-⟩⟩:=HB.out.below hb3'; have hc3:=(hb3'.cell (lt_of_cell HCc.out)).trans HCc.out; clear hm hd)
    | (go_at_call 144; refine(HAC.out _ _ (HA.out.below hb3)).mono ?_; rintro e w4 ⟨⟨a4,c4,rfl⟩,hb4⟩; have hb4':=below_next hb3' hb4; have hfs:=fun w=>(field_snap (.slice a4 A1.dn c4) A1 w).2.1; obtain⟨⟨k0,-⟩,⟨k1,-⟩,⟨k2,-⟩,⟨k3,-⟩,⟨k4,-⟩,⟨k5,-⟩⟩:=HB.out.below hb4'; have hc4:=(hb4'.cell (lt_of_cell HCc.out)).trans HCc.out))
  go_wp2
  go_ret
  exact⟨BoolIs.yes HQ.out,below_next ha hb4'⟩
 ·have HQ:=hideW hq
  have e0:(A1.set.toList == name.toList)=false:=str_ne hq
  clear hq
  go_region_held3 (fun w'=>w'.cell? ⟨w.heap.size,0,none⟩=some (v0)∧w'.cell? ⟨w.heap.size,1,none⟩=some (v1)∧w'.cell? ⟨w.heap.size,2,none⟩=some (.int .i64 W.time)∧w'.cell? ⟨w.heap.size,3,none⟩=some (.int .i64 W.next)∧w'.cell? ⟨w.heap.size,4,none⟩=some (v2)∧w'.cell? ⟨w.heap.size,5,none⟩=some (v3)∧w'.cell? ⟨B,0,none⟩=some (.string name)) (go_keep)
   (first
    | (go_at_call 99; refine(aheadIn_any v0 v1 v2 v3 lo hi W _ ((Hp.out.below ha).below (Below.refl _ _).drew) h20 HI.out.idsWf).mono ?_; rintro e w2 ⟨A,rfl,hA,hb2⟩; have hb2':=below_undrew hb2; obtain⟨⟨y0,-⟩,⟨y1,-⟩,⟨y2,-⟩,⟨y3,-⟩,⟨y4,-⟩,⟨y5,-⟩⟩:=HB.out.below hb2'; have hc2:=(hb2'.cell (lt_of_cell HCc.out)).trans HCc.out; have HA:=hideW hA; clear hA)
    | (go_at_call 100; refine(setsByName_any v0 v1 v2 v3 lo hi W _ ((Hp.out.below ha).below hb2') h8).mono ?_; rintro e w3 ⟨vd,rfl,hm,hd,hb3⟩; have hb3':=below_next hb2' hb3; obtain⟨a3,c3,hlk⟩:=HLK.out w2 _ _ hm hd; have hfp:=fun w=>fieldPrev (.slice a3 S1.dn c3) S1 w; obtain⟨⟨z0,-⟩,⟨z1,-⟩,⟨z2,-⟩,⟨z3,-⟩,⟨z4,-⟩,⟨z5,-⟩⟩:=HB.out.below hb3'; have hc3:=(hb3'.cell (lt_of_cell HCc.out)).trans HCc.out; clear hm hd)
    | (go_at_call 144; refine(HAC.out _ _ (HA.out.below hb3)).mono ?_; rintro e w4 ⟨⟨a4,c4,rfl⟩,hb4⟩; have hb4':=below_next hb3' hb4; have hfs:=fun w=>(field_snap (.slice a4 A1.dn c4) A1 w).2.1; obtain⟨⟨k0,-⟩,⟨k1,-⟩,⟨k2,-⟩,⟨k3,-⟩,⟨k4,-⟩,⟨k5,-⟩⟩:=HB.out.below hb4'; have hc4:=(hb4'.cell (lt_of_cell HCc.out)).trans HCc.out))
  go_wp2
  go_ret
  exact⟨BoolIs.no HQ.out,below_next ha hb4'⟩
set_option maxRecDepth 20000 in
set_option maxHeartbeats 2000000 in
theorem behindOwnSnap_any(p:Nat→Addr)(s0:ByteArray)(w:World)(hE:Errs w p) :
  Calls Tryz.prog 47 #[.string s0] w fun e w'=>∃B0:Nat,e = .returned (.agg #[.func (.func 98) #[] #[.pointer (some ⟨B0,0,none⟩)],errV (p 2)])∧w'.cell? ⟨B0,0,none⟩=some (.string s0)∧Below w.heap.size w w':=by
 have hk0:=below_alloc w (.cells #[.string s0] 9)
 have hk1:=below_alloc (w.alloc (.cells #[.string s0] 9)) (.cells #[.nilFunc,.nilIface] 74)
 have hb:=below_next (hk0) hk1
 have c0:(w.alloc (.cells #[.string s0] 9)).cell? ⟨w.heap.size,0,none⟩=some (.string s0):=World.cell?_alloc_at _ _ _ _ rfl
 have hg:((w.alloc (.cells #[.string s0] 9)).alloc (.cells #[.nilFunc,.nilIface] 74)).cell? ⟨0,0,none⟩=some (errV (p 2)):=(hE.below hb).cell 2 (by omega)
 have hkf:=below_alloc (w.alloc (.cells #[.string s0] 9)) (.cells #[.func (.func 98) #[] #[.pointer (some ⟨w.heap.size,0,none⟩)],errV (p 2)] 74)
 have hbf:=below_next (hk0) hkf
 have Hc0:=hideW ((hkf.cell (lt_of_cell c0)).trans c0)
 clear c0
 go_enter Tryz.func47,Tryz.ntmps47
 have hst:=fun (ww:World) (a:Addr)=>run_store Tryz.prog ww a (.func (.func 98) #[] #[.pointer (some ⟨w.heap.size,0,none⟩)]) .plain rfl
 go_wp2_with fail
 have HRf:=Box2.new (w.alloc (.cells #[.string s0] 9)) (.func (.func 98) #[] #[.pointer (some ⟨w.heap.size,0,none⟩)]) (errV (p 2)) 74
 rw [World.size_alloc] at HRf
 refine bodyPost_ret (v:=.agg #[.func (.func 98) #[] #[.pointer (some ⟨w.heap.size,0,none⟩)],errV (p 2)]) (by simp [results,Tryz.results47,go_sem,HRf.1.1,HRf.2.1]) rfl ⟨_,rfl,Hc0.out,hbf⟩
end Go.Proofs.YtihdcanckbkgfaaGreatDoor

namespace Go.Proofs.YtihdcanckbkgfaaGreatDoor
open Go.RowKit
set_option linter.unusedVariables false
set_option maxRecDepth 20000 in
set_option maxHeartbeats 400000 in
theorem implRollback_of(p:Nat→Addr)(v0 v1 v2 v3:Value)(lo hi:Nat)(W:WorldD)(name:ByteArray)(o:WOutD)(w:World)(hE:Errs w p)(h:WorldAt w lo hi v0 v1 v2 v3 W)(hwf:PrevsWf W)(b1:poolN W.pool≤1048576)(b2:W.sn≤1048576)(b3:W.pn≤1048576)(b4:DeadsN W)(hname:name.size≤maxLen)
  (hdo:∀B0 C w' z0 z1 z2 z3,w'.cell? ⟨B0,0,none⟩=some (.string name)→B0<C→ImplW W→¬(∃i,i<1∧8000<((fun (_:Nat)=>name) i).size)→¬(∃i,i<0∧¬NameP ((fun _=>⟨#[]⟩) i))→(∀j,j<2→(fun i=>match i with | 0=>HasSet W name | _=>(aheadOf W (setAt W name).prev).set=name) j)→C<w'.heap.size→Below w.heap.size w w'→WorldOwnR w' (C+1) w'.heap.size z0 z1 z2 z3 W→Box9 w' C z0 z1 (.int .i64 W.time) (.int .i64 W.next) z2 z3 (.int .i64 0) (.int .i64 0) .nilIface→Calls Tryz.prog 48 #[.pointer (some ⟨C,0,none⟩),.pointer (some ⟨B0,0,none⟩)] w' (DoneI p o C w')) :
  Calls Tryz.prog 16 #[worldV v0 v1 v2 v3 W,.string name] w fun e w'=>∃r,RefI W (∃i,i<1∧8000<((fun (_:Nat)=>name) i).size) (∃i,i<0∧¬NameP ((fun _=>⟨#[]⟩) i)) 2 (fun i=>match i with | 0=>HasSet W name | _=>(aheadOf W (setAt W name).prev).set=name) (fun i=>match i with | 0=>2 | _=>2) r∧NewWOut (outW r o) w e w':=by
 have Hp:=hideE h
 have HE:=hideE hE
 have HDo:=hideE hdo
 have Hwf:=hideE hwf
 have Hsz_name:=hideE hname
 clear h hE hdo hwf
 have ha0:=below_alloc w (.cells #[v0,v1,.int .i64 W.time,.int .i64 W.next,v2,v3] 37)
 have ha1:=below_alloc (w.alloc (.cells #[v0,v1,.int .i64 W.time,.int .i64 W.next,v2,v3] 37)) (.cells #[.string name] 9)
 have ha2:=below_alloc ((w.alloc (.cells #[v0,v1,.int .i64 W.time,.int .i64 W.next,v2,v3] 37)).alloc (.cells #[.string name] 9)) (.cells #[.slice none 0 0,.slice none 0 0,.int .i64 0,.int .i64 0,.slice none 0 0,.slice none 0 0,.int .i64 0,.int .i64 0,.int .i64 0] 39)
 have hb:=below_next (below_next (ha0) ha1) ha2
 have HX:=hideE (((Box6.new w (v0) (v1) (.int .i64 W.time) (.int .i64 W.next) (v2) (v3) 37).below ha1).below ha2)
 have c0:((w.alloc (.cells #[v0,v1,.int .i64 W.time,.int .i64 W.next,v2,v3] 37)).alloc (.cells #[.string name] 9)).cell? ⟨(w.alloc (.cells #[v0,v1,.int .i64 W.time,.int .i64 W.next,v2,v3] 37)).heap.size,0,none⟩=some (.string name):=World.cell?_alloc_at _ _ _ _ rfl
 rw [World.size_alloc] at c0
 replace c0:=(ha2.cell (lt_of_cell c0)).trans c0
 have HC0:=hideE c0
 clear c0
 have hr:=Box9.new ((w.alloc (.cells #[v0,v1,.int .i64 W.time,.int .i64 W.next,v2,v3] 37)).alloc (.cells #[.string name] 9)) (.slice none 0 0) (.slice none 0 0) (.int .i64 0) (.int .i64 0) (.slice none 0 0) (.slice none 0 0) (.int .i64 0) (.int .i64 0) (.int .i64 0) 39
 rw [World.size_alloc,World.size_alloc] at hr
 have HR:=hideE hr
 clear hr
 have hz:(((w.alloc (.cells #[v0,v1,.int .i64 W.time,.int .i64 W.next,v2,v3] 37)).alloc (.cells #[.string name] 9)).alloc (.cells #[.slice none 0 0,.slice none 0 0,.int .i64 0,.int .i64 0,.slice none 0 0,.slice none 0 0,.int .i64 0,.int .i64 0,.int .i64 0] 39)).heap.size=w.heap.size+3:=by rw [World.size_alloc,World.size_alloc,World.size_alloc]
 go_enter Tryz.func16,Tryz.ntmps16
 go_upto_region 1 with fail
 generalize (((w.alloc (.cells #[v0,v1,.int .i64 W.time,.int .i64 W.next,v2,v3] 37)).alloc (.cells #[.string name] 9)).alloc (.cells #[.slice none 0 0,.slice none 0 0,.int .i64 0,.int .i64 0,.slice none 0 0,.slice none 0 0,.int .i64 0,.int .i64 0,.int .i64 0] 39))=W1 at hb HX HR hz HC0 ⊢
 clear ha0 ha1 ha2
 obtain⟨⟨x0,-⟩,⟨x1,-⟩,⟨x2,-⟩,⟨x3,-⟩,⟨x4,-⟩,⟨x5,-⟩⟩:=HX.out
 have k0:=HC0.out
 have Hkeep:=hideE (show ∀w',Below (w.heap.size+1+1) W1 w'→(fun w'=>w'.cell? ⟨w.heap.size,0,none⟩=some (v0)∧w'.cell? ⟨w.heap.size,1,none⟩=some (v1)∧w'.cell? ⟨w.heap.size,2,none⟩=some (.int .i64 W.time)∧w'.cell? ⟨w.heap.size,3,none⟩=some (.int .i64 W.next)∧w'.cell? ⟨w.heap.size,4,none⟩=some (v2)∧w'.cell? ⟨w.heap.size,5,none⟩=some (v3)∧w'.cell? ⟨w.heap.size+1,0,none⟩=some (.string name)∧Below (w.heap.size+1+1) W1 w') w' from fun w' hbw=>⟨(hbw.cell (p:=⟨w.heap.size,0,none⟩) (by show w.heap.size<_; omega)).trans x0,(hbw.cell (p:=⟨w.heap.size,1,none⟩) (by show w.heap.size<_; omega)).trans x1,(hbw.cell (p:=⟨w.heap.size,2,none⟩) (by show w.heap.size<_; omega)).trans x2,(hbw.cell (p:=⟨w.heap.size,3,none⟩) (by show w.heap.size<_; omega)).trans x3,(hbw.cell (p:=⟨w.heap.size,4,none⟩) (by show w.heap.size<_; omega)).trans x4,(hbw.cell (p:=⟨w.heap.size,5,none⟩) (by show w.heap.size<_; omega)).trans x5,(hbw.cell (p:=⟨w.heap.size+1,0,none⟩) (by show w.heap.size+1<_; omega)).trans k0,hbw⟩)
 have hRz:w.heap.size+1+1≤W1.heap.size:=by omega
 clear x0 x1 x2 x3 x4 x5 k0
 refine wp_region_held_drew (S:=(fun w'=>w'.cell? ⟨w.heap.size,0,none⟩=some (v0)∧w'.cell? ⟨w.heap.size,1,none⟩=some (v1)∧w'.cell? ⟨w.heap.size,2,none⟩=some (.int .i64 W.time)∧w'.cell? ⟨w.heap.size,3,none⟩=some (.int .i64 W.next)∧w'.cell? ⟨w.heap.size,4,none⟩=some (v2)∧w'.cell? ⟨w.heap.size,5,none⟩=some (v3)∧w'.cell? ⟨w.heap.size+1,0,none⟩=some (.string name)∧Below (w.heap.size+1+1) W1 w')) (by kernel_rfl) (Hkeep.out _ ((Below.refl _ _).drew.mono hRz)) (fun hHeld=>?_)
 have hG0:Below W1.heap.size W1 W1.drew:=(Below.refl _ _).drew
 refine tk 0 (h:=?_)
 refine tk 2 (h:=?_)
 refine tk 4 (h:=?_)
 refine tk 7 (h:=?_)
 refine tk 9 (h:=?_)
 refine mono_here [1,3,5,6] (fun i=>if i=6 then [3,5] else []) (fun i=>i+5) (fun i v w'=>(i=1→TextsAt w' v 1 (fun (_:Nat)=>name))∧(i=3→QAt w' p 75 2 [.string name] v)∧(i=5→QAt w' p 98 2 [.string name] v)∧(i=6→AskedQ w' p 2 (fun i=>match i with | 0=>75 | _=>98) (fun i=>match i with | 0=>2 | _=>2) (fun i=>match i with | 0=>[.string name] | _=>[.string name]) v)) 3 (G:=fun w'=>Below W1.heap.size W1 w') (by kernel_rfl) (by decide) (by decide) (by decide) ?_ (fun _ _ h t=>below_next h t) (by assumption) hG0 ?_ ?_
 ·intro i v w' w'' hf t
  exact⟨fun e=>(hf.1 e).below t,fun e=>(hf.2.1 e).below t,fun e=>(hf.2.2.1 e).below t,fun e=>(hf.2.2.2 e).below t⟩
 ·intro i hi x w2 hS hG hD K hK
  simp only [List.mem_cons,List.not_mem_nil,or_false] at hi
  rcases hi with rfl | rfl | rfl | rfl
  ·refine wpOp_step (nthO_get rfl) (fun K' hK'=>?_)
   simp only [putsA,Act.put,Nat.reduceAdd,s1,s2,s3]
   have hal:=below_alloc w2 (.cells #[.string name] 9)
   go_simp
   refine hK' _ _ (hK.out _ _ _ ?_ (Hkeep.out _ ((below_next hG hal).mono hRz)) ⟨fun _=>texts_one Hsz_name.out rfl,fun e=>absurd e (by decide),fun e=>absurd e (by decide),fun e=>absurd e (by decide)⟩ hal)
   simp only [putsA,Act.put,Nat.reduceAdd,s1,s2,s3]
  ·refine wpOp_step (nthO_get rfl) (fun K' hK'=>?_)
   simp only [putsA,Act.put,Nat.reduceAdd,s1,s2,s3]
   go_simp
   go_at_call 34
   refine(setThere_any p name w2 (HE.out.below (below_next hb hG))).mono ?_
   rintro e w3 ⟨B0,rfl,hc0,hb3⟩
   refine hK' _ _ (hK.out _ _ w3 ?_ (Hkeep.out _ ((below_next hG hb3).mono hRz)) ⟨fun e=>absurd e (by decide),fun _=>⟨_,rfl,CapsAt.one hc0⟩,fun e=>absurd e (by decide),fun e=>absurd e (by decide)⟩ hb3)
   simp only [putsA,Act.put,Nat.reduceAdd,s1,s2,s3]
  ·refine wpOp_step (nthO_get rfl) (fun K' hK'=>?_)
   simp only [putsA,Act.put,Nat.reduceAdd,s1,s2,s3]
   go_simp
   go_at_call 47
   refine(behindOwnSnap_any p name w2 (HE.out.below (below_next hb hG))).mono ?_
   rintro e w3 ⟨B0,rfl,hc0,hb3⟩
   refine hK' _ _ (hK.out _ _ w3 ?_ (Hkeep.out _ ((below_next hG hb3).mono hRz)) ⟨fun e=>absurd e (by decide),fun e=>absurd e (by decide),fun _=>⟨_,rfl,CapsAt.one hc0⟩,fun e=>absurd e (by decide)⟩ hb3)
   simp only [putsA,Act.put,Nat.reduceAdd,s1,s2,s3]
  ·refine wpOp_step (nthO_get rfl) (fun K' hK'=>?_)
   simp only [putsA,Act.put,Nat.reduceAdd,s1,s2,s3]
   obtain⟨lb0,e0,hcap0⟩:=(hD 3 (by decide)).2.1 rfl
   obtain⟨lb1,e1,hcap1⟩:=(hD 5 (by decide)).2.2.1 rfl
   simp only [e0,e1]
   have hal:=below_alloc w2 (.cells #[.func (.func 75) #[] lb0,errV (p 2),.func (.func 98) #[] lb1,errV (p 2)] 74)
   have hA:AskedQ (w2.alloc (.cells #[.func (.func 75) #[] lb0,errV (p 2),.func (.func 98) #[] lb1,errV (p 2)] 74)) p 2 (fun i=>match i with | 0=>75 | _=>98) (fun i=>match i with | 0=>2 | _=>2) (fun i=>match i with | 0=>[.string name] | _=>[.string name]) (.slice (some ⟨w2.heap.size,0,none⟩) 2 2):=asked2 (g:=(fun i=>match i with | 0=>75 | _=>98)) (ei:=(fun i=>match i with | 0=>2 | _=>2)) (caps:=(fun i=>match i with | 0=>[.string name] | _=>[.string name])) hcap0 hcap1
   go_simp
   refine hK' _ _ (hK.out _ _ _ ?_ (Hkeep.out _ ((below_next hG hal).mono hRz)) ⟨fun e=>absurd e (by decide),fun e=>absurd e (by decide),fun e=>absurd e (by decide),fun _=>hA⟩ hal)
   simp only [putsA,Act.put,Nat.reduceAdd,s1,s2,s3,e0,e1]
 ·intro x w2 hS hG hF
  have hT:=(hF 1 (by decide)).1 rfl
  obtain⟨-,ta,tc,et,-,-⟩:=id hT
  have hN:TextsAt w2 (.slice none 0 0) 0 (fun _=>⟨#[]⟩):=⟨by omega,_,_,rfl,fun i hi=>absurd hi (Nat.not_lt_zero _),fun h=>absurd h (Nat.lt_irrefl _)⟩
  obtain⟨lb,hA,hcap⟩:=(hF 6 (by decide)).2.2.2 rfl
  obtain⟨-,qa,qc,eq,-⟩:=id hA
  simp only [putsA,listS,if_true,Act.put,Nat.reduceAdd,s1,s2,s3,et,eq]
  rw [et] at hT
  rw [eq] at hA
  have hbw:=below_next hb hG
  have HTx:=hideE hT
  have HNx:=hideE hN
  have HAx:=hideE hA
  have Hcap:=hideE hcap
  clear hT hN hA hcap hF
  refine tk 8 (h:=?_)
  refine rd [10] (rc (fun K hK=>?_) .nil)
  go_simp
  go_at_call 38
  refine(on_any p _ _ _ 48 #[.pointer (some ⟨w.heap.size+1,0,none⟩)] 1 0 2 (fun (_:Nat)=>name) (fun _=>⟨#[]⟩) (fun i=>match i with | 0=>75 | _=>98) lb (fun i=>match i with | 0=>2 | _=>2) (fun i=>match i with | 0=>HasSet W name | _=>(aheadOf W (setAt W name).prev).set=name) o _ _ _ _ lo hi W w2 (HE.out.below hbw) (Hp.out.below hbw) Hwf.out b1 b2 b3 b4 HTx.out HNx.out HAx.out ?_ ?_ (enters_of Tryz.func48 (by kernel_rfl) rfl) ?_ ?_).mono ?_
  ·intro i hi
   rcases(by omega:i=0∨i=1)with rfl | rfl
   all_goals decide
  ·intro i hi
   rcases(by omega:i=0∨i=1)with rfl | rfl
   ·exact enters_of Tryz.func75 (by kernel_rfl) rfl
   ·exact enters_of Tryz.func98 (by kernel_rfl) rfl
  ·intro i hi' w' hbq hI hQp
   have hW:=(Hp.out.below hbw).below hbq
   have h8:=hI.names.sets.1
   have h20:=hI.names.snaps.1
   rcases(by omega:i=0∨i=1)with rfl | rfl
   ·obtain⟨B0,elb,hc0⟩:=(Hcap.out 0 (by decide)).is1
    replace hc0:=(hbq.cell (lt_of_cell hc0)).trans hc0
    rw [elb]
    exact setThereQ_any v0 v1 v2 v3 lo hi W B0 name w' hW h8 hname hc0
   ·obtain⟨B0,elb,hc0⟩:=(Hcap.out 1 (by decide)).is1
    replace hc0:=(hbq.cell (lt_of_cell hc0)).trans hc0
    rw [elb]
    exact behindOwnSnapQ_any v0 v1 v2 v3 lo hi W B0 name w' hW hI.names Hwf.out hname hc0
  ·intro C w' z0 z1 z2 z3 hC hbq hCz hI hl hbd hq hown hbox
   exact HDo.out (w.heap.size+1) C w' z0 z1 z2 z3 ((hbq.cell (lt_of_cell hS.2.2.2.2.2.2.1)).trans hS.2.2.2.2.2.2.1) (by have:=hG.size; omega) hI hl hbd hq hCz (below_next hbw hbq) hown hbox
  rintro e w3 ⟨r,href,z0,z1,z2,z3,rfl,hown,hb3⟩
  obtain⟨n0,nc0,n1,nc1,n2,nc2,n3,nc3,rfl,rfl,rfl,rfl⟩:=hown.form
  have hb4:=below_next hG hb3
  have HR3:=hideE (HR.out.below hb4)
  have Hown:=hideE hown
  have Href:=hideE href
  clear hown href
  generalize hoo:outW r o=oo at Hown ⊢
  have Hoo:=hideE hoo
  clear hoo
  (try go_wp2_with fail)
  refine hK.out _ _ (Hkeep.out _ (hb4.mono hRz)) ?_
  clear hK K hHeld
  intro hHeld
  try simp only [Act.put,s1,s2,s3]
  refine rd [11] (rc (fun K hK=>?_) .nil)
  obtain⟨⟨r0,g0⟩,⟨r1,g1⟩,⟨r2,g2⟩,⟨r3,g3⟩,⟨r4,g4⟩,⟨r5,g5⟩,⟨r6,g6⟩,⟨r7,g7⟩,⟨r8,g8⟩⟩:=HR3.out
  go_simp
  (try go_wp2_with fail)
  have hT:=Turned.put9 w3 (w.heap.size+1+1) (.slice n0 oo.world.pool.n nc0) (.slice n1 oo.world.pool.hn nc1) (.int .i64 oo.world.time) (.int .i64 oo.world.next) (.slice n2 oo.world.sn nc2) (.slice n3 oo.world.pn nc3) (.int .i64 oo.id) (.int .i64 oo.many) (.int .i64 oo.code)
  have hb5:Below (w.heap.size+1+1) W1 (((((((((w3.setCell ⟨w.heap.size+1+1,0,none⟩ (.slice n0 oo.world.pool.n nc0)).setCell ⟨w.heap.size+1+1,1,none⟩ (.slice n1 oo.world.pool.hn nc1)).setCell ⟨w.heap.size+1+1,2,none⟩ (.int .i64 oo.world.time)).setCell ⟨w.heap.size+1+1,3,none⟩ (.int .i64 oo.world.next)).setCell ⟨w.heap.size+1+1,4,none⟩ (.slice n2 oo.world.sn nc2)).setCell ⟨w.heap.size+1+1,5,none⟩ (.slice n3 oo.world.pn nc3)).setCell ⟨w.heap.size+1+1,6,none⟩ (.int .i64 oo.id)).setCell ⟨w.heap.size+1+1,7,none⟩ (.int .i64 oo.many)).setCell ⟨w.heap.size+1+1,8,none⟩ (.int .i64 oo.code)):=(hb4.mono hRz).trans (hT.below (B:=w.heap.size+1+1) (by have:=hb4.size; omega) (fun k e=>by omega))
  refine hK.out _ _ (Hkeep.out _ hb5) ?_
  clear hK K hHeld r0 r1 r2 r3 r4 r5 r6 r7 r8 g0 g1 g2 g3 g4 g5 g6 g7 g8
  intro hHeld
  try simp only [Act.put,s1,s2,s3]
  refine wpAnyH_done (by kernel_rfl) ?_ _
  go_wp2_with fail
  have HRz:=HR3.out.put (.slice n0 oo.world.pool.n nc0) (.slice n1 oo.world.pool.hn nc1) (.int .i64 oo.world.time) (.int .i64 oo.world.next) (.slice n2 oo.world.sn nc2) (.slice n3 oo.world.pn nc3) (.int .i64 oo.id) (.int .i64 oo.many) (.int .i64 oo.code)
  have hbz:=below_next hb hb4
  have hsz:=hT.size
  have hz4:=hb4.size
  refine bodyPost_ret (v:=.agg #[.slice n0 oo.world.pool.n nc0,.slice n1 oo.world.pool.hn nc1,.int .i64 oo.world.time,.int .i64 oo.world.next,.slice n2 oo.world.sn nc2,.slice n3 oo.world.pn nc3,.int .i64 oo.id,.int .i64 oo.many,.int .i64 oo.code]) (by simp [results,Tryz.results16,go_sem,HRz.1.1,HRz.2.1.1,HRz.2.2.1.1,HRz.2.2.2.1.1,HRz.2.2.2.2.1.1,HRz.2.2.2.2.2.1.1,HRz.2.2.2.2.2.2.1.1,HRz.2.2.2.2.2.2.2.1.1,HRz.2.2.2.2.2.2.2.2.1]) rfl ⟨r,Href.out,?_⟩
  rw [Hoo.out]
  refine⟨_,_,_,_,rfl,?_,?_⟩
  ·exact(Hown.out.turned hT (fun k e=>by have:=hG.size; omega)).wide (by have:=hG.size; omega) hsz
  ·exact hbz.trans (hT.below (B:=w.heap.size) hbz.size (fun k e=>by omega))
end Go.Proofs.YtihdcanckbkgfaaGreatDoor

namespace Go.Proofs.YtihdcanckbkgfaaGreatDoor
open Go.RowKit
set_option linter.unusedVariables false
def holdD(p:PoolD)(xs:Int):PoolD:={n:=p.n,s:=p.s,hn:=p.hn+1,h:=fun i=>if i=p.hn then xs else p.h i}
open Classical in
noncomputable def holdP(p:PoolD)(xs xb:Int):OutD:=if Right p then(if Points p xs xb∧¬Has p.hn p.h xs then⟨holdD p xs,0,0,0⟩else⟨newP 0,0,0,4⟩)else⟨newP 0,0,0,1⟩
theorem hold_form{p:PoolD}{xs xb:Int}(h:¬Right p):holdP p xs xb=⟨newP 0,0,0,1⟩:=if_neg h
theorem hold_none{p:PoolD}{xs xb:Int}(h:Right p)(h':¬(Points p xs xb∧¬Has p.hn p.h xs)):holdP p xs xb=⟨newP 0,0,0,4⟩:=(if_pos h).trans (if_neg h')
theorem hold_ok{p:PoolD}{xs xb:Int}(h:Right p)(h':Points p xs xb)(h'':¬Has p.hn p.h xs):holdP p xs xb=⟨holdD p xs,0,0,0⟩:=(if_pos h).trans (if_pos ⟨h',h''⟩)
theorem ic_congr{f g:Nat→Int}{n:Nat}(h:∀i,i<n→f i=g i):ic f n=ic g n:=by
 induction n with
 | zero=>rfl
 | succ n ih=>
  unfold ic
  rw [ih (fun i hi=>h i (by omega)),h n (by omega)]
theorem ic_hold(p:PoolD)(xs:Int):ic (holdD p xs).h (p.hn+1)=ic p.h p.hn ++ [.int .i64 xs]:=by
 show ic (holdD p xs).h p.hn ++ [.int .i64 ((holdD p xs).h p.hn)]=_
 rw [ic_congr (f:=(holdD p xs).h) (g:=p.h) (fun i hi=>if_neg (by omega)),show(holdD p xs).h p.hn=xs from if_pos rfl]
theorem start3(w:World)(a0 a1 x0 x1:Value)(t1 t2 t3:TypeId) :
  Box2 (((w.alloc (.cells #[a0,a1] t1)).alloc (.cells #[x0,x1] t2)).alloc (.cells #[.slice none 0 0,.slice none 0 0,.int .i64 0,.int .i64 0,.int .i64 0] t3)) w.heap.size a0 a1∧
  Box2 (((w.alloc (.cells #[a0,a1] t1)).alloc (.cells #[x0,x1] t2)).alloc (.cells #[.slice none 0 0,.slice none 0 0,.int .i64 0,.int .i64 0,.int .i64 0] t3)) (w.heap.size+1) x0 x1∧
  Box5 (((w.alloc (.cells #[a0,a1] t1)).alloc (.cells #[x0,x1] t2)).alloc (.cells #[.slice none 0 0,.slice none 0 0,.int .i64 0,.int .i64 0,.int .i64 0] t3)) (w.heap.size+1+1) (.slice none 0 0) (.slice none 0 0) (.int .i64 0) (.int .i64 0) (.int .i64 0)∧
  Below w.heap.size w (((w.alloc (.cells #[a0,a1] t1)).alloc (.cells #[x0,x1] t2)).alloc (.cells #[.slice none 0 0,.slice none 0 0,.int .i64 0,.int .i64 0,.int .i64 0] t3))∧
  (((w.alloc (.cells #[a0,a1] t1)).alloc (.cells #[x0,x1] t2)).alloc (.cells #[.slice none 0 0,.slice none 0 0,.int .i64 0,.int .i64 0,.int .i64 0] t3)).heap.size=w.heap.size+3:=by
 refine⟨((Box2.new w a0 a1 t1).below (below_alloc _ _)).below (below_alloc _ _),?_,?_,below_next (below_next (below_alloc _ _) (below_alloc _ _)) (below_alloc _ _),by simp⟩
 ·have:=(Box2.new (w.alloc (.cells #[a0,a1] t1)) x0 x1 t2).below (below_alloc _ (.cells #[.slice none 0 0,.slice none 0 0,.int .i64 0,.int .i64 0,.int .i64 0] t3))
  rw [World.size_alloc] at this
  exact this
 ·have:=Box5.new ((w.alloc (.cells #[a0,a1] t1)).alloc (.cells #[x0,x1] t2)) (.slice none 0 0) (.slice none 0 0) (.int .i64 0) (.int .i64 0) (.int .i64 0) t3
  rw [World.size_alloc,World.size_alloc] at this
  exact this
theorem out_ret{w wr:World}{lo hi R:Nat}{s0 s1 u2 u3 u4:Value}{p:PoolD}(ho:PoolOwn wr lo hi s0 s1 p)(hR1:R<lo)(hlo:w.heap.size≤R)(hhi:hi≤wr.heap.size)(hb:Below w.heap.size w wr) :
  PoolOwn (put5 wr R s0 s1 u2 u3 u4) w.heap.size (put5 wr R s0 s1 u2 u3 u4).heap.size s0 s1 p∧Below w.heap.size w (put5 wr R s0 s1 u2 u3 u4):=by
 have t:=Turned.put5 wr R s0 s1 u2 u3 u4
 have hz:=t.size
 exact⟨(ho.turned t (fun k hk=>by omega)).wide (by omega) (by omega),hb.trans (t.below (by have:=hb.size; omega) (fun k hk=>by omega))⟩
theorem none_ret{w wr:World}{R:Nat}{u2 u3 u4:Value}(hlo:w.heap.size≤R)(hb:Below w.heap.size w wr) :
  PoolOwn (put5 wr R (.slice none 0 0) (.slice none 0 0) u2 u3 u4) w.heap.size (put5 wr R (.slice none 0 0) (.slice none 0 0) u2 u3 u4).heap.size (.slice none 0 0) (.slice none 0 0) (newP 0)∧Below w.heap.size w (put5 wr R (.slice none 0 0) (.slice none 0 0) u2 u3 u4):=by
 have t:=Turned.put5 wr R (.slice none 0 0) (.slice none 0 0) u2 u3 u4
 exact⟨none_own,hb.trans (t.below (by have:=hb.size; omega) (fun k hk=>by omega))⟩
theorem grown_of_turned{b:Nat}{w w':World}(t:Turned (fun k=>k=b) w w'):w.grownBy w' (some b):=⟨t.os,t.tape,t.output,t.size,fun k hk hne=>t.block k hk (fun e=>hne (by rw [e]))⟩
theorem news1(w:World)(x:Value)(t:TypeId):∀j u,[x][j]?=some u→(w.alloc (.cells #[x] t)).cell? ((⟨w.heap.size,0,none⟩:Addr).add j)=some u:=by
 intro j u hj
 match j,hj with
 | 0,hj=>simp at hj; subst hj; simp [Addr.add]
 | (j+1),hj=>simp at hj
theorem one1(x:Int):∀u∈[Value.int .i64 x],u.oneCell'=true:=by
 intro u hu
 simp only [List.mem_cons,List.not_mem_nil,or_false] at hu
 rw [hu]; rfl
theorem olds_at{w:World}{lo hi:Nat}{f:Nat→Int}{n c:Nat}{a:Option Addr}(h:IntsAt w lo hi (.slice a n c) n f){w':World}(hb:Below w.heap.size w w'):∀b,a=some b→∀j u,(ic f n)[j]?=some u→w'.cell? (b.add j)=some u:=by
 intro b hab j u hj
 have hlt:j<n:=by
  have:=(List.getElem?_eq_some_iff.1 hj).1
  rw [ic_len] at this
  omega
 obtain⟨b0,off,ha,hc⟩:=news_at h rfl hb (by omega)
 rw [ha] at hab
 simp only [Option.some.injEq] at hab
 subst hab
 rw [add_lit]
 exact hc j u hj
theorem none_len{w:World}{lo hi:Nat}{f:Nat→Int}{n c:Nat}{a:Option Addr}(h:IntsAt w lo hi (.slice a n c) n f):a=none→n=0∧n=0:=fun e=>by
 obtain⟨_,a2,c2,hv,_,hx⟩:=h
 simp only [Value.slice.injEq,true_and] at hv
 obtain⟨rfl,rfl⟩:=hv
 by_cases h0:0<n
 ·obtain⟨b,off,ha,_⟩:=hx h0
  rw [ha] at e
  cases e
 ·omega
theorem below_of_grown{w w':World}(h:w.grownBy w' none):Below w.heap.size w w':=⟨h.os,h.tape,h.output,h.size,fun k hk=>h.block k hk (by simp)⟩
theorem news1_of{w:World}{b:Nat}{x:Value}(h:w.cell? ⟨b,0,none⟩=some x):∀j u,[x][j]?=some u→w.cell? ((⟨b,0,none⟩:Addr).add j)=some u:=by
 intro j u hj
 match j,hj with
 | 0,hj=>simp at hj; subst hj; rw [add_lit]; exact h
 | (j+1),hj=>simp at hj
end Go.Proofs.YtihdcanckbkgfaaGreatDoor

namespace Go.Proofs.YtihdcanckbkgfaaGreatDoor
open Go.RowKit
set_option linter.unusedVariables false
set_option maxRecDepth 20000 in
set_option maxHeartbeats 2000000 in
theorem implPoolHold_any(v0 v1:Value)(lo hi:Nat)(p:PoolD)(xs xb:Int)(w:World)(h1:PoolAt w lo hi v0 v1 p)(hn:poolN p≤1048576) :
    Calls Tryz.prog 151 #[.agg #[v0,v1],.agg #[.int .i64 xs,.int .i64 xb]] w (NewOut (holdP p xs xb) w):=by
  have Hp:=hide h1
  obtain⟨a,c,a',c',rfl,rfl⟩:=h1.form
  have Hn:=hide hn
  have hm2:p.hn≤1048576:=by unfold poolN at hn; omega
  have hm1:p.n≤1048576:=by unfold poolN at hn; omega
  have Hkn:Hid (∀j,j<p.n→(p.s j).kn≤1048576):=fun j hj=>by have h2:=slotN_le p.s hj; unfold slotN at h2; unfold poolN at hn; omega
  have mc':p.hn≤c':=by obtain⟨_,⟨_,_,_,e,h,_⟩⟩:=h1; simp only [Value.slice.injEq,true_and] at e; omega
  have hst:=start3 w (.slice a p.n c) (.slice a' p.hn c') (.int .i64 xs) (.int .i64 xb) 33 56 181
  obtain⟨i0,hi0,hzz⟩:=Option.map_eq_some_iff.1 infoInt64
  simp only [Prod.mk.injEq] at hzz
  have HI:=hide (And.intro hi0 hzz)
  clear h1 hn hi0 hzz
  go_enter Tryz.func151,Tryz.ntmps151
  go_wp2_with fail
  generalize ((w.alloc (.cells #[.slice a p.n c,.slice a' p.hn c'] 33)).alloc (.cells #[.int .i64 xs,.int .i64 xb] 56)).alloc (.cells #[.slice none 0 0,.slice none 0 0,.int .i64 0,.int .i64 0,.int .i64 0] 181)=W at hst ⊢
  obtain⟨hB,hX,hR,hba,hz⟩:=hst
  refine(implPoolRight_any _ _ lo hi p _ (Hp.out.below hba)).mono ?_
  rintro e w1 ⟨⟨t,rfl,ht⟩,hb1⟩
  have HB1:=hide (hB.below hb1)
  have HX1:=hide (hX.below hb1)
  have HR1:=hide (hR.below hb1)
  have hB1:=below_next hba hb1
  have hz1:w.heap.size+3≤w1.heap.size:=by have:=hb1.size; omega
  clear hB hX hR hba hb1 hz
  by_cases hRt:Right p
  · have HRt:=hide hRt
    obtain rfl:t=true:=ht.2 hRt
    clear ht hRt
    obtain⟨⟨x0,x1⟩,⟨x2,x3⟩⟩:=HB1.out
    obtain⟨⟨y0,y1⟩,⟨y2,y3⟩⟩:=HX1.out
    go_wp2_with fail
    refine(isPtr_any _ p.n lo hi p.s _ _ _ (Hp.out.1.below hB1)).mono ?_
    rintro e w2 ⟨⟨t,rfl,ht⟩,hb2⟩
    rw [isPtr_iff HRt.out] at ht
    have HB2:=hide (HB1.out.below hb2)
    have HX2:=hide (HX1.out.below hb2)
    have HR2:=hide (HR1.out.below hb2)
    have hB2:=below_next hB1 hb2
    have hz2:w.heap.size+3≤w2.heap.size:=by have:=hb2.size; omega
    clear hb2 hB1 HB1 HX1 HR1 hz1 x0 x1 x2 x3 y0 y1 y2 y3
    by_cases hP:Points p xs xb
    · have HP:=hide hP
      obtain rfl:t=true:=ht.2 hP
      clear ht hP
      obtain⟨⟨x0,x1⟩,⟨x2,x3⟩⟩:=HB2.out
      obtain⟨⟨y0,y1⟩,⟨y2,y3⟩⟩:=HX2.out
      go_wp2_with fail
      refine(contains_any _ p.hn lo hi p.h _ _ (Hp.out.2.below hB2)).mono ?_
      rintro e w3 ⟨⟨t,rfl,ht⟩,hw3⟩
      subst hw3
      by_cases hH:Has p.hn p.h xs
      · have HH:=hide hH
        obtain rfl:t=true:=ht.2 hH
        clear ht hH
        obtain⟨⟨u0,u1⟩,⟨u2,u3⟩,⟨u4,u5⟩,⟨u6,u7⟩,⟨u8,u9⟩⟩:=HR2.out
        go_wp2
        have HR6:=HR2.out.put (.slice none 0 0) (.slice none 0 0) (.int .i64 0) (.int .i64 0) (.int .i64 4)
        have hpr:=none_ret (R:=w.heap.size+1+1) (u2:=.int .i64 0) (u3:=.int .i64 0) (u4:=.int .i64 4) (by omega) hB2
        rw [hold_none HRt.out (fun h=>h.2 HH.out)]
        exact bodyPost_ret (v:=.agg #[.slice none 0 0,.slice none 0 0,.int .i64 0,.int .i64 0,.int .i64 4]) (by simp [results,Tryz.results151,go_sem,HR6.1.1,HR6.2.1.1,HR6.2.2.1.1,HR6.2.2.2.1.1,HR6.2.2.2.2.1]) rfl ⟨_,_,rfl,hpr.1,hpr.2⟩
      · have HH:=hide hH
        obtain rfl:t=false:=bool_no ht hH
        clear ht hH
        obtain⟨⟨u0,u1⟩,⟨u2,u3⟩,⟨u4,u5⟩,⟨u6,u7⟩,⟨u8,u9⟩⟩:=HR2.out
        have hm2':(p.hn:Int)≤(c':Int):=by omega
        have n0:w.heap.size+1+1≠w.heap.size:=by omega
        have n1:w.heap.size+1+1≠w.heap.size+1:=by omega
        go_wp2_with fail
        go_region_held3 (fun w'=>w'.cell? ⟨w.heap.size,0,none⟩=some (.slice a p.n c)∧w'.cell? ⟨w.heap.size,1,none⟩=some (.slice a' p.hn c')∧w'.cell? ⟨w.heap.size+1,0,none⟩=some (.int .i64 xs)) (go_keep)
          (first
            | (go_at_call 163; refine(cloneSlots_any _ p.n lo hi p.s _ ?_ hm1 Hkn.out).mono ?_; (first | exact Hp.out.1.below hB2.drew | exact Hp.out.1.below (below_next hB2 (below_alloc _ _)).drew); rintro e w5 ⟨v5,bs,kb,kv,rfl,ho5,hap5,hpl5,hb5⟩; obtain⟨_,sa,sc5,rfl,_⟩:=id ho5; (first | (have hnc:w5.cell? ⟨w3.heap.size,0,none⟩=some (.int .i64 xs):=((cell_of_block (i:=0) (v:=.int .i64 xs) (heap_alloc_new w3 (.cells #[.int .i64 xs] 2)) rfl).below (below_undrew hb5)).1) | skip); have hb5':Below w3.heap.size w3 w5:=(by first | exact below_undrew hb5 | exact below_next (below_alloc _ _) (below_undrew hb5)); have hpl5':∀k,SlotsB bs kb p.n p.s k→w3.heap.size≤k∧k<w5.heap.size:=(by first | exact hpl5 | exact fun k hk=>(by have:=hpl5 k hk; simp at this; omega)); have z0:=(HB2.out.below hb5').1.1; have z1:=(HB2.out.below hb5').2.1; have z2:=(HX2.out.below hb5').1.1)
            | (refine step_append_grows rfl (.tmp 33) (.tmp 36) 23 rfl 2 i0 (.int .i64 0) 1 8 (by kernel_rfl) HI.out.1 HI.out.2.1 HI.out.2.2.1 HI.out.2.2.2 rfl (by decide) a' p.hn p.hn (ic p.h p.hn) (by simp [Act.eval]) (none_len Hp.out.2) (ic_len _ _) (olds_at Hp.out.2 (below_next hB2 (below_next hb5' (below_alloc w5 _)))) ⟨w5.heap.size,0,none⟩ 1 1 [.int .i64 xs] (by simp [Act.eval]) rfl (news1 _ _ _) (one1 _) (by omega) (by unfold maxLen; omega) (by omega) ?_
               intro v6 w6 hown6 hgrow6
               obtain⟨a6,c6,rfl,_⟩:=owns_form hown6
               have hb6:Below w5.heap.size w5 w6:=below_next (below_alloc w5 _) (below_of_grown hgrow6)
               have hrow6:w6.ownsRow w5.heap.size 2 1 (.slice a6 (p.hn+1) c6) (p.hn+1) (ic p.h p.hn ++ [.int .i64 xs]):=own_base hown6 (by simp)
               have hb6':=below_next hb5' hb6
               obtain⟨⟨p0,p1⟩,⟨p2,p3⟩⟩:=HB2.out.below hb6'
               obtain⟨⟨p4,p5⟩,⟨p6,p7⟩⟩:=HX2.out.below hb6'
               obtain⟨⟨p8,p9⟩,⟨p10,p11⟩,⟨p12,p13⟩,⟨p14,p15⟩,⟨p16,p17⟩⟩:=HR2.out.below hb6'
               clear hown6 hgrow6)
            | (refine step_append_grows rfl (.tmp 33) (.tmp 36) 23 rfl 2 i0 (.int .i64 0) 1 8 (by kernel_rfl) HI.out.1 HI.out.2.1 HI.out.2.2.1 HI.out.2.2.2 rfl (by decide) a' p.hn p.hn (ic p.h p.hn) (by simp [Act.eval]) (none_len Hp.out.2) (ic_len _ _) (olds_at Hp.out.2 (below_next hB2 hb5')) ⟨w3.heap.size,0,none⟩ 1 1 [.int .i64 xs] (by simp [Act.eval]) rfl (news1_of hnc) (one1 _) (by omega) (by unfold maxLen; omega) (by omega) ?_
               intro v6 w6 hown6 hgrow6
               obtain⟨a6,c6,rfl,_⟩:=owns_form hown6
               have hb6:Below w5.heap.size w5 w6:=below_of_grown hgrow6
               have hrow6:w6.ownsRow w5.heap.size 2 1 (.slice a6 (p.hn+1) c6) (p.hn+1) (ic p.h p.hn ++ [.int .i64 xs]):=own_base hown6 (by simp)
               have hb6':=below_next hb5' hb6
               obtain⟨⟨p0,p1⟩,⟨p2,p3⟩⟩:=HB2.out.below hb6'
               obtain⟨⟨p4,p5⟩,⟨p6,p7⟩⟩:=HX2.out.below hb6'
               obtain⟨⟨p8,p9⟩,⟨p10,p11⟩,⟨p12,p13⟩,⟨p14,p15⟩,⟨p16,p17⟩⟩:=HR2.out.below hb6'
               clear hown6 hgrow6))
        all_goals
          have Hpo:=hide (parts_own (p:=holdD p xs) (B:=w3.heap.size) (M:=w3.heap.size) (ho5.below hb6) hap5 (fun k hk=>by have:=hpl5' k hk; have:=hb6.size; omega) (by show p.hn+1≤maxLen; unfold maxLen; omega) (by rw [←ic_hold] at hrow6; exact hrow6) (fun k e=>by
            have h1:=hrow6.lt k e
            refine⟨by have:=hb5'.size; omega,Or.inr (Or.inr ⟨h1.2,fun hx=>?_⟩)⟩
            have:=hpl5' k hx
            omega) (Nat.le_refl _) (fun e=>absurd e (Nat.succ_ne_zero _)))
          have HR7:=hide (HR2.out.below hb6')
          have hB7:=below_next hB2 hb6'
          clear ho5 hap5 hpl5 hpl5' hb5 hb5' hb6 hb6' hrow6
          go_wp2
          have HR8:=HR7.out.put (.slice sa p.n sc5) (.slice a6 (p.hn+1) c6) (.int .i64 0) (.int .i64 0) (.int .i64 0)
          have hpr:=out_ret (R:=w.heap.size+1+1) (u2:=.int .i64 0) (u3:=.int .i64 0) (u4:=.int .i64 0) Hpo.out (by omega) (by omega) (Nat.le_refl _) hB7
          rw [hold_ok HRt.out HP.out HH.out]
          exact bodyPost_ret (v:=.agg #[.slice sa p.n sc5,.slice a6 (p.hn+1) c6,.int .i64 0,.int .i64 0,.int .i64 0]) (by simp [results,Tryz.results151,go_sem,HR8.1.1,HR8.2.1.1,HR8.2.2.1.1,HR8.2.2.2.1.1,HR8.2.2.2.2.1]) rfl ⟨_,_,rfl,hpr.1,hpr.2⟩
    · have HP:=hide hP
      obtain rfl:t=false:=bool_no ht hP
      clear ht hP
      obtain⟨⟨u0,u1⟩,⟨u2,u3⟩,⟨u4,u5⟩,⟨u6,u7⟩,⟨u8,u9⟩⟩:=HR2.out
      go_wp2
      have HR6:=HR2.out.put (.slice none 0 0) (.slice none 0 0) (.int .i64 0) (.int .i64 0) (.int .i64 4)
      have hpr:=none_ret (R:=w.heap.size+1+1) (u2:=.int .i64 0) (u3:=.int .i64 0) (u4:=.int .i64 4) (by omega) hB2
      rw [hold_none HRt.out (fun h=>HP.out h.1)]
      exact bodyPost_ret (v:=.agg #[.slice none 0 0,.slice none 0 0,.int .i64 0,.int .i64 0,.int .i64 4]) (by simp [results,Tryz.results151,go_sem,HR6.1.1,HR6.2.1.1,HR6.2.2.1.1,HR6.2.2.2.1.1,HR6.2.2.2.2.1]) rfl ⟨_,_,rfl,hpr.1,hpr.2⟩
  · have HRt:=hide hRt
    obtain rfl:t=false:=bool_no ht hRt
    clear ht hRt
    obtain⟨⟨u0,u1⟩,⟨u2,u3⟩,⟨u4,u5⟩,⟨u6,u7⟩,⟨u8,u9⟩⟩:=HR1.out
    go_wp2
    have HR6:=HR1.out.put (.slice none 0 0) (.slice none 0 0) (.int .i64 0) (.int .i64 0) (.int .i64 1)
    have hpr:=none_ret (R:=w.heap.size+1+1) (u2:=.int .i64 0) (u3:=.int .i64 0) (u4:=.int .i64 1) (by omega) hB1
    rw [hold_form HRt.out]
    exact bodyPost_ret (v:=.agg #[.slice none 0 0,.slice none 0 0,.int .i64 0,.int .i64 0,.int .i64 1]) (by simp [results,Tryz.results151,go_sem,HR6.1.1,HR6.2.1.1,HR6.2.2.1.1,HR6.2.2.2.1.1,HR6.2.2.2.2.1]) rfl ⟨_,_,rfl,hpr.1,hpr.2⟩
end Go.Proofs.YtihdcanckbkgfaaGreatDoor

namespace Go.Proofs.YtihdcanckbkgfaaGreatDoor
open Go.RowKit
set_option linter.unusedVariables false
theorem has_hold{p:PoolD}{xs y:Int}{j:Nat}(hj:j≤p.hn):Has j (holdD p xs).h y↔Has j p.h y:=by
 constructor
 ·rintro⟨k,hk,e⟩
  exact⟨k,hk,by rw [←e]; exact(if_neg (by omega:¬k=p.hn)).symm⟩
 ·rintro⟨k,hk,e⟩
  exact⟨k,hk,by rw [←e]; exact if_neg (by omega:¬k=p.hn)⟩
theorem right_hold{p:PoolD}{xs xb:Int}(hR:Right p)(hP:Points p xs xb)(hH:¬Has p.hn p.h xs):Right (holdD p xs):=by
 refine⟨hR.1,fun j hj=>hR.2.1 j hj,fun j hj=>?_⟩
 by_cases e:j=p.hn
 ·subst e
  have hx:(holdD p xs).h p.hn=xs:=if_pos rfl
  refine⟨?_,?_,?_,?_⟩
  ·rw [hx]; exact hP.2.1
  ·rw [hx]; exact hP.2.2.1
  ·rw [hx]
   intro hf
   have h4:=hP.2.2.2
   have h5:(p.s xs.toNat).birth=0:=hf.1
   have:=hP.1
   omega
  ·rw [hx,has_hold (Nat.le_refl _)]
   exact hH
 ·have hj':j<p.hn:=by have:j<p.hn+1:=hj; omega
  have hx:(holdD p xs).h j=p.h j:=if_neg e
  obtain⟨h1,h2,h3,h4⟩:=hR.2.2 j hj'
  refine⟨?_,?_,?_,?_⟩
  ·rw [hx]; exact h1
  ·rw [hx]; exact h2
  ·rw [hx]; exact h3
  ·rw [hx,has_hold (by omega)]
   exact h4
end Go.Proofs.YtihdcanckbkgfaaGreatDoor

namespace Go.Proofs.YtihdcanckbkgfaaGreatDoor
open Go.RowKit
set_option linter.unusedVariables false
theorem slots_small{p:PoolD}(h:∀i,i<p.n→Free (p.s i)∨Fits p (p.s i)):∀k,k≤p.n→slotsN p.s k≤24*k
 | 0,_=>Nat.le_refl _
 | k+1,hk=>by
  have ih:=slots_small h k (by omega)
  have hs:slotN (p.s k)≤24:=by
   unfold slotN
   rcases h k (by omega)with hf | hf
   ·have h1:=hf.2.1
    have h2:(p.s k).data.size=0:=by
     have:=hf.2.2
     rw [Go.ByteArray.toList_eq] at this
     have e:(p.s k).data.data=#[]:=by simpa using this
     show(p.s k).data.data.size=0
     rw [e]
     rfl
    omega
   ·rcases hf.2 with h2 | h2
    ·omega
    ·have h3:(p.s k).data.size=0:=by
      have:=h2.2.1
      rw [Go.ByteArray.toList_eq] at this
      have e:(p.s k).data.data=#[]:=by simpa using this
      show(p.s k).data.data.size=0
      rw [e]
      rfl
     omega
  show slotsN p.s k+slotN (p.s k)≤_
  omega
theorem right_small{p:PoolD}(h:Right p):poolN p≤10000:=by
 have h1:=slots_small h.2.1 p.n (Nat.le_refl _)
 have h2:=((right_iff p).2 h).2.1
 have h3:=h.1
 unfold poolN
 omega
end Go.Proofs.YtihdcanckbkgfaaGreatDoor
