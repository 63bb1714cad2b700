/- What impl.hasId answers. -/
import Derived.Test.YteipkhpniokkgaaGreatDoorG13
import Derived.Test.YteipkhpniokkgaaGreatDoorG23
import Derived.Test.YteipkhpniokkgaaGreatDoorG18
import Derived.Test.YteipkhpniokkgaaGreatDoorG4
import Derived.Deep.DeepCutAuto
import Derived.Test.YteipkhpniokkgaaGreatDoorG21
import Derived.Test.YteipkhpniokkgaaGreatDoorG20
namespace Go.Proofs.YteipkhpniokkgaaGreatDoor
open Go.RowKit Go.Maps
set_option linter.unusedVariables false
theorem snaps_has{W:WorldD}{vd:Nat→Value}(x:Int):Maps.has (putD (fun i=>keyN (W.snaps i).id) (fun i=>snapV (vd i) (W.snaps i)) W.pn) (keyN x)=true↔HasId W x:=by
 rw [putD_has (fun i=>keyN_key _)]
 constructor
 ·rintro⟨i,hi,e⟩
  exact⟨i,hi,keyN_inj e⟩
 ·rintro⟨i,hi,e⟩
  exact⟨i,hi,by rw [e]⟩
set_option maxRecDepth 20000 in
set_option maxHeartbeats 1000000 in
theorem hasId_any(v0 v1 v2 v3:Value)(lo hi:Nat)(W:WorldD)(x:Int)(w:World)(h:WorldAt w lo hi v0 v1 v2 v3 W)(hn:W.pn≤20)(hwf:IdsWf W.pn W.snaps)(hD:IdsDist W)(hx:(Lit.int .i64 x).wf=true) :
  Calls Tryz.prog 99 #[worldV v0 v1 v2 v3 W,.int .i64 x] w fun e w'=>BoolIs (HasId W x) e∧Below w.heap.size w w':=by
 have Hp:=hideW h
 have HD:=hideW hD
 have Hkey:=hideW (keyN_of hx)
 clear h hD hx
 have ha:=below_alloc w (.cells #[v0,v1,.int .i64 W.time,.int .i64 W.next,v2,v3] 37)
 obtain⟨⟨x0,-⟩,⟨x2,-⟩,⟨x4,-⟩,⟨x6,-⟩,⟨x8,-⟩,⟨x10,-⟩⟩:=Box6.new w v0 v1 (.int .i64 W.time) (.int .i64 W.next) v2 v3 37
 go_enter Tryz.func99,Tryz.ntmps99
 go_wp2_with fail
 clear x0 x2 x4 x6 x8 x10
 generalize w.alloc (.cells #[v0,v1,.int .i64 W.time,.int .i64 W.next,v2,v3] 37)=W0 at ha ⊢
 refine(snapsById_any v0 v1 v2 v3 lo hi W W0 (Hp.out.below ha) hn hwf).mono ?_
 rintro e w1 ⟨vd,rfl,hm,hd,hb1⟩
 obtain⟨a,c,hat,-⟩:=snaps_look HD.out hd x
 have HM:=hideW hm
 have Hat:=hideW hat
 have hB1:=below_next ha hb1
 have Hhas:=hideW (@snaps_has W vd x)
 clear hm hd hat ha hb1
 unfold snapV at Hat
 generalize aheadOf W x=S at *
 have hal2:=below_alloc w1 (.cells #[.int .i64 S.id,.string S.name,.string S.set,.int .i64 S.prev,.int .i64 S.time,.int .i64 S.rs,.int .i64 S.rb,.slice a S.dn c] 92)
 have hB2:=below_next hB1 hal2
 clear hal2
 obtain⟨t,ht⟩:∃t,Maps.has (putD (fun i=>keyN (W.snaps i).id) (fun i=>snapV (vd i) (W.snaps i)) W.pn) (keyN x)=t:=⟨_,rfl⟩
 have Ht:=hideW ht
 have HB:=hideW (show t=true↔HasId W x by rw [←ht]; exact Hhas.out)
 clear ht Hhas
 go_wp2_with (first
  | (at_lookup; refine wpList_lookup_raw_ok _ rfl _ _ 181 rfl 2 92 lawI snapsT (zeroSnapV _) (W0.heap.size+1) W.pn _ rfl HM.out _ _ rfl Hkey.out _ Hat.out t Ht.out ?_)
  | go_in)
 go_ret
 exact⟨⟨t,rfl,HB.out⟩,hB2⟩
end Go.Proofs.YteipkhpniokkgaaGreatDoor

namespace Go.Proofs.YteipkhpniokkgaaGreatDoor
open Go.RowKit
set_option linter.unusedVariables false
set_option maxRecDepth 20000 in
set_option maxHeartbeats 2000000 in
theorem roomForSetQ_any(v0 v1 v2 v3:Value)(lo hi:Nat)(W:WorldD)(w:World)(h:WorldAt w lo hi v0 v1 v2 v3 W) :
  Calls Tryz.prog 75 #[worldV v0 v1 v2 v3 W] w fun e w'=>BoolIs (W.sn<8) e∧Below w.heap.size w w':=by
 obtain⟨l0,lc0,l1,lc1,l2,lc2,l3,lc3,rfl,rfl,rfl,rfl⟩:=h.form
 have m1:=h.sets.1
 unfold maxLen at m1
 clear h
 have ha:=below_alloc w (.cells #[.slice l0 W.pool.n lc0,.slice l1 W.pool.hn lc1,.int .i64 W.time,.int .i64 W.next,.slice l2 W.sn lc2,.slice l3 W.pn lc3] 37)
 obtain⟨⟨x0,-⟩,⟨x1,-⟩,⟨x2,-⟩,⟨x3,-⟩,⟨x4,-⟩,⟨x5,-⟩⟩:=Box6.new w (.slice l0 W.pool.n lc0) (.slice l1 W.pool.hn lc1) (.int .i64 W.time) (.int .i64 W.next) (.slice l2 W.sn lc2) (.slice l3 W.pn lc3) 37
 by_cases e1:W.sn<8
 ·have a1:(W.sn:Int)<8:=by omega
  have H:=hideW e1
  clear e1
  go_enter Tryz.func75,Tryz.ntmps75
  go_wp2
  go_ret
  exact⟨BoolIs.yes H.out,ha⟩
 ·have a1:¬(W.sn:Int)<8:=by omega
  have H:=hideW e1
  clear e1
  go_enter Tryz.func75,Tryz.ntmps75
  go_wp2
  go_ret
  exact⟨BoolIs.no H.out,ha⟩
set_option maxRecDepth 20000 in
set_option maxHeartbeats 2000000 in
theorem snapThereQ_any(v0 v1 v2 v3:Value)(lo hi:Nat)(W:WorldD)(B:Nat)(id:Int)(w:World)(h:WorldAt w lo hi v0 v1 v2 v3 W)(hn:W.pn≤20)(hwf:IdsWf W.pn W.snaps)(hD:IdsDist W)(hx:(Lit.int .i64 id).wf=true)(hc:w.cell? ⟨B,0,none⟩=some (.int .i64 id)) :
  Calls Tryz.prog 98 #[worldV v0 v1 v2 v3 W,.pointer (some ⟨B,0,none⟩)] w fun e w'=>BoolIs (HasId W id) e∧Below w.heap.size w w':=by
 have Hp:=hideW h
 have HD:=hideW hD
 have Hwf:=hideW hwf
 have Hx:=hideW hx
 clear h hD hwf hx
 have ha:=below_alloc w (.cells #[v0,v1,.int .i64 W.time,.int .i64 W.next,v2,v3] 37)
 have hc1:=(ha.cell (lt_of_cell hc)).trans hc
 obtain⟨⟨x0,-⟩,⟨x1,-⟩,⟨x2,-⟩,⟨x3,-⟩,⟨x4,-⟩,⟨x5,-⟩⟩:=Box6.new w (v0) (v1) (.int .i64 W.time) (.int .i64 W.next) (v2) (v3) 37
 go_enter Tryz.func98,Tryz.ntmps98
 go_wp2_with fail
 clear x0 x1 x2 x3 x4 x5 hc hc1
 generalize w.alloc (.cells #[v0,v1,.int .i64 W.time,.int .i64 W.next,v2,v3] 37)=W0 at ha ⊢
 refine(hasId_any v0 v1 v2 v3 lo hi W id W0 (Hp.out.below ha) hn Hwf.out HD.out Hx.out).mono ?_
 rintro e w1 ⟨⟨t,rfl,ht⟩,hb1⟩
 have Ht:=hideW ht
 clear ht
 go_wp2
 go_ret
 exact⟨⟨t,rfl,Ht.out⟩,below_next ha hb1⟩
set_option maxRecDepth 20000 in
set_option maxHeartbeats 2000000 in
theorem roomForSet_any(p:Nat→Addr)(w:World)(hE:Errs w p) :
  Calls Tryz.prog 32 #[] w fun e w'=>e = .returned (.agg #[.func (.func 75) #[] #[],errV (p 4)])∧Below w.heap.size w w':=by
 have hk0:=below_alloc w (.cells #[.nilFunc,.nilIface] 73)
 have hb:=hk0
 have hg:(w.alloc (.cells #[.nilFunc,.nilIface] 73)).cell? ⟨1,0,none⟩=some (errV (p 4)):=(hE.below hb).cell 4 (by omega)
 have hkf:=below_alloc w (.cells #[.func (.func 75) #[] #[],errV (p 4)] 73)
 have hbf:=hkf
 go_enter Tryz.func32,Tryz.ntmps32
 have hst:=fun (ww:World) (a:Addr)=>run_store Tryz.prog ww a (.func (.func 75) #[] #[]) .plain rfl
 go_wp2_with fail
 have HRf:=Box2.new w (.func (.func 75) #[] #[]) (errV (p 4)) 73
 skip
 refine bodyPost_ret (v:=.agg #[.func (.func 75) #[] #[],errV (p 4)]) (by simp [results,Tryz.results32,go_sem,HRf.1.1,HRf.2.1]) rfl ⟨rfl,hbf⟩
set_option maxRecDepth 20000 in
set_option maxHeartbeats 2000000 in
theorem snapThere_any(p:Nat→Addr)(s0:Int)(w:World)(hE:Errs w p) :
  Calls Tryz.prog 51 #[.int .i64 s0] w fun e w'=>∃B0:Nat,e = .returned (.agg #[.func (.func 98) #[] #[.pointer (some ⟨B0,0,none⟩)],errV (p 2)])∧w'.cell? ⟨B0,0,none⟩=some (.int .i64 s0)∧Below w.heap.size w w':=by
 have hk0:=below_alloc w (.cells #[.int .i64 s0] 2)
 have hk1:=below_alloc (w.alloc (.cells #[.int .i64 s0] 2)) (.cells #[.nilFunc,.nilIface] 73)
 have hb:=below_next (hk0) hk1
 have c0:(w.alloc (.cells #[.int .i64 s0] 2)).cell? ⟨w.heap.size,0,none⟩=some (.int .i64 s0):=World.cell?_alloc_at _ _ _ _ rfl
 have hg:((w.alloc (.cells #[.int .i64 s0] 2)).alloc (.cells #[.nilFunc,.nilIface] 73)).cell? ⟨2,0,none⟩=some (errV (p 2)):=(hE.below hb).cell 2 (by omega)
 have hkf:=below_alloc (w.alloc (.cells #[.int .i64 s0] 2)) (.cells #[.func (.func 98) #[] #[.pointer (some ⟨w.heap.size,0,none⟩)],errV (p 2)] 73)
 have hbf:=below_next (hk0) hkf
 have Hc0:=hideW ((hkf.cell (lt_of_cell c0)).trans c0)
 clear c0
 go_enter Tryz.func51,Tryz.ntmps51
 have hst:=fun (ww:World) (a:Addr)=>run_store Tryz.prog ww a (.func (.func 98) #[] #[.pointer (some ⟨w.heap.size,0,none⟩)]) .plain rfl
 go_wp2_with fail
 have HRf:=Box2.new (w.alloc (.cells #[.int .i64 s0] 2)) (.func (.func 98) #[] #[.pointer (some ⟨w.heap.size,0,none⟩)]) (errV (p 2)) 73
 rw [World.size_alloc] at HRf
 refine bodyPost_ret (v:=.agg #[.func (.func 98) #[] #[.pointer (some ⟨w.heap.size,0,none⟩)],errV (p 2)]) (by simp [results,Tryz.results51,go_sem,HRf.1.1,HRf.2.1]) rfl ⟨_,rfl,Hc0.out,hbf⟩
end Go.Proofs.YteipkhpniokkgaaGreatDoor

namespace Go.Proofs.YteipkhpniokkgaaGreatDoor
open Go.RowKit
set_option linter.unusedVariables false
set_option maxRecDepth 20000 in
set_option maxHeartbeats 400000 in
theorem implSetNew_of(p:Nat→Addr)(v0 v1 v2 v3:Value)(lo hi:Nat)(W:WorldD)(name:ByteArray)(o:WOutD)(w:World)(hE:Errs w p)(h:WorldAt w lo hi v0 v1 v2 v3 W)(hwf:PrevsWf W)(b1:poolN W.pool≤1048576)(b2:W.sn≤1048576)(b3:W.pn≤1048576)(b4:DeadsN W)(hname:name.size≤maxLen)
  (hdo:∀B0 C w' z0 z1 z2 z3,w'.cell? ⟨B0,0,none⟩=some (.string name)→B0<C→ImplW W→¬(∃i,i<1∧8000<((fun (_:Nat)=>name) i).size)→¬(∃i,i<1∧¬NameP ((fun i=>match i with  | _=>name) i))→(∀j,j<2→(fun i=>match i with | 0=>¬HasSet W name | _=>W.sn<8) j)→C<w'.heap.size→Below w.heap.size w w'→WorldOwnR w' (C+1) w'.heap.size z0 z1 z2 z3 W→Box9 w' C z0 z1 (.int .i64 W.time) (.int .i64 W.next) z2 z3 (.int .i64 0) (.int .i64 0) .nilIface→Calls Tryz.prog 33 #[.pointer (some ⟨C,0,none⟩),.pointer (some ⟨B0,0,none⟩)] w' (DoneI p o C w')) :
  Calls Tryz.prog 9 #[worldV v0 v1 v2 v3 W,.string name] w fun e w'=>∃r,RefI W (∃i,i<1∧8000<((fun (_:Nat)=>name) i).size) (∃i,i<1∧¬NameP ((fun i=>match i with  | _=>name) i)) 2 (fun i=>match i with | 0=>¬HasSet W name | _=>W.sn<8) (fun i=>match i with | 0=>3 | _=>4) r∧NewWOut (outW r o) w e w':=by
 have Hp:=hideE h
 have HE:=hideE hE
 have HDo:=hideE hdo
 have Hwf:=hideE hwf
 have Hsz_name:=hideE hname
 clear h hE hdo hwf
 have ha0:=below_alloc w (.cells #[v0,v1,.int .i64 W.time,.int .i64 W.next,v2,v3] 37)
 have ha1:=below_alloc (w.alloc (.cells #[v0,v1,.int .i64 W.time,.int .i64 W.next,v2,v3] 37)) (.cells #[.string name] 9)
 have ha2:=below_alloc ((w.alloc (.cells #[v0,v1,.int .i64 W.time,.int .i64 W.next,v2,v3] 37)).alloc (.cells #[.string name] 9)) (.cells #[.slice none 0 0,.slice none 0 0,.int .i64 0,.int .i64 0,.slice none 0 0,.slice none 0 0,.int .i64 0,.int .i64 0,.int .i64 0] 39)
 have hb:=below_next (below_next (ha0) ha1) ha2
 have HX:=hideE (((Box6.new w (v0) (v1) (.int .i64 W.time) (.int .i64 W.next) (v2) (v3) 37).below ha1).below ha2)
 have c0:((w.alloc (.cells #[v0,v1,.int .i64 W.time,.int .i64 W.next,v2,v3] 37)).alloc (.cells #[.string name] 9)).cell? ⟨(w.alloc (.cells #[v0,v1,.int .i64 W.time,.int .i64 W.next,v2,v3] 37)).heap.size,0,none⟩=some (.string name):=World.cell?_alloc_at _ _ _ _ rfl
 rw [World.size_alloc] at c0
 replace c0:=(ha2.cell (lt_of_cell c0)).trans c0
 have HC0:=hideE c0
 clear c0
 have hr:=Box9.new ((w.alloc (.cells #[v0,v1,.int .i64 W.time,.int .i64 W.next,v2,v3] 37)).alloc (.cells #[.string name] 9)) (.slice none 0 0) (.slice none 0 0) (.int .i64 0) (.int .i64 0) (.slice none 0 0) (.slice none 0 0) (.int .i64 0) (.int .i64 0) (.int .i64 0) 39
 rw [World.size_alloc,World.size_alloc] at hr
 have HR:=hideE hr
 clear hr
 have hz:(((w.alloc (.cells #[v0,v1,.int .i64 W.time,.int .i64 W.next,v2,v3] 37)).alloc (.cells #[.string name] 9)).alloc (.cells #[.slice none 0 0,.slice none 0 0,.int .i64 0,.int .i64 0,.slice none 0 0,.slice none 0 0,.int .i64 0,.int .i64 0,.int .i64 0] 39)).heap.size=w.heap.size+3:=by rw [World.size_alloc,World.size_alloc,World.size_alloc]
 go_enter Tryz.func9,Tryz.ntmps9
 go_upto_region 1 with fail
 generalize (((w.alloc (.cells #[v0,v1,.int .i64 W.time,.int .i64 W.next,v2,v3] 37)).alloc (.cells #[.string name] 9)).alloc (.cells #[.slice none 0 0,.slice none 0 0,.int .i64 0,.int .i64 0,.slice none 0 0,.slice none 0 0,.int .i64 0,.int .i64 0,.int .i64 0] 39))=W1 at hb HX HR hz HC0 ⊢
 clear ha0 ha1 ha2
 obtain⟨⟨x0,-⟩,⟨x1,-⟩,⟨x2,-⟩,⟨x3,-⟩,⟨x4,-⟩,⟨x5,-⟩⟩:=HX.out
 have k0:=HC0.out
 have Hkeep:=hideE (show ∀w',Below (w.heap.size+1+1) W1 w'→(fun w'=>w'.cell? ⟨w.heap.size,0,none⟩=some (v0)∧w'.cell? ⟨w.heap.size,1,none⟩=some (v1)∧w'.cell? ⟨w.heap.size,2,none⟩=some (.int .i64 W.time)∧w'.cell? ⟨w.heap.size,3,none⟩=some (.int .i64 W.next)∧w'.cell? ⟨w.heap.size,4,none⟩=some (v2)∧w'.cell? ⟨w.heap.size,5,none⟩=some (v3)∧w'.cell? ⟨w.heap.size+1,0,none⟩=some (.string name)∧Below (w.heap.size+1+1) W1 w') w' from fun w' hbw=>⟨(hbw.cell (p:=⟨w.heap.size,0,none⟩) (by show w.heap.size<_; omega)).trans x0,(hbw.cell (p:=⟨w.heap.size,1,none⟩) (by show w.heap.size<_; omega)).trans x1,(hbw.cell (p:=⟨w.heap.size,2,none⟩) (by show w.heap.size<_; omega)).trans x2,(hbw.cell (p:=⟨w.heap.size,3,none⟩) (by show w.heap.size<_; omega)).trans x3,(hbw.cell (p:=⟨w.heap.size,4,none⟩) (by show w.heap.size<_; omega)).trans x4,(hbw.cell (p:=⟨w.heap.size,5,none⟩) (by show w.heap.size<_; omega)).trans x5,(hbw.cell (p:=⟨w.heap.size+1,0,none⟩) (by show w.heap.size+1<_; omega)).trans k0,hbw⟩)
 have hRz:w.heap.size+1+1≤W1.heap.size:=by omega
 clear x0 x1 x2 x3 x4 x5 k0
 refine wp_region_held_drew (S:=(fun w'=>w'.cell? ⟨w.heap.size,0,none⟩=some (v0)∧w'.cell? ⟨w.heap.size,1,none⟩=some (v1)∧w'.cell? ⟨w.heap.size,2,none⟩=some (.int .i64 W.time)∧w'.cell? ⟨w.heap.size,3,none⟩=some (.int .i64 W.next)∧w'.cell? ⟨w.heap.size,4,none⟩=some (v2)∧w'.cell? ⟨w.heap.size,5,none⟩=some (v3)∧w'.cell? ⟨w.heap.size+1,0,none⟩=some (.string name)∧Below (w.heap.size+1+1) W1 w')) (by kernel_rfl) (Hkeep.out _ ((Below.refl _ _).drew.mono hRz)) (fun hHeld=>?_)
 have hG0:Below W1.heap.size W1 W1.drew:=(Below.refl _ _).drew
 refine tk 0 (h:=?_)
 refine tk 2 (h:=?_)
 refine tk 4 (h:=?_)
 refine tk 8 (h:=?_)
 refine tk 10 (h:=?_)
 refine mono_here [1,3,5,6,7] (fun i=>if i=7 then [5,6] else []) (fun i=>i+5) (fun i v w'=>(i=1→TextsAt w' v 1 (fun (_:Nat)=>name))∧(i=3→TextsAt w' v 1 (fun i=>match i with  | _=>name))∧(i=5→QAt w' p 73 3 [.string name] v)∧(i=6→QAt w' p 75 4 [] v)∧(i=7→AskedQ w' p 2 (fun i=>match i with | 0=>73 | _=>75) (fun i=>match i with | 0=>3 | _=>4) (fun i=>match i with | 0=>[.string name] | _=>[]) v)) 3 (G:=fun w'=>Below W1.heap.size W1 w') (by kernel_rfl) (by decide) (by decide) (by decide) ?_ (fun _ _ h t=>below_next h t) (by assumption) hG0 ?_ ?_
 ·intro i v w' w'' hf t
  exact⟨fun e=>(hf.1 e).below t,fun e=>(hf.2.1 e).below t,fun e=>(hf.2.2.1 e).below t,fun e=>(hf.2.2.2.1 e).below t,fun e=>(hf.2.2.2.2 e).below t⟩
 ·intro i hi x w2 hS hG hD K hK
  simp only [List.mem_cons,List.not_mem_nil,or_false] at hi
  rcases hi with rfl | rfl | rfl | rfl | rfl
  ·refine wpOp_step (nthO_get rfl) (fun K' hK'=>?_)
   simp only [putsA,Act.put,Nat.reduceAdd,s1,s2,s3]
   have hal:=below_alloc w2 (.cells #[.string name] 9)
   go_simp
   refine hK' _ _ (hK.out _ _ _ ?_ (Hkeep.out _ ((below_next hG hal).mono hRz)) ⟨fun _=>texts_one Hsz_name.out rfl,fun e=>absurd e (by decide),fun e=>absurd e (by decide),fun e=>absurd e (by decide),fun e=>absurd e (by decide)⟩ hal)
   simp only [putsA,Act.put,Nat.reduceAdd,s1,s2,s3]
  ·refine wpOp_step (nthO_get rfl) (fun K' hK'=>?_)
   simp only [putsA,Act.put,Nat.reduceAdd,s1,s2,s3]
   have hal:=below_alloc w2 (.cells #[.string name] 9)
   go_simp
   refine hK' _ _ (hK.out _ _ _ ?_ (Hkeep.out _ ((below_next hG hal).mono hRz)) ⟨fun e=>absurd e (by decide),fun _=>texts_one Hsz_name.out rfl,fun e=>absurd e (by decide),fun e=>absurd e (by decide),fun e=>absurd e (by decide)⟩ hal)
   simp only [putsA,Act.put,Nat.reduceAdd,s1,s2,s3]
  ·refine wpOp_step (nthO_get rfl) (fun K' hK'=>?_)
   simp only [putsA,Act.put,Nat.reduceAdd,s1,s2,s3]
   go_simp
   go_at_call 31
   refine(setNotThere_any p name w2 (HE.out.below (below_next hb hG))).mono ?_
   rintro e w3 ⟨B0,rfl,hc0,hb3⟩
   refine hK' _ _ (hK.out _ _ w3 ?_ (Hkeep.out _ ((below_next hG hb3).mono hRz)) ⟨fun e=>absurd e (by decide),fun e=>absurd e (by decide),fun _=>⟨_,rfl,CapsAt.one hc0⟩,fun e=>absurd e (by decide),fun e=>absurd e (by decide)⟩ hb3)
   simp only [putsA,Act.put,Nat.reduceAdd,s1,s2,s3]
  ·refine wpOp_step (nthO_get rfl) (fun K' hK'=>?_)
   simp only [putsA,Act.put,Nat.reduceAdd,s1,s2,s3]
   go_simp
   go_at_call 32
   refine(roomForSet_any p  w2 (HE.out.below (below_next hb hG))).mono ?_
   rintro e w3 ⟨rfl,hb3⟩
   refine hK' _ _ (hK.out _ _ w3 ?_ (Hkeep.out _ ((below_next hG hb3).mono hRz)) ⟨fun e=>absurd e (by decide),fun e=>absurd e (by decide),fun e=>absurd e (by decide),fun _=>⟨_,rfl,CapsAt.zero⟩,fun e=>absurd e (by decide)⟩ hb3)
   simp only [putsA,Act.put,Nat.reduceAdd,s1,s2,s3]
  ·refine wpOp_step (nthO_get rfl) (fun K' hK'=>?_)
   simp only [putsA,Act.put,Nat.reduceAdd,s1,s2,s3]
   obtain⟨lb0,e0,hcap0⟩:=(hD 5 (by decide)).2.2.1 rfl
   obtain⟨lb1,e1,hcap1⟩:=(hD 6 (by decide)).2.2.2.1 rfl
   simp only [e0,e1]
   have hal:=below_alloc w2 (.cells #[.func (.func 73) #[] lb0,errV (p 3),.func (.func 75) #[] lb1,errV (p 4)] 73)
   have hA:AskedQ (w2.alloc (.cells #[.func (.func 73) #[] lb0,errV (p 3),.func (.func 75) #[] lb1,errV (p 4)] 73)) p 2 (fun i=>match i with | 0=>73 | _=>75) (fun i=>match i with | 0=>3 | _=>4) (fun i=>match i with | 0=>[.string name] | _=>[]) (.slice (some ⟨w2.heap.size,0,none⟩) 2 2):=asked2 (g:=(fun i=>match i with | 0=>73 | _=>75)) (ei:=(fun i=>match i with | 0=>3 | _=>4)) (caps:=(fun i=>match i with | 0=>[.string name] | _=>[])) hcap0 hcap1
   go_simp
   refine hK' _ _ (hK.out _ _ _ ?_ (Hkeep.out _ ((below_next hG hal).mono hRz)) ⟨fun e=>absurd e (by decide),fun e=>absurd e (by decide),fun e=>absurd e (by decide),fun e=>absurd e (by decide),fun _=>hA⟩ hal)
   simp only [putsA,Act.put,Nat.reduceAdd,s1,s2,s3,e0,e1]
 ·intro x w2 hS hG hF
  have hT:=(hF 1 (by decide)).1 rfl
  obtain⟨-,ta,tc,et,-,-⟩:=id hT
  have hN:=(hF 3 (by decide)).2.1 rfl
  obtain⟨-,na,nc,en,-,-⟩:=id hN
  obtain⟨lb,hA,hcap⟩:=(hF 7 (by decide)).2.2.2.2 rfl
  obtain⟨-,qa,qc,eq,-⟩:=id hA
  simp only [putsA,listS,if_true,Act.put,Nat.reduceAdd,s1,s2,s3,et,en,eq]
  rw [et] at hT
  rw [en] at hN
  rw [eq] at hA
  have hbw:=below_next hb hG
  have HTx:=hideE hT
  have HNx:=hideE hN
  have HAx:=hideE hA
  have Hcap:=hideE hcap
  clear hT hN hA hcap hF
  refine tk 9 (h:=?_)
  refine rd [11] (rc (fun K hK=>?_) .nil)
  go_simp
  go_at_call 35
  refine(on_any p _ _ _ 33 #[.pointer (some ⟨w.heap.size+1,0,none⟩)] 1 1 2 (fun (_:Nat)=>name) (fun i=>match i with  | _=>name) (fun i=>match i with | 0=>73 | _=>75) lb (fun i=>match i with | 0=>3 | _=>4) (fun i=>match i with | 0=>¬HasSet W name | _=>W.sn<8) o _ _ _ _ lo hi W w2 (HE.out.below hbw) (Hp.out.below hbw) Hwf.out b1 b2 b3 b4 HTx.out HNx.out HAx.out ?_ ?_ (enters_of Tryz.func33 (by kernel_rfl) rfl) ?_ ?_).mono ?_
  ·intro i hi
   rcases(by omega:i=0∨i=1)with rfl | rfl
   all_goals decide
  ·intro i hi
   rcases(by omega:i=0∨i=1)with rfl | rfl
   ·exact enters_of Tryz.func73 (by kernel_rfl) rfl
   ·exact enters_of Tryz.func75 (by kernel_rfl) rfl
  ·intro i hi' w' hbq hI hQp
   have hW:=(Hp.out.below hbw).below hbq
   have h8:=hI.names.sets.1
   have h20:=hI.names.snaps.1
   rcases(by omega:i=0∨i=1)with rfl | rfl
   ·obtain⟨B0,elb,hc0⟩:=(Hcap.out 0 (by decide)).is1
    replace hc0:=(hbq.cell (lt_of_cell hc0)).trans hc0
    rw [elb]
    exact setNotThereQ_any v0 v1 v2 v3 lo hi W B0 name w' hW h8 hname hc0
   ·have elb:=(Hcap.out 1 (by decide)).is0
    rw [elb]
    exact roomForSetQ_any v0 v1 v2 v3 lo hi W w' hW
  ·intro C w' z0 z1 z2 z3 hC hbq hCz hI hl hbd hq hown hbox
   exact HDo.out (w.heap.size+1) C w' z0 z1 z2 z3 ((hbq.cell (lt_of_cell hS.2.2.2.2.2.2.1)).trans hS.2.2.2.2.2.2.1) (by have:=hG.size; omega) hI hl hbd hq hCz (below_next hbw hbq) hown hbox
  rintro e w3 ⟨r,href,z0,z1,z2,z3,rfl,hown,hb3⟩
  obtain⟨n0,nc0,n1,nc1,n2,nc2,n3,nc3,rfl,rfl,rfl,rfl⟩:=hown.form
  have hb4:=below_next hG hb3
  have HR3:=hideE (HR.out.below hb4)
  have Hown:=hideE hown
  have Href:=hideE href
  clear hown href
  generalize hoo:outW r o=oo at Hown ⊢
  have Hoo:=hideE hoo
  clear hoo
  (try go_wp2_with fail)
  refine hK.out _ _ (Hkeep.out _ (hb4.mono hRz)) ?_
  clear hK K hHeld
  intro hHeld
  try simp only [Act.put,s1,s2,s3]
  refine rd [12] (rc (fun K hK=>?_) .nil)
  obtain⟨⟨r0,g0⟩,⟨r1,g1⟩,⟨r2,g2⟩,⟨r3,g3⟩,⟨r4,g4⟩,⟨r5,g5⟩,⟨r6,g6⟩,⟨r7,g7⟩,⟨r8,g8⟩⟩:=HR3.out
  go_simp
  (try go_wp2_with fail)
  have hT:=Turned.put9 w3 (w.heap.size+1+1) (.slice n0 oo.world.pool.n nc0) (.slice n1 oo.world.pool.hn nc1) (.int .i64 oo.world.time) (.int .i64 oo.world.next) (.slice n2 oo.world.sn nc2) (.slice n3 oo.world.pn nc3) (.int .i64 oo.id) (.int .i64 oo.many) (.int .i64 oo.code)
  have hb5:Below (w.heap.size+1+1) W1 (((((((((w3.setCell ⟨w.heap.size+1+1,0,none⟩ (.slice n0 oo.world.pool.n nc0)).setCell ⟨w.heap.size+1+1,1,none⟩ (.slice n1 oo.world.pool.hn nc1)).setCell ⟨w.heap.size+1+1,2,none⟩ (.int .i64 oo.world.time)).setCell ⟨w.heap.size+1+1,3,none⟩ (.int .i64 oo.world.next)).setCell ⟨w.heap.size+1+1,4,none⟩ (.slice n2 oo.world.sn nc2)).setCell ⟨w.heap.size+1+1,5,none⟩ (.slice n3 oo.world.pn nc3)).setCell ⟨w.heap.size+1+1,6,none⟩ (.int .i64 oo.id)).setCell ⟨w.heap.size+1+1,7,none⟩ (.int .i64 oo.many)).setCell ⟨w.heap.size+1+1,8,none⟩ (.int .i64 oo.code)):=(hb4.mono hRz).trans (hT.below (B:=w.heap.size+1+1) (by have:=hb4.size; omega) (fun k e=>by omega))
  refine hK.out _ _ (Hkeep.out _ hb5) ?_
  clear hK K hHeld r0 r1 r2 r3 r4 r5 r6 r7 r8 g0 g1 g2 g3 g4 g5 g6 g7 g8
  intro hHeld
  try simp only [Act.put,s1,s2,s3]
  refine wpAnyH_done (by kernel_rfl) ?_ _
  go_wp2_with fail
  have HRz:=HR3.out.put (.slice n0 oo.world.pool.n nc0) (.slice n1 oo.world.pool.hn nc1) (.int .i64 oo.world.time) (.int .i64 oo.world.next) (.slice n2 oo.world.sn nc2) (.slice n3 oo.world.pn nc3) (.int .i64 oo.id) (.int .i64 oo.many) (.int .i64 oo.code)
  have hbz:=below_next hb hb4
  have hsz:=hT.size
  have hz4:=hb4.size
  refine bodyPost_ret (v:=.agg #[.slice n0 oo.world.pool.n nc0,.slice n1 oo.world.pool.hn nc1,.int .i64 oo.world.time,.int .i64 oo.world.next,.slice n2 oo.world.sn nc2,.slice n3 oo.world.pn nc3,.int .i64 oo.id,.int .i64 oo.many,.int .i64 oo.code]) (by simp [results,Tryz.results9,go_sem,HRz.1.1,HRz.2.1.1,HRz.2.2.1.1,HRz.2.2.2.1.1,HRz.2.2.2.2.1.1,HRz.2.2.2.2.2.1.1,HRz.2.2.2.2.2.2.1.1,HRz.2.2.2.2.2.2.2.1.1,HRz.2.2.2.2.2.2.2.2.1]) rfl ⟨r,Href.out,?_⟩
  rw [Hoo.out]
  refine⟨_,_,_,_,rfl,?_,?_⟩
  ·exact(Hown.out.turned hT (fun k e=>by have:=hG.size; omega)).wide (by have:=hG.size; omega) hsz
  ·exact hbz.trans (hT.below (B:=w.heap.size) hbz.size (fun k e=>by omega))
end Go.Proofs.YteipkhpniokkgaaGreatDoor

namespace Go.Proofs.YteipkhpniokkgaaGreatDoor
open Go.RowKit
set_option linter.unusedVariables false
set_option maxRecDepth 20000 in
set_option maxHeartbeats 400000 in
theorem implCloneNew_of(p:Nat→Addr)(v0 v1 v2 v3:Value)(lo hi:Nat)(W:WorldD)(sid:Int)(name:ByteArray)(o:WOutD)(w:World)(hE:Errs w p)(h:WorldAt w lo hi v0 v1 v2 v3 W)(hwf:PrevsWf W)(b1:poolN W.pool≤1048576)(b2:W.sn≤1048576)(b3:W.pn≤1048576)(b4:DeadsN W)(hsid:(Lit.int .i64 sid).wf=true)(hname:name.size≤maxLen)
  (hdo:∀B0 B1 C w' z0 z1 z2 z3,w'.cell? ⟨B0,0,none⟩=some (.int .i64 sid)→B0<C→w'.cell? ⟨B1,0,none⟩=some (.string name)→B1<C→ImplW W→¬(∃i,i<1∧8000<((fun (_:Nat)=>name) i).size)→¬(∃i,i<1∧¬NameP ((fun i=>match i with  | _=>name) i))→(∀j,j<3→(fun i=>match i with | 0=>HasId W sid | 1=>¬HasSet W name | _=>W.sn<8) j)→C<w'.heap.size→Below w.heap.size w w'→WorldOwnR w' (C+1) w'.heap.size z0 z1 z2 z3 W→Box9 w' C z0 z1 (.int .i64 W.time) (.int .i64 W.next) z2 z3 (.int .i64 0) (.int .i64 0) .nilIface→Calls Tryz.prog 52 #[.pointer (some ⟨C,0,none⟩),.pointer (some ⟨B1,0,none⟩),.pointer (some ⟨B0,0,none⟩)] w' (DoneI p o C w')) :
  Calls Tryz.prog 18 #[worldV v0 v1 v2 v3 W,.int .i64 sid,.string name] w fun e w'=>∃r,RefI W (∃i,i<1∧8000<((fun (_:Nat)=>name) i).size) (∃i,i<1∧¬NameP ((fun i=>match i with  | _=>name) i)) 3 (fun i=>match i with | 0=>HasId W sid | 1=>¬HasSet W name | _=>W.sn<8) (fun i=>match i with | 0=>2 | 1=>3 | _=>4) r∧NewWOut (outW r o) w e w':=by
 have Hp:=hideE h
 have HE:=hideE hE
 have HDo:=hideE hdo
 have Hwf:=hideE hwf
 have Hsz_name:=hideE hname
 have Hwf_sid:=hideE hsid
 clear hsid
 clear h hE hdo hwf
 have ha0:=below_alloc w (.cells #[v0,v1,.int .i64 W.time,.int .i64 W.next,v2,v3] 37)
 have ha1:=below_alloc (w.alloc (.cells #[v0,v1,.int .i64 W.time,.int .i64 W.next,v2,v3] 37)) (.cells #[.int .i64 sid] 2)
 have ha2:=below_alloc ((w.alloc (.cells #[v0,v1,.int .i64 W.time,.int .i64 W.next,v2,v3] 37)).alloc (.cells #[.int .i64 sid] 2)) (.cells #[.string name] 9)
 have ha3:=below_alloc (((w.alloc (.cells #[v0,v1,.int .i64 W.time,.int .i64 W.next,v2,v3] 37)).alloc (.cells #[.int .i64 sid] 2)).alloc (.cells #[.string name] 9)) (.cells #[.slice none 0 0,.slice none 0 0,.int .i64 0,.int .i64 0,.slice none 0 0,.slice none 0 0,.int .i64 0,.int .i64 0,.int .i64 0] 39)
 have hb:=below_next (below_next (below_next (ha0) ha1) ha2) ha3
 have HX:=hideE ((((Box6.new w (v0) (v1) (.int .i64 W.time) (.int .i64 W.next) (v2) (v3) 37).below ha1).below ha2).below ha3)
 have c0:((w.alloc (.cells #[v0,v1,.int .i64 W.time,.int .i64 W.next,v2,v3] 37)).alloc (.cells #[.int .i64 sid] 2)).cell? ⟨(w.alloc (.cells #[v0,v1,.int .i64 W.time,.int .i64 W.next,v2,v3] 37)).heap.size,0,none⟩=some (.int .i64 sid):=World.cell?_alloc_at _ _ _ _ rfl
 rw [World.size_alloc] at c0
 replace c0:=(ha2.cell (lt_of_cell c0)).trans c0
 replace c0:=(ha3.cell (lt_of_cell c0)).trans c0
 have HC0:=hideE c0
 clear c0
 have c1:(((w.alloc (.cells #[v0,v1,.int .i64 W.time,.int .i64 W.next,v2,v3] 37)).alloc (.cells #[.int .i64 sid] 2)).alloc (.cells #[.string name] 9)).cell? ⟨((w.alloc (.cells #[v0,v1,.int .i64 W.time,.int .i64 W.next,v2,v3] 37)).alloc (.cells #[.int .i64 sid] 2)).heap.size,0,none⟩=some (.string name):=World.cell?_alloc_at _ _ _ _ rfl
 rw [World.size_alloc,World.size_alloc] at c1
 replace c1:=(ha3.cell (lt_of_cell c1)).trans c1
 have HC1:=hideE c1
 clear c1
 have hr:=Box9.new (((w.alloc (.cells #[v0,v1,.int .i64 W.time,.int .i64 W.next,v2,v3] 37)).alloc (.cells #[.int .i64 sid] 2)).alloc (.cells #[.string name] 9)) (.slice none 0 0) (.slice none 0 0) (.int .i64 0) (.int .i64 0) (.slice none 0 0) (.slice none 0 0) (.int .i64 0) (.int .i64 0) (.int .i64 0) 39
 rw [World.size_alloc,World.size_alloc,World.size_alloc] at hr
 have HR:=hideE hr
 clear hr
 have hz:((((w.alloc (.cells #[v0,v1,.int .i64 W.time,.int .i64 W.next,v2,v3] 37)).alloc (.cells #[.int .i64 sid] 2)).alloc (.cells #[.string name] 9)).alloc (.cells #[.slice none 0 0,.slice none 0 0,.int .i64 0,.int .i64 0,.slice none 0 0,.slice none 0 0,.int .i64 0,.int .i64 0,.int .i64 0] 39)).heap.size=w.heap.size+4:=by rw [World.size_alloc,World.size_alloc,World.size_alloc,World.size_alloc]
 go_enter Tryz.func18,Tryz.ntmps18
 go_upto_region 1 with fail
 generalize ((((w.alloc (.cells #[v0,v1,.int .i64 W.time,.int .i64 W.next,v2,v3] 37)).alloc (.cells #[.int .i64 sid] 2)).alloc (.cells #[.string name] 9)).alloc (.cells #[.slice none 0 0,.slice none 0 0,.int .i64 0,.int .i64 0,.slice none 0 0,.slice none 0 0,.int .i64 0,.int .i64 0,.int .i64 0] 39))=W1 at hb HX HR hz HC0 HC1 ⊢
 clear ha0 ha1 ha2 ha3
 obtain⟨⟨x0,-⟩,⟨x1,-⟩,⟨x2,-⟩,⟨x3,-⟩,⟨x4,-⟩,⟨x5,-⟩⟩:=HX.out
 have k0:=HC0.out
 have k1:=HC1.out
 have Hkeep:=hideE (show ∀w',Below (w.heap.size+1+1+1) W1 w'→(fun w'=>w'.cell? ⟨w.heap.size,0,none⟩=some (v0)∧w'.cell? ⟨w.heap.size,1,none⟩=some (v1)∧w'.cell? ⟨w.heap.size,2,none⟩=some (.int .i64 W.time)∧w'.cell? ⟨w.heap.size,3,none⟩=some (.int .i64 W.next)∧w'.cell? ⟨w.heap.size,4,none⟩=some (v2)∧w'.cell? ⟨w.heap.size,5,none⟩=some (v3)∧w'.cell? ⟨w.heap.size+1,0,none⟩=some (.int .i64 sid)∧w'.cell? ⟨w.heap.size+1+1,0,none⟩=some (.string name)∧Below (w.heap.size+1+1+1) W1 w') w' from fun w' hbw=>⟨(hbw.cell (p:=⟨w.heap.size,0,none⟩) (by show w.heap.size<_; omega)).trans x0,(hbw.cell (p:=⟨w.heap.size,1,none⟩) (by show w.heap.size<_; omega)).trans x1,(hbw.cell (p:=⟨w.heap.size,2,none⟩) (by show w.heap.size<_; omega)).trans x2,(hbw.cell (p:=⟨w.heap.size,3,none⟩) (by show w.heap.size<_; omega)).trans x3,(hbw.cell (p:=⟨w.heap.size,4,none⟩) (by show w.heap.size<_; omega)).trans x4,(hbw.cell (p:=⟨w.heap.size,5,none⟩) (by show w.heap.size<_; omega)).trans x5,(hbw.cell (p:=⟨w.heap.size+1,0,none⟩) (by show w.heap.size+1<_; omega)).trans k0,(hbw.cell (p:=⟨w.heap.size+1+1,0,none⟩) (by show w.heap.size+1+1<_; omega)).trans k1,hbw⟩)
 have hRz:w.heap.size+1+1+1≤W1.heap.size:=by omega
 clear x0 x1 x2 x3 x4 x5 k0 k1
 refine wp_region_held_drew (S:=(fun w'=>w'.cell? ⟨w.heap.size,0,none⟩=some (v0)∧w'.cell? ⟨w.heap.size,1,none⟩=some (v1)∧w'.cell? ⟨w.heap.size,2,none⟩=some (.int .i64 W.time)∧w'.cell? ⟨w.heap.size,3,none⟩=some (.int .i64 W.next)∧w'.cell? ⟨w.heap.size,4,none⟩=some (v2)∧w'.cell? ⟨w.heap.size,5,none⟩=some (v3)∧w'.cell? ⟨w.heap.size+1,0,none⟩=some (.int .i64 sid)∧w'.cell? ⟨w.heap.size+1+1,0,none⟩=some (.string name)∧Below (w.heap.size+1+1+1) W1 w')) (by kernel_rfl) (Hkeep.out _ ((Below.refl _ _).drew.mono hRz)) (fun hHeld=>?_)
 have hG0:Below W1.heap.size W1 W1.drew:=(Below.refl _ _).drew
 refine tk 0 (h:=?_)
 refine tk 2 (h:=?_)
 refine tk 4 (h:=?_)
 refine tk 6 (h:=?_)
 refine tk 10 (h:=?_)
 refine tk 12 (h:=?_)
 refine mono_here [1,3,5,7,8,9] (fun i=>if i=9 then [5,7,8] else []) (fun i=>i+7) (fun i v w'=>(i=1→TextsAt w' v 1 (fun (_:Nat)=>name))∧(i=3→TextsAt w' v 1 (fun i=>match i with  | _=>name))∧(i=5→QAt w' p 98 2 [.int .i64 sid] v)∧(i=7→QAt w' p 73 3 [.string name] v)∧(i=8→QAt w' p 75 4 [] v)∧(i=9→AskedQ w' p 3 (fun i=>match i with | 0=>98 | 1=>73 | _=>75) (fun i=>match i with | 0=>2 | 1=>3 | _=>4) (fun i=>match i with | 0=>[.int .i64 sid] | 1=>[.string name] | _=>[]) v)) 3 (G:=fun w'=>Below W1.heap.size W1 w') (by kernel_rfl) (by decide) (by decide) (by decide) ?_ (fun _ _ h t=>below_next h t) (by assumption) hG0 ?_ ?_
 ·intro i v w' w'' hf t
  exact⟨fun e=>(hf.1 e).below t,fun e=>(hf.2.1 e).below t,fun e=>(hf.2.2.1 e).below t,fun e=>(hf.2.2.2.1 e).below t,fun e=>(hf.2.2.2.2.1 e).below t,fun e=>(hf.2.2.2.2.2 e).below t⟩
 ·intro i hi x w2 hS hG hD K hK
  simp only [List.mem_cons,List.not_mem_nil,or_false] at hi
  rcases hi with rfl | rfl | rfl | rfl | rfl | rfl
  ·refine wpOp_step (nthO_get rfl) (fun K' hK'=>?_)
   simp only [putsA,Act.put,Nat.reduceAdd,s1,s2,s3]
   have hal:=below_alloc w2 (.cells #[.string name] 9)
   go_simp
   refine hK' _ _ (hK.out _ _ _ ?_ (Hkeep.out _ ((below_next hG hal).mono hRz)) ⟨fun _=>texts_one Hsz_name.out rfl,fun e=>absurd e (by decide),fun e=>absurd e (by decide),fun e=>absurd e (by decide),fun e=>absurd e (by decide),fun e=>absurd e (by decide)⟩ hal)
   simp only [putsA,Act.put,Nat.reduceAdd,s1,s2,s3]
  ·refine wpOp_step (nthO_get rfl) (fun K' hK'=>?_)
   simp only [putsA,Act.put,Nat.reduceAdd,s1,s2,s3]
   have hal:=below_alloc w2 (.cells #[.string name] 9)
   go_simp
   refine hK' _ _ (hK.out _ _ _ ?_ (Hkeep.out _ ((below_next hG hal).mono hRz)) ⟨fun e=>absurd e (by decide),fun _=>texts_one Hsz_name.out rfl,fun e=>absurd e (by decide),fun e=>absurd e (by decide),fun e=>absurd e (by decide),fun e=>absurd e (by decide)⟩ hal)
   simp only [putsA,Act.put,Nat.reduceAdd,s1,s2,s3]
  ·refine wpOp_step (nthO_get rfl) (fun K' hK'=>?_)
   simp only [putsA,Act.put,Nat.reduceAdd,s1,s2,s3]
   go_simp
   go_at_call 51
   refine(snapThere_any p sid w2 (HE.out.below (below_next hb hG))).mono ?_
   rintro e w3 ⟨B0,rfl,hc0,hb3⟩
   refine hK' _ _ (hK.out _ _ w3 ?_ (Hkeep.out _ ((below_next hG hb3).mono hRz)) ⟨fun e=>absurd e (by decide),fun e=>absurd e (by decide),fun _=>⟨_,rfl,CapsAt.one hc0⟩,fun e=>absurd e (by decide),fun e=>absurd e (by decide),fun e=>absurd e (by decide)⟩ hb3)
   simp only [putsA,Act.put,Nat.reduceAdd,s1,s2,s3]
  ·refine wpOp_step (nthO_get rfl) (fun K' hK'=>?_)
   simp only [putsA,Act.put,Nat.reduceAdd,s1,s2,s3]
   go_simp
   go_at_call 31
   refine(setNotThere_any p name w2 (HE.out.below (below_next hb hG))).mono ?_
   rintro e w3 ⟨B0,rfl,hc0,hb3⟩
   refine hK' _ _ (hK.out _ _ w3 ?_ (Hkeep.out _ ((below_next hG hb3).mono hRz)) ⟨fun e=>absurd e (by decide),fun e=>absurd e (by decide),fun e=>absurd e (by decide),fun _=>⟨_,rfl,CapsAt.one hc0⟩,fun e=>absurd e (by decide),fun e=>absurd e (by decide)⟩ hb3)
   simp only [putsA,Act.put,Nat.reduceAdd,s1,s2,s3]
  ·refine wpOp_step (nthO_get rfl) (fun K' hK'=>?_)
   simp only [putsA,Act.put,Nat.reduceAdd,s1,s2,s3]
   go_simp
   go_at_call 32
   refine(roomForSet_any p  w2 (HE.out.below (below_next hb hG))).mono ?_
   rintro e w3 ⟨rfl,hb3⟩
   refine hK' _ _ (hK.out _ _ w3 ?_ (Hkeep.out _ ((below_next hG hb3).mono hRz)) ⟨fun e=>absurd e (by decide),fun e=>absurd e (by decide),fun e=>absurd e (by decide),fun e=>absurd e (by decide),fun _=>⟨_,rfl,CapsAt.zero⟩,fun e=>absurd e (by decide)⟩ hb3)
   simp only [putsA,Act.put,Nat.reduceAdd,s1,s2,s3]
  ·refine wpOp_step (nthO_get rfl) (fun K' hK'=>?_)
   simp only [putsA,Act.put,Nat.reduceAdd,s1,s2,s3]
   obtain⟨lb0,e0,hcap0⟩:=(hD 5 (by decide)).2.2.1 rfl
   obtain⟨lb1,e1,hcap1⟩:=(hD 7 (by decide)).2.2.2.1 rfl
   obtain⟨lb2,e2,hcap2⟩:=(hD 8 (by decide)).2.2.2.2.1 rfl
   simp only [e0,e1,e2]
   have hal:=below_alloc w2 (.cells #[.func (.func 98) #[] lb0,errV (p 2),.func (.func 73) #[] lb1,errV (p 3),.func (.func 75) #[] lb2,errV (p 4)] 73)
   have hA:AskedQ (w2.alloc (.cells #[.func (.func 98) #[] lb0,errV (p 2),.func (.func 73) #[] lb1,errV (p 3),.func (.func 75) #[] lb2,errV (p 4)] 73)) p 3 (fun i=>match i with | 0=>98 | 1=>73 | _=>75) (fun i=>match i with | 0=>2 | 1=>3 | _=>4) (fun i=>match i with | 0=>[.int .i64 sid] | 1=>[.string name] | _=>[]) (.slice (some ⟨w2.heap.size,0,none⟩) 3 3):=asked3 (g:=(fun i=>match i with | 0=>98 | 1=>73 | _=>75)) (ei:=(fun i=>match i with | 0=>2 | 1=>3 | _=>4)) (caps:=(fun i=>match i with | 0=>[.int .i64 sid] | 1=>[.string name] | _=>[])) hcap0 hcap1 hcap2
   go_simp
   refine hK' _ _ (hK.out _ _ _ ?_ (Hkeep.out _ ((below_next hG hal).mono hRz)) ⟨fun e=>absurd e (by decide),fun e=>absurd e (by decide),fun e=>absurd e (by decide),fun e=>absurd e (by decide),fun e=>absurd e (by decide),fun _=>hA⟩ hal)
   simp only [putsA,Act.put,Nat.reduceAdd,s1,s2,s3,e0,e1,e2]
 ·intro x w2 hS hG hF
  have hT:=(hF 1 (by decide)).1 rfl
  obtain⟨-,ta,tc,et,-,-⟩:=id hT
  have hN:=(hF 3 (by decide)).2.1 rfl
  obtain⟨-,na,nc,en,-,-⟩:=id hN
  obtain⟨lb,hA,hcap⟩:=(hF 9 (by decide)).2.2.2.2.2 rfl
  obtain⟨-,qa,qc,eq,-⟩:=id hA
  simp only [putsA,listS,if_true,Act.put,Nat.reduceAdd,s1,s2,s3,et,en,eq]
  rw [et] at hT
  rw [en] at hN
  rw [eq] at hA
  have hbw:=below_next hb hG
  have HTx:=hideE hT
  have HNx:=hideE hN
  have HAx:=hideE hA
  have Hcap:=hideE hcap
  clear hT hN hA hcap hF
  refine tk 11 (h:=?_)
  refine rd [13] (rc (fun K hK=>?_) .nil)
  go_simp
  go_at_call 35
  refine(on_any p _ _ _ 52 #[.pointer (some ⟨w.heap.size+1+1,0,none⟩),.pointer (some ⟨w.heap.size+1,0,none⟩)] 1 1 3 (fun (_:Nat)=>name) (fun i=>match i with  | _=>name) (fun i=>match i with | 0=>98 | 1=>73 | _=>75) lb (fun i=>match i with | 0=>2 | 1=>3 | _=>4) (fun i=>match i with | 0=>HasId W sid | 1=>¬HasSet W name | _=>W.sn<8) o _ _ _ _ lo hi W w2 (HE.out.below hbw) (Hp.out.below hbw) Hwf.out b1 b2 b3 b4 HTx.out HNx.out HAx.out ?_ ?_ (enters_of Tryz.func52 (by kernel_rfl) rfl) ?_ ?_).mono ?_
  ·intro i hi
   rcases(by omega:i=0∨i=1∨i=2)with rfl | rfl | rfl
   all_goals decide
  ·intro i hi
   rcases(by omega:i=0∨i=1∨i=2)with rfl | rfl | rfl
   ·exact enters_of Tryz.func98 (by kernel_rfl) rfl
   ·exact enters_of Tryz.func73 (by kernel_rfl) rfl
   ·exact enters_of Tryz.func75 (by kernel_rfl) rfl
  ·intro i hi' w' hbq hI hQp
   have hW:=(Hp.out.below hbw).below hbq
   have h8:=hI.names.sets.1
   have h20:=hI.names.snaps.1
   rcases(by omega:i=0∨i=1∨i=2)with rfl | rfl | rfl
   ·obtain⟨B0,elb,hc0⟩:=(Hcap.out 0 (by decide)).is1
    replace hc0:=(hbq.cell (lt_of_cell hc0)).trans hc0
    rw [elb]
    exact snapThereQ_any v0 v1 v2 v3 lo hi W B0 sid w' hW h20 hI.names.idsWf hI.names.dist Hwf_sid.out hc0
   ·obtain⟨B0,elb,hc0⟩:=(Hcap.out 1 (by decide)).is1
    replace hc0:=(hbq.cell (lt_of_cell hc0)).trans hc0
    rw [elb]
    exact setNotThereQ_any v0 v1 v2 v3 lo hi W B0 name w' hW h8 hname hc0
   ·have elb:=(Hcap.out 2 (by decide)).is0
    rw [elb]
    exact roomForSetQ_any v0 v1 v2 v3 lo hi W w' hW
  ·intro C w' z0 z1 z2 z3 hC hbq hCz hI hl hbd hq hown hbox
   exact HDo.out (w.heap.size+1) (w.heap.size+1+1) C w' z0 z1 z2 z3 ((hbq.cell (lt_of_cell hS.2.2.2.2.2.2.1)).trans hS.2.2.2.2.2.2.1) (by have:=hG.size; omega) ((hbq.cell (lt_of_cell hS.2.2.2.2.2.2.2.1)).trans hS.2.2.2.2.2.2.2.1) (by have:=hG.size; omega) hI hl hbd hq hCz (below_next hbw hbq) hown hbox
  rintro e w3 ⟨r,href,z0,z1,z2,z3,rfl,hown,hb3⟩
  obtain⟨n0,nc0,n1,nc1,n2,nc2,n3,nc3,rfl,rfl,rfl,rfl⟩:=hown.form
  have hb4:=below_next hG hb3
  have HR3:=hideE (HR.out.below hb4)
  have Hown:=hideE hown
  have Href:=hideE href
  clear hown href
  generalize hoo:outW r o=oo at Hown ⊢
  have Hoo:=hideE hoo
  clear hoo
  (try go_wp2_with fail)
  refine hK.out _ _ (Hkeep.out _ (hb4.mono hRz)) ?_
  clear hK K hHeld
  intro hHeld
  try simp only [Act.put,s1,s2,s3]
  refine rd [14] (rc (fun K hK=>?_) .nil)
  obtain⟨⟨r0,g0⟩,⟨r1,g1⟩,⟨r2,g2⟩,⟨r3,g3⟩,⟨r4,g4⟩,⟨r5,g5⟩,⟨r6,g6⟩,⟨r7,g7⟩,⟨r8,g8⟩⟩:=HR3.out
  go_simp
  (try go_wp2_with fail)
  have hT:=Turned.put9 w3 (w.heap.size+1+1+1) (.slice n0 oo.world.pool.n nc0) (.slice n1 oo.world.pool.hn nc1) (.int .i64 oo.world.time) (.int .i64 oo.world.next) (.slice n2 oo.world.sn nc2) (.slice n3 oo.world.pn nc3) (.int .i64 oo.id) (.int .i64 oo.many) (.int .i64 oo.code)
  have hb5:Below (w.heap.size+1+1+1) W1 (((((((((w3.setCell ⟨w.heap.size+1+1+1,0,none⟩ (.slice n0 oo.world.pool.n nc0)).setCell ⟨w.heap.size+1+1+1,1,none⟩ (.slice n1 oo.world.pool.hn nc1)).setCell ⟨w.heap.size+1+1+1,2,none⟩ (.int .i64 oo.world.time)).setCell ⟨w.heap.size+1+1+1,3,none⟩ (.int .i64 oo.world.next)).setCell ⟨w.heap.size+1+1+1,4,none⟩ (.slice n2 oo.world.sn nc2)).setCell ⟨w.heap.size+1+1+1,5,none⟩ (.slice n3 oo.world.pn nc3)).setCell ⟨w.heap.size+1+1+1,6,none⟩ (.int .i64 oo.id)).setCell ⟨w.heap.size+1+1+1,7,none⟩ (.int .i64 oo.many)).setCell ⟨w.heap.size+1+1+1,8,none⟩ (.int .i64 oo.code)):=(hb4.mono hRz).trans (hT.below (B:=w.heap.size+1+1+1) (by have:=hb4.size; omega) (fun k e=>by omega))
  refine hK.out _ _ (Hkeep.out _ hb5) ?_
  clear hK K hHeld r0 r1 r2 r3 r4 r5 r6 r7 r8 g0 g1 g2 g3 g4 g5 g6 g7 g8
  intro hHeld
  try simp only [Act.put,s1,s2,s3]
  refine wpAnyH_done (by kernel_rfl) ?_ _
  go_wp2_with fail
  have HRz:=HR3.out.put (.slice n0 oo.world.pool.n nc0) (.slice n1 oo.world.pool.hn nc1) (.int .i64 oo.world.time) (.int .i64 oo.world.next) (.slice n2 oo.world.sn nc2) (.slice n3 oo.world.pn nc3) (.int .i64 oo.id) (.int .i64 oo.many) (.int .i64 oo.code)
  have hbz:=below_next hb hb4
  have hsz:=hT.size
  have hz4:=hb4.size
  refine bodyPost_ret (v:=.agg #[.slice n0 oo.world.pool.n nc0,.slice n1 oo.world.pool.hn nc1,.int .i64 oo.world.time,.int .i64 oo.world.next,.slice n2 oo.world.sn nc2,.slice n3 oo.world.pn nc3,.int .i64 oo.id,.int .i64 oo.many,.int .i64 oo.code]) (by simp [results,Tryz.results18,go_sem,HRz.1.1,HRz.2.1.1,HRz.2.2.1.1,HRz.2.2.2.1.1,HRz.2.2.2.2.1.1,HRz.2.2.2.2.2.1.1,HRz.2.2.2.2.2.2.1.1,HRz.2.2.2.2.2.2.2.1.1,HRz.2.2.2.2.2.2.2.2.1]) rfl ⟨r,Href.out,?_⟩
  rw [Hoo.out]
  refine⟨_,_,_,_,rfl,?_,?_⟩
  ·exact(Hown.out.turned hT (fun k e=>by have:=hG.size; omega)).wide (by have:=hG.size; omega) hsz
  ·exact hbz.trans (hT.below (B:=w.heap.size) hbz.size (fun k e=>by omega))
end Go.Proofs.YteipkhpniokkgaaGreatDoor

namespace Go.Proofs.YteipkhpniokkgaaGreatDoor
open Go.RowKit
set_option linter.unusedVariables false
theorem turned_grown{w w':World}{row:Option Nat}(h:w.grownBy w' row):Turned (fun k=>row=some k) w w':=⟨h.os,h.tape,h.output,h.size,fun k hk hn=>h.block k hk (fun e=>hn e.symm)⟩
def WorldOwn2(w:World)(lo hi m top:Nat)(v0 v1 v2 v3:Value)(W:WorldD):Prop:=∃P Q R,WorldIn w P Q R v0 v1 v2 v3 W∧∀k,P k∨Q k∨R k→(lo≤k∧k<hi)∨(m≤k∧k<top)
theorem WorldOwn2.own{w:World}{lo hi m top:Nat}{v0 v1 v2 v3:Value}{W:WorldD}(h:WorldOwn2 w lo hi m top v0 v1 v2 v3 W)(h1:lo≤m)(h2:hi≤top):WorldOwn w lo top v0 v1 v2 v3 W:=by
 obtain⟨P,Q,R,h,hl⟩:=h
 exact⟨P,Q,R,h,fun k hk=>by have:=hl k hk; omega⟩
theorem WorldOwn2.turned{S:Nat→Prop}{w w':World}{lo hi m top:Nat}{v0 v1 v2 v3:Value}{W:WorldD}(h:WorldOwn2 w lo hi m top v0 v1 v2 v3 W)(t:Turned S w w')(hs:∀k,S k→k<lo∨(hi≤k∧k<m))(hm:hi≤m)(hlo:lo≤m):WorldOwn2 w' lo hi m top v0 v1 v2 v3 W:=by
 obtain⟨P,Q,R,h,hl⟩:=h
 exact⟨P,Q,R,h.turned t (fun k hk e=>by have:=hl k hk; have:=hs k e; omega),hl⟩
def snapOfSet(W:WorldD)(k:Nat)(name set:ByteArray):SnapD:={id:=W.next,name:=name,set:=set,prev:=(W.sets k).prev,time:=W.time,rs:=(W.sets k).rs,rb:=(W.sets k).rb,dn:=(W.sets k).dn,ds:=(W.sets k).ds,db:=(W.sets k).db}
def snapNewW(W:WorldD)(k:Nat)(name set:ByteArray):WorldD:={W with time:=W.time+1,next:=W.next+1,sets:=fun j=>if j=k then {W.sets k with prev:=W.next,dn:=0}else W.sets j,pn:=W.pn+1,snaps:=fun j=>if j=W.pn then snapOfSet W k name set else W.snaps j}
end Go.Proofs.YteipkhpniokkgaaGreatDoor
