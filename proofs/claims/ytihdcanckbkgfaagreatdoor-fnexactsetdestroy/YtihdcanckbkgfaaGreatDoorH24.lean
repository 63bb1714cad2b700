/- slices.IndexFunc and slices.ContainsFunc over snapshots and sets, for whatever function. -/
import Derived.Test.YtihdcanckbkgfaaGreatDoorH13
import Derived.Test.YtihdcanckbkgfaaGreatDoorH17
import Derived.Test.YtihdcanckbkgfaaGreatDoorH11
import Derived.Test.YtihdcanckbkgfaaGreatDoorH23
import Derived.Test.YtihdcanckbkgfaaGreatDoorH4
import Derived.Deep.DeepCutAuto
import Derived.Test.YtihdcanckbkgfaaGreatDoorH21
import Derived.Test.YtihdcanckbkgfaaGreatDoorH20
import Derived.Test.YtihdcanckbkgfaaGreatDoorH6
import Derived.Test.YtihdcanckbkgfaaGreatDoorH18
import Derived.Test.YtihdcanckbkgfaaGreatDoorH9
import Derived.Deep.RegionLaw
import Derived.Test.YtihdcanckbkgfaaGreatDoorH22
import Derived.Lib.SliceRun
namespace Go.Proofs.YtihdcanckbkgfaaGreatDoor
open Go.RowKit
set_option linter.unusedVariables false
set_option maxRecDepth 20000 in
set_option maxHeartbeats 2000000 in
theorem indexSnap_any(g:Nat)(lb:Array Value)(eg:Enters Tryz.prog g)(P:Nat→Prop)(v:Value)(n lo hi:Nat)(f:Nat→SnapD)(w:World)(h:SnapsAt w lo hi v n f)(hn:n≤1000)
  (hP:∀i,i<n→∀a c w',Below w.heap.size w w'→PtrsAt w' lo hi (.slice a (f i).dn c) (f i).dn (f i).ds (f i).db→Calls Tryz.prog g (#[.agg #[.int .i64 (f i).id,.string (f i).name,.string (f i).set,.int .i64 (f i).prev,.int .i64 (f i).time,.int .i64 (f i).rs,.int .i64 (f i).rb,.slice a (f i).dn c]] ++ lb) w' fun e w''=>BoolIs (P i) e∧Below w'.heap.size w' w'') :
  Calls Tryz.prog 120 #[v,.func (.func g) #[] lb] w fun e w'=>((∃i:Nat,i<n∧P i∧(∀j,j<i→¬P j)∧e = .returned (.int .i64 (i:Int)))∨((∀j,j<n→¬P j)∧e = .returned (.int .i64 (-1))))∧Below w.heap.size w w':=by
 have Hp:=hideW h
 obtain⟨-,a,c,rfl,-,-⟩:=h
 have HP:=hideW hP
 clear hP
 have e0:∀(args:Array Value) (w:World),(callFunc g args).run Tryz.prog w = .ok (.enter g args) w:=eg
 clear eg
 go_enter Tryz.func120,Tryz.ntmps120
 go_wp2
 go_loopw [8] (fun i wr=>∃k:Nat,k≤n∧i = .int .i64 k∧(∀j,j<k→¬P j)∧Below w.heap.size w wr) (fun i _=>n - (intOf i).toNat)
 case atStart=>exact⟨0,Nat.zero_le _,rfl,fun j hj=>absurd hj (Nat.not_lt_zero _),Below.refl _ _⟩
 case round=>
  obtain⟨k,hk,rfl,hall,hb⟩:=hrel
  have Hall:=hideW hall
  clear hall
  by_cases hlt:k<n
  ·have hlt':(k:Int)<(n:Int):=by omega
   obtain⟨b,off,vd,rfl,hs⟩:=(Hp.out.below hb).cells hlt
   obtain⟨-,ad,cd,rfl,-,-⟩:=id hs.dead
   have Hs:=hideW hs.dead
   obtain⟨q0,q1,q2,q3,q4,q5,q6,q7,-,-⟩:=hs
   go_wp2_with fail
   clear q0 q1 q2 q3 q4 q5 q6 q7
   refine(HP.out k hlt ad cd wr hb Hs.out).mono ?_
   rintro e w1 ⟨⟨t,rfl,ht⟩,hb1⟩
   have hbn:=below_next hb hb1
   clear hb1 Hs
   by_cases hf:P k
   ·obtain rfl:t=true:=ht.2 hf
    have HF:=hideW hf
    clear ht hf
    go_wp2
    go_ret
    exact⟨Or.inl ⟨k,hlt,HF.out,Hall.out,rfl⟩,hbn⟩
   ·obtain rfl:t=false:=bool_no ht hf
    have HF:=hideW hf
    clear ht hf
    go_wp2
    go_roundw
    case rel=>
     refine⟨k+1,by omega,by go_num,fun j hj=>?_,hbn⟩
     by_cases e:j=k
     ·subst e; exact HF.out
     ·exact Hall.out j (by omega)
    case measure=>simp [intOf]; omega
  ·obtain rfl:k=n:=by omega
   go_wp2
   go_ret
   exact⟨Or.inr ⟨Hall.out,rfl⟩,hb⟩
set_option maxRecDepth 20000 in
set_option maxHeartbeats 2000000 in
theorem hasSnapF_any(g:Nat)(lb:Array Value)(eg:Enters Tryz.prog g)(P:Nat→Prop)(v:Value)(n lo hi:Nat)(f:Nat→SnapD)(w:World)(h:SnapsAt w lo hi v n f)(hn:n≤1000)
  (hP:∀i,i<n→∀a c w',Below w.heap.size w w'→PtrsAt w' lo hi (.slice a (f i).dn c) (f i).dn (f i).ds (f i).db→Calls Tryz.prog g (#[.agg #[.int .i64 (f i).id,.string (f i).name,.string (f i).set,.int .i64 (f i).prev,.int .i64 (f i).time,.int .i64 (f i).rs,.int .i64 (f i).rb,.slice a (f i).dn c]] ++ lb) w' fun e w''=>BoolIs (P i) e∧Below w'.heap.size w' w'') :
  Calls Tryz.prog 78 #[v,.func (.func g) #[] lb] w fun e w'=>BoolIs (∃i,i<n∧P i) e∧Below w.heap.size w w':=by
 have Hp:=hideW h
 have HP:=hideW hP
 obtain⟨-,a,c,rfl,-,-⟩:=h
 clear hP
 go_enter Tryz.func78,Tryz.ntmps78
 go_wp2_with fail
 refine(indexSnap_any g lb eg P _ n lo hi f w Hp.out hn HP.out).mono ?_
 rintro e w1 ⟨hr,hb1⟩
 rcases hr with⟨i,hi,hp,-,rfl⟩ | ⟨hno,rfl⟩
 ·have HQ:=hideW (show ∃i,i<n∧P i from⟨i,hi,hp⟩)
  have h0:(0:Int)≤(i:Int):=by omega
  clear hp
  go_wp2
  go_ret
  exact⟨BoolIs.yes HQ.out,hb1⟩
 ·have HQ:=hideW hno
  clear hno
  go_wp2
  go_ret
  exact⟨BoolIs.no fun ⟨i,hi,hq⟩=>HQ.out i hi hq,hb1⟩
set_option maxRecDepth 20000 in
set_option maxHeartbeats 2000000 in
theorem indexSet_any(g:Nat)(lb:Array Value)(eg:Enters Tryz.prog g)(P:Nat→Prop)(v:Value)(n lo hi:Nat)(f:Nat→SetD)(w:World)(h:SetsAt w lo hi v n f)(hn:n≤1000)
  (hP:∀i,i<n→∀a c w',Below w.heap.size w w'→PtrsAt w' lo hi (.slice a (f i).dn c) (f i).dn (f i).ds (f i).db→Calls Tryz.prog g (#[.agg #[.string (f i).name,.int .i64 (f i).origin,.int .i64 (f i).prev,.int .i64 (f i).rs,.int .i64 (f i).rb,.slice a (f i).dn c]] ++ lb) w' fun e w''=>BoolIs (P i) e∧Below w'.heap.size w' w'') :
  Calls Tryz.prog 124 #[v,.func (.func g) #[] lb] w fun e w'=>((∃i:Nat,i<n∧P i∧(∀j,j<i→¬P j)∧e = .returned (.int .i64 (i:Int)))∨((∀j,j<n→¬P j)∧e = .returned (.int .i64 (-1))))∧Below w.heap.size w w':=by
 have Hp:=hideW h
 obtain⟨-,a,c,rfl,-,-⟩:=h
 have HP:=hideW hP
 clear hP
 have e0:∀(args:Array Value) (w:World),(callFunc g args).run Tryz.prog w = .ok (.enter g args) w:=eg
 clear eg
 go_enter Tryz.func124,Tryz.ntmps124
 go_wp2
 go_loopw [8] (fun i wr=>∃k:Nat,k≤n∧i = .int .i64 k∧(∀j,j<k→¬P j)∧Below w.heap.size w wr) (fun i _=>n - (intOf i).toNat)
 case atStart=>exact⟨0,Nat.zero_le _,rfl,fun j hj=>absurd hj (Nat.not_lt_zero _),Below.refl _ _⟩
 case round=>
  obtain⟨k,hk,rfl,hall,hb⟩:=hrel
  have Hall:=hideW hall
  clear hall
  by_cases hlt:k<n
  ·have hlt':(k:Int)<(n:Int):=by omega
   obtain⟨b,off,vd,rfl,hs⟩:=(Hp.out.below hb).cells hlt
   obtain⟨-,ad,cd,rfl,-,-⟩:=id hs.dead
   have Hs:=hideW hs.dead
   obtain⟨q0,q1,q2,q3,q4,q5,-,-⟩:=hs
   go_wp2_with fail
   clear q0 q1 q2 q3 q4 q5
   refine(HP.out k hlt ad cd wr hb Hs.out).mono ?_
   rintro e w1 ⟨⟨t,rfl,ht⟩,hb1⟩
   have hbn:=below_next hb hb1
   clear hb1 Hs
   by_cases hf:P k
   ·obtain rfl:t=true:=ht.2 hf
    have HF:=hideW hf
    clear ht hf
    go_wp2
    go_ret
    exact⟨Or.inl ⟨k,hlt,HF.out,Hall.out,rfl⟩,hbn⟩
   ·obtain rfl:t=false:=bool_no ht hf
    have HF:=hideW hf
    clear ht hf
    go_wp2
    go_roundw
    case rel=>
     refine⟨k+1,by omega,by go_num,fun j hj=>?_,hbn⟩
     by_cases e:j=k
     ·subst e; exact HF.out
     ·exact Hall.out j (by omega)
    case measure=>simp [intOf]; omega
  ·obtain rfl:k=n:=by omega
   go_wp2
   go_ret
   exact⟨Or.inr ⟨Hall.out,rfl⟩,hb⟩
set_option maxRecDepth 20000 in
set_option maxHeartbeats 2000000 in
theorem withoutSnaps1_any(s:SnapD)(a:Option Addr)(c B:Nat)(name:ByteArray)(w:World)(h0:w.cell? ⟨B,0,none⟩=some (.string name)) :
  Calls Tryz.prog 79 #[.agg #[.int .i64 s.id,.string s.name,.string s.set,.int .i64 s.prev,.int .i64 s.time,.int .i64 s.rs,.int .i64 s.rb,.slice a s.dn c],.pointer (some ⟨B,0,none⟩)] w fun e w'=>BoolIs (s.set=name) e∧Below w.heap.size w w':=by
 have ha:=below_alloc w (.cells #[.int .i64 s.id,.string s.name,.string s.set,.int .i64 s.prev,.int .i64 s.time,.int .i64 s.rs,.int .i64 s.rb,.slice a s.dn c] 91)
 have k0:=(ha.cell (lt_of_cell h0)).trans h0
 clear h0
 obtain⟨⟨⟨x0,-⟩,⟨x1,-⟩,⟨x2,-⟩,⟨x3,-⟩⟩,⟨x4,-⟩,⟨x5,-⟩,⟨x6,-⟩,⟨x7,-⟩⟩:=Box8.new w (.int .i64 s.id) (.string s.name) (.string s.set) (.int .i64 s.prev) (.int .i64 s.time) (.int .i64 s.rs) (.int .i64 s.rb) (.slice a s.dn c) 91
 by_cases e1:s.set=name
 ·skip
  have a1:=str_eq e1
  have H:=hideW e1
  clear e1
  go_enter Tryz.func79,Tryz.ntmps79
  go_wp2
  go_ret
  exact⟨BoolIs.yes H.out,ha⟩
 ·skip
  have a1:=str_ne e1
  have H:=hideW e1
  clear e1
  go_enter Tryz.func79,Tryz.ntmps79
  go_wp2
  go_ret
  exact⟨BoolIs.no H.out,ha⟩
set_option maxRecDepth 20000 in
set_option maxHeartbeats 2000000 in
theorem withoutSnapsQ_any(v0 v1 v2 v3:Value)(lo hi:Nat)(W:WorldD)(B:Nat)(name:ByteArray)(w:World)(h:WorldAt w lo hi v0 v1 v2 v3 W)(hn:W.pn≤20)(hc:w.cell? ⟨B,0,none⟩=some (.string name)) :
  Calls Tryz.prog 77 #[worldV v0 v1 v2 v3 W,.pointer (some ⟨B,0,none⟩)] w fun e w'=>BoolIs (¬∃i,i<W.pn∧(W.snaps i).set=name) e∧Below w.heap.size w w':=by
 have Hp:=hideW h
 clear h
 have hmf:∀(fn:Fn) (first cap:Array Value) (w:World),(Instr.makeFunc fn first cap).run Tryz.prog w = .ok (.func fn first cap) w:=fun _ _ _ _=>rfl
 have ha:=below_alloc w (.cells #[v0,v1,.int .i64 W.time,.int .i64 W.next,v2,v3] 37)
 have hc1:=(ha.cell (lt_of_cell hc)).trans hc
 obtain⟨⟨x0,-⟩,⟨x1,-⟩,⟨x2,-⟩,⟨x3,-⟩,⟨x4,-⟩,⟨x5,-⟩⟩:=Box6.new w (v0) (v1) (.int .i64 W.time) (.int .i64 W.next) (v2) (v3) 37
 go_enter Tryz.func77,Tryz.ntmps77
 go_wp2_with fail
 clear x0 x1 x2 x3 x4 x5 hc
 generalize w.alloc (.cells #[v0,v1,.int .i64 W.time,.int .i64 W.next,v2,v3] 37)=W0 at ha hc1 ⊢
 refine(hasSnapF_any 79 #[.pointer (some ⟨B,0,none⟩)] (enters_of Tryz.func79 (by kernel_rfl) rfl) (fun i=>(W.snaps i).set=name) _ W.pn lo hi W.snaps W0 (Hp.out.below ha).snaps (by omega) (fun i hi' a c w' hb' _=>withoutSnaps1_any (W.snaps i) a c B name w' ((hb'.cell (lt_of_cell hc1)).trans hc1))).mono ?_
 rintro e w1 ⟨⟨t,rfl,ht⟩,hb1⟩
 have hB1:=below_next ha hb1
 by_cases hf:∃i,i<W.pn∧(W.snaps i).set=name
 ·obtain rfl:t=true:=ht.2 hf
  have HF:=hideW hf
  clear ht hf
  go_wp2
  go_ret
  exact⟨BoolIs.no (fun h=>h HF.out),hB1⟩
 ·obtain rfl:t=false:=bool_no ht hf
  have HF:=hideW hf
  clear ht hf
  go_wp2
  go_ret
  exact⟨BoolIs.yes HF.out,hB1⟩
set_option maxRecDepth 20000 in
set_option maxHeartbeats 2000000 in
theorem withoutSnaps_any(p:Nat→Addr)(s0:ByteArray)(w:World)(hE:Errs w p) :
  Calls Tryz.prog 35 #[.string s0] w fun e w'=>∃B0:Nat,e = .returned (.agg #[.func (.func 77) #[] #[.pointer (some ⟨B0,0,none⟩)],errV (p 5)])∧w'.cell? ⟨B0,0,none⟩=some (.string s0)∧Below w.heap.size w w':=by
 have hk0:=below_alloc w (.cells #[.string s0] 9)
 have hk1:=below_alloc (w.alloc (.cells #[.string s0] 9)) (.cells #[.nilFunc,.nilIface] 74)
 have hb:=below_next (hk0) hk1
 have c0:(w.alloc (.cells #[.string s0] 9)).cell? ⟨w.heap.size,0,none⟩=some (.string s0):=World.cell?_alloc_at _ _ _ _ rfl
 have hg:((w.alloc (.cells #[.string s0] 9)).alloc (.cells #[.nilFunc,.nilIface] 74)).cell? ⟨1,0,none⟩=some (errV (p 5)):=(hE.below hb).cell 5 (by omega)
 have hkf:=below_alloc (w.alloc (.cells #[.string s0] 9)) (.cells #[.func (.func 77) #[] #[.pointer (some ⟨w.heap.size,0,none⟩)],errV (p 5)] 74)
 have hbf:=below_next (hk0) hkf
 have Hc0:=hideW ((hkf.cell (lt_of_cell c0)).trans c0)
 clear c0
 go_enter Tryz.func35,Tryz.ntmps35
 have hst:=fun (ww:World) (a:Addr)=>run_store Tryz.prog ww a (.func (.func 77) #[] #[.pointer (some ⟨w.heap.size,0,none⟩)]) .plain rfl
 go_wp2_with fail
 have HRf:=Box2.new (w.alloc (.cells #[.string s0] 9)) (.func (.func 77) #[] #[.pointer (some ⟨w.heap.size,0,none⟩)]) (errV (p 5)) 74
 rw [World.size_alloc] at HRf
 refine bodyPost_ret (v:=.agg #[.func (.func 77) #[] #[.pointer (some ⟨w.heap.size,0,none⟩)],errV (p 5)]) (by simp [results,Tryz.results35,go_sem,HRf.1.1,HRf.2.1]) rfl ⟨_,rfl,Hc0.out,hbf⟩
set_option maxRecDepth 20000 in
set_option maxHeartbeats 400000 in
theorem implSetDestroy_of(p:Nat→Addr)(v0 v1 v2 v3:Value)(lo hi:Nat)(W:WorldD)(name:ByteArray)(o:WOutD)(w:World)(hE:Errs w p)(h:WorldAt w lo hi v0 v1 v2 v3 W)(hwf:PrevsWf W)(b1:poolN W.pool≤1048576)(b2:W.sn≤1048576)(b3:W.pn≤1048576)(b4:DeadsN W)(hname:name.size≤maxLen)
  (hdo:∀B0 C w' z0 z1 z2 z3,w'.cell? ⟨B0,0,none⟩=some (.string name)→B0<C→ImplW W→¬(∃i,i<1∧8000<((fun (_:Nat)=>name) i).size)→¬(∃i,i<0∧¬NameP ((fun _=>⟨#[]⟩) i))→(∀j,j<2→(fun i=>match i with | 0=>HasSet W name | _=>¬∃i,i<W.pn∧(W.snaps i).set=name) j)→C<w'.heap.size→Below w.heap.size w w'→WorldOwnR w' (C+1) w'.heap.size z0 z1 z2 z3 W→Box9 w' C z0 z1 (.int .i64 W.time) (.int .i64 W.next) z2 z3 (.int .i64 0) (.int .i64 0) .nilIface→Calls Tryz.prog 36 #[.pointer (some ⟨C,0,none⟩),.pointer (some ⟨B0,0,none⟩)] w' (DoneI p o C w')) :
  Calls Tryz.prog 9 #[worldV v0 v1 v2 v3 W,.string name] w fun e w'=>∃r,RefI W (∃i,i<1∧8000<((fun (_:Nat)=>name) i).size) (∃i,i<0∧¬NameP ((fun _=>⟨#[]⟩) i)) 2 (fun i=>match i with | 0=>HasSet W name | _=>¬∃i,i<W.pn∧(W.snaps i).set=name) (fun i=>match i with | 0=>2 | _=>5) r∧NewWOut (outW r o) w e w':=by
 have Hp:=hideE h
 have HE:=hideE hE
 have HDo:=hideE hdo
 have Hwf:=hideE hwf
 have Hsz_name:=hideE hname
 clear h hE hdo hwf
 have ha0:=below_alloc w (.cells #[v0,v1,.int .i64 W.time,.int .i64 W.next,v2,v3] 37)
 have ha1:=below_alloc (w.alloc (.cells #[v0,v1,.int .i64 W.time,.int .i64 W.next,v2,v3] 37)) (.cells #[.string name] 9)
 have ha2:=below_alloc ((w.alloc (.cells #[v0,v1,.int .i64 W.time,.int .i64 W.next,v2,v3] 37)).alloc (.cells #[.string name] 9)) (.cells #[.slice none 0 0,.slice none 0 0,.int .i64 0,.int .i64 0,.slice none 0 0,.slice none 0 0,.int .i64 0,.int .i64 0,.int .i64 0] 39)
 have hb:=below_next (below_next (ha0) ha1) ha2
 have HX:=hideE (((Box6.new w (v0) (v1) (.int .i64 W.time) (.int .i64 W.next) (v2) (v3) 37).below ha1).below ha2)
 have c0:((w.alloc (.cells #[v0,v1,.int .i64 W.time,.int .i64 W.next,v2,v3] 37)).alloc (.cells #[.string name] 9)).cell? ⟨(w.alloc (.cells #[v0,v1,.int .i64 W.time,.int .i64 W.next,v2,v3] 37)).heap.size,0,none⟩=some (.string name):=World.cell?_alloc_at _ _ _ _ rfl
 rw [World.size_alloc] at c0
 replace c0:=(ha2.cell (lt_of_cell c0)).trans c0
 have HC0:=hideE c0
 clear c0
 have hr:=Box9.new ((w.alloc (.cells #[v0,v1,.int .i64 W.time,.int .i64 W.next,v2,v3] 37)).alloc (.cells #[.string name] 9)) (.slice none 0 0) (.slice none 0 0) (.int .i64 0) (.int .i64 0) (.slice none 0 0) (.slice none 0 0) (.int .i64 0) (.int .i64 0) (.int .i64 0) 39
 rw [World.size_alloc,World.size_alloc] at hr
 have HR:=hideE hr
 clear hr
 have hz:(((w.alloc (.cells #[v0,v1,.int .i64 W.time,.int .i64 W.next,v2,v3] 37)).alloc (.cells #[.string name] 9)).alloc (.cells #[.slice none 0 0,.slice none 0 0,.int .i64 0,.int .i64 0,.slice none 0 0,.slice none 0 0,.int .i64 0,.int .i64 0,.int .i64 0] 39)).heap.size=w.heap.size+3:=by rw [World.size_alloc,World.size_alloc,World.size_alloc]
 go_enter Tryz.func9,Tryz.ntmps9
 go_upto_region 1 with fail
 generalize (((w.alloc (.cells #[v0,v1,.int .i64 W.time,.int .i64 W.next,v2,v3] 37)).alloc (.cells #[.string name] 9)).alloc (.cells #[.slice none 0 0,.slice none 0 0,.int .i64 0,.int .i64 0,.slice none 0 0,.slice none 0 0,.int .i64 0,.int .i64 0,.int .i64 0] 39))=W1 at hb HX HR hz HC0 ⊢
 clear ha0 ha1 ha2
 obtain⟨⟨x0,-⟩,⟨x1,-⟩,⟨x2,-⟩,⟨x3,-⟩,⟨x4,-⟩,⟨x5,-⟩⟩:=HX.out
 have k0:=HC0.out
 have Hkeep:=hideE (show ∀w',Below (w.heap.size+1+1) W1 w'→(fun w'=>w'.cell? ⟨w.heap.size,0,none⟩=some (v0)∧w'.cell? ⟨w.heap.size,1,none⟩=some (v1)∧w'.cell? ⟨w.heap.size,2,none⟩=some (.int .i64 W.time)∧w'.cell? ⟨w.heap.size,3,none⟩=some (.int .i64 W.next)∧w'.cell? ⟨w.heap.size,4,none⟩=some (v2)∧w'.cell? ⟨w.heap.size,5,none⟩=some (v3)∧w'.cell? ⟨w.heap.size+1,0,none⟩=some (.string name)∧Below (w.heap.size+1+1) W1 w') w' from fun w' hbw=>⟨(hbw.cell (p:=⟨w.heap.size,0,none⟩) (by show w.heap.size<_; omega)).trans x0,(hbw.cell (p:=⟨w.heap.size,1,none⟩) (by show w.heap.size<_; omega)).trans x1,(hbw.cell (p:=⟨w.heap.size,2,none⟩) (by show w.heap.size<_; omega)).trans x2,(hbw.cell (p:=⟨w.heap.size,3,none⟩) (by show w.heap.size<_; omega)).trans x3,(hbw.cell (p:=⟨w.heap.size,4,none⟩) (by show w.heap.size<_; omega)).trans x4,(hbw.cell (p:=⟨w.heap.size,5,none⟩) (by show w.heap.size<_; omega)).trans x5,(hbw.cell (p:=⟨w.heap.size+1,0,none⟩) (by show w.heap.size+1<_; omega)).trans k0,hbw⟩)
 have hRz:w.heap.size+1+1≤W1.heap.size:=by omega
 clear x0 x1 x2 x3 x4 x5 k0
 refine wp_region_held_drew (S:=(fun w'=>w'.cell? ⟨w.heap.size,0,none⟩=some (v0)∧w'.cell? ⟨w.heap.size,1,none⟩=some (v1)∧w'.cell? ⟨w.heap.size,2,none⟩=some (.int .i64 W.time)∧w'.cell? ⟨w.heap.size,3,none⟩=some (.int .i64 W.next)∧w'.cell? ⟨w.heap.size,4,none⟩=some (v2)∧w'.cell? ⟨w.heap.size,5,none⟩=some (v3)∧w'.cell? ⟨w.heap.size+1,0,none⟩=some (.string name)∧Below (w.heap.size+1+1) W1 w')) (by kernel_rfl) (Hkeep.out _ ((Below.refl _ _).drew.mono hRz)) (fun hHeld=>?_)
 have hG0:Below W1.heap.size W1 W1.drew:=(Below.refl _ _).drew
 refine tk 0 (h:=?_)
 refine tk 2 (h:=?_)
 refine tk 4 (h:=?_)
 refine tk 7 (h:=?_)
 refine tk 9 (h:=?_)
 refine mono_here [1,3,5,6] (fun i=>if i=6 then [3,5] else []) (fun i=>i+5) (fun i v w'=>(i=1→TextsAt w' v 1 (fun (_:Nat)=>name))∧(i=3→QAt w' p 75 2 [.string name] v)∧(i=5→QAt w' p 77 5 [.string name] v)∧(i=6→AskedQ w' p 2 (fun i=>match i with | 0=>75 | _=>77) (fun i=>match i with | 0=>2 | _=>5) (fun i=>match i with | 0=>[.string name] | _=>[.string name]) v)) 3 (G:=fun w'=>Below W1.heap.size W1 w') (by kernel_rfl) (by decide) (by decide) (by decide) ?_ (fun _ _ h t=>below_next h t) (by assumption) hG0 ?_ ?_
 ·intro i v w' w'' hf t
  exact⟨fun e=>(hf.1 e).below t,fun e=>(hf.2.1 e).below t,fun e=>(hf.2.2.1 e).below t,fun e=>(hf.2.2.2 e).below t⟩
 ·intro i hi x w2 hS hG hD K hK
  simp only [List.mem_cons,List.not_mem_nil,or_false] at hi
  rcases hi with rfl | rfl | rfl | rfl
  ·refine wpOp_step (nthO_get rfl) (fun K' hK'=>?_)
   simp only [putsA,Act.put,Nat.reduceAdd,s1,s2,s3]
   have hal:=below_alloc w2 (.cells #[.string name] 9)
   go_simp
   refine hK' _ _ (hK.out _ _ _ ?_ (Hkeep.out _ ((below_next hG hal).mono hRz)) ⟨fun _=>texts_one Hsz_name.out rfl,fun e=>absurd e (by decide),fun e=>absurd e (by decide),fun e=>absurd e (by decide)⟩ hal)
   simp only [putsA,Act.put,Nat.reduceAdd,s1,s2,s3]
  ·refine wpOp_step (nthO_get rfl) (fun K' hK'=>?_)
   simp only [putsA,Act.put,Nat.reduceAdd,s1,s2,s3]
   go_simp
   go_at_call 34
   refine(setThere_any p name w2 (HE.out.below (below_next hb hG))).mono ?_
   rintro e w3 ⟨B0,rfl,hc0,hb3⟩
   refine hK' _ _ (hK.out _ _ w3 ?_ (Hkeep.out _ ((below_next hG hb3).mono hRz)) ⟨fun e=>absurd e (by decide),fun _=>⟨_,rfl,CapsAt.one hc0⟩,fun e=>absurd e (by decide),fun e=>absurd e (by decide)⟩ hb3)
   simp only [putsA,Act.put,Nat.reduceAdd,s1,s2,s3]
  ·refine wpOp_step (nthO_get rfl) (fun K' hK'=>?_)
   simp only [putsA,Act.put,Nat.reduceAdd,s1,s2,s3]
   go_simp
   go_at_call 35
   refine(withoutSnaps_any p name w2 (HE.out.below (below_next hb hG))).mono ?_
   rintro e w3 ⟨B0,rfl,hc0,hb3⟩
   refine hK' _ _ (hK.out _ _ w3 ?_ (Hkeep.out _ ((below_next hG hb3).mono hRz)) ⟨fun e=>absurd e (by decide),fun e=>absurd e (by decide),fun _=>⟨_,rfl,CapsAt.one hc0⟩,fun e=>absurd e (by decide)⟩ hb3)
   simp only [putsA,Act.put,Nat.reduceAdd,s1,s2,s3]
  ·refine wpOp_step (nthO_get rfl) (fun K' hK'=>?_)
   simp only [putsA,Act.put,Nat.reduceAdd,s1,s2,s3]
   obtain⟨lb0,e0,hcap0⟩:=(hD 3 (by decide)).2.1 rfl
   obtain⟨lb1,e1,hcap1⟩:=(hD 5 (by decide)).2.2.1 rfl
   simp only [e0,e1]
   have hal:=below_alloc w2 (.cells #[.func (.func 75) #[] lb0,errV (p 2),.func (.func 77) #[] lb1,errV (p 5)] 74)
   have hA:AskedQ (w2.alloc (.cells #[.func (.func 75) #[] lb0,errV (p 2),.func (.func 77) #[] lb1,errV (p 5)] 74)) p 2 (fun i=>match i with | 0=>75 | _=>77) (fun i=>match i with | 0=>2 | _=>5) (fun i=>match i with | 0=>[.string name] | _=>[.string name]) (.slice (some ⟨w2.heap.size,0,none⟩) 2 2):=asked2 (g:=(fun i=>match i with | 0=>75 | _=>77)) (ei:=(fun i=>match i with | 0=>2 | _=>5)) (caps:=(fun i=>match i with | 0=>[.string name] | _=>[.string name])) hcap0 hcap1
   go_simp
   refine hK' _ _ (hK.out _ _ _ ?_ (Hkeep.out _ ((below_next hG hal).mono hRz)) ⟨fun e=>absurd e (by decide),fun e=>absurd e (by decide),fun e=>absurd e (by decide),fun _=>hA⟩ hal)
   simp only [putsA,Act.put,Nat.reduceAdd,s1,s2,s3,e0,e1]
 ·intro x w2 hS hG hF
  have hT:=(hF 1 (by decide)).1 rfl
  obtain⟨-,ta,tc,et,-,-⟩:=id hT
  have hN:TextsAt w2 (.slice none 0 0) 0 (fun _=>⟨#[]⟩):=⟨by omega,_,_,rfl,fun i hi=>absurd hi (Nat.not_lt_zero _),fun h=>absurd h (Nat.lt_irrefl _)⟩
  obtain⟨lb,hA,hcap⟩:=(hF 6 (by decide)).2.2.2 rfl
  obtain⟨-,qa,qc,eq,-⟩:=id hA
  simp only [putsA,listS,if_true,Act.put,Nat.reduceAdd,s1,s2,s3,et,eq]
  rw [et] at hT
  rw [eq] at hA
  have hbw:=below_next hb hG
  have HTx:=hideE hT
  have HNx:=hideE hN
  have HAx:=hideE hA
  have Hcap:=hideE hcap
  clear hT hN hA hcap hF
  refine tk 8 (h:=?_)
  refine rd [10] (rc (fun K hK=>?_) .nil)
  go_simp
  go_at_call 38
  refine(on_any p _ _ _ 36 #[.pointer (some ⟨w.heap.size+1,0,none⟩)] 1 0 2 (fun (_:Nat)=>name) (fun _=>⟨#[]⟩) (fun i=>match i with | 0=>75 | _=>77) lb (fun i=>match i with | 0=>2 | _=>5) (fun i=>match i with | 0=>HasSet W name | _=>¬∃i,i<W.pn∧(W.snaps i).set=name) o _ _ _ _ lo hi W w2 (HE.out.below hbw) (Hp.out.below hbw) Hwf.out b1 b2 b3 b4 HTx.out HNx.out HAx.out ?_ ?_ (enters_of Tryz.func36 (by kernel_rfl) rfl) ?_ ?_).mono ?_
  ·intro i hi
   rcases(by omega:i=0∨i=1)with rfl | rfl
   all_goals decide
  ·intro i hi
   rcases(by omega:i=0∨i=1)with rfl | rfl
   ·exact enters_of Tryz.func75 (by kernel_rfl) rfl
   ·exact enters_of Tryz.func77 (by kernel_rfl) rfl
  ·intro i hi' w' hbq hI hQp
   have hW:=(Hp.out.below hbw).below hbq
   have h8:=hI.names.sets.1
   have h20:=hI.names.snaps.1
   rcases(by omega:i=0∨i=1)with rfl | rfl
   ·obtain⟨B0,elb,hc0⟩:=(Hcap.out 0 (by decide)).is1
    replace hc0:=(hbq.cell (lt_of_cell hc0)).trans hc0
    rw [elb]
    exact setThereQ_any v0 v1 v2 v3 lo hi W B0 name w' hW h8 hname hc0
   ·obtain⟨B0,elb,hc0⟩:=(Hcap.out 1 (by decide)).is1
    replace hc0:=(hbq.cell (lt_of_cell hc0)).trans hc0
    rw [elb]
    exact withoutSnapsQ_any v0 v1 v2 v3 lo hi W B0 name w' hW h20 hc0
  ·intro C w' z0 z1 z2 z3 hC hbq hCz hI hl hbd hq hown hbox
   exact HDo.out (w.heap.size+1) C w' z0 z1 z2 z3 ((hbq.cell (lt_of_cell hS.2.2.2.2.2.2.1)).trans hS.2.2.2.2.2.2.1) (by have:=hG.size; omega) hI hl hbd hq hCz (below_next hbw hbq) hown hbox
  rintro e w3 ⟨r,href,z0,z1,z2,z3,rfl,hown,hb3⟩
  obtain⟨n0,nc0,n1,nc1,n2,nc2,n3,nc3,rfl,rfl,rfl,rfl⟩:=hown.form
  have hb4:=below_next hG hb3
  have HR3:=hideE (HR.out.below hb4)
  have Hown:=hideE hown
  have Href:=hideE href
  clear hown href
  generalize hoo:outW r o=oo at Hown ⊢
  have Hoo:=hideE hoo
  clear hoo
  (try go_wp2_with fail)
  refine hK.out _ _ (Hkeep.out _ (hb4.mono hRz)) ?_
  clear hK K hHeld
  intro hHeld
  try simp only [Act.put,s1,s2,s3]
  refine rd [11] (rc (fun K hK=>?_) .nil)
  obtain⟨⟨r0,g0⟩,⟨r1,g1⟩,⟨r2,g2⟩,⟨r3,g3⟩,⟨r4,g4⟩,⟨r5,g5⟩,⟨r6,g6⟩,⟨r7,g7⟩,⟨r8,g8⟩⟩:=HR3.out
  go_simp
  (try go_wp2_with fail)
  have hT:=Turned.put9 w3 (w.heap.size+1+1) (.slice n0 oo.world.pool.n nc0) (.slice n1 oo.world.pool.hn nc1) (.int .i64 oo.world.time) (.int .i64 oo.world.next) (.slice n2 oo.world.sn nc2) (.slice n3 oo.world.pn nc3) (.int .i64 oo.id) (.int .i64 oo.many) (.int .i64 oo.code)
  have hb5:Below (w.heap.size+1+1) W1 (((((((((w3.setCell ⟨w.heap.size+1+1,0,none⟩ (.slice n0 oo.world.pool.n nc0)).setCell ⟨w.heap.size+1+1,1,none⟩ (.slice n1 oo.world.pool.hn nc1)).setCell ⟨w.heap.size+1+1,2,none⟩ (.int .i64 oo.world.time)).setCell ⟨w.heap.size+1+1,3,none⟩ (.int .i64 oo.world.next)).setCell ⟨w.heap.size+1+1,4,none⟩ (.slice n2 oo.world.sn nc2)).setCell ⟨w.heap.size+1+1,5,none⟩ (.slice n3 oo.world.pn nc3)).setCell ⟨w.heap.size+1+1,6,none⟩ (.int .i64 oo.id)).setCell ⟨w.heap.size+1+1,7,none⟩ (.int .i64 oo.many)).setCell ⟨w.heap.size+1+1,8,none⟩ (.int .i64 oo.code)):=(hb4.mono hRz).trans (hT.below (B:=w.heap.size+1+1) (by have:=hb4.size; omega) (fun k e=>by omega))
  refine hK.out _ _ (Hkeep.out _ hb5) ?_
  clear hK K hHeld r0 r1 r2 r3 r4 r5 r6 r7 r8 g0 g1 g2 g3 g4 g5 g6 g7 g8
  intro hHeld
  try simp only [Act.put,s1,s2,s3]
  refine wpAnyH_done (by kernel_rfl) ?_ _
  go_wp2_with fail
  have HRz:=HR3.out.put (.slice n0 oo.world.pool.n nc0) (.slice n1 oo.world.pool.hn nc1) (.int .i64 oo.world.time) (.int .i64 oo.world.next) (.slice n2 oo.world.sn nc2) (.slice n3 oo.world.pn nc3) (.int .i64 oo.id) (.int .i64 oo.many) (.int .i64 oo.code)
  have hbz:=below_next hb hb4
  have hsz:=hT.size
  have hz4:=hb4.size
  refine bodyPost_ret (v:=.agg #[.slice n0 oo.world.pool.n nc0,.slice n1 oo.world.pool.hn nc1,.int .i64 oo.world.time,.int .i64 oo.world.next,.slice n2 oo.world.sn nc2,.slice n3 oo.world.pn nc3,.int .i64 oo.id,.int .i64 oo.many,.int .i64 oo.code]) (by simp [results,Tryz.results9,go_sem,HRz.1.1,HRz.2.1.1,HRz.2.2.1.1,HRz.2.2.2.1.1,HRz.2.2.2.2.1.1,HRz.2.2.2.2.2.1.1,HRz.2.2.2.2.2.2.1.1,HRz.2.2.2.2.2.2.2.1.1,HRz.2.2.2.2.2.2.2.2.1]) rfl ⟨r,Href.out,?_⟩
  rw [Hoo.out]
  refine⟨_,_,_,_,rfl,?_,?_⟩
  ·exact(Hown.out.turned hT (fun k e=>by have:=hG.size; omega)).wide (by have:=hG.size; omega) hsz
  ·exact hbz.trans (hT.below (B:=w.heap.size) hbz.size (fun k e=>by omega))
def WorldOwn2(w:World)(lo hi m top:Nat)(v0 v1 v2 v3:Value)(W:WorldD):Prop:=∃P Q R,WorldIn w P Q R v0 v1 v2 v3 W∧∀k,P k∨Q k∨R k→(lo≤k∧k<hi)∨(m≤k∧k<top)
theorem WorldOwn2.own{w:World}{lo hi m top:Nat}{v0 v1 v2 v3:Value}{W:WorldD}(h:WorldOwn2 w lo hi m top v0 v1 v2 v3 W)(h1:lo≤m)(h2:hi≤top):WorldOwn w lo top v0 v1 v2 v3 W:=by
 obtain⟨P,Q,R,h,hl⟩:=h
 exact⟨P,Q,R,h,fun k hk=>by have:=hl k hk; omega⟩
theorem WorldOwn2.turned{S:Nat→Prop}{w w':World}{lo hi m top:Nat}{v0 v1 v2 v3:Value}{W:WorldD}(h:WorldOwn2 w lo hi m top v0 v1 v2 v3 W)(t:Turned S w w')(hs:∀k,S k→k<lo∨(hi≤k∧k<m))(hm:hi≤m)(hlo:lo≤m):WorldOwn2 w' lo hi m top v0 v1 v2 v3 W:=by
 obtain⟨P,Q,R,h,hl⟩:=h
 exact⟨P,Q,R,h.turned t (fun k hk e=>by have:=hl k hk; have:=hs k e; omega),hl⟩

theorem step_append_run{P:Program}{w w1:World}{ops:Array Oper}{o:Oper}{a:Act}{K:Act→World→Prop}{Q:Exit→Act→World→Prop}{E:Prop}(hgd:o.guard=none)(s x:Operand)(t:TypeId)
  (ho:o.op = .call {callee:=.builtin .append,args:=#[s,x],argTypes:=#[t,t]}) (vs vx v':Value) (hs:a.eval s=vs) (hx:a.eval x=vx) (hrun:(Builtin.append_ #[t,t] o.type #[vs,vx]).run P w = .ok v' w1)
  (h:K (a.put o.dst v') w1):if Region.wanted o (yielded ops a.tmps)=true then Oper.wp P o a w K Q else E:=by
 have hw:Region.wanted o (yielded ops a.tmps)=true:=by simp [Region.wanted,hgd]
 rw [if_pos hw]
 unfold Oper.wp
 simp [execOp,ho,resolve,invoke,builtin,hs,hx,hrun,Result.andThen]
 exact h
def rowG(G:Nat→Value)(i n:Nat):List Value:=(List.range n).map (fun j=>G (i+j))
theorem rowG_len(G:Nat→Value)(i n:Nat):(rowG G i n).length=n:=by simp [rowG]
theorem rowG_at{G:Nat→Value}{i n j:Nat}(h:j<n):(rowG G i n)[j]?=some (G (i+j)):=by simp [rowG,h]
theorem SetsOwn.nth{w:World}{bs n:Nat}{kb:Nat→Nat}{kv:Nat→Value}{v:Value}{f:Nat→SetD}(h:SetsOwn w bs kb kv v n f){k:Nat}(hk:k<n):∃off c,v = .slice (some ⟨bs,off,none⟩) n c∧SetOwn w bs (off+k*6) (kb k) (kv k) (f k):=by
 obtain⟨_,a,c,hv,_,hx⟩:=h
 obtain⟨off,ha,h⟩:=hx (by omega)
 exact⟨off,c,by rw [hv,ha],h k hk⟩
theorem ptrs_one{w:World}{b:Nat}{v:Value}{n:Nat}{fs fb:Nat→Int}(h:PtrsOwn w b v n fs fb):v.oneCell'=true:=by
 obtain⟨_,a,c,rfl,_⟩:=h
 rfl
def del{α : Type}(f:Nat→α)(k:Nat):Nat→α:=fun i=>if i<k then f i else f (i+1)
def midI(k j m:Nat):Nat:=if m<k then m else if m+1<j then m+1 else m
theorem setCellR{w:World}{bs o nb:Nat}{f:Nat→SetD}{kv:Nat→Value}{i:Nat}(h:SetOwn w bs o nb (kv i) (f i)):∀r,r<6→Cell w bs (o+r) (cellSet f kv i r)
 | 0,_=>h.c0
 | 1,_=>h.c1
 | 2,_=>h.c2
 | 3,_=>h.c3
 | 4,_=>h.c4
 | 5,_=>h.c5
 | n+6,h=>absurd h (by omega)
def zeroC:List Value:=[.string ⟨#[]⟩,.int .i64 0,.int .i64 0,.int .i64 0,.int .i64 0,.slice none 0 0]
theorem run_clear6(w:World)(ty:TypeId)(b o c:Nat)(hc:∀j,j<6→(w.cell? ⟨b,o+j,none⟩).isSome=true)(hf:∀j,j<6→w.frozen? ⟨b,o+j,none⟩=false) :
  (Builtin.clear_ #[34] ty #[.slice (some ⟨b,o,none⟩) 1 c]).run Tryz.prog w = .ok (.tuple #[]) (w.setCells b o zeroC):=by
 have hu:Tryz.prog.underlying 34=some (.slice 61):=by kernel_rfl
 have hst:=run_storeCells_cells (P:=Tryz.prog) b o zeroC 0 w (by simpa [zeroC] using hc) (by simpa [zeroC] using hf) (by intro v hv; simp only [zeroC,List.mem_cons,List.not_mem_nil,or_false] at hv; rcases hv with rfl | rfl | rfl | rfl | rfl | rfl <;> rfl)
 simp only [Nat.add_zero] at hst
 have hzc:(Builtin.zeroCells (Value.agg #[.string ⟨#[]⟩,.int .i64 0,.int .i64 0,.int .i64 0,.int .i64 0,.slice none 0 0]).cells 1).toList=zeroC:=by kernel_rfl
 simp [Builtin.clear_,run_underlying hu,hzc,hst]
theorem turned_setCells{b:Nat}:∀(l:List Value) (o:Nat) (w:World),Turned (fun j=>j=b) w (w.setCells b o l)
 | [],_,w=>Turned.refl _ _
 | v :: l,o,w=>(Turned.put w b o v).trans (turned_setCells l (o+1) _)
theorem cell_setCells{b:Nat}{x:Nat}{u:Value}:∀(l:List Value) (o:Nat) (w:World),Cell w b x u→x<o→Cell (w.setCells b o l) b x u
 | [],_,w,h,_=>h
 | v :: l,o,w,h,hx=>cell_setCells l (o+1) _ (h.other _ (Or.inr (by omega))) (by omega)
set_option maxRecDepth 20000 in
set_option maxHeartbeats 2000000 in
theorem dropSet1_any(s:SetD)(a:Option Addr)(c B:Nat)(name:ByteArray)(w:World)(h0:w.cell? ⟨B,0,none⟩=some (.string name)) :
  Calls Tryz.prog 83 #[.agg #[.string s.name,.int .i64 s.origin,.int .i64 s.prev,.int .i64 s.rs,.int .i64 s.rb,.slice a s.dn c],.pointer (some ⟨B,0,none⟩)] w fun e w'=>BoolIs (s.name=name) e∧Below w.heap.size w w':=by
 have ha:=below_alloc w (.cells #[.string s.name,.int .i64 s.origin,.int .i64 s.prev,.int .i64 s.rs,.int .i64 s.rb,.slice a s.dn c] 61)
 have k0:=(ha.cell (lt_of_cell h0)).trans h0
 clear h0
 obtain⟨⟨x0,-⟩,⟨x1,-⟩,⟨x2,-⟩,⟨x3,-⟩,⟨x4,-⟩,⟨x5,-⟩⟩:=Box6.new w (.string s.name) (.int .i64 s.origin) (.int .i64 s.prev) (.int .i64 s.rs) (.int .i64 s.rb) (.slice a s.dn c) 61
 by_cases e1:s.name=name
 ·have a1:=str_eq e1
  have H:=hideW e1
  clear e1
  go_enter Tryz.func83,Tryz.ntmps83
  go_wp2
  go_ret
  exact⟨BoolIs.yes H.out,ha⟩
 ·have a1:=str_ne e1
  have H:=hideW e1
  clear e1
  go_enter Tryz.func83,Tryz.ntmps83
  go_wp2
  go_ret
  exact⟨BoolIs.no H.out,ha⟩
set_option maxRecDepth 20000 in
set_option maxHeartbeats 2000000 in
theorem delSet_any(lo hi bs off n c k B:Nat)(kb:Nat→Nat)(kv:Nat→Value)(f:Nat→SetD)(name:ByteArray)(w:World)(hS:SetsOwn w bs kb kv (.slice (some ⟨bs,off,none⟩) n c) n f)(hat:SetsAt w lo hi (.slice (some ⟨bs,off,none⟩) n c) n f)(hk:k<n)(hn:n≤8)(hc8:n≤c)(hname:(f k).name=name)(hun:∀i,i<n→i≠k→(f i).name≠name)(hB:w.cell? ⟨B,0,none⟩=some (.string name))(hBb:B≠bs) :
  Calls Tryz.prog 82 #[.slice (some ⟨bs,off,none⟩) n c,.func (.func 83) #[] #[.pointer (some ⟨B,0,none⟩)]] w fun e w'=>e = .returned (.slice (some ⟨bs,off,none⟩) (n - 1) c)∧Turned (fun j=>j=bs) w w'∧∀i,i<n - 1→∀r,r<6→Cell w' bs (off+i*6+r) (cellSet (del f k) (del kv k) i r):=by
 have hel:∀i,i<n→SetOwn w bs (off+i*6) (kb i) (kv i) (f i):=fun i hi=>by
  obtain⟨off',c',ev,h⟩:=hS.nth hi
  simp only [Value.slice.injEq,Option.some.injEq,Addr.mk.injEq,and_true,true_and] at ev
  obtain⟨rfl,rfl⟩:=ev
  exact h
 have hbl:bs<w.heap.size:=(hel k hk).c0.lt
 have HEL:=hideW hel
 have HN:=hideW hname
 have HU:=hideW hun
 have HB:=hideW hB
 have HIX:=hideW (show Calls Tryz.prog 124 #[.slice (some ⟨bs,off,none⟩) n c,.func (.func 83) #[] #[.pointer (some ⟨B,0,none⟩)]] w fun e w'=>e = .returned (.int .i64 (k:Int))∧Below w.heap.size w w' by
  refine(indexSet_any 83 #[.pointer (some ⟨B,0,none⟩)] (enters_of Tryz.func83 (by kernel_rfl) rfl) (fun i=>(f i).name=name) _ n lo hi f w hat (by omega) (fun i hi' a c w' hb' _=>dropSet1_any (f i) a c B name w' ((hb'.cell (lt_of_cell hB)).trans hB))).mono ?_
  rintro e w2 ⟨hr,hb2⟩
  rcases hr with⟨i,hi',h1,h2,rfl⟩ | ⟨h1,rfl⟩
  ·refine⟨?_,hb2⟩
   by_cases e:i=k
   ·rw [e]
   ·exact absurd h1 (hun i hi' e)
  ·exact absurd hname (h1 k hk))
 clear hS hat hname hun hel hB
 go_enter Tryz.func82,Tryz.ntmps82
 go_wp2_with fail
 refine HIX.out.mono ?_
 rintro e w1 ⟨rfl,hb1⟩
 clear HIX
 have hz1:=hb1.size
 have k2:¬(k:Int) = -1:=by omega
 have k0:((k:Int) == -1)=false:=by simp [k2]
 have k1:decide ((k:Int) = -1)=false:=by simp [k2]
 have hwk:IntKind.i64.wrap ((k:Int)+1)=((k+1:Nat):Int):=by first | (rw [wrap_small (by omega) (by omega)]; rfl) | (rw [wrap_small _ (by omega) (by omega)]; rfl)
 go_wp2_with fail
 go_loopw [5,6] (fun a b wr=>∃j:Nat,k+1≤j∧j≤n∧a = .int .i64 ((j - 1:Nat):Int)∧b = .int .i64 (j:Int)∧Turned (fun i=>i=bs) w wr∧∀m,m<n→∀r,r<6→Cell wr bs (off+m*6+r) (cellSet f kv (midI k j m) r)) (fun _ b _=>n - (intOf b).toNat)
 case atStart=>
  refine⟨k+1,Nat.le_refl _,hk,rfl,rfl,Turned.of_below hb1,fun m hm r hr=>?_⟩
  have e:midI k (k+1) m=m:=by
   unfold midI
   split
   ·rfl
   ·rw [if_neg (by omega)]
  rw [e]
  exact(setCellR (HEL.out m hm) r hr).below hb1
 case round=>
  obtain⟨j,hj1,hj2,rfl,rfl,hT,hcell⟩:=hrel
  have HT:=hideW hT
  have HC:=hideW hcell
  have hzr:=hT.size
  clear hT hcell
  have hBr:wr.cell? ⟨B,0,none⟩=some (.string name):=(HT.out.cell (o:=0) (lt_of_cell HB.out) hBb).trans HB.out
  by_cases hlt:j<n
  ·have hlt':(j:Int)<(n:Int):=by omega
   obtain⟨va,vc,hvj⟩:∃a c,kv j = .slice a (f j).dn c:=by
    obtain⟨_,a,cc,hv,_⟩:=(HEL.out j hlt).dead
    exact⟨a,cc,hv⟩
   have em:midI k j j=j:=by unfold midI; rw [if_neg (by omega),if_neg (by omega)]
   have hcj:∀r,r<6→Cell wr bs (off+j*6+r) (cellSet f kv j r):=fun r hr=>by
    have:=HC.out j hlt r hr
    rwa [em] at this
   have q0:wr.cell? ⟨bs,off+j*6,none⟩=some (.string (f j).name):=(hcj 0 (by omega)).1
   have q1:wr.cell? ⟨bs,off+j*6+1,none⟩=some (.int .i64 (f j).origin):=(hcj 1 (by omega)).1
   have q2:wr.cell? ⟨bs,off+j*6+2,none⟩=some (.int .i64 (f j).prev):=(hcj 2 (by omega)).1
   have q3:wr.cell? ⟨bs,off+j*6+3,none⟩=some (.int .i64 (f j).rs):=(hcj 3 (by omega)).1
   have q4:wr.cell? ⟨bs,off+j*6+4,none⟩=some (.int .i64 (f j).rb):=(hcj 4 (by omega)).1
   have q5:wr.cell? ⟨bs,off+j*6+5,none⟩=some (kv j):=(hcj 5 (by omega)).1
   rw [hvj] at q5
   have HCJ:=hideW hcj
   clear hcj
   have hal:=below_alloc wr (.cells #[.string (f j).name,.int .i64 (f j).origin,.int .i64 (f j).prev,.int .i64 (f j).rs,.int .i64 (f j).rb,.slice va (f j).dn vc] 61)
   have HX:=hideW (Box6.new wr (.string (f j).name) (.int .i64 (f j).origin) (.int .i64 (f j).prev) (.int .i64 (f j).rs) (.int .i64 (f j).rb) (.slice va (f j).dn vc) 61)
   obtain⟨⟨x0,-⟩,⟨x1,-⟩,⟨x2,-⟩,⟨x3,-⟩,⟨x4,-⟩,⟨x5,-⟩⟩:=HX.out
   go_wp2_with fail
   clear q0 q1 q2 q3 q4 q5 x0 x1 x2 x3 x4 x5
   have hBa:=(hal.cell (lt_of_cell hBr)).trans hBr
   have HCa:=hideW (show ∀m,m<n→∀r,r<6→Cell (wr.alloc (.cells #[.string (f j).name,.int .i64 (f j).origin,.int .i64 (f j).prev,.int .i64 (f j).rs,.int .i64 (f j).rb,.slice va (f j).dn vc] 61)) bs (off+m*6+r) (cellSet f kv (midI k j m) r)from fun m hm r hr=>(HC.out m hm r hr).below hal)
   have HTa:=hideW (show Turned (fun i=>i=bs) w (wr.alloc (.cells #[.string (f j).name,.int .i64 (f j).origin,.int .i64 (f j).prev,.int .i64 (f j).rs,.int .i64 (f j).rb,.slice va (f j).dn vc] 61))from HT.out.trans (Turned.of_below hal))
   generalize (wr.alloc (.cells #[.string (f j).name,.int .i64 (f j).origin,.int .i64 (f j).prev,.int .i64 (f j).rs,.int .i64 (f j).rb,.slice va (f j).dn vc] 61))=wa at hal HX hBa HCa HTa ⊢
   refine(dropSet1_any (f j) va vc B name wa hBa).mono ?_
   rintro e w2 ⟨⟨t,rfl,ht⟩,hb2⟩
   obtain rfl:t=false:=bool_no ht (HU.out j hlt (by omega))
   clear ht
   obtain⟨⟨x0,-⟩,⟨x1,-⟩,⟨x2,-⟩,⟨x3,-⟩,⟨x4,-⟩,⟨x5,-⟩⟩:=HX.out.below hb2
   have hi':((j - 1:Nat):Int)<(n:Int):=by omega
   have hc2:∀r,r<6→Cell w2 bs (off+(j - 1)*6+r) (cellSet f kv (midI k j (j - 1)) r):=fun r hr=>(HCa.out (j - 1) (by omega) r hr).below hb2
   obtain⟨t0,t0'⟩:Cell w2 bs (off+(j - 1)*6) _:=hc2 0 (by omega)
   obtain⟨t1,t1'⟩:Cell w2 bs (off+(j - 1)*6+1) _:=hc2 1 (by omega)
   obtain⟨t2,t2'⟩:Cell w2 bs (off+(j - 1)*6+2) _:=hc2 2 (by omega)
   obtain⟨t3,t3'⟩:Cell w2 bs (off+(j - 1)*6+3) _:=hc2 3 (by omega)
   obtain⟨t4,t4'⟩:Cell w2 bs (off+(j - 1)*6+4) _:=hc2 4 (by omega)
   obtain⟨t5,t5'⟩:Cell w2 bs (off+(j - 1)*6+5) _:=hc2 5 (by omega)
   have HC2:=hideW hc2
   clear hc2
   go_wp2_with fail
   have hput:Turned (fun i=>i=bs) w2 ((((((w2.setCell ⟨bs,off+(j - 1)*6,none⟩ (.string (f j).name)).setCell ⟨bs,off+(j - 1)*6+1,none⟩ (.int .i64 (f j).origin)).setCell ⟨bs,off+(j - 1)*6+2,none⟩ (.int .i64 (f j).prev)).setCell ⟨bs,off+(j - 1)*6+3,none⟩ (.int .i64 (f j).rs)).setCell ⟨bs,off+(j - 1)*6+4,none⟩ (.int .i64 (f j).rb)).setCell ⟨bs,off+(j - 1)*6+5,none⟩ (.slice va (f j).dn vc)):=(((((Turned.put _ bs _ _).trans (Turned.put _ bs _ _)).trans (Turned.put _ bs _ _)).trans (Turned.put _ bs _ _)).trans (Turned.put _ bs _ _)).trans (Turned.put _ bs _ _)
   have e1:((j - 1:Nat):Int)+1=((j+1 - 1:Nat):Int):=by omega
   have e2:(j:Int)+1=((j+1:Nat):Int):=by omega
   refine⟨⟨j+1,by omega,by omega,by rw [e1],by rw [e2],(HTa.out.trans (Turned.of_below hb2)).trans hput,fun m hm r hr=>?_⟩,by simp [intOf]; omega⟩
   have hc2:=HC2.out
   by_cases em2:m=j - 1
   ·subst em2
    have e3:midI k (j+1) (j - 1)=j:=by
     unfold midI
     rw [if_neg (by omega),if_pos (by omega)]
     omega
    rw [e3]
    rcases(by omega:r=0∨r=1∨r=2∨r=3∨r=4∨r=5)with rfl | rfl | rfl | rfl | rfl | rfl
    ·exact(((((((hc2 0 (by omega)).set _).other _ (Or.inr (by omega))).other _ (Or.inr (by omega))).other _ (Or.inr (by omega))).other _ (Or.inr (by omega))).other _ (Or.inr (by omega)))
    ·exact(((((((hc2 1 (by omega)).other _ (Or.inr (by omega))).set _).other _ (Or.inr (by omega))).other _ (Or.inr (by omega))).other _ (Or.inr (by omega))).other _ (Or.inr (by omega)))
    ·exact(((((((hc2 2 (by omega)).other _ (Or.inr (by omega))).other _ (Or.inr (by omega))).set _).other _ (Or.inr (by omega))).other _ (Or.inr (by omega))).other _ (Or.inr (by omega)))
    ·exact(((((((hc2 3 (by omega)).other _ (Or.inr (by omega))).other _ (Or.inr (by omega))).other _ (Or.inr (by omega))).set _).other _ (Or.inr (by omega))).other _ (Or.inr (by omega)))
    ·exact(((((((hc2 4 (by omega)).other _ (Or.inr (by omega))).other _ (Or.inr (by omega))).other _ (Or.inr (by omega))).other _ (Or.inr (by omega))).set _).other _ (Or.inr (by omega)))
    ·show Cell _ bs _ (kv j)
     rw [hvj]
     exact(((((((hc2 5 (by omega)).other _ (Or.inr (by omega))).other _ (Or.inr (by omega))).other _ (Or.inr (by omega))).other _ (Or.inr (by omega))).other _ (Or.inr (by omega))).set _)
   ·have e3:midI k (j+1) m=midI k j m:=by
     unfold midI
     split
     ·rfl
     ·by_cases h:m+1<j
      ·rw [if_pos h,if_pos (by omega)]
      ·rw [if_neg h,if_neg (by omega)]
    rw [e3]
    have h:=(HCa.out m hm r hr).below hb2
    exact((((((h.other _ (Or.inr (by omega))).other _ (Or.inr (by omega))).other _ (Or.inr (by omega))).other _ (Or.inr (by omega))).other _ (Or.inr (by omega))).other _ (Or.inr (by omega)))
  ·obtain rfl:j=n:=by omega
   have h01:(0:Int)≤((j - 1:Nat):Int):=by omega
   have h02:((j - 1:Nat):Int)≤(j:Int):=by omega
   have h03:((j - 1:Nat):Int)≤(c:Int):=by omega
   have h04:j - 1≤c:=by omega
   have h05:j - 1≤j:=by omega
   have hcn:¬c=j - 1:=by omega
   have hn1:j - (j - 1)=1:=by omega
   have hlast:∀r,r<6→Cell wr bs (off+(j - 1)*6+r) (cellSet f kv (midI k j (j - 1)) r):=fun r hr=>HC.out (j - 1) (by omega) r hr
   have hcl:=fun ty=>run_clear6 wr ty bs (off+(j - 1)*6) (c - (j - 1)) (fun r hr=>by rw [(hlast r hr).1]; rfl) (fun r hr=>(hlast r hr).2)
   have hTz:=turned_setCells (b:=bs) zeroC (off+(j - 1)*6) wr
   have HCz:=hideW (show ∀i,i<j - 1→∀r,r<6→Cell (wr.setCells bs (off+(j - 1)*6) zeroC) bs (off+i*6+r) (cellSet (del f k) (del kv k) i r)from fun i hi r hr=>by
    have h:=cell_setCells zeroC (off+(j - 1)*6) wr (HC.out i (by omega) r hr) (by omega)
    have e:cellSet (del f k) (del kv k) i r=cellSet f kv (midI k j i) r:=by
     unfold cellSet del midI
     by_cases e:i<k
     ·simp only [if_pos e]
     ·simp only [if_neg e,if_pos (show i+1<j by omega)]
    rw [e]
    exact h)
   have HTz:=hideW (HT.out.trans hTz)
   clear hlast hTz
   generalize wr.setCells bs (off+(j - 1)*6) zeroC=wz at hcl HCz HTz
   go_wp2_with fail
   go_ret
   exact⟨rfl,HTz.out,HCz.out⟩
end Go.Proofs.YtihdcanckbkgfaaGreatDoor
