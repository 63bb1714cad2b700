/- slices.IndexFunc and slices.ContainsFunc over snapshots and sets, for whatever function. -/
import Derived.Test.YteipkhpniokkgaaGreatDoorG13
import Derived.Test.YteipkhpniokkgaaGreatDoorG17
import Derived.Test.YteipkhpniokkgaaGreatDoorG11
import Derived.Test.YteipkhpniokkgaaGreatDoorG23
import Derived.Test.YteipkhpniokkgaaGreatDoorG4
import Derived.Deep.DeepCutAuto
import Derived.Test.YteipkhpniokkgaaGreatDoorG3
import Derived.Deep.RegionHeld3
namespace Go.Proofs.YteipkhpniokkgaaGreatDoor
open Go.RowKit
set_option linter.unusedVariables false
set_option maxRecDepth 20000 in
set_option maxHeartbeats 2000000 in
theorem indexSnap_any(g:Nat)(lb:Array Value)(eg:Enters Tryz.prog g)(P:Nat→Prop)(v:Value)(n lo hi:Nat)(f:Nat→SnapD)(w:World)(h:SnapsAt w lo hi v n f)(hn:n≤1000)
  (hP:∀i,i<n→∀a c w',Below w.heap.size w w'→PtrsAt w' lo hi (.slice a (f i).dn c) (f i).dn (f i).ds (f i).db→Calls Tryz.prog g (#[.agg #[.int .i64 (f i).id,.string (f i).name,.string (f i).set,.int .i64 (f i).prev,.int .i64 (f i).time,.int .i64 (f i).rs,.int .i64 (f i).rb,.slice a (f i).dn c]] ++ lb) w' fun e w''=>BoolIs (P i) e∧Below w'.heap.size w' w'') :
  Calls Tryz.prog 173 #[v,.func (.func g) #[] lb] w fun e w'=>((∃i:Nat,i<n∧P i∧(∀j,j<i→¬P j)∧e = .returned (.int .i64 (i:Int)))∨((∀j,j<n→¬P j)∧e = .returned (.int .i64 (-1))))∧Below w.heap.size w w':=by
 have Hp:=hideW h
 obtain⟨-,a,c,rfl,-,-⟩:=h
 have HP:=hideW hP
 clear hP
 have e0:∀(args:Array Value) (w:World),(callFunc g args).run Tryz.prog w = .ok (.enter g args) w:=eg
 clear eg
 go_enter Tryz.func173,Tryz.ntmps173
 go_wp2
 go_loopw [8] (fun i wr=>∃k:Nat,k≤n∧i = .int .i64 k∧(∀j,j<k→¬P j)∧Below w.heap.size w wr) (fun i _=>n - (intOf i).toNat)
 case atStart=>exact⟨0,Nat.zero_le _,rfl,fun j hj=>absurd hj (Nat.not_lt_zero _),Below.refl _ _⟩
 case round=>
  obtain⟨k,hk,rfl,hall,hb⟩:=hrel
  have Hall:=hideW hall
  clear hall
  by_cases hlt:k<n
  ·have hlt':(k:Int)<(n:Int):=by omega
   obtain⟨b,off,vd,rfl,hs⟩:=(Hp.out.below hb).cells hlt
   obtain⟨-,ad,cd,rfl,-,-⟩:=id hs.dead
   have Hs:=hideW hs.dead
   obtain⟨q0,q1,q2,q3,q4,q5,q6,q7,-,-⟩:=hs
   go_wp2_with fail
   clear q0 q1 q2 q3 q4 q5 q6 q7
   refine(HP.out k hlt ad cd wr hb Hs.out).mono ?_
   rintro e w1 ⟨⟨t,rfl,ht⟩,hb1⟩
   have hbn:=below_next hb hb1
   clear hb1 Hs
   by_cases hf:P k
   ·obtain rfl:t=true:=ht.2 hf
    have HF:=hideW hf
    clear ht hf
    go_wp2
    go_ret
    exact⟨Or.inl ⟨k,hlt,HF.out,Hall.out,rfl⟩,hbn⟩
   ·obtain rfl:t=false:=bool_no ht hf
    have HF:=hideW hf
    clear ht hf
    go_wp2
    go_roundw
    case rel=>
     refine⟨k+1,by omega,by go_num,fun j hj=>?_,hbn⟩
     by_cases e:j=k
     ·subst e; exact HF.out
     ·exact Hall.out j (by omega)
    case measure=>simp [intOf]; omega
  ·obtain rfl:k=n:=by omega
   go_wp2
   go_ret
   exact⟨Or.inr ⟨Hall.out,rfl⟩,hb⟩
set_option maxRecDepth 20000 in
set_option maxHeartbeats 2000000 in
theorem hasSnapF_any(g:Nat)(lb:Array Value)(eg:Enters Tryz.prog g)(P:Nat→Prop)(v:Value)(n lo hi:Nat)(f:Nat→SnapD)(w:World)(h:SnapsAt w lo hi v n f)(hn:n≤1000)
  (hP:∀i,i<n→∀a c w',Below w.heap.size w w'→PtrsAt w' lo hi (.slice a (f i).dn c) (f i).dn (f i).ds (f i).db→Calls Tryz.prog g (#[.agg #[.int .i64 (f i).id,.string (f i).name,.string (f i).set,.int .i64 (f i).prev,.int .i64 (f i).time,.int .i64 (f i).rs,.int .i64 (f i).rb,.slice a (f i).dn c]] ++ lb) w' fun e w''=>BoolIs (P i) e∧Below w'.heap.size w' w'') :
  Calls Tryz.prog 138 #[v,.func (.func g) #[] lb] w fun e w'=>BoolIs (∃i,i<n∧P i) e∧Below w.heap.size w w':=by
 have Hp:=hideW h
 have HP:=hideW hP
 obtain⟨-,a,c,rfl,-,-⟩:=h
 clear hP
 go_enter Tryz.func138,Tryz.ntmps138
 go_wp2_with fail
 refine(indexSnap_any g lb eg P _ n lo hi f w Hp.out hn HP.out).mono ?_
 rintro e w1 ⟨hr,hb1⟩
 rcases hr with⟨i,hi,hp,-,rfl⟩ | ⟨hno,rfl⟩
 ·have HQ:=hideW (show ∃i,i<n∧P i from⟨i,hi,hp⟩)
  have h0:(0:Int)≤(i:Int):=by omega
  clear hp
  go_wp2
  go_ret
  exact⟨BoolIs.yes HQ.out,hb1⟩
 ·have HQ:=hideW hno
  clear hno
  go_wp2
  go_ret
  exact⟨BoolIs.no fun ⟨i,hi,hq⟩=>HQ.out i hi hq,hb1⟩
set_option maxRecDepth 20000 in
set_option maxHeartbeats 2000000 in
theorem indexSet_any(g:Nat)(lb:Array Value)(eg:Enters Tryz.prog g)(P:Nat→Prop)(v:Value)(n lo hi:Nat)(f:Nat→SetD)(w:World)(h:SetsAt w lo hi v n f)(hn:n≤1000)
  (hP:∀i,i<n→∀a c w',Below w.heap.size w w'→PtrsAt w' lo hi (.slice a (f i).dn c) (f i).dn (f i).ds (f i).db→Calls Tryz.prog g (#[.agg #[.string (f i).name,.int .i64 (f i).origin,.int .i64 (f i).prev,.int .i64 (f i).rs,.int .i64 (f i).rb,.slice a (f i).dn c]] ++ lb) w' fun e w''=>BoolIs (P i) e∧Below w'.heap.size w' w'') :
  Calls Tryz.prog 140 #[v,.func (.func g) #[] lb] w fun e w'=>((∃i:Nat,i<n∧P i∧(∀j,j<i→¬P j)∧e = .returned (.int .i64 (i:Int)))∨((∀j,j<n→¬P j)∧e = .returned (.int .i64 (-1))))∧Below w.heap.size w w':=by
 have Hp:=hideW h
 obtain⟨-,a,c,rfl,-,-⟩:=h
 have HP:=hideW hP
 clear hP
 have e0:∀(args:Array Value) (w:World),(callFunc g args).run Tryz.prog w = .ok (.enter g args) w:=eg
 clear eg
 go_enter Tryz.func140,Tryz.ntmps140
 go_wp2
 go_loopw [8] (fun i wr=>∃k:Nat,k≤n∧i = .int .i64 k∧(∀j,j<k→¬P j)∧Below w.heap.size w wr) (fun i _=>n - (intOf i).toNat)
 case atStart=>exact⟨0,Nat.zero_le _,rfl,fun j hj=>absurd hj (Nat.not_lt_zero _),Below.refl _ _⟩
 case round=>
  obtain⟨k,hk,rfl,hall,hb⟩:=hrel
  have Hall:=hideW hall
  clear hall
  by_cases hlt:k<n
  ·have hlt':(k:Int)<(n:Int):=by omega
   obtain⟨b,off,vd,rfl,hs⟩:=(Hp.out.below hb).cells hlt
   obtain⟨-,ad,cd,rfl,-,-⟩:=id hs.dead
   have Hs:=hideW hs.dead
   obtain⟨q0,q1,q2,q3,q4,q5,-,-⟩:=hs
   go_wp2_with fail
   clear q0 q1 q2 q3 q4 q5
   refine(HP.out k hlt ad cd wr hb Hs.out).mono ?_
   rintro e w1 ⟨⟨t,rfl,ht⟩,hb1⟩
   have hbn:=below_next hb hb1
   clear hb1 Hs
   by_cases hf:P k
   ·obtain rfl:t=true:=ht.2 hf
    have HF:=hideW hf
    clear ht hf
    go_wp2
    go_ret
    exact⟨Or.inl ⟨k,hlt,HF.out,Hall.out,rfl⟩,hbn⟩
   ·obtain rfl:t=false:=bool_no ht hf
    have HF:=hideW hf
    clear ht hf
    go_wp2
    go_roundw
    case rel=>
     refine⟨k+1,by omega,by go_num,fun j hj=>?_,hbn⟩
     by_cases e:j=k
     ·subst e; exact HF.out
     ·exact Hall.out j (by omega)
    case measure=>simp [intOf]; omega
  ·obtain rfl:k=n:=by omega
   go_wp2
   go_ret
   exact⟨Or.inr ⟨Hall.out,rfl⟩,hb⟩
end Go.Proofs.YteipkhpniokkgaaGreatDoor

namespace Go.Proofs.YteipkhpniokkgaaGreatDoor
open Go.RowKit
set_option linter.unusedVariables false
set_option maxRecDepth 20000 in
set_option maxHeartbeats 2000000 in
theorem hasSnap1_any(s:SnapD)(a:Option Addr)(c:Nat)(B0 B1:Nat)(set name:ByteArray)(w:World)(h0:w.cell? ⟨B0,0,none⟩=some (.string set))(h1:w.cell? ⟨B1,0,none⟩=some (.string name)) :
  Calls Tryz.prog 139 #[.agg #[.int .i64 s.id,.string s.name,.string s.set,.int .i64 s.prev,.int .i64 s.time,.int .i64 s.rs,.int .i64 s.rb,.slice a s.dn c],.pointer (some ⟨B0,0,none⟩),.pointer (some ⟨B1,0,none⟩)] w fun e w'=>BoolIs (s.set=set∧s.name=name) e∧Below w.heap.size w w':=by
 have ha:=below_alloc w (.cells #[.int .i64 s.id,.string s.name,.string s.set,.int .i64 s.prev,.int .i64 s.time,.int .i64 s.rs,.int .i64 s.rb,.slice a s.dn c] 92)
 have k0:=(ha.cell (lt_of_cell h0)).trans h0
 have k1:=(ha.cell (lt_of_cell h1)).trans h1
 clear h0 h1
 obtain⟨⟨⟨x0,-⟩,⟨x1,-⟩,⟨x2,-⟩,⟨x3,-⟩⟩,⟨x4,-⟩,⟨x5,-⟩,⟨x6,-⟩,⟨x7,-⟩⟩:=Box8.new w (.int .i64 s.id) (.string s.name) (.string s.set) (.int .i64 s.prev) (.int .i64 s.time) (.int .i64 s.rs) (.int .i64 s.rb) (.slice a s.dn c) 92
 by_cases e1:s.set=set
 ·by_cases e2:s.name=name
  ·skip
   have a1:=str_eq e1
   have a2:=str_eq e2
   have H:=hideW (And.intro e1 e2)
   clear e1 e2
   go_enter Tryz.func139,Tryz.ntmps139
   go_wp2
   go_ret
   exact⟨BoolIs.yes H.out,ha⟩
  ·skip
   have a1:=str_eq e1
   have a2:=str_ne e2
   have H:=hideW (e2)
   clear e1 e2
   go_enter Tryz.func139,Tryz.ntmps139
   go_wp2
   go_ret
   exact⟨BoolIs.no fun h=>H.out h.2,ha⟩
 ·skip
  have a1:=str_ne e1
  have H:=hideW (e1)
  clear e1
  go_enter Tryz.func139,Tryz.ntmps139
  go_wp2
  go_ret
  exact⟨BoolIs.no fun h=>H.out h.1,ha⟩
set_option maxRecDepth 20000 in
set_option maxHeartbeats 2000000 in
theorem hasSnap_any(v0 v1 v2 v3:Value)(lo hi:Nat)(W:WorldD)(set name:ByteArray)(w:World)(h:WorldAt w lo hi v0 v1 v2 v3 W)(hn:W.pn≤20) :
  Calls Tryz.prog 95 #[worldV v0 v1 v2 v3 W,.string set,.string name] w fun e w'=>BoolIs (∃i,i<W.pn∧(W.snaps i).set=set∧(W.snaps i).name=name) e∧Below w.heap.size w w':=by
 have Hp:=hideW h
 clear h
 have ha:=below_alloc w (.cells #[v0,v1,.int .i64 W.time,.int .i64 W.next,v2,v3] 37)
 have hb:=below_alloc (w.alloc (.cells #[v0,v1,.int .i64 W.time,.int .i64 W.next,v2,v3] 37)) (.cells #[.string set] 9)
 have hc:=below_alloc ((w.alloc (.cells #[v0,v1,.int .i64 W.time,.int .i64 W.next,v2,v3] 37)).alloc (.cells #[.string set] 9)) (.cells #[.string name] 9)
 have c0:((w.alloc (.cells #[v0,v1,.int .i64 W.time,.int .i64 W.next,v2,v3] 37)).alloc (.cells #[.string set] 9)).cell? ⟨(w.alloc (.cells #[v0,v1,.int .i64 W.time,.int .i64 W.next,v2,v3] 37)).heap.size,0,none⟩=some (.string set):=World.cell?_alloc_at _ _ _ _ rfl
 have c1:(((w.alloc (.cells #[v0,v1,.int .i64 W.time,.int .i64 W.next,v2,v3] 37)).alloc (.cells #[.string set] 9)).alloc (.cells #[.string name] 9)).cell? ⟨((w.alloc (.cells #[v0,v1,.int .i64 W.time,.int .i64 W.next,v2,v3] 37)).alloc (.cells #[.string set] 9)).heap.size,0,none⟩=some (.string name):=World.cell?_alloc_at _ _ _ _ rfl
 replace c0:=(hc.cell (lt_of_cell c0)).trans c0
 rw [World.size_alloc] at c0
 rw [World.size_alloc,World.size_alloc] at c1
 have hB:=below_next (below_next ha hb) hc
 have hx:=((Box6.new w (v0) (v1) (.int .i64 W.time) (.int .i64 W.next) (v2) (v3) 37).below hb).below hc
 obtain⟨⟨x0,-⟩,⟨x1,-⟩,⟨x2,-⟩,⟨x3,-⟩,⟨x4,-⟩,⟨x5,-⟩⟩:=hx
 have C0:=hideW c0
 have C1:=hideW c1
 clear c0 c1
 go_enter Tryz.func95,Tryz.ntmps95
 go_wp2_with fail
 clear x0 x1 x2 x3 x4 x5
 generalize ((w.alloc (.cells #[v0,v1,.int .i64 W.time,.int .i64 W.next,v2,v3] 37)).alloc (.cells #[.string set] 9)).alloc (.cells #[.string name] 9)=W1 at hB C0 C1 ⊢
 refine(hasSnapF_any 139 #[.pointer (some ⟨w.heap.size+1,0,none⟩),.pointer (some ⟨w.heap.size+1+1,0,none⟩)] (enters_of Tryz.func139 (by kernel_rfl) rfl) (fun i=>(W.snaps i).set=set∧(W.snaps i).name=name) _ W.pn lo hi W.snaps W1 (Hp.out.snaps.below hB) (by omega) (fun i hi' a c w' hbw hp=>hasSnap1_any (W.snaps i) a c _ _ set name w' ((hbw.cell (lt_of_cell C0.out)).trans C0.out) ((hbw.cell (lt_of_cell C1.out)).trans C1.out))).mono ?_
 rintro e w2 ⟨⟨t,rfl,ht⟩,hb2⟩
 have Ht:=hideW ht
 clear ht
 go_wp2
 go_ret
 exact⟨⟨t,rfl,Ht.out⟩,below_next hB hb2⟩
set_option maxRecDepth 20000 in
set_option maxHeartbeats 2000000 in
theorem snapNotThereQ_any(v0 v1 v2 v3:Value)(lo hi:Nat)(W:WorldD)(B0 B1:Nat)(set name:ByteArray)(w:World)(h:WorldAt w lo hi v0 v1 v2 v3 W)(hn:W.pn≤20)(h0:w.cell? ⟨B0,0,none⟩=some (.string set))(h1:w.cell? ⟨B1,0,none⟩=some (.string name)) :
  Calls Tryz.prog 94 #[worldV v0 v1 v2 v3 W,.pointer (some ⟨B0,0,none⟩),.pointer (some ⟨B1,0,none⟩)] w fun e w'=>BoolIs (¬∃i,i<W.pn∧(W.snaps i).set=set∧(W.snaps i).name=name) e∧Below w.heap.size w w':=by
 have Hp:=hideW h
 clear h
 have ha:=below_alloc w (.cells #[v0,v1,.int .i64 W.time,.int .i64 W.next,v2,v3] 37)
 have k0:=(ha.cell (lt_of_cell h0)).trans h0
 have k1:=(ha.cell (lt_of_cell h1)).trans h1
 obtain⟨⟨x0,-⟩,⟨x1,-⟩,⟨x2,-⟩,⟨x3,-⟩,⟨x4,-⟩,⟨x5,-⟩⟩:=Box6.new w (v0) (v1) (.int .i64 W.time) (.int .i64 W.next) (v2) (v3) 37
 clear h0 h1
 go_enter Tryz.func94,Tryz.ntmps94
 go_wp2_with fail
 clear x0 x1 x2 x3 x4 x5 k0 k1
 generalize w.alloc (.cells #[v0,v1,.int .i64 W.time,.int .i64 W.next,v2,v3] 37)=W0 at ha ⊢
 refine(hasSnap_any v0 v1 v2 v3 lo hi W set name W0 (Hp.out.below ha) hn).mono ?_
 rintro e w1 ⟨⟨t,rfl,ht⟩,hb1⟩
 have hB1:=below_next ha hb1
 by_cases hf:∃i,i<W.pn∧(W.snaps i).set=set∧(W.snaps i).name=name
 ·obtain rfl:t=true:=ht.2 hf
  have HF:=hideW hf
  clear ht hf
  go_wp2
  go_ret
  exact⟨BoolIs.no (fun h=>h HF.out),hB1⟩
 ·obtain rfl:t=false:=bool_no ht hf
  have HF:=hideW hf
  clear ht hf
  go_wp2
  go_ret
  exact⟨BoolIs.yes HF.out,hB1⟩
def RoomSnap(W:WorldD):Prop:=W.pn<20∧W.time<900000∧W.next<900000
set_option maxRecDepth 20000 in
set_option maxHeartbeats 2000000 in
theorem roomForSnapQ_any(v0 v1 v2 v3:Value)(lo hi:Nat)(W:WorldD)(w:World)(h:WorldAt w lo hi v0 v1 v2 v3 W) :
  Calls Tryz.prog 96 #[worldV v0 v1 v2 v3 W] w fun e w'=>BoolIs (RoomSnap W) e∧Below w.heap.size w w':=by
 obtain⟨m1,sa,sc,rfl,-,-⟩:=id h.snaps
 unfold maxLen at m1
 clear h
 have ha:=below_alloc w (.cells #[v0,v1,.int .i64 W.time,.int .i64 W.next,v2,.slice sa W.pn sc] 37)
 obtain⟨⟨x0,-⟩,⟨x1,-⟩,⟨x2,-⟩,⟨x3,-⟩,⟨x4,-⟩,⟨x5,-⟩⟩:=Box6.new w v0 v1 (.int .i64 W.time) (.int .i64 W.next) v2 (.slice sa W.pn sc) 37
 by_cases e1:W.pn<20
 rotate_left
 ·have a1:¬(W.pn:Int)<20:=by omega
  have H:=hideW e1
  clear e1
  go_enter Tryz.func96,Tryz.ntmps96
  go_wp2
  go_ret
  exact⟨BoolIs.no fun h=>H.out h.1,ha⟩
 have a1:(W.pn:Int)<20:=by omega
 have E1:=hideW e1
 clear e1
 by_cases e2:W.time<900000
 rotate_left
 ·have H:=hideW e2
  go_enter Tryz.func96,Tryz.ntmps96
  go_wp2
  go_ret
  exact⟨BoolIs.no fun h=>by have h1:=H.out; have h2:=h.2.1; omega,ha⟩
 have E2:=hideW e2
 by_cases e3:W.next<900000
 ·have H:=hideW e3
  go_enter Tryz.func96,Tryz.ntmps96
  go_wp2
  go_ret
  exact⟨BoolIs.yes ⟨E1.out,E2.out,H.out⟩,ha⟩
 ·have H:=hideW e3
  go_enter Tryz.func96,Tryz.ntmps96
  go_wp2
  go_ret
  exact⟨BoolIs.no fun h=>by have h1:=H.out; have h2:=h.2.2; omega,ha⟩
set_option maxRecDepth 20000 in
set_option maxHeartbeats 2000000 in
theorem snapNotThere_any(p:Nat→Addr)(s0:ByteArray)(s1:ByteArray)(w:World)(hE:Errs w p) :
  Calls Tryz.prog 46 #[.string s0,.string s1] w fun e w'=>∃B0 B1:Nat,e = .returned (.agg #[.func (.func 94) #[] #[.pointer (some ⟨B0,0,none⟩),.pointer (some ⟨B1,0,none⟩)],errV (p 3)])∧w'.cell? ⟨B0,0,none⟩=some (.string s0)∧w'.cell? ⟨B1,0,none⟩=some (.string s1)∧Below w.heap.size w w':=by
 have hk0:=below_alloc w (.cells #[.string s0] 9)
 have hk1:=below_alloc (w.alloc (.cells #[.string s0] 9)) (.cells #[.string s1] 9)
 have hk2:=below_alloc ((w.alloc (.cells #[.string s0] 9)).alloc (.cells #[.string s1] 9)) (.cells #[.nilFunc,.nilIface] 73)
 have hb:=below_next (below_next (hk0) hk1) hk2
 have c0:(w.alloc (.cells #[.string s0] 9)).cell? ⟨w.heap.size,0,none⟩=some (.string s0):=World.cell?_alloc_at _ _ _ _ rfl
 replace c0:=(hk1.cell (lt_of_cell c0)).trans c0
 have c1:((w.alloc (.cells #[.string s0] 9)).alloc (.cells #[.string s1] 9)).cell? ⟨(w.alloc (.cells #[.string s0] 9)).heap.size,0,none⟩=some (.string s1):=World.cell?_alloc_at _ _ _ _ rfl
 rw [World.size_alloc] at c1
 have hg:(((w.alloc (.cells #[.string s0] 9)).alloc (.cells #[.string s1] 9)).alloc (.cells #[.nilFunc,.nilIface] 73)).cell? ⟨0,0,none⟩=some (errV (p 3)):=(hE.below hb).cell 3 (by omega)
 have hkf:=below_alloc ((w.alloc (.cells #[.string s0] 9)).alloc (.cells #[.string s1] 9)) (.cells #[.func (.func 94) #[] #[.pointer (some ⟨w.heap.size,0,none⟩),.pointer (some ⟨w.heap.size+1,0,none⟩)],errV (p 3)] 73)
 have hbf:=below_next (below_next (hk0) hk1) hkf
 have Hc0:=hideW ((hkf.cell (lt_of_cell c0)).trans c0)
 clear c0
 have Hc1:=hideW ((hkf.cell (lt_of_cell c1)).trans c1)
 clear c1
 go_enter Tryz.func46,Tryz.ntmps46
 have hst:=fun (ww:World) (a:Addr)=>run_store Tryz.prog ww a (.func (.func 94) #[] #[.pointer (some ⟨w.heap.size,0,none⟩),.pointer (some ⟨w.heap.size+1,0,none⟩)]) .plain rfl
 go_wp2_with fail
 have HRf:=Box2.new ((w.alloc (.cells #[.string s0] 9)).alloc (.cells #[.string s1] 9)) (.func (.func 94) #[] #[.pointer (some ⟨w.heap.size,0,none⟩),.pointer (some ⟨w.heap.size+1,0,none⟩)]) (errV (p 3)) 73
 rw [World.size_alloc,World.size_alloc] at HRf
 refine bodyPost_ret (v:=.agg #[.func (.func 94) #[] #[.pointer (some ⟨w.heap.size,0,none⟩),.pointer (some ⟨w.heap.size+1,0,none⟩)],errV (p 3)]) (by simp [results,Tryz.results46,go_sem,HRf.1.1,HRf.2.1]) rfl ⟨_,_,rfl,Hc0.out,Hc1.out,hbf⟩
set_option maxRecDepth 20000 in
set_option maxHeartbeats 2000000 in
theorem roomForSnap_any(p:Nat→Addr)(w:World)(hE:Errs w p) :
  Calls Tryz.prog 47 #[] w fun e w'=>e = .returned (.agg #[.func (.func 96) #[] #[],errV (p 4)])∧Below w.heap.size w w':=by
 have hk0:=below_alloc w (.cells #[.nilFunc,.nilIface] 73)
 have hb:=hk0
 have hg:(w.alloc (.cells #[.nilFunc,.nilIface] 73)).cell? ⟨1,0,none⟩=some (errV (p 4)):=(hE.below hb).cell 4 (by omega)
 have hkf:=below_alloc w (.cells #[.func (.func 96) #[] #[],errV (p 4)] 73)
 have hbf:=hkf
 go_enter Tryz.func47,Tryz.ntmps47
 have hst:=fun (ww:World) (a:Addr)=>run_store Tryz.prog ww a (.func (.func 96) #[] #[]) .plain rfl
 go_wp2_with fail
 have HRf:=Box2.new w (.func (.func 96) #[] #[]) (errV (p 4)) 73
 skip
 refine bodyPost_ret (v:=.agg #[.func (.func 96) #[] #[],errV (p 4)]) (by simp [results,Tryz.results47,go_sem,HRf.1.1,HRf.2.1]) rfl ⟨rfl,hbf⟩
end Go.Proofs.YteipkhpniokkgaaGreatDoor

namespace Go.Proofs.YteipkhpniokkgaaGreatDoor
open Go.RowKit
set_option linter.unusedVariables false
set_option maxRecDepth 20000 in
set_option maxHeartbeats 400000 in
theorem implSnapNew_of(p:Nat→Addr)(v0 v1 v2 v3:Value)(lo hi:Nat)(W:WorldD)(set:ByteArray)(name:ByteArray)(o:WOutD)(w:World)(hE:Errs w p)(h:WorldAt w lo hi v0 v1 v2 v3 W)(hwf:PrevsWf W)(b1:poolN W.pool≤1048576)(b2:W.sn≤1048576)(b3:W.pn≤1048576)(b4:DeadsN W)(hset:set.size≤maxLen)(hname:name.size≤maxLen)
  (hdo:∀B0 B1 C w' z0 z1 z2 z3,w'.cell? ⟨B0,0,none⟩=some (.string set)→B0<C→w'.cell? ⟨B1,0,none⟩=some (.string name)→B1<C→ImplW W→¬(∃i,i<2∧8000<((fun i=>match i with | 0=>set | _=>name) i).size)→¬(∃i,i<1∧¬NameP ((fun i=>match i with  | _=>name) i))→(∀j,j<3→(fun i=>match i with | 0=>HasSet W set | 1=>¬∃i,i<W.pn∧(W.snaps i).set=set∧(W.snaps i).name=name | _=>RoomSnap W) j)→C<w'.heap.size→Below w.heap.size w w'→WorldOwnR w' (C+1) w'.heap.size z0 z1 z2 z3 W→Box9 w' C z0 z1 (.int .i64 W.time) (.int .i64 W.next) z2 z3 (.int .i64 0) (.int .i64 0) .nilIface→Calls Tryz.prog 48 #[.pointer (some ⟨C,0,none⟩),.pointer (some ⟨B0,0,none⟩),.pointer (some ⟨B1,0,none⟩)] w' (DoneI p o C w')) :
  Calls Tryz.prog 16 #[worldV v0 v1 v2 v3 W,.string set,.string name] w fun e w'=>∃r,RefI W (∃i,i<2∧8000<((fun i=>match i with | 0=>set | _=>name) i).size) (∃i,i<1∧¬NameP ((fun i=>match i with  | _=>name) i)) 3 (fun i=>match i with | 0=>HasSet W set | 1=>¬∃i,i<W.pn∧(W.snaps i).set=set∧(W.snaps i).name=name | _=>RoomSnap W) (fun i=>match i with | 0=>2 | 1=>3 | _=>4) r∧NewWOut (outW r o) w e w':=by
 have Hp:=hideE h
 have HE:=hideE hE
 have HDo:=hideE hdo
 have Hwf:=hideE hwf
 have Hsz_set:=hideE hset
 have Hsz_name:=hideE hname
 clear h hE hdo hwf
 have ha0:=below_alloc w (.cells #[v0,v1,.int .i64 W.time,.int .i64 W.next,v2,v3] 37)
 have ha1:=below_alloc (w.alloc (.cells #[v0,v1,.int .i64 W.time,.int .i64 W.next,v2,v3] 37)) (.cells #[.string set] 9)
 have ha2:=below_alloc ((w.alloc (.cells #[v0,v1,.int .i64 W.time,.int .i64 W.next,v2,v3] 37)).alloc (.cells #[.string set] 9)) (.cells #[.string name] 9)
 have ha3:=below_alloc (((w.alloc (.cells #[v0,v1,.int .i64 W.time,.int .i64 W.next,v2,v3] 37)).alloc (.cells #[.string set] 9)).alloc (.cells #[.string name] 9)) (.cells #[.slice none 0 0,.slice none 0 0,.int .i64 0,.int .i64 0,.slice none 0 0,.slice none 0 0,.int .i64 0,.int .i64 0,.int .i64 0] 39)
 have hb:=below_next (below_next (below_next (ha0) ha1) ha2) ha3
 have HX:=hideE ((((Box6.new w (v0) (v1) (.int .i64 W.time) (.int .i64 W.next) (v2) (v3) 37).below ha1).below ha2).below ha3)
 have c0:((w.alloc (.cells #[v0,v1,.int .i64 W.time,.int .i64 W.next,v2,v3] 37)).alloc (.cells #[.string set] 9)).cell? ⟨(w.alloc (.cells #[v0,v1,.int .i64 W.time,.int .i64 W.next,v2,v3] 37)).heap.size,0,none⟩=some (.string set):=World.cell?_alloc_at _ _ _ _ rfl
 rw [World.size_alloc] at c0
 replace c0:=(ha2.cell (lt_of_cell c0)).trans c0
 replace c0:=(ha3.cell (lt_of_cell c0)).trans c0
 have HC0:=hideE c0
 clear c0
 have c1:(((w.alloc (.cells #[v0,v1,.int .i64 W.time,.int .i64 W.next,v2,v3] 37)).alloc (.cells #[.string set] 9)).alloc (.cells #[.string name] 9)).cell? ⟨((w.alloc (.cells #[v0,v1,.int .i64 W.time,.int .i64 W.next,v2,v3] 37)).alloc (.cells #[.string set] 9)).heap.size,0,none⟩=some (.string name):=World.cell?_alloc_at _ _ _ _ rfl
 rw [World.size_alloc,World.size_alloc] at c1
 replace c1:=(ha3.cell (lt_of_cell c1)).trans c1
 have HC1:=hideE c1
 clear c1
 have hr:=Box9.new (((w.alloc (.cells #[v0,v1,.int .i64 W.time,.int .i64 W.next,v2,v3] 37)).alloc (.cells #[.string set] 9)).alloc (.cells #[.string name] 9)) (.slice none 0 0) (.slice none 0 0) (.int .i64 0) (.int .i64 0) (.slice none 0 0) (.slice none 0 0) (.int .i64 0) (.int .i64 0) (.int .i64 0) 39
 rw [World.size_alloc,World.size_alloc,World.size_alloc] at hr
 have HR:=hideE hr
 clear hr
 have hz:((((w.alloc (.cells #[v0,v1,.int .i64 W.time,.int .i64 W.next,v2,v3] 37)).alloc (.cells #[.string set] 9)).alloc (.cells #[.string name] 9)).alloc (.cells #[.slice none 0 0,.slice none 0 0,.int .i64 0,.int .i64 0,.slice none 0 0,.slice none 0 0,.int .i64 0,.int .i64 0,.int .i64 0] 39)).heap.size=w.heap.size+4:=by rw [World.size_alloc,World.size_alloc,World.size_alloc,World.size_alloc]
 go_enter Tryz.func16,Tryz.ntmps16
 go_upto_region 1 with fail
 generalize ((((w.alloc (.cells #[v0,v1,.int .i64 W.time,.int .i64 W.next,v2,v3] 37)).alloc (.cells #[.string set] 9)).alloc (.cells #[.string name] 9)).alloc (.cells #[.slice none 0 0,.slice none 0 0,.int .i64 0,.int .i64 0,.slice none 0 0,.slice none 0 0,.int .i64 0,.int .i64 0,.int .i64 0] 39))=W1 at hb HX HR hz HC0 HC1 ⊢
 clear ha0 ha1 ha2 ha3
 obtain⟨⟨x0,-⟩,⟨x1,-⟩,⟨x2,-⟩,⟨x3,-⟩,⟨x4,-⟩,⟨x5,-⟩⟩:=HX.out
 have k0:=HC0.out
 have k1:=HC1.out
 have Hkeep:=hideE (show ∀w',Below (w.heap.size+1+1+1) W1 w'→(fun w'=>w'.cell? ⟨w.heap.size,0,none⟩=some (v0)∧w'.cell? ⟨w.heap.size,1,none⟩=some (v1)∧w'.cell? ⟨w.heap.size,2,none⟩=some (.int .i64 W.time)∧w'.cell? ⟨w.heap.size,3,none⟩=some (.int .i64 W.next)∧w'.cell? ⟨w.heap.size,4,none⟩=some (v2)∧w'.cell? ⟨w.heap.size,5,none⟩=some (v3)∧w'.cell? ⟨w.heap.size+1,0,none⟩=some (.string set)∧w'.cell? ⟨w.heap.size+1+1,0,none⟩=some (.string name)∧Below (w.heap.size+1+1+1) W1 w') w' from fun w' hbw=>⟨(hbw.cell (p:=⟨w.heap.size,0,none⟩) (by show w.heap.size<_; omega)).trans x0,(hbw.cell (p:=⟨w.heap.size,1,none⟩) (by show w.heap.size<_; omega)).trans x1,(hbw.cell (p:=⟨w.heap.size,2,none⟩) (by show w.heap.size<_; omega)).trans x2,(hbw.cell (p:=⟨w.heap.size,3,none⟩) (by show w.heap.size<_; omega)).trans x3,(hbw.cell (p:=⟨w.heap.size,4,none⟩) (by show w.heap.size<_; omega)).trans x4,(hbw.cell (p:=⟨w.heap.size,5,none⟩) (by show w.heap.size<_; omega)).trans x5,(hbw.cell (p:=⟨w.heap.size+1,0,none⟩) (by show w.heap.size+1<_; omega)).trans k0,(hbw.cell (p:=⟨w.heap.size+1+1,0,none⟩) (by show w.heap.size+1+1<_; omega)).trans k1,hbw⟩)
 have hRz:w.heap.size+1+1+1≤W1.heap.size:=by omega
 clear x0 x1 x2 x3 x4 x5 k0 k1
 refine wp_region_held_drew (S:=(fun w'=>w'.cell? ⟨w.heap.size,0,none⟩=some (v0)∧w'.cell? ⟨w.heap.size,1,none⟩=some (v1)∧w'.cell? ⟨w.heap.size,2,none⟩=some (.int .i64 W.time)∧w'.cell? ⟨w.heap.size,3,none⟩=some (.int .i64 W.next)∧w'.cell? ⟨w.heap.size,4,none⟩=some (v2)∧w'.cell? ⟨w.heap.size,5,none⟩=some (v3)∧w'.cell? ⟨w.heap.size+1,0,none⟩=some (.string set)∧w'.cell? ⟨w.heap.size+1+1,0,none⟩=some (.string name)∧Below (w.heap.size+1+1+1) W1 w')) (by kernel_rfl) (Hkeep.out _ ((Below.refl _ _).drew.mono hRz)) (fun hHeld=>?_)
 have hG0:Below W1.heap.size W1 W1.drew:=(Below.refl _ _).drew
 refine tk 0 (h:=?_)
 refine tk 1 (h:=?_)
 refine tk 3 (h:=?_)
 refine tk 5 (h:=?_)
 refine tk 7 (h:=?_)
 refine tk 8 (h:=?_)
 refine tk 12 (h:=?_)
 refine tk 14 (h:=?_)
 refine mono_here [2,4,6,9,10,11] (fun i=>if i=11 then [6,9,10] else []) (fun i=>i+7) (fun i v w'=>(i=2→TextsAt w' v 2 (fun i=>match i with | 0=>set | _=>name))∧(i=4→TextsAt w' v 1 (fun i=>match i with  | _=>name))∧(i=6→QAt w' p 93 2 [.string set] v)∧(i=9→QAt w' p 94 3 [.string set,.string name] v)∧(i=10→QAt w' p 96 4 [] v)∧(i=11→AskedQ w' p 3 (fun i=>match i with | 0=>93 | 1=>94 | _=>96) (fun i=>match i with | 0=>2 | 1=>3 | _=>4) (fun i=>match i with | 0=>[.string set] | 1=>[.string set,.string name] | _=>[]) v)) 3 (G:=fun w'=>Below W1.heap.size W1 w') (by kernel_rfl) (by decide) (by decide) (by decide) ?_ (fun _ _ h t=>below_next h t) (by assumption) hG0 ?_ ?_
 ·intro i v w' w'' hf t
  exact⟨fun e=>(hf.1 e).below t,fun e=>(hf.2.1 e).below t,fun e=>(hf.2.2.1 e).below t,fun e=>(hf.2.2.2.1 e).below t,fun e=>(hf.2.2.2.2.1 e).below t,fun e=>(hf.2.2.2.2.2 e).below t⟩
 ·intro i hi x w2 hS hG hD K hK
  simp only [List.mem_cons,List.not_mem_nil,or_false] at hi
  rcases hi with rfl | rfl | rfl | rfl | rfl | rfl
  ·refine wpOp_step (nthO_get rfl) (fun K' hK'=>?_)
   simp only [putsA,Act.put,Nat.reduceAdd,s1,s2,s3]
   have hal:=below_alloc w2 (.cells #[.string set,.string name] 9)
   go_simp
   refine hK' _ _ (hK.out _ _ _ ?_ (Hkeep.out _ ((below_next hG hal).mono hRz)) ⟨fun _=>texts_two Hsz_set.out Hsz_name.out rfl rfl,fun e=>absurd e (by decide),fun e=>absurd e (by decide),fun e=>absurd e (by decide),fun e=>absurd e (by decide),fun e=>absurd e (by decide)⟩ hal)
   simp only [putsA,Act.put,Nat.reduceAdd,s1,s2,s3]
  ·refine wpOp_step (nthO_get rfl) (fun K' hK'=>?_)
   simp only [putsA,Act.put,Nat.reduceAdd,s1,s2,s3]
   have hal:=below_alloc w2 (.cells #[.string name] 9)
   go_simp
   refine hK' _ _ (hK.out _ _ _ ?_ (Hkeep.out _ ((below_next hG hal).mono hRz)) ⟨fun e=>absurd e (by decide),fun _=>texts_one Hsz_name.out rfl,fun e=>absurd e (by decide),fun e=>absurd e (by decide),fun e=>absurd e (by decide),fun e=>absurd e (by decide)⟩ hal)
   simp only [putsA,Act.put,Nat.reduceAdd,s1,s2,s3]
  ·refine wpOp_step (nthO_get rfl) (fun K' hK'=>?_)
   simp only [putsA,Act.put,Nat.reduceAdd,s1,s2,s3]
   go_simp
   go_at_call 45
   refine(setThere_any p set w2 (HE.out.below (below_next hb hG))).mono ?_
   rintro e w3 ⟨B0,rfl,hc0,hb3⟩
   refine hK' _ _ (hK.out _ _ w3 ?_ (Hkeep.out _ ((below_next hG hb3).mono hRz)) ⟨fun e=>absurd e (by decide),fun e=>absurd e (by decide),fun _=>⟨_,rfl,CapsAt.one hc0⟩,fun e=>absurd e (by decide),fun e=>absurd e (by decide),fun e=>absurd e (by decide)⟩ hb3)
   simp only [putsA,Act.put,Nat.reduceAdd,s1,s2,s3]
  ·refine wpOp_step (nthO_get rfl) (fun K' hK'=>?_)
   simp only [putsA,Act.put,Nat.reduceAdd,s1,s2,s3]
   go_simp
   go_at_call 46
   refine(snapNotThere_any p set name w2 (HE.out.below (below_next hb hG))).mono ?_
   rintro e w3 ⟨B0,B1,rfl,hc0,hc1,hb3⟩
   refine hK' _ _ (hK.out _ _ w3 ?_ (Hkeep.out _ ((below_next hG hb3).mono hRz)) ⟨fun e=>absurd e (by decide),fun e=>absurd e (by decide),fun e=>absurd e (by decide),fun _=>⟨_,rfl,CapsAt.two hc0 hc1⟩,fun e=>absurd e (by decide),fun e=>absurd e (by decide)⟩ hb3)
   simp only [putsA,Act.put,Nat.reduceAdd,s1,s2,s3]
  ·refine wpOp_step (nthO_get rfl) (fun K' hK'=>?_)
   simp only [putsA,Act.put,Nat.reduceAdd,s1,s2,s3]
   go_simp
   go_at_call 47
   refine(roomForSnap_any p  w2 (HE.out.below (below_next hb hG))).mono ?_
   rintro e w3 ⟨rfl,hb3⟩
   refine hK' _ _ (hK.out _ _ w3 ?_ (Hkeep.out _ ((below_next hG hb3).mono hRz)) ⟨fun e=>absurd e (by decide),fun e=>absurd e (by decide),fun e=>absurd e (by decide),fun e=>absurd e (by decide),fun _=>⟨_,rfl,CapsAt.zero⟩,fun e=>absurd e (by decide)⟩ hb3)
   simp only [putsA,Act.put,Nat.reduceAdd,s1,s2,s3]
  ·refine wpOp_step (nthO_get rfl) (fun K' hK'=>?_)
   simp only [putsA,Act.put,Nat.reduceAdd,s1,s2,s3]
   obtain⟨lb0,e0,hcap0⟩:=(hD 6 (by decide)).2.2.1 rfl
   obtain⟨lb1,e1,hcap1⟩:=(hD 9 (by decide)).2.2.2.1 rfl
   obtain⟨lb2,e2,hcap2⟩:=(hD 10 (by decide)).2.2.2.2.1 rfl
   simp only [e0,e1,e2]
   have hal:=below_alloc w2 (.cells #[.func (.func 93) #[] lb0,errV (p 2),.func (.func 94) #[] lb1,errV (p 3),.func (.func 96) #[] lb2,errV (p 4)] 73)
   have hA:AskedQ (w2.alloc (.cells #[.func (.func 93) #[] lb0,errV (p 2),.func (.func 94) #[] lb1,errV (p 3),.func (.func 96) #[] lb2,errV (p 4)] 73)) p 3 (fun i=>match i with | 0=>93 | 1=>94 | _=>96) (fun i=>match i with | 0=>2 | 1=>3 | _=>4) (fun i=>match i with | 0=>[.string set] | 1=>[.string set,.string name] | _=>[]) (.slice (some ⟨w2.heap.size,0,none⟩) 3 3):=asked3 (g:=(fun i=>match i with | 0=>93 | 1=>94 | _=>96)) (ei:=(fun i=>match i with | 0=>2 | 1=>3 | _=>4)) (caps:=(fun i=>match i with | 0=>[.string set] | 1=>[.string set,.string name] | _=>[])) hcap0 hcap1 hcap2
   go_simp
   refine hK' _ _ (hK.out _ _ _ ?_ (Hkeep.out _ ((below_next hG hal).mono hRz)) ⟨fun e=>absurd e (by decide),fun e=>absurd e (by decide),fun e=>absurd e (by decide),fun e=>absurd e (by decide),fun e=>absurd e (by decide),fun _=>hA⟩ hal)
   simp only [putsA,Act.put,Nat.reduceAdd,s1,s2,s3,e0,e1,e2]
 ·intro x w2 hS hG hF
  have hT:=(hF 2 (by decide)).1 rfl
  obtain⟨-,ta,tc,et,-,-⟩:=id hT
  have hN:=(hF 4 (by decide)).2.1 rfl
  obtain⟨-,na,nc,en,-,-⟩:=id hN
  obtain⟨lb,hA,hcap⟩:=(hF 11 (by decide)).2.2.2.2.2 rfl
  obtain⟨-,qa,qc,eq,-⟩:=id hA
  simp only [putsA,listS,if_true,Act.put,Nat.reduceAdd,s1,s2,s3,et,en,eq]
  rw [et] at hT
  rw [en] at hN
  rw [eq] at hA
  have hbw:=below_next hb hG
  have HTx:=hideE hT
  have HNx:=hideE hN
  have HAx:=hideE hA
  have Hcap:=hideE hcap
  clear hT hN hA hcap hF
  refine tk 13 (h:=?_)
  refine rd [15] (rc (fun K hK=>?_) .nil)
  go_simp
  go_at_call 35
  refine(on_any p _ _ _ 48 #[.pointer (some ⟨w.heap.size+1,0,none⟩),.pointer (some ⟨w.heap.size+1+1,0,none⟩)] 2 1 3 (fun i=>match i with | 0=>set | _=>name) (fun i=>match i with  | _=>name) (fun i=>match i with | 0=>93 | 1=>94 | _=>96) lb (fun i=>match i with | 0=>2 | 1=>3 | _=>4) (fun i=>match i with | 0=>HasSet W set | 1=>¬∃i,i<W.pn∧(W.snaps i).set=set∧(W.snaps i).name=name | _=>RoomSnap W) o _ _ _ _ lo hi W w2 (HE.out.below hbw) (Hp.out.below hbw) Hwf.out b1 b2 b3 b4 HTx.out HNx.out HAx.out ?_ ?_ (enters_of Tryz.func48 (by kernel_rfl) rfl) ?_ ?_).mono ?_
  ·intro i hi
   rcases(by omega:i=0∨i=1∨i=2)with rfl | rfl | rfl
   all_goals decide
  ·intro i hi
   rcases(by omega:i=0∨i=1∨i=2)with rfl | rfl | rfl
   ·exact enters_of Tryz.func93 (by kernel_rfl) rfl
   ·exact enters_of Tryz.func94 (by kernel_rfl) rfl
   ·exact enters_of Tryz.func96 (by kernel_rfl) rfl
  ·intro i hi' w' hbq hI hQp
   have hW:=(Hp.out.below hbw).below hbq
   have h8:=hI.names.sets.1
   have h20:=hI.names.snaps.1
   rcases(by omega:i=0∨i=1∨i=2)with rfl | rfl | rfl
   ·obtain⟨B0,elb,hc0⟩:=(Hcap.out 0 (by decide)).is1
    replace hc0:=(hbq.cell (lt_of_cell hc0)).trans hc0
    rw [elb]
    exact setThereQ_any v0 v1 v2 v3 lo hi W B0 set w' hW h8 hset hc0
   ·obtain⟨B0,B1,elb,hc0,hc1⟩:=(Hcap.out 1 (by decide)).is2
    replace hc0:=(hbq.cell (lt_of_cell hc0)).trans hc0
    replace hc1:=(hbq.cell (lt_of_cell hc1)).trans hc1
    rw [elb]
    exact snapNotThereQ_any v0 v1 v2 v3 lo hi W B0 B1 set name w' hW h20 hc0 hc1
   ·have elb:=(Hcap.out 2 (by decide)).is0
    rw [elb]
    exact roomForSnapQ_any v0 v1 v2 v3 lo hi W w' hW
  ·intro C w' z0 z1 z2 z3 hC hbq hCz hI hl hbd hq hown hbox
   exact HDo.out (w.heap.size+1) (w.heap.size+1+1) C w' z0 z1 z2 z3 ((hbq.cell (lt_of_cell hS.2.2.2.2.2.2.1)).trans hS.2.2.2.2.2.2.1) (by have:=hG.size; omega) ((hbq.cell (lt_of_cell hS.2.2.2.2.2.2.2.1)).trans hS.2.2.2.2.2.2.2.1) (by have:=hG.size; omega) hI hl hbd hq hCz (below_next hbw hbq) hown hbox
  rintro e w3 ⟨r,href,z0,z1,z2,z3,rfl,hown,hb3⟩
  obtain⟨n0,nc0,n1,nc1,n2,nc2,n3,nc3,rfl,rfl,rfl,rfl⟩:=hown.form
  have hb4:=below_next hG hb3
  have HR3:=hideE (HR.out.below hb4)
  have Hown:=hideE hown
  have Href:=hideE href
  clear hown href
  generalize hoo:outW r o=oo at Hown ⊢
  have Hoo:=hideE hoo
  clear hoo
  (try go_wp2_with fail)
  refine hK.out _ _ (Hkeep.out _ (hb4.mono hRz)) ?_
  clear hK K hHeld
  intro hHeld
  try simp only [Act.put,s1,s2,s3]
  refine rd [16] (rc (fun K hK=>?_) .nil)
  obtain⟨⟨r0,g0⟩,⟨r1,g1⟩,⟨r2,g2⟩,⟨r3,g3⟩,⟨r4,g4⟩,⟨r5,g5⟩,⟨r6,g6⟩,⟨r7,g7⟩,⟨r8,g8⟩⟩:=HR3.out
  go_simp
  (try go_wp2_with fail)
  have hT:=Turned.put9 w3 (w.heap.size+1+1+1) (.slice n0 oo.world.pool.n nc0) (.slice n1 oo.world.pool.hn nc1) (.int .i64 oo.world.time) (.int .i64 oo.world.next) (.slice n2 oo.world.sn nc2) (.slice n3 oo.world.pn nc3) (.int .i64 oo.id) (.int .i64 oo.many) (.int .i64 oo.code)
  have hb5:Below (w.heap.size+1+1+1) W1 (((((((((w3.setCell ⟨w.heap.size+1+1+1,0,none⟩ (.slice n0 oo.world.pool.n nc0)).setCell ⟨w.heap.size+1+1+1,1,none⟩ (.slice n1 oo.world.pool.hn nc1)).setCell ⟨w.heap.size+1+1+1,2,none⟩ (.int .i64 oo.world.time)).setCell ⟨w.heap.size+1+1+1,3,none⟩ (.int .i64 oo.world.next)).setCell ⟨w.heap.size+1+1+1,4,none⟩ (.slice n2 oo.world.sn nc2)).setCell ⟨w.heap.size+1+1+1,5,none⟩ (.slice n3 oo.world.pn nc3)).setCell ⟨w.heap.size+1+1+1,6,none⟩ (.int .i64 oo.id)).setCell ⟨w.heap.size+1+1+1,7,none⟩ (.int .i64 oo.many)).setCell ⟨w.heap.size+1+1+1,8,none⟩ (.int .i64 oo.code)):=(hb4.mono hRz).trans (hT.below (B:=w.heap.size+1+1+1) (by have:=hb4.size; omega) (fun k e=>by omega))
  refine hK.out _ _ (Hkeep.out _ hb5) ?_
  clear hK K hHeld r0 r1 r2 r3 r4 r5 r6 r7 r8 g0 g1 g2 g3 g4 g5 g6 g7 g8
  intro hHeld
  try simp only [Act.put,s1,s2,s3]
  refine wpAnyH_done (by kernel_rfl) ?_ _
  go_wp2_with fail
  have HRz:=HR3.out.put (.slice n0 oo.world.pool.n nc0) (.slice n1 oo.world.pool.hn nc1) (.int .i64 oo.world.time) (.int .i64 oo.world.next) (.slice n2 oo.world.sn nc2) (.slice n3 oo.world.pn nc3) (.int .i64 oo.id) (.int .i64 oo.many) (.int .i64 oo.code)
  have hbz:=below_next hb hb4
  have hsz:=hT.size
  have hz4:=hb4.size
  refine bodyPost_ret (v:=.agg #[.slice n0 oo.world.pool.n nc0,.slice n1 oo.world.pool.hn nc1,.int .i64 oo.world.time,.int .i64 oo.world.next,.slice n2 oo.world.sn nc2,.slice n3 oo.world.pn nc3,.int .i64 oo.id,.int .i64 oo.many,.int .i64 oo.code]) (by simp [results,Tryz.results16,go_sem,HRz.1.1,HRz.2.1.1,HRz.2.2.1.1,HRz.2.2.2.1.1,HRz.2.2.2.2.1.1,HRz.2.2.2.2.2.1.1,HRz.2.2.2.2.2.2.1.1,HRz.2.2.2.2.2.2.2.1.1,HRz.2.2.2.2.2.2.2.2.1]) rfl ⟨r,Href.out,?_⟩
  rw [Hoo.out]
  refine⟨_,_,_,_,rfl,?_,?_⟩
  ·exact(Hown.out.turned hT (fun k e=>by have:=hG.size; omega)).wide (by have:=hG.size; omega) hsz
  ·exact hbz.trans (hT.below (B:=w.heap.size) hbz.size (fun k e=>by omega))
end Go.Proofs.YteipkhpniokkgaaGreatDoor

namespace Go.Proofs.YteipkhpniokkgaaGreatDoor
open Go.RowKit
set_option linter.unusedVariables false
set_option maxRecDepth 20000 in
set_option maxHeartbeats 2000000 in
theorem chSet1_any(s:SetD)(a:Option Addr)(c B:Nat)(name:ByteArray)(w:World)(h0:w.cell? ⟨B,0,none⟩=some (.string name)) :
  Calls Tryz.prog 141 #[.agg #[.string s.name,.int .i64 s.origin,.int .i64 s.prev,.int .i64 s.rs,.int .i64 s.rb,.slice a s.dn c],.pointer (some ⟨B,0,none⟩)] w fun e w'=>BoolIs (s.name=name) e∧Below w.heap.size w w':=by
 have ha:=below_alloc w (.cells #[.string s.name,.int .i64 s.origin,.int .i64 s.prev,.int .i64 s.rs,.int .i64 s.rb,.slice a s.dn c] 65)
 have k0:=(ha.cell (lt_of_cell h0)).trans h0
 clear h0
 obtain⟨⟨x0,-⟩,⟨x1,-⟩,⟨x2,-⟩,⟨x3,-⟩,⟨x4,-⟩,⟨x5,-⟩⟩:=Box6.new w (.string s.name) (.int .i64 s.origin) (.int .i64 s.prev) (.int .i64 s.rs) (.int .i64 s.rb) (.slice a s.dn c) 65
 by_cases e1:s.name=name
 ·skip
  have a1:=str_eq e1
  have H:=hideW e1
  clear e1
  go_enter Tryz.func141,Tryz.ntmps141
  go_wp2
  go_ret
  exact⟨BoolIs.yes H.out,ha⟩
 ·skip
  have a1:=str_ne e1
  have H:=hideW e1
  clear e1
  go_enter Tryz.func141,Tryz.ntmps141
  go_wp2
  go_ret
  exact⟨BoolIs.no H.out,ha⟩
theorem first_at{n k:Nat}{f:Nat→SetD}{name:ByteArray}{e:Ending}(hn:(f k).name=name)(hf:∀j,j<k→(f j).name≠name)(hk:k<n)
  (hr:(∃i:Nat,i<n∧(f i).name=name∧(∀j,j<i→¬(f j).name=name)∧e = .returned (.int .i64 (i:Int)))∨((∀j,j<n→¬(f j).name=name)∧e = .returned (.int .i64 (-1)))):e = .returned (.int .i64 (k:Int)):=by
 rcases hr with⟨i,hi,h1,h2,rfl⟩ | ⟨h1,_⟩
 ·obtain rfl:i=k:=by
   rcases Nat.lt_trichotomy i k with h | h | h
   ·exact absurd h1 (hf i h)
   ·exact h
   ·exact absurd hn (h2 k h)
  rfl
 ·exact absurd hn (h1 k hk)
set_option maxRecDepth 20000 in
set_option maxHeartbeats 2000000 in
theorem chSet_any(C lo hi n k c2:Nat)(a2:Option Addr)(f:Nat→SetD)(name:ByteArray)(w:World)(hc:w.cell? ⟨C,4,none⟩=some (.slice a2 n c2))(hS:SetsAt w lo hi (.slice a2 n c2) n f)(hn:n≤8)(hk:k<n)(hname:(f k).name=name)(hfirst:∀j,j<k→(f j).name≠name) :
  Calls Tryz.prog 97 #[.pointer (some ⟨C,0,none⟩),.string name] w fun e w'=>(∃b off,a2=some ⟨b,off,none⟩∧e = .returned (.pointer (some ⟨b,off+k*6,none⟩)))∧Below w.heap.size w w':=by
 have Hp:=hideW hS
 have Hn:=hideW hname
 have Hf:=hideW hfirst
 obtain⟨b,off,vd,rfl,-⟩:=hS.cells hk
 clear hS hname hfirst
 have ha:=below_alloc w (.cells #[.string name] 9)
 have c0:(w.alloc (.cells #[.string name] 9)).cell? ⟨w.heap.size,0,none⟩=some (.string name):=World.cell?_alloc_at _ _ _ _ rfl
 have hc1:=(ha.cell (lt_of_cell hc)).trans hc
 have C0:=hideW c0
 have hk':(k:Int)<(n:Int):=by omega
 clear c0 hc
 go_enter Tryz.func97,Tryz.ntmps97
 go_wp2_with fail
 generalize w.alloc (.cells #[.string name] 9)=W1 at ha hc1 C0 ⊢
 have IX:=hideW (show ∀w',Below W1.heap.size W1 w'→Calls Tryz.prog 140 #[.slice (some ⟨b,off,none⟩) n c2,.func (.func 141) #[] #[.pointer (some ⟨w.heap.size,0,none⟩)]] w' fun e w''=>e = .returned (.int .i64 (k:Int))∧Below w'.heap.size w' w'' from fun w' hb'=>by
  refine(indexSet_any 141 #[.pointer (some ⟨w.heap.size,0,none⟩)] (enters_of Tryz.func141 (by kernel_rfl) rfl) (fun i=>(f i).name=name) _ n lo hi f w' ((Hp.out.below ha).below hb') (by omega) (fun i hi' a c w'' hbw hp=>chSet1_any (f i) a c _ name w'' (((below_next hb' hbw).cell (lt_of_cell C0.out)).trans C0.out))).mono ?_
  rintro e w2 ⟨hr,hb2⟩
  exact⟨first_at Hn.out Hf.out hk hr,hb2⟩)
 go_region_held3 (fun w'=>w'.cell? ⟨C,4,none⟩=some (.slice (some ⟨b,off,none⟩) n c2)) (go_keep)
  (first | (go_at_call 140; refine(IX.out _ (Below.refl _ _).drew).mono ?_; rintro e w2 ⟨rfl,hb2⟩; have hb2':=below_undrew hb2; have hc2:=(hb2'.cell (lt_of_cell hc1)).trans hc1))
 go_wp2
 go_ret
 exact⟨⟨b,off,rfl,rfl⟩,below_next ha hb2'⟩
end Go.Proofs.YteipkhpniokkgaaGreatDoor
