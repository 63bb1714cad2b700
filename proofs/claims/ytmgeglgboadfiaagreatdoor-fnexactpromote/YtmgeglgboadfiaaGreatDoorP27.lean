/- slices.IndexFunc and slices.ContainsFunc over snapshots and sets, for whatever function. -/
import Derived.Test.YtmgeglgboadfiaaGreatDoorP13
import Derived.Test.YtmgeglgboadfiaaGreatDoorP17
import Derived.Test.YtmgeglgboadfiaaGreatDoorP11
import Derived.Test.YtmgeglgboadfiaaGreatDoorP26
import Derived.Test.YtmgeglgboadfiaaGreatDoorP18
import Derived.Test.YtmgeglgboadfiaaGreatDoorP2
import Derived.Test.YtmgeglgboadfiaaGreatDoorP16
import Derived.Test.YtmgeglgboadfiaaGreatDoorP12
import Derived.Deep.RegionHeld3
import Derived.Test.YtmgeglgboadfiaaGreatDoorP23
import Derived.Test.YtmgeglgboadfiaaGreatDoorP4
import Derived.Deep.DeepCutAuto
namespace Go.Proofs.YtmgeglgboadfiaaGreatDoor
open Go.RowKit
set_option linter.unusedVariables false
set_option maxRecDepth 20000 in
set_option maxHeartbeats 2000000 in
theorem indexSnap_any(g:Nat)(lb:Array Value)(eg:Enters Tryz.prog g)(P:Nat→Prop)(v:Value)(n lo hi:Nat)(f:Nat→SnapD)(w:World)(h:SnapsAt w lo hi v n f)(hn:n≤1000)
  (hP:∀i,i<n→∀a c w',Below w.heap.size w w'→PtrsAt w' lo hi (.slice a (f i).dn c) (f i).dn (f i).ds (f i).db→Calls Tryz.prog g (#[.agg #[.int .i64 (f i).id,.string (f i).name,.string (f i).set,.int .i64 (f i).prev,.int .i64 (f i).time,.int .i64 (f i).rs,.int .i64 (f i).rb,.slice a (f i).dn c]] ++ lb) w' fun e w''=>BoolIs (P i) e∧Below w'.heap.size w' w'') :
  Calls Tryz.prog 183 #[v,.func (.func g) #[] lb] w fun e w'=>((∃i:Nat,i<n∧P i∧(∀j,j<i→¬P j)∧e = .returned (.int .i64 (i:Int)))∨((∀j,j<n→¬P j)∧e = .returned (.int .i64 (-1))))∧Below w.heap.size w w':=by
 have Hp:=hideW h
 obtain⟨-,a,c,rfl,-,-⟩:=h
 have HP:=hideW hP
 clear hP
 have e0:∀(args:Array Value) (w:World),(callFunc g args).run Tryz.prog w = .ok (.enter g args) w:=eg
 clear eg
 go_enter Tryz.func183,Tryz.ntmps183
 go_wp2
 go_loopw [8] (fun i wr=>∃k:Nat,k≤n∧i = .int .i64 k∧(∀j,j<k→¬P j)∧Below w.heap.size w wr) (fun i _=>n - (intOf i).toNat)
 case atStart=>exact⟨0,Nat.zero_le _,rfl,fun j hj=>absurd hj (Nat.not_lt_zero _),Below.refl _ _⟩
 case round=>
  obtain⟨k,hk,rfl,hall,hb⟩:=hrel
  have Hall:=hideW hall
  clear hall
  by_cases hlt:k<n
  ·have hlt':(k:Int)<(n:Int):=by omega
   obtain⟨b,off,vd,rfl,hs⟩:=(Hp.out.below hb).cells hlt
   obtain⟨-,ad,cd,rfl,-,-⟩:=id hs.dead
   have Hs:=hideW hs.dead
   obtain⟨q0,q1,q2,q3,q4,q5,q6,q7,-,-⟩:=hs
   go_wp2_with fail
   clear q0 q1 q2 q3 q4 q5 q6 q7
   refine(HP.out k hlt ad cd wr hb Hs.out).mono ?_
   rintro e w1 ⟨⟨t,rfl,ht⟩,hb1⟩
   have hbn:=below_next hb hb1
   clear hb1 Hs
   by_cases hf:P k
   ·obtain rfl:t=true:=ht.2 hf
    have HF:=hideW hf
    clear ht hf
    go_wp2
    go_ret
    exact⟨Or.inl ⟨k,hlt,HF.out,Hall.out,rfl⟩,hbn⟩
   ·obtain rfl:t=false:=bool_no ht hf
    have HF:=hideW hf
    clear ht hf
    go_wp2
    go_roundw
    case rel=>
     refine⟨k+1,by omega,by go_num,fun j hj=>?_,hbn⟩
     by_cases e:j=k
     ·subst e; exact HF.out
     ·exact Hall.out j (by omega)
    case measure=>simp [intOf]; omega
  ·obtain rfl:k=n:=by omega
   go_wp2
   go_ret
   exact⟨Or.inr ⟨Hall.out,rfl⟩,hb⟩
set_option maxRecDepth 20000 in
set_option maxHeartbeats 2000000 in
theorem hasSnapF_any(g:Nat)(lb:Array Value)(eg:Enters Tryz.prog g)(P:Nat→Prop)(v:Value)(n lo hi:Nat)(f:Nat→SnapD)(w:World)(h:SnapsAt w lo hi v n f)(hn:n≤1000)
  (hP:∀i,i<n→∀a c w',Below w.heap.size w w'→PtrsAt w' lo hi (.slice a (f i).dn c) (f i).dn (f i).ds (f i).db→Calls Tryz.prog g (#[.agg #[.int .i64 (f i).id,.string (f i).name,.string (f i).set,.int .i64 (f i).prev,.int .i64 (f i).time,.int .i64 (f i).rs,.int .i64 (f i).rb,.slice a (f i).dn c]] ++ lb) w' fun e w''=>BoolIs (P i) e∧Below w'.heap.size w' w'') :
  Calls Tryz.prog 132 #[v,.func (.func g) #[] lb] w fun e w'=>BoolIs (∃i,i<n∧P i) e∧Below w.heap.size w w':=by
 have Hp:=hideW h
 have HP:=hideW hP
 obtain⟨-,a,c,rfl,-,-⟩:=h
 clear hP
 go_enter Tryz.func132,Tryz.ntmps132
 go_wp2_with fail
 refine(indexSnap_any g lb eg P _ n lo hi f w Hp.out hn HP.out).mono ?_
 rintro e w1 ⟨hr,hb1⟩
 rcases hr with⟨i,hi,hp,-,rfl⟩ | ⟨hno,rfl⟩
 ·have HQ:=hideW (show ∃i,i<n∧P i from⟨i,hi,hp⟩)
  have h0:(0:Int)≤(i:Int):=by omega
  clear hp
  go_wp2
  go_ret
  exact⟨BoolIs.yes HQ.out,hb1⟩
 ·have HQ:=hideW hno
  clear hno
  go_wp2
  go_ret
  exact⟨BoolIs.no fun ⟨i,hi,hq⟩=>HQ.out i hi hq,hb1⟩
set_option maxRecDepth 20000 in
set_option maxHeartbeats 2000000 in
theorem indexSet_any(g:Nat)(lb:Array Value)(eg:Enters Tryz.prog g)(P:Nat→Prop)(v:Value)(n lo hi:Nat)(f:Nat→SetD)(w:World)(h:SetsAt w lo hi v n f)(hn:n≤1000)
  (hP:∀i,i<n→∀a c w',Below w.heap.size w w'→PtrsAt w' lo hi (.slice a (f i).dn c) (f i).dn (f i).ds (f i).db→Calls Tryz.prog g (#[.agg #[.string (f i).name,.int .i64 (f i).origin,.int .i64 (f i).prev,.int .i64 (f i).rs,.int .i64 (f i).rb,.slice a (f i).dn c]] ++ lb) w' fun e w''=>BoolIs (P i) e∧Below w'.heap.size w' w'') :
  Calls Tryz.prog 103 #[v,.func (.func g) #[] lb] w fun e w'=>((∃i:Nat,i<n∧P i∧(∀j,j<i→¬P j)∧e = .returned (.int .i64 (i:Int)))∨((∀j,j<n→¬P j)∧e = .returned (.int .i64 (-1))))∧Below w.heap.size w w':=by
 have Hp:=hideW h
 obtain⟨-,a,c,rfl,-,-⟩:=h
 have HP:=hideW hP
 clear hP
 have e0:∀(args:Array Value) (w:World),(callFunc g args).run Tryz.prog w = .ok (.enter g args) w:=eg
 clear eg
 go_enter Tryz.func103,Tryz.ntmps103
 go_wp2
 go_loopw [8] (fun i wr=>∃k:Nat,k≤n∧i = .int .i64 k∧(∀j,j<k→¬P j)∧Below w.heap.size w wr) (fun i _=>n - (intOf i).toNat)
 case atStart=>exact⟨0,Nat.zero_le _,rfl,fun j hj=>absurd hj (Nat.not_lt_zero _),Below.refl _ _⟩
 case round=>
  obtain⟨k,hk,rfl,hall,hb⟩:=hrel
  have Hall:=hideW hall
  clear hall
  by_cases hlt:k<n
  ·have hlt':(k:Int)<(n:Int):=by omega
   obtain⟨b,off,vd,rfl,hs⟩:=(Hp.out.below hb).cells hlt
   obtain⟨-,ad,cd,rfl,-,-⟩:=id hs.dead
   have Hs:=hideW hs.dead
   obtain⟨q0,q1,q2,q3,q4,q5,-,-⟩:=hs
   go_wp2_with fail
   clear q0 q1 q2 q3 q4 q5
   refine(HP.out k hlt ad cd wr hb Hs.out).mono ?_
   rintro e w1 ⟨⟨t,rfl,ht⟩,hb1⟩
   have hbn:=below_next hb hb1
   clear hb1 Hs
   by_cases hf:P k
   ·obtain rfl:t=true:=ht.2 hf
    have HF:=hideW hf
    clear ht hf
    go_wp2
    go_ret
    exact⟨Or.inl ⟨k,hlt,HF.out,Hall.out,rfl⟩,hbn⟩
   ·obtain rfl:t=false:=bool_no ht hf
    have HF:=hideW hf
    clear ht hf
    go_wp2
    go_roundw
    case rel=>
     refine⟨k+1,by omega,by go_num,fun j hj=>?_,hbn⟩
     by_cases e:j=k
     ·subst e; exact HF.out
     ·exact Hall.out j (by omega)
    case measure=>simp [intOf]; omega
  ·obtain rfl:k=n:=by omega
   go_wp2
   go_ret
   exact⟨Or.inr ⟨Hall.out,rfl⟩,hb⟩
set_option maxRecDepth 20000 in
set_option maxHeartbeats 2000000 in
theorem promote1_any(s:SnapD)(a:Option Addr)(c B:Nat)(x:Int)(w:World)(h0:w.cell? ⟨B,0,none⟩=some (.int .i64 x)) :
  Calls Tryz.prog 133 #[.agg #[.int .i64 s.id,.string s.name,.string s.set,.int .i64 s.prev,.int .i64 s.time,.int .i64 s.rs,.int .i64 s.rb,.slice a s.dn c],.pointer (some ⟨B,0,none⟩)] w fun e w'=>BoolIs (s.id=x) e∧Below w.heap.size w w':=by
 have ha:=below_alloc w (.cells #[.int .i64 s.id,.string s.name,.string s.set,.int .i64 s.prev,.int .i64 s.time,.int .i64 s.rs,.int .i64 s.rb,.slice a s.dn c] 99)
 have k0:=(ha.cell (lt_of_cell h0)).trans h0
 clear h0
 obtain⟨⟨⟨x0,-⟩,⟨x1,-⟩,⟨x2,-⟩,⟨x3,-⟩⟩,⟨x4,-⟩,⟨x5,-⟩,⟨x6,-⟩,⟨x7,-⟩⟩:=Box8.new w (.int .i64 s.id) (.string s.name) (.string s.set) (.int .i64 s.prev) (.int .i64 s.time) (.int .i64 s.rs) (.int .i64 s.rb) (.slice a s.dn c) 99
 by_cases e1:s.id=x
 ·have a1:(s.id == x)=true:=beq_iff_eq.2 e1
  have H:=hideW e1
  clear e1
  go_enter Tryz.func133,Tryz.ntmps133
  go_wp2
  go_ret
  exact⟨BoolIs.yes H.out,ha⟩
 ·have a1:(s.id == x)=false:=beq_eq_false_iff_ne.2 e1
  have H:=hideW e1
  clear e1
  go_enter Tryz.func133,Tryz.ntmps133
  go_wp2
  go_ret
  exact⟨BoolIs.no H.out,ha⟩
theorem comes_any(l:List SnapD)(v:Value)(B:Nat)(x:Int)(lo hi:Nat)(w:World)(h:SnapsAt w lo hi v l.length (fun i=>l.getD i zeroSnap))(hl:l.length≤1000)(hc:w.cell? ⟨B,0,none⟩=some (.int .i64 x)) :
  Calls Tryz.prog 132 #[v,.func (.func 133) #[] #[.pointer (some ⟨B,0,none⟩)]] w fun e w'=>BoolIs (∃i,i<l.length∧(l.getD i zeroSnap).id=x) e∧Below w.heap.size w w':=
 hasSnapF_any 133 #[.pointer (some ⟨B,0,none⟩)] (enters_of Tryz.func133 (by kernel_rfl) rfl) (fun i=>(l.getD i zeroSnap).id=x) v l.length lo hi (fun i=>l.getD i zeroSnap) w h hl (fun i hi' a c w' hb' _=>promote1_any (l.getD i zeroSnap) a c B x w' ((hb'.cell (lt_of_cell hc)).trans hc))
def setTo(f:Nat→SnapD)(j:Nat)(name:ByteArray):Nat→SnapD:=fun i=>if i=j then {f j with set:=name}else f i
theorem setTo_same(f:Nat→SnapD)(j:Nat)(name:ByteArray)(i:Nat):(setTo f j name i).dn=(f i).dn∧(setTo f j name i).ds=(f i).ds∧(setTo f j name i).db=(f i).db∧(setTo f j name i).id=(f i).id∧(setTo f j name i).name=(f i).name:=by
 unfold setTo
 by_cases e:i=j
 ·rw [if_pos e,e]
  exact⟨rfl,rfl,rfl,rfl,rfl⟩
 ·rw [if_neg e]
  exact⟨rfl,rfl,rfl,rfl,rfl⟩
theorem SnapsB.setTo{bs:Nat}{kb:Nat→Nat}{n:Nat}{f:Nat→SnapD}{j:Nat}{name:ByteArray}(k:Nat):SnapsB bs kb n (setTo f j name) k↔SnapsB bs kb n f k:=by
 unfold SnapsB
 constructor
 ·rintro(h | ⟨i,h1,h2,h3⟩)
  ·exact Or.inl h
  ·exact Or.inr ⟨i,h1,by rw [←(setTo_same f j name i).1]; exact h2,h3⟩
 ·rintro(h | ⟨i,h1,h2,h3⟩)
  ·exact Or.inl h
  ·exact Or.inr ⟨i,h1,by rw [(setTo_same f j name i).1]; exact h2,h3⟩
theorem SnapsApart.setTo{kb:Nat→Nat}{n:Nat}{f:Nat→SnapD}(h:SnapsApart kb n f)(j:Nat)(name:ByteArray):SnapsApart kb n (setTo f j name):=fun a b ha hb hne h1 h2=>h a b ha hb hne (by rw [←(setTo_same f j name a).1]; exact h1) (by rw [←(setTo_same f j name b).1]; exact h2)
theorem SnapsOwn.setTo{w:World}{bs off c:Nat}{kb:Nat→Nat}{kv:Nat→Value}{n:Nat}{f:Nat→SnapD}(h:SnapsOwn w bs kb kv (.slice (some ⟨bs,off,none⟩) n c) n f){j:Nat}(hj:j<n){name:ByteArray}(hsz:name.size≤maxLen):SnapsOwn (w.setCell ⟨bs,off+j*8+2,none⟩ (.string name)) bs kb kv (.slice (some ⟨bs,off,none⟩) n c) n (setTo f j name):=by
 obtain⟨h0,a,cap,hv,hcc,hc⟩:=h
 cases hv
 refine⟨h0,_,_,rfl,hcc,fun hn=>?_⟩
 obtain⟨off',e,h3⟩:=hc hn
 cases e
 refine⟨off,rfl,fun i hi=>?_⟩
 have hs:=h3 i hi
 have hd:PtrsOwn (w.setCell ⟨bs,off+j*8+2,none⟩ (.string name)) (kb i) (kv i) (f i).dn (f i).ds (f i).db:=hs.dead.turned (Turned.put w bs _ _) (fun h0=>hs.apart h0)
 by_cases e:i=j
 ·subst e
  have e1:Go.Proofs.YtmgeglgboadfiaaGreatDoor.setTo f i name i = {f i with set:=name}:=if_pos rfl
  rw [e1]
  exact⟨hs.c0.other _ (Or.inr (by omega)),hs.c1.other _ (Or.inr (by omega)),hs.c2.set _,hs.c3.other _ (Or.inr (by omega)),hs.c4.other _ (Or.inr (by omega)),hs.c5.other _ (Or.inr (by omega)),hs.c6.other _ (Or.inr (by omega)),hs.c7.other _ (Or.inr (by omega)),hd,⟨hs.small.1,hsz⟩,hs.apart⟩
 ·have e1:Go.Proofs.YtmgeglgboadfiaaGreatDoor.setTo f j name i=f i:=if_neg e
  rw [e1]
  exact⟨hs.c0.other _ (Or.inr (by omega)),hs.c1.other _ (Or.inr (by omega)),hs.c2.other _ (Or.inr (by omega)),hs.c3.other _ (Or.inr (by omega)),hs.c4.other _ (Or.inr (by omega)),hs.c5.other _ (Or.inr (by omega)),hs.c6.other _ (Or.inr (by omega)),hs.c7.other _ (Or.inr (by omega)),hd,hs.small,hs.apart⟩
def orgTo(f:Nat→SetD)(j:Nat)(x:Int):Nat→SetD:=fun i=>if i=j then {f j with origin:=x}else f i
theorem orgTo_same(f:Nat→SetD)(j:Nat)(x:Int)(i:Nat):(orgTo f j x i).dn=(f i).dn∧(orgTo f j x i).ds=(f i).ds∧(orgTo f j x i).db=(f i).db∧(orgTo f j x i).name=(f i).name∧(orgTo f j x i).prev=(f i).prev∧(orgTo f j x i).rs=(f i).rs∧(orgTo f j x i).rb=(f i).rb:=by
 unfold orgTo
 by_cases e:i=j
 ·rw [if_pos e,e]
  exact⟨rfl,rfl,rfl,rfl,rfl,rfl,rfl⟩
 ·rw [if_neg e]
  exact⟨rfl,rfl,rfl,rfl,rfl,rfl,rfl⟩
theorem SetsB.orgTo{bs:Nat}{kb:Nat→Nat}{n:Nat}{f:Nat→SetD}{j:Nat}{x:Int}(k:Nat):SetsB bs kb n (orgTo f j x) k↔SetsB bs kb n f k:=by
 unfold SetsB
 constructor
 ·rintro(h | ⟨i,h1,h2,h3⟩)
  ·exact Or.inl h
  ·exact Or.inr ⟨i,h1,by rw [←(orgTo_same f j x i).1]; exact h2,h3⟩
 ·rintro(h | ⟨i,h1,h2,h3⟩)
  ·exact Or.inl h
  ·exact Or.inr ⟨i,h1,by rw [(orgTo_same f j x i).1]; exact h2,h3⟩
theorem SetsApart.orgTo{kb:Nat→Nat}{n:Nat}{f:Nat→SetD}(h:SetsApart kb n f)(j:Nat)(x:Int):SetsApart kb n (orgTo f j x):=fun a b ha hb hne h1 h2=>h a b ha hb hne (by rw [←(orgTo_same f j x a).1]; exact h1) (by rw [←(orgTo_same f j x b).1]; exact h2)
theorem SetsOwn.orgTo{w:World}{bs off c:Nat}{kb:Nat→Nat}{kv:Nat→Value}{n:Nat}{f:Nat→SetD}(h:SetsOwn w bs kb kv (.slice (some ⟨bs,off,none⟩) n c) n f){j:Nat}(hj:j<n)(x:Int):SetsOwn (w.setCell ⟨bs,off+j*6+1,none⟩ (.int .i64 x)) bs kb kv (.slice (some ⟨bs,off,none⟩) n c) n (orgTo f j x):=by
 obtain⟨h0,a,cap,hv,hcc,hc⟩:=h
 cases hv
 refine⟨h0,_,_,rfl,hcc,fun hn=>?_⟩
 obtain⟨off',e,h3⟩:=hc hn
 cases e
 refine⟨off,rfl,fun i hi=>?_⟩
 have hs:=h3 i hi
 have hd:PtrsOwn (w.setCell ⟨bs,off+j*6+1,none⟩ (.int .i64 x)) (kb i) (kv i) (f i).dn (f i).ds (f i).db:=hs.dead.turned (Turned.put w bs _ _) (fun h0=>hs.apart h0)
 by_cases e:i=j
 ·subst e
  have e1:Go.Proofs.YtmgeglgboadfiaaGreatDoor.orgTo f i x i = {f i with origin:=x}:=if_pos rfl
  rw [e1]
  exact⟨hs.c0.other _ (Or.inr (by omega)),hs.c1.set _,hs.c2.other _ (Or.inr (by omega)),hs.c3.other _ (Or.inr (by omega)),hs.c4.other _ (Or.inr (by omega)),hs.c5.other _ (Or.inr (by omega)),hd,hs.small,hs.apart⟩
 ·have e1:Go.Proofs.YtmgeglgboadfiaaGreatDoor.orgTo f j x i=f i:=if_neg e
  rw [e1]
  exact⟨hs.c0.other _ (Or.inr (by omega)),hs.c1.other _ (Or.inr (by omega)),hs.c2.other _ (Or.inr (by omega)),hs.c3.other _ (Or.inr (by omega)),hs.c4.other _ (Or.inr (by omega)),hs.c5.other _ (Or.inr (by omega)),hd,hs.small,hs.apart⟩
def Comes(l:List SnapD)(x:Int):Prop:=∃i,i<l.length∧(l.getD i zeroSnap).id=x
open Classical in
noncomputable def promSn(W:WorldD)(name:ByteArray)(l:List SnapD)(m:Nat):Nat→SnapD:=fun j=>if j<m∧Comes l (W.snaps j).id then {W.snaps j with set:=name}else W.snaps j
theorem promSn_zero(W:WorldD)(name:ByteArray)(l:List SnapD):promSn W name l 0=W.snaps:=by
 funext j
 unfold promSn
 rw [if_neg (fun h=>absurd h.1 (Nat.not_lt_zero _))]
theorem promSn_at(W:WorldD)(name:ByteArray)(l:List SnapD){m j:Nat}(h:m≤j):promSn W name l m j=W.snaps j:=by
 unfold promSn
 rw [if_neg (fun h'=>by have:=h'.1; omega)]
theorem promSn_yes{W:WorldD}(name:ByteArray){l:List SnapD}{m:Nat}(h:Comes l (W.snaps m).id):promSn W name l (m+1)=setTo (promSn W name l m) m name:=by
 funext j
 unfold setTo
 by_cases e:j=m
 ·rw [if_pos e,promSn_at W name l (Nat.le_refl m),e]
  unfold promSn
  rw [if_pos ⟨Nat.lt_succ_self m,h⟩]
 ·rw [if_neg e]
  unfold promSn
  by_cases hq:j<m∧Comes l (W.snaps j).id
  ·rw [if_pos hq,if_pos ⟨by have:=hq.1; omega,hq.2⟩]
  ·rw [if_neg hq,if_neg (fun h'=>hq ⟨by have:=h'.1; omega,h'.2⟩)]
theorem promSn_no{W:WorldD}(name:ByteArray){l:List SnapD}{m:Nat}(h:¬Comes l (W.snaps m).id):promSn W name l (m+1)=promSn W name l m:=by
 funext j
 unfold promSn
 by_cases e:j=m
 ·rw [if_neg (fun h'=>h (e▸h'.2)),if_neg (fun h'=>h (e▸h'.2))]
 ·by_cases hq:j<m∧Comes l (W.snaps j).id
  ·rw [if_pos hq,if_pos ⟨by have:=hq.1; omega,hq.2⟩]
  ·rw [if_neg hq,if_neg (fun h'=>hq ⟨by have:=h'.1; omega,h'.2⟩)]
noncomputable def promW(W:WorldD)(name:ByteArray)(k k2:Nat)(l:List SnapD):WorldD:={W with sets:=orgTo (orgTo W.sets k (W.sets k2).origin) k2 (l.getD 0 zeroSnap).id,snaps:=promSn W name l W.pn}
theorem setNo_has{W:WorldD}{x:ByteArray}(h:HasSet W x):∃k,SetNo W x k:=by
 obtain⟨k,hk,hn⟩:=h
 induction k using Nat.strongRecOn with
 | _ k ih=>
  by_cases e:∃j,j<k∧(W.sets j).name=x
  ·obtain⟨j,hj,hx⟩:=e
   exact ih j hj (by omega) hx
  ·exact⟨k,hk,hn,fun j hj hx=>e ⟨j,hj,hx⟩⟩
theorem RefI.all{W:WorldD}{a b:Prop}{m:Nat}{Q:Nat→Prop}{ei:Nat→Nat}(h:RefI W a b m Q ei none):∀j,j<m→Q j:=by
 rcases h with⟨_,e⟩ | ⟨_,_,e⟩ | ⟨_,_,_,k,hk,_,_,e⟩ | ⟨_,_,_,h4,_⟩
 ·cases e
 ·cases e
 ·cases e
 ·exact h4
theorem RefI.uniq{W:WorldD}{a b:Prop}{m:Nat}{Q:Nat→Prop}{ei:Nat→Nat}{r r':Option Nat}(h:RefI W a b m Q ei r)(h':RefI W a b m Q ei r'):r=r':=by
 rcases h with⟨h1,e⟩ | ⟨h1,h2,e⟩ | ⟨h1,h2,h3,i,hi,hn,hl,e⟩ | ⟨h1,h2,h3,h4,e⟩
 ·rcases h' with⟨g1,e'⟩ | ⟨g1,g2,e'⟩ | ⟨g1,g2,g3,j,hj,gn,gl,e'⟩ | ⟨g1,g2,g3,g4,e'⟩
  ·rw [e,e']
  ·exact absurd h1 g1
  ·exact absurd h1 g1
  ·exact absurd h1 g1
 ·rcases h' with⟨g1,e'⟩ | ⟨g1,g2,e'⟩ | ⟨g1,g2,g3,j,hj,gn,gl,e'⟩ | ⟨g1,g2,g3,g4,e'⟩
  ·exact absurd g1 h1
  ·rw [e,e']
  ·rcases h2 with h | h
   ·exact absurd g2 h
   ·exact absurd h g3
  ·rcases h2 with h | h
   ·exact absurd g2 h
   ·exact absurd h g3
 ·rcases h' with⟨g1,e'⟩ | ⟨g1,g2,e'⟩ | ⟨g1,g2,g3,j,hj,gn,gl,e'⟩ | ⟨g1,g2,g3,g4,e'⟩
  ·exact absurd g1 h1
  ·rcases g2 with h | h
   ·exact absurd h2 h
   ·exact absurd h h3
  ·rcases Nat.lt_trichotomy i j with h | h | h
   ·exact absurd (gl i h) hn
   ·rw [e,e',h]
   ·exact absurd (hl j h) gn
  ·exact absurd (g4 i hi) hn
 ·rcases h' with⟨g1,e'⟩ | ⟨g1,g2,e'⟩ | ⟨g1,g2,g3,j,hj,gn,gl,e'⟩ | ⟨g1,g2,g3,g4,e'⟩
  ·exact absurd g1 h1
  ·rcases g2 with h | h
   ·exact absurd h2 h
   ·exact absurd h h3
  ·exact absurd (h4 j hj) gn
  ·rw [e,e']
theorem RefI.impl{W:WorldD}{a b:Prop}{m:Nat}{Q:Nat→Prop}{ei:Nat→Nat}(h:RefI W a b m Q ei none):ImplW W:=by
 rcases h with⟨_,e⟩ | ⟨_,_,e⟩ | ⟨_,_,_,k,hk,_,_,e⟩ | ⟨_,h2,_,h4,_⟩
 ·cases e
 ·cases e
 ·cases e
 ·exact h2
theorem long1{a:ByteArray}:(∃i,i<1∧8000<((fun (_:Nat)=>a) i).size)↔8000<a.size:=⟨fun ⟨_,_,h⟩=>h,fun h=>⟨0,by omega,h⟩⟩
noncomputable def promL(W:WorldD)(name:ByteArray):List SnapD:=comeL W (aheadOf W (setAt W name).origin).set (setAt W name).origin
theorem org_has{W:WorldD}(h:SpecNames W){name:ByteArray}(h0:(setAt W name).origin≠0):HasId W (setAt W name).origin:=by
 by_cases hx:∃k,SetNo W name k
 ·obtain⟨k,hk⟩:=hx
  rw [setAt_at hk] at h0 ⊢
  exact(h.2.2.2.2.1 k hk.1).2.2.2 h0
 ·have e:setAt W name=zeroSetD:=by unfold setAt; rw [dif_neg hx]
  rw [e] at h0
  exact absurd rfl h0
theorem org_wf{W:WorldD}(h:ImplW W)(name:ByteArray):(Lit.int .i64 (setAt W name).origin).wf=true:=by
 by_cases h0:(setAt W name).origin=0
 ·rw [h0]; rfl
 ·obtain⟨k,hk,e⟩:=org_has ((world_iff W).1 h).names h0
  rw [←e]
  exact h.names.idsWf k hk
theorem id_pos{W:WorldD}(h:SpecNames W){k:Nat}(hk:k<W.pn):(W.snaps k).id≠0:=by
 have:=((h.2.2.2.2.2 k hk).1).1
 omega
theorem promL_first{W:WorldD}(h:ImplW W){name:ByteArray}(h0:(setAt W name).origin≠0):0<(promL W name).length∧(promL W name).getD 0 zeroSnap=aheadOf W (setAt W name).origin∧(aheadOf W (setAt W name).origin).id=(setAt W name).origin∧∃k2,SetNo W (aheadOf W (setAt W name).origin).set k2:=by
 have hS:=((world_iff W).1 h).names
 obtain⟨j,hj⟩:=(org_has hS h0).no
 have e:=aheadOf_at hj
 have hn:=comeL_next h.names (st:=(aheadOf W (setAt W name).origin).set) (x:=(setAt W name).origin) (by
  rintro(e1 | e1)
  ·rw [e] at e1
   exact id_pos hS hj.1 e1
  ·exact e1 rfl)
 refine⟨?_,?_,by rw [e]; exact hj.2.1,?_⟩
 ·unfold promL
  rw [hn]
  exact Nat.succ_pos _
 ·unfold promL
  rw [hn]
  rfl
 ·rw [e]
  exact setNo_has ((hS.2.2.2.2.2 j hj.1).1).2.2.2.2.2
theorem promL_other{W:WorldD}(h:ImplW W){name:ByteArray}(h0:(setAt W name).origin≠0)(hf:FreeL W name (promL W name)){k k2:Nat}(hk:SetNo W name k)(hk2:SetNo W (aheadOf W (setAt W name).origin).set k2):k≠k2:=fun e=>by
 subst e
 obtain⟨h1,h2,-,-⟩:=promL_first h h0
 obtain⟨j,hj⟩:=(org_has ((world_iff W).1 h).names h0).no
 refine hf 0 h1 j hj.1 ⟨?_,?_⟩
 ·have e2:=hk2.2.1
  rw [hk.2.1,aheadOf_at hj] at e2
  exact e2.symm
 ·rw [h2,aheadOf_at hj]
theorem promSn_snoc{W:WorldD}(h:IdsDist W)(name:ByteArray)(l:List SnapD){j:Nat}(hj:j<W.pn):promSn W name (l ++ [W.snaps j]) W.pn=setTo (promSn W name l W.pn) j name:=by
 have hc:∀x,Comes (l ++ [W.snaps j]) x↔Comes l x∨(W.snaps j).id=x:=fun x=>by
  constructor
  ·rintro⟨i,hi,e⟩
   rw [List.length_append,List.length_singleton] at hi
   by_cases h1:i<l.length
   ·refine Or.inl ⟨i,h1,?_⟩
    rw [List.getD_eq_getElem?_getD,List.getElem?_append_left h1,←List.getD_eq_getElem?_getD] at e
    exact e
   ·obtain rfl:i=l.length:=by omega
    rw [List.getD_eq_getElem?_getD,List.getElem?_append_right (Nat.le_refl _),Nat.sub_self] at e
    exact Or.inr e
  ·rintro(⟨i,hi,e⟩ | e)
   ·refine⟨i,by rw [List.length_append]; omega,?_⟩
    rw [List.getD_eq_getElem?_getD,List.getElem?_append_left hi,←List.getD_eq_getElem?_getD]
    exact e
   ·refine⟨l.length,by rw [List.length_append,List.length_singleton]; omega,?_⟩
    rw [List.getD_eq_getElem?_getD,List.getElem?_append_right (Nat.le_refl _),Nat.sub_self]
    exact e
 funext i
 unfold setTo
 by_cases e:i=j
 ·subst e
  rw [if_pos rfl]
  have hy:promSn W name (l ++ [W.snaps i]) W.pn i = {W.snaps i with set:=name}:=by
   unfold promSn
   rw [if_pos ⟨hj,(hc _).2 (Or.inr rfl)⟩]
  rw [hy]
  unfold promSn
  by_cases hq:i<W.pn∧Comes l (W.snaps i).id
  ·rw [if_pos hq]
  ·rw [if_neg hq]
 ·rw [if_neg e]
  unfold promSn
  by_cases hq:i<W.pn∧Comes l (W.snaps i).id
  ·rw [if_pos hq,if_pos ⟨hq.1,(hc _).2 (Or.inl hq.2)⟩]
  ·rw [if_neg hq,if_neg (fun h'=>hq ⟨h'.1,((hc _).1 h'.2).resolve_right (fun e2=>by
    rcases Nat.lt_or_gt_of_ne e with h1 | h1
    ·exact h j hj i h1 e2.symm
    ·exact h i h'.1 j h1 e2)⟩)]
theorem promSn_nil(W:WorldD)(name:ByteArray)(m:Nat):promSn W name [] m=W.snaps:=by
 funext j
 unfold promSn
 rw [if_neg (fun h=>by obtain⟨i,hi,-⟩:=h.2; exact absurd hi (Nat.not_lt_zero _))]
theorem not_not_P{a b:Int}(h:¬a≠b):a=b:=by omega
set_option maxRecDepth 20000 in
set_option maxHeartbeats 2000000 in
theorem clonedQ_any(v0 v1 v2 v3:Value)(lo hi:Nat)(W:WorldD)(B:Nat)(name:ByteArray)(w:World)(h:WorldAt w lo hi v0 v1 v2 v3 W)(hI:ImplN W)(hsz:name.size≤maxLen)(hc:w.cell? ⟨B,0,none⟩=some (.string name)) :
  Calls Tryz.prog 128 #[worldV v0 v1 v2 v3 W,.pointer (some ⟨B,0,none⟩)] w fun e w'=>BoolIs ((setAt W name).origin≠0) e∧Below w.heap.size w w':=by
 have Hp:=hideW h
 have HI:=hideW hI
 have Hz:=hideW hsz
 have h8:=hI.sets.1
 clear h hI hsz
 obtain⟨S1,hS1⟩:∃S1,S1=setAt W name:=⟨_,rfl⟩
 have HLK:=hideW (show ∀(w2 w':World) (vd:Nat→Value),SetsMap w' W (w2.heap.size+1) W.sn vd→SetDeads w2 lo hi W.sn W.sets vd→∃a c,(Instr.lookup 177 (.map (some (w2.heap.size+1))) (.string name) false).run Tryz.prog w' = .ok (setV (.slice a S1.dn c) S1) w' from fun w2 w' vd hm hd=>by
  obtain⟨a,c,hat,-⟩:=setNames_look HI.out.setsDist hd name
  rw [hS1]
  exact⟨a,c,sets_run hm Hz.out hat⟩)
 rw [←hS1]
 clear hS1
 have ha:=below_alloc w (.cells #[v0,v1,.int .i64 W.time,.int .i64 W.next,v2,v3] 37)
 have hc1:=(ha.cell (lt_of_cell hc)).trans hc
 have HB:=hideW (Box6.new w (v0) (v1) (.int .i64 W.time) (.int .i64 W.next) (v2) (v3) 37)
 have HCc:=hideW hc1
 obtain⟨⟨x0,-⟩,⟨x1,-⟩,⟨x2,-⟩,⟨x3,-⟩,⟨x4,-⟩,⟨x5,-⟩⟩:=HB.out
 go_enter Tryz.func128,Tryz.ntmps128
 go_wp2_with fail
 generalize w.alloc (.cells #[v0,v1,.int .i64 W.time,.int .i64 W.next,v2,v3] 37)=W0 at ha hc1 HB HCc x0 x1 x2 x3 x4 x5 ⊢
 clear hc
 by_cases hq:S1.origin≠0
 ·have HQ:=hideW hq
  have e0:(S1.origin != 0)=true:=by exact bne_iff_ne.2 hq
  clear hq
  go_region_held3 (fun w'=>w'.cell? ⟨w.heap.size,0,none⟩=some (v0)∧w'.cell? ⟨w.heap.size,1,none⟩=some (v1)∧w'.cell? ⟨w.heap.size,2,none⟩=some (.int .i64 W.time)∧w'.cell? ⟨w.heap.size,3,none⟩=some (.int .i64 W.next)∧w'.cell? ⟨w.heap.size,4,none⟩=some (v2)∧w'.cell? ⟨w.heap.size,5,none⟩=some (v3)∧w'.cell? ⟨B,0,none⟩=some (.string name)) (go_keep)
   (first
    | (go_at_call 129; refine(setsByName_any v0 v1 v2 v3 lo hi W _ ((Hp.out.below ha).below (Below.refl _ _).drew) h8).mono ?_; rintro e w3 ⟨vd,rfl,hm,hd,hb3⟩; have hb3':=below_undrew hb3; obtain⟨a3,c3,hlk⟩:=HLK.out W0 _ _ hm hd; have hfp:=fun w=>fieldOrigin (.slice a3 S1.dn c3) S1 w; obtain⟨⟨z0,-⟩,⟨z1,-⟩,⟨z2,-⟩,⟨z3,-⟩,⟨z4,-⟩,⟨z5,-⟩⟩:=HB.out.below hb3'; have hc3:=(hb3'.cell (lt_of_cell HCc.out)).trans HCc.out; clear hm hd))
  go_wp2
  go_ret
  exact⟨BoolIs.yes HQ.out,below_next ha hb3'⟩
 ·have HQ:=hideW hq
  have e0:(S1.origin != 0)=false:=by rw [not_not_P hq]; rfl
  clear hq
  go_region_held3 (fun w'=>w'.cell? ⟨w.heap.size,0,none⟩=some (v0)∧w'.cell? ⟨w.heap.size,1,none⟩=some (v1)∧w'.cell? ⟨w.heap.size,2,none⟩=some (.int .i64 W.time)∧w'.cell? ⟨w.heap.size,3,none⟩=some (.int .i64 W.next)∧w'.cell? ⟨w.heap.size,4,none⟩=some (v2)∧w'.cell? ⟨w.heap.size,5,none⟩=some (v3)∧w'.cell? ⟨B,0,none⟩=some (.string name)) (go_keep)
   (first
    | (go_at_call 129; refine(setsByName_any v0 v1 v2 v3 lo hi W _ ((Hp.out.below ha).below (Below.refl _ _).drew) h8).mono ?_; rintro e w3 ⟨vd,rfl,hm,hd,hb3⟩; have hb3':=below_undrew hb3; obtain⟨a3,c3,hlk⟩:=HLK.out W0 _ _ hm hd; have hfp:=fun w=>fieldOrigin (.slice a3 S1.dn c3) S1 w; obtain⟨⟨z0,-⟩,⟨z1,-⟩,⟨z2,-⟩,⟨z3,-⟩,⟨z4,-⟩,⟨z5,-⟩⟩:=HB.out.below hb3'; have hc3:=(hb3'.cell (lt_of_cell HCc.out)).trans HCc.out; clear hm hd))
  go_wp2
  go_ret
  exact⟨BoolIs.no HQ.out,below_next ha hb3'⟩
set_option maxRecDepth 20000 in
set_option maxHeartbeats 2000000 in
theorem cloned_any(p:Nat→Addr)(s0:ByteArray)(w:World)(hE:Errs w p) :
  Calls Tryz.prog 60 #[.string s0] w fun e w'=>∃B0:Nat,e = .returned (.agg #[.func (.func 128) #[] #[.pointer (some ⟨B0,0,none⟩)],errV (p 5)])∧w'.cell? ⟨B0,0,none⟩=some (.string s0)∧Below w.heap.size w w':=by
 have hk0:=below_alloc w (.cells #[.string s0] 9)
 have hk1:=below_alloc (w.alloc (.cells #[.string s0] 9)) (.cells #[.nilFunc,.nilIface] 75)
 have hb:=below_next (hk0) hk1
 have c0:(w.alloc (.cells #[.string s0] 9)).cell? ⟨w.heap.size,0,none⟩=some (.string s0):=World.cell?_alloc_at _ _ _ _ rfl
 have hg:((w.alloc (.cells #[.string s0] 9)).alloc (.cells #[.nilFunc,.nilIface] 75)).cell? ⟨1,0,none⟩=some (errV (p 5)):=(hE.below hb).cell 5 (by omega)
 have hkf:=below_alloc (w.alloc (.cells #[.string s0] 9)) (.cells #[.func (.func 128) #[] #[.pointer (some ⟨w.heap.size,0,none⟩)],errV (p 5)] 75)
 have hbf:=below_next (hk0) hkf
 have Hc0:=hideW ((hkf.cell (lt_of_cell c0)).trans c0)
 clear c0
 go_enter Tryz.func60,Tryz.ntmps60
 have hst:=fun (ww:World) (a:Addr)=>run_store Tryz.prog ww a (.func (.func 128) #[] #[.pointer (some ⟨w.heap.size,0,none⟩)]) .plain rfl
 go_wp2_with fail
 have HRf:=Box2.new (w.alloc (.cells #[.string s0] 9)) (.func (.func 128) #[] #[.pointer (some ⟨w.heap.size,0,none⟩)]) (errV (p 5)) 75
 rw [World.size_alloc] at HRf
 refine bodyPost_ret (v:=.agg #[.func (.func 128) #[] #[.pointer (some ⟨w.heap.size,0,none⟩)],errV (p 5)]) (by simp [results,Tryz.results60,go_sem,HRf.1.1,HRf.2.1]) rfl ⟨_,rfl,Hc0.out,hbf⟩
set_option maxRecDepth 20000 in
set_option maxHeartbeats 400000 in
theorem implPromote_of(p:Nat→Addr)(v0 v1 v2 v3:Value)(lo hi:Nat)(W:WorldD)(name:ByteArray)(o:WOutD)(w:World)(hE:Errs w p)(h:WorldAt w lo hi v0 v1 v2 v3 W)(hwf:PrevsWf W)(b1:poolN W.pool≤1048576)(b2:W.sn≤1048576)(b3:W.pn≤1048576)(b4:DeadsN W)(hname:name.size≤maxLen)(hhi:hi≤w.heap.size)
  (hdo:∀B0 C w' z0 z1 z2 z3,w'.cell? ⟨B0,0,none⟩=some (.string name)→B0<C→ImplW W→¬(∃i,i<1∧8000<((fun (_:Nat)=>name) i).size)→¬(∃i,i<0∧¬NameP ((fun _=>⟨#[]⟩) i))→(∀j,j<3→(fun i=>match i with | 0=>HasSet W name | 1=>(setAt W name).origin≠0 | _=>FreeL W name (promL W name)) j)→C<w'.heap.size→Below w.heap.size w w'→WorldOwnR w' (C+1) w'.heap.size z0 z1 z2 z3 W→Box9 w' C z0 z1 (.int .i64 W.time) (.int .i64 W.next) z2 z3 (.int .i64 0) (.int .i64 0) .nilIface→Calls Tryz.prog 62 #[.pointer (some ⟨C,0,none⟩),.pointer (some ⟨B0,0,none⟩)] w' (DoneI p o C w')) :
  Calls Tryz.prog 21 #[worldV v0 v1 v2 v3 W,.string name] w fun e w'=>∃r,RefI W (∃i,i<1∧8000<((fun (_:Nat)=>name) i).size) (∃i,i<0∧¬NameP ((fun _=>⟨#[]⟩) i)) 3 (fun i=>match i with | 0=>HasSet W name | 1=>(setAt W name).origin≠0 | _=>FreeL W name (promL W name)) (fun i=>match i with | 0=>2 | 1=>5 | _=>3) r∧NewWOut (outW r o) w e w':=by
 have Hp:=hideE h
 have HE:=hideE hE
 have HDo:=hideE hdo
 have Hwf:=hideE hwf
 have Hsz_name:=hideE hname
 clear h hE hdo hwf
 have ha0:=below_alloc w (.cells #[v0,v1,.int .i64 W.time,.int .i64 W.next,v2,v3] 37)
 have ha1:=below_alloc (w.alloc (.cells #[v0,v1,.int .i64 W.time,.int .i64 W.next,v2,v3] 37)) (.cells #[.string name] 9)
 have ha2:=below_alloc ((w.alloc (.cells #[v0,v1,.int .i64 W.time,.int .i64 W.next,v2,v3] 37)).alloc (.cells #[.string name] 9)) (.cells #[.slice none 0 0,.slice none 0 0,.int .i64 0,.int .i64 0,.slice none 0 0,.slice none 0 0,.int .i64 0,.int .i64 0,.int .i64 0] 39)
 have hb:=below_next (below_next (ha0) ha1) ha2
 have HX:=hideE (((Box6.new w (v0) (v1) (.int .i64 W.time) (.int .i64 W.next) (v2) (v3) 37).below ha1).below ha2)
 have c0:((w.alloc (.cells #[v0,v1,.int .i64 W.time,.int .i64 W.next,v2,v3] 37)).alloc (.cells #[.string name] 9)).cell? ⟨(w.alloc (.cells #[v0,v1,.int .i64 W.time,.int .i64 W.next,v2,v3] 37)).heap.size,0,none⟩=some (.string name):=World.cell?_alloc_at _ _ _ _ rfl
 rw [World.size_alloc] at c0
 replace c0:=(ha2.cell (lt_of_cell c0)).trans c0
 have HC0:=hideE c0
 clear c0
 have hr:=Box9.new ((w.alloc (.cells #[v0,v1,.int .i64 W.time,.int .i64 W.next,v2,v3] 37)).alloc (.cells #[.string name] 9)) (.slice none 0 0) (.slice none 0 0) (.int .i64 0) (.int .i64 0) (.slice none 0 0) (.slice none 0 0) (.int .i64 0) (.int .i64 0) (.int .i64 0) 39
 rw [World.size_alloc,World.size_alloc] at hr
 have HR:=hideE hr
 clear hr
 have hz:(((w.alloc (.cells #[v0,v1,.int .i64 W.time,.int .i64 W.next,v2,v3] 37)).alloc (.cells #[.string name] 9)).alloc (.cells #[.slice none 0 0,.slice none 0 0,.int .i64 0,.int .i64 0,.slice none 0 0,.slice none 0 0,.int .i64 0,.int .i64 0,.int .i64 0] 39)).heap.size=w.heap.size+3:=by rw [World.size_alloc,World.size_alloc,World.size_alloc]
 go_enter Tryz.func21,Tryz.ntmps21
 go_upto_region 1 with fail
 generalize (((w.alloc (.cells #[v0,v1,.int .i64 W.time,.int .i64 W.next,v2,v3] 37)).alloc (.cells #[.string name] 9)).alloc (.cells #[.slice none 0 0,.slice none 0 0,.int .i64 0,.int .i64 0,.slice none 0 0,.slice none 0 0,.int .i64 0,.int .i64 0,.int .i64 0] 39))=W1 at hb HX HR hz HC0 ⊢
 clear ha0 ha1 ha2
 obtain⟨⟨x0,-⟩,⟨x1,-⟩,⟨x2,-⟩,⟨x3,-⟩,⟨x4,-⟩,⟨x5,-⟩⟩:=HX.out
 have k0:=HC0.out
 have Hkeep:=hideE (show ∀w',Below (w.heap.size+1+1) W1 w'→(fun w'=>w'.cell? ⟨w.heap.size,0,none⟩=some (v0)∧w'.cell? ⟨w.heap.size,1,none⟩=some (v1)∧w'.cell? ⟨w.heap.size,2,none⟩=some (.int .i64 W.time)∧w'.cell? ⟨w.heap.size,3,none⟩=some (.int .i64 W.next)∧w'.cell? ⟨w.heap.size,4,none⟩=some (v2)∧w'.cell? ⟨w.heap.size,5,none⟩=some (v3)∧w'.cell? ⟨w.heap.size+1,0,none⟩=some (.string name)∧Below (w.heap.size+1+1) W1 w') w' from fun w' hbw=>⟨(hbw.cell (p:=⟨w.heap.size,0,none⟩) (by show w.heap.size<_; omega)).trans x0,(hbw.cell (p:=⟨w.heap.size,1,none⟩) (by show w.heap.size<_; omega)).trans x1,(hbw.cell (p:=⟨w.heap.size,2,none⟩) (by show w.heap.size<_; omega)).trans x2,(hbw.cell (p:=⟨w.heap.size,3,none⟩) (by show w.heap.size<_; omega)).trans x3,(hbw.cell (p:=⟨w.heap.size,4,none⟩) (by show w.heap.size<_; omega)).trans x4,(hbw.cell (p:=⟨w.heap.size,5,none⟩) (by show w.heap.size<_; omega)).trans x5,(hbw.cell (p:=⟨w.heap.size+1,0,none⟩) (by show w.heap.size+1<_; omega)).trans k0,hbw⟩)
 have hRz:w.heap.size+1+1≤W1.heap.size:=by omega
 clear x0 x1 x2 x3 x4 x5 k0
 refine wp_region_held_drew (S:=(fun w'=>w'.cell? ⟨w.heap.size,0,none⟩=some (v0)∧w'.cell? ⟨w.heap.size,1,none⟩=some (v1)∧w'.cell? ⟨w.heap.size,2,none⟩=some (.int .i64 W.time)∧w'.cell? ⟨w.heap.size,3,none⟩=some (.int .i64 W.next)∧w'.cell? ⟨w.heap.size,4,none⟩=some (v2)∧w'.cell? ⟨w.heap.size,5,none⟩=some (v3)∧w'.cell? ⟨w.heap.size+1,0,none⟩=some (.string name)∧Below (w.heap.size+1+1) W1 w')) (by kernel_rfl) (Hkeep.out _ ((Below.refl _ _).drew.mono hRz)) (fun hHeld=>?_)
 have hG0:Below W1.heap.size W1 W1.drew:=(Below.refl _ _).drew
 refine tk 0 (h:=?_)
 refine tk 2 (h:=?_)
 refine tk 4 (h:=?_)
 refine tk 6 (h:=?_)
 refine tk 9 (h:=?_)
 refine tk 11 (h:=?_)
 refine mono_here [1,3,5,7,8] (fun i=>if i=8 then [3,5,7] else []) (fun i=>i+5) (fun i v w'=>(i=1→TextsAt w' v 1 (fun (_:Nat)=>name))∧(i=3→QAt w' p 91 2 [.string name] v)∧(i=5→QAt w' p 128 5 [.string name] v)∧(i=7→QAt w' p 130 3 [.string name] v)∧(i=8→AskedQ w' p 3 (fun i=>match i with | 0=>91 | 1=>128 | _=>130) (fun i=>match i with | 0=>2 | 1=>5 | _=>3) (fun i=>match i with | 0=>[.string name] | 1=>[.string name] | _=>[.string name]) v)) 3 (G:=fun w'=>Below W1.heap.size W1 w') (by kernel_rfl) (by decide) (by decide) (by decide) ?_ (fun _ _ h t=>below_next h t) (by assumption) hG0 ?_ ?_
 ·intro i v w' w'' hf t
  exact⟨fun e=>(hf.1 e).below t,fun e=>(hf.2.1 e).below t,fun e=>(hf.2.2.1 e).below t,fun e=>(hf.2.2.2.1 e).below t,fun e=>(hf.2.2.2.2 e).below t⟩
 ·intro i hi x w2 hS hG hD K hK
  simp only [List.mem_cons,List.not_mem_nil,or_false] at hi
  rcases hi with rfl | rfl | rfl | rfl | rfl
  ·refine wpOp_step (nthO_get rfl) (fun K' hK'=>?_)
   simp only [putsA,Act.put,Nat.reduceAdd,s1,s2,s3]
   have hal:=below_alloc w2 (.cells #[.string name] 9)
   go_simp
   refine hK' _ _ (hK.out _ _ _ ?_ (Hkeep.out _ ((below_next hG hal).mono hRz)) ⟨fun _=>texts_one Hsz_name.out rfl,fun e=>absurd e (by decide),fun e=>absurd e (by decide),fun e=>absurd e (by decide),fun e=>absurd e (by decide)⟩ hal)
   simp only [putsA,Act.put,Nat.reduceAdd,s1,s2,s3]
  ·refine wpOp_step (nthO_get rfl) (fun K' hK'=>?_)
   simp only [putsA,Act.put,Nat.reduceAdd,s1,s2,s3]
   go_simp
   go_at_call 33
   refine(setThere_any p name w2 (HE.out.below (below_next hb hG))).mono ?_
   rintro e w3 ⟨B0,rfl,hc0,hb3⟩
   refine hK' _ _ (hK.out _ _ w3 ?_ (Hkeep.out _ ((below_next hG hb3).mono hRz)) ⟨fun e=>absurd e (by decide),fun _=>⟨_,rfl,CapsAt.one hc0⟩,fun e=>absurd e (by decide),fun e=>absurd e (by decide),fun e=>absurd e (by decide)⟩ hb3)
   simp only [putsA,Act.put,Nat.reduceAdd,s1,s2,s3]
  ·refine wpOp_step (nthO_get rfl) (fun K' hK'=>?_)
   simp only [putsA,Act.put,Nat.reduceAdd,s1,s2,s3]
   go_simp
   go_at_call 60
   refine(cloned_any p name w2 (HE.out.below (below_next hb hG))).mono ?_
   rintro e w3 ⟨B0,rfl,hc0,hb3⟩
   refine hK' _ _ (hK.out _ _ w3 ?_ (Hkeep.out _ ((below_next hG hb3).mono hRz)) ⟨fun e=>absurd e (by decide),fun e=>absurd e (by decide),fun _=>⟨_,rfl,CapsAt.one hc0⟩,fun e=>absurd e (by decide),fun e=>absurd e (by decide)⟩ hb3)
   simp only [putsA,Act.put,Nat.reduceAdd,s1,s2,s3]
  ·refine wpOp_step (nthO_get rfl) (fun K' hK'=>?_)
   simp only [putsA,Act.put,Nat.reduceAdd,s1,s2,s3]
   go_simp
   go_at_call 61
   refine(namesNotThere_any p name w2 (HE.out.below (below_next hb hG))).mono ?_
   rintro e w3 ⟨B0,rfl,hc0,hb3⟩
   refine hK' _ _ (hK.out _ _ w3 ?_ (Hkeep.out _ ((below_next hG hb3).mono hRz)) ⟨fun e=>absurd e (by decide),fun e=>absurd e (by decide),fun e=>absurd e (by decide),fun _=>⟨_,rfl,CapsAt.one hc0⟩,fun e=>absurd e (by decide)⟩ hb3)
   simp only [putsA,Act.put,Nat.reduceAdd,s1,s2,s3]
  ·refine wpOp_step (nthO_get rfl) (fun K' hK'=>?_)
   simp only [putsA,Act.put,Nat.reduceAdd,s1,s2,s3]
   obtain⟨lb0,e0,hcap0⟩:=(hD 3 (by decide)).2.1 rfl
   obtain⟨lb1,e1,hcap1⟩:=(hD 5 (by decide)).2.2.1 rfl
   obtain⟨lb2,e2,hcap2⟩:=(hD 7 (by decide)).2.2.2.1 rfl
   simp only [e0,e1,e2]
   have hal:=below_alloc w2 (.cells #[.func (.func 91) #[] lb0,errV (p 2),.func (.func 128) #[] lb1,errV (p 5),.func (.func 130) #[] lb2,errV (p 3)] 75)
   have hA:AskedQ (w2.alloc (.cells #[.func (.func 91) #[] lb0,errV (p 2),.func (.func 128) #[] lb1,errV (p 5),.func (.func 130) #[] lb2,errV (p 3)] 75)) p 3 (fun i=>match i with | 0=>91 | 1=>128 | _=>130) (fun i=>match i with | 0=>2 | 1=>5 | _=>3) (fun i=>match i with | 0=>[.string name] | 1=>[.string name] | _=>[.string name]) (.slice (some ⟨w2.heap.size,0,none⟩) 3 3):=asked3 (g:=(fun i=>match i with | 0=>91 | 1=>128 | _=>130)) (ei:=(fun i=>match i with | 0=>2 | 1=>5 | _=>3)) (caps:=(fun i=>match i with | 0=>[.string name] | 1=>[.string name] | _=>[.string name])) hcap0 hcap1 hcap2
   go_simp
   refine hK' _ _ (hK.out _ _ _ ?_ (Hkeep.out _ ((below_next hG hal).mono hRz)) ⟨fun e=>absurd e (by decide),fun e=>absurd e (by decide),fun e=>absurd e (by decide),fun e=>absurd e (by decide),fun _=>hA⟩ hal)
   simp only [putsA,Act.put,Nat.reduceAdd,s1,s2,s3,e0,e1,e2]
 ·intro x w2 hS hG hF
  have hT:=(hF 1 (by decide)).1 rfl
  obtain⟨-,ta,tc,et,-,-⟩:=id hT
  have hN:TextsAt w2 (.slice none 0 0) 0 (fun _=>⟨#[]⟩):=⟨by omega,_,_,rfl,fun i hi=>absurd hi (Nat.not_lt_zero _),fun h=>absurd h (Nat.lt_irrefl _)⟩
  obtain⟨lb,hA,hcap⟩:=(hF 8 (by decide)).2.2.2.2 rfl
  obtain⟨-,qa,qc,eq,-⟩:=id hA
  simp only [putsA,listS,if_true,Act.put,Nat.reduceAdd,s1,s2,s3,et,eq]
  rw [et] at hT
  rw [eq] at hA
  have hbw:=below_next hb hG
  have HTx:=hideE hT
  have HNx:=hideE hN
  have HAx:=hideE hA
  have Hcap:=hideE hcap
  clear hT hN hA hcap hF
  refine tk 10 (h:=?_)
  refine rd [12] (rc (fun K hK=>?_) .nil)
  go_simp
  go_at_call 38
  refine(on_any p _ _ _ 62 #[.pointer (some ⟨w.heap.size+1,0,none⟩)] 1 0 3 (fun (_:Nat)=>name) (fun _=>⟨#[]⟩) (fun i=>match i with | 0=>91 | 1=>128 | _=>130) lb (fun i=>match i with | 0=>2 | 1=>5 | _=>3) (fun i=>match i with | 0=>HasSet W name | 1=>(setAt W name).origin≠0 | _=>FreeL W name (promL W name)) o _ _ _ _ lo hi W w2 (HE.out.below hbw) (Hp.out.below hbw) Hwf.out b1 b2 b3 b4 HTx.out HNx.out HAx.out ?_ ?_ (enters_of Tryz.func62 (by kernel_rfl) rfl) ?_ ?_).mono ?_
  ·intro i hi
   rcases(by omega:i=0∨i=1∨i=2)with rfl | rfl | rfl
   all_goals decide
  ·intro i hi
   rcases(by omega:i=0∨i=1∨i=2)with rfl | rfl | rfl
   ·exact enters_of Tryz.func91 (by kernel_rfl) rfl
   ·exact enters_of Tryz.func128 (by kernel_rfl) rfl
   ·exact enters_of Tryz.func130 (by kernel_rfl) rfl
  ·intro i hi' w' hbq hI hQp
   have hW:=(Hp.out.below hbw).below hbq
   have h8:=hI.names.sets.1
   have h20:=hI.names.snaps.1
   rcases(by omega:i=0∨i=1∨i=2)with rfl | rfl | rfl
   ·obtain⟨B0,elb,hc0⟩:=(Hcap.out 0 (by decide)).is1
    replace hc0:=(hbq.cell (lt_of_cell hc0)).trans hc0
    rw [elb]
    exact setThereQ_any v0 v1 v2 v3 lo hi W B0 name w' hW h8 hname hc0
   ·obtain⟨B0,elb,hc0⟩:=(Hcap.out 1 (by decide)).is1
    replace hc0:=(hbq.cell (lt_of_cell hc0)).trans hc0
    rw [elb]
    exact clonedQ_any v0 v1 v2 v3 lo hi W B0 name w' hW hI.names hname hc0
   ·obtain⟨B0,elb,hc0⟩:=(Hcap.out 2 (by decide)).is1
    replace hc0:=(hbq.cell (lt_of_cell hc0)).trans hc0
    rw [elb]
    exact namesNotThereQ_any v0 v1 v2 v3 lo hi W B0 name w' (promL W name) hW (by have:=hbw.size; have:=hbq.size; omega) hI.names Hwf.out (org_wf hI name) hname rfl hc0
  ·intro C w' z0 z1 z2 z3 hC hbq hCz hI hl hbd hq hown hbox
   exact HDo.out (w.heap.size+1) C w' z0 z1 z2 z3 ((hbq.cell (lt_of_cell hS.2.2.2.2.2.2.1)).trans hS.2.2.2.2.2.2.1) (by have:=hG.size; omega) hI hl hbd hq hCz (below_next hbw hbq) hown hbox
  rintro e w3 ⟨r,href,z0,z1,z2,z3,rfl,hown,hb3⟩
  obtain⟨n0,nc0,n1,nc1,n2,nc2,n3,nc3,rfl,rfl,rfl,rfl⟩:=hown.form
  have hb4:=below_next hG hb3
  have HR3:=hideE (HR.out.below hb4)
  have Hown:=hideE hown
  have Href:=hideE href
  clear hown href
  generalize hoo:outW r o=oo at Hown ⊢
  have Hoo:=hideE hoo
  clear hoo
  (try go_wp2_with fail)
  refine hK.out _ _ (Hkeep.out _ (hb4.mono hRz)) ?_
  clear hK K hHeld
  intro hHeld
  try simp only [Act.put,s1,s2,s3]
  refine rd [13] (rc (fun K hK=>?_) .nil)
  obtain⟨⟨r0,g0⟩,⟨r1,g1⟩,⟨r2,g2⟩,⟨r3,g3⟩,⟨r4,g4⟩,⟨r5,g5⟩,⟨r6,g6⟩,⟨r7,g7⟩,⟨r8,g8⟩⟩:=HR3.out
  go_simp
  (try go_wp2_with fail)
  have hT:=Turned.put9 w3 (w.heap.size+1+1) (.slice n0 oo.world.pool.n nc0) (.slice n1 oo.world.pool.hn nc1) (.int .i64 oo.world.time) (.int .i64 oo.world.next) (.slice n2 oo.world.sn nc2) (.slice n3 oo.world.pn nc3) (.int .i64 oo.id) (.int .i64 oo.many) (.int .i64 oo.code)
  have hb5:Below (w.heap.size+1+1) W1 (((((((((w3.setCell ⟨w.heap.size+1+1,0,none⟩ (.slice n0 oo.world.pool.n nc0)).setCell ⟨w.heap.size+1+1,1,none⟩ (.slice n1 oo.world.pool.hn nc1)).setCell ⟨w.heap.size+1+1,2,none⟩ (.int .i64 oo.world.time)).setCell ⟨w.heap.size+1+1,3,none⟩ (.int .i64 oo.world.next)).setCell ⟨w.heap.size+1+1,4,none⟩ (.slice n2 oo.world.sn nc2)).setCell ⟨w.heap.size+1+1,5,none⟩ (.slice n3 oo.world.pn nc3)).setCell ⟨w.heap.size+1+1,6,none⟩ (.int .i64 oo.id)).setCell ⟨w.heap.size+1+1,7,none⟩ (.int .i64 oo.many)).setCell ⟨w.heap.size+1+1,8,none⟩ (.int .i64 oo.code)):=(hb4.mono hRz).trans (hT.below (B:=w.heap.size+1+1) (by have:=hb4.size; omega) (fun k e=>by omega))
  refine hK.out _ _ (Hkeep.out _ hb5) ?_
  clear hK K hHeld r0 r1 r2 r3 r4 r5 r6 r7 r8 g0 g1 g2 g3 g4 g5 g6 g7 g8
  intro hHeld
  try simp only [Act.put,s1,s2,s3]
  refine wpAnyH_done (by kernel_rfl) ?_ _
  go_wp2_with fail
  have HRz:=HR3.out.put (.slice n0 oo.world.pool.n nc0) (.slice n1 oo.world.pool.hn nc1) (.int .i64 oo.world.time) (.int .i64 oo.world.next) (.slice n2 oo.world.sn nc2) (.slice n3 oo.world.pn nc3) (.int .i64 oo.id) (.int .i64 oo.many) (.int .i64 oo.code)
  have hbz:=below_next hb hb4
  have hsz:=hT.size
  have hz4:=hb4.size
  refine bodyPost_ret (v:=.agg #[.slice n0 oo.world.pool.n nc0,.slice n1 oo.world.pool.hn nc1,.int .i64 oo.world.time,.int .i64 oo.world.next,.slice n2 oo.world.sn nc2,.slice n3 oo.world.pn nc3,.int .i64 oo.id,.int .i64 oo.many,.int .i64 oo.code]) (by simp [results,Tryz.results21,go_sem,HRz.1.1,HRz.2.1.1,HRz.2.2.1.1,HRz.2.2.2.1.1,HRz.2.2.2.2.1.1,HRz.2.2.2.2.2.1.1,HRz.2.2.2.2.2.2.1.1,HRz.2.2.2.2.2.2.2.1.1,HRz.2.2.2.2.2.2.2.2.1]) rfl ⟨r,Href.out,?_⟩
  rw [Hoo.out]
  refine⟨_,_,_,_,rfl,?_,?_⟩
  ·exact(Hown.out.turned hT (fun k e=>by have:=hG.size; omega)).wide (by have:=hG.size; omega) hsz
  ·exact hbz.trans (hT.below (B:=w.heap.size) hbz.size (fun k e=>by omega))
end Go.Proofs.YtmgeglgboadfiaaGreatDoor
