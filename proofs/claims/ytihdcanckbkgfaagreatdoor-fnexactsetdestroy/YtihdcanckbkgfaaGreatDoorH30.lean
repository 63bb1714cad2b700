/- What spec.l05Own answers; a row without one of its sets. -/
import Derived.Test.YtihdcanckbkgfaaGreatDoorH28
import Derived.Test.YtihdcanckbkgfaaGreatDoorH29
import Derived.Test.YtihdcanckbkgfaaGreatDoorH3
import Derived.Test.YtihdcanckbkgfaaGreatDoorH25
import Derived.Test.YtihdcanckbkgfaaGreatDoorH6
import Derived.Test.YtihdcanckbkgfaaGreatDoorH18
import Derived.Test.YtihdcanckbkgfaaGreatDoorH21
import Derived.ArgAppend
import Derived.Test.YtihdcanckbkgfaaGreatDoorH4
import Derived.Test.YtihdcanckbkgfaaGreatDoorH23
import Derived.Test.YtihdcanckbkgfaaGreatDoorH24
import Derived.Deep.RegionHeld3
import Derived.Deep.RegionLaw
namespace Go.Proofs.YtihdcanckbkgfaaGreatDoor
open Go.RowKit
set_option linter.unusedVariables false
theorem sets_delN{w w':World}{bs g cap n k:Nat}{a2:Option Addr}{kb:Nat→Nat}{kv:Nat→Value}{v:Value}{f:Nat→SetD}{S:Nat→Prop}(ho:SetsOwn w bs kb kv v n f)(hap:SetsApart kb n f)(hk:k<n)(ht:Turned S w w')(hS:∀i,i<n→0<(f i).dn→¬S (kb i)∧kb i≠g)(hcap:n - 1≤cap)
  (hc:0<n - 1→a2=some ⟨g,0,none⟩∧∀i,i<n - 1→∀r,r<6→Cell w' g (i*6+r) (cellSet (del f k) (del kv k) i r)) :
  SetsOwn w' g (del kb k) (del kv k) (.slice a2 (n - 1) cap) (n - 1) (del f k)∧SetsApart (del kb k) (n - 1) (del f k)∧∀j,SetsB g (del kb k) (n - 1) (del f k) j→(0<n - 1∧j=g)∨∃i,i<n∧0<(f i).dn∧j=kb i:=by
 have hel:∀i,i<n→∃o,SetOwn w bs o (kb i) (kv i) (f i):=fun i hi=>by
  obtain⟨off',c',ev,h⟩:=ho.nth hi
  exact⟨_,h⟩
 have hm:=ho.1
 have key:∀i,i<n - 1→∃i',i'<n∧del kb k i=kb i'∧del kv k i=kv i'∧del f k i=f i'∧i'=(if i<k then i else i+1):=fun i hi=>by
  by_cases e:i<k
  ·exact⟨i,by omega,del_lo e,del_lo e,del_lo e,by rw [if_pos e]⟩
  ·exact⟨i+1,by omega,del_hi e,del_hi e,del_hi e,by rw [if_neg e]⟩
 refine⟨⟨by omega,_,_,rfl,hcap,fun h0=>⟨0,(hc h0).1,fun i hi=>?_⟩⟩,fun i j hi hj hij h1 h2=>?_,?_⟩
 ·rw [Nat.zero_add]
  have hc':=(hc h0).2 i hi
  obtain⟨i',hi',e1,e2,e3,-⟩:=key i hi
  obtain⟨o,h⟩:=hel i' hi'
  refine⟨hc' 0 (by omega),hc' 1 (by omega),hc' 2 (by omega),hc' 3 (by omega),hc' 4 (by omega),hc' 5 (by omega),?_,?_,?_⟩
  ·rw [e1,e2,e3]; exact h.dead.turned ht (fun h0=>(hS i' hi' h0).1)
  ·rw [e3]; exact h.small
  ·rw [e1,e3]; exact fun h0=>(hS i' hi' h0).2
 ·obtain⟨i',hi',e1,-,e3,f1⟩:=key i hi
  obtain⟨j',hj',e1',-,e3',f2⟩:=key j hj
  rw [e1,e1']
  rw [e3] at h1
  rw [e3'] at h2
  refine hap i' j' hi' hj' (fun e=>hij ?_) h1 h2
  rw [f1,f2] at e
  split at e <;> split at e <;> omega
 ·rintro j (⟨h0,rfl⟩ | ⟨i,hi,h0,rfl⟩)
  ·exact Or.inl ⟨h0,rfl⟩
  ·obtain⟨i',hi',e1,-,e3,-⟩:=key i hi
   rw [e3] at h0
   exact Or.inr ⟨i',hi',h0,e1⟩
theorem ahead_is{W:WorldD}{x s b t:Int}(h:AheadIs W x s b t)(h0:¬∃k,SnapNo W 0 k):t=(aheadOf W x).time:=by
 rcases h with⟨k,_,hk,_,_,rfl⟩ | ⟨hx,_,_,rfl⟩
 ·rw [aheadOf_at hk]
 ·have e:aheadOf W x=zeroSnap:=by
   unfold aheadOf
   rw [dif_neg]
   rintro⟨k,hk⟩
   rcases hx with rfl | hx
   ·exact h0 ⟨k,hk⟩
   ·exact hx k hk.1 hk.2.1
  rw [e]
  rfl
theorem setOwn_cellD{w:World}{bs o nb:Nat}{f:Nat→SetD}{kv:Nat→Value}{i:Nat}(h:SetOwn w bs o nb (kv i) (f i))(r:Nat)(hr:r<6):w.drew.cell? ⟨bs,o+r,none⟩=some (cellSet f kv i r):=(setCellR h r hr).1
theorem cell_oneS{w:World}{bs o nb:Nat}{f:Nat→SetD}{kv:Nat→Value}{i:Nat}(h:SetOwn w bs o nb (kv i) (f i))(r:Nat):(cellSet f kv i r).oneCell'=true:=by
 have h1:=ptrs_one h.dead
 unfold cellSet
 split <;> first | rfl | exact h1
set_option maxRecDepth 20000 in
set_option maxHeartbeats 2000000 in
theorem l05Own_any(v0 v1 v2 v3:Value)(lo hi:Nat)(W:WorldD)(name:ByteArray)(w:World)(h:WorldAt w lo hi v0 v1 v2 v3 W) :
  Calls Tryz.prog 25 #[worldV v0 v1 v2 v3 W,.string name] w fun e w'=>BoolIs (∃i,i<W.pn∧(W.snaps i).set=name) e∧Below w.heap.size w w':=by
 have Hp:=hideW h.snaps
 obtain⟨m1,a,c,rfl,mc,_⟩:=id h.snaps
 unfold maxLen at m1
 clear h
 have ha:=below_alloc w (.cells #[v0,v1,.int .i64 W.time,.int .i64 W.next,v2,.slice a W.pn c] 37)
 have HB:=hideW (Box6.new w v0 v1 (.int .i64 W.time) (.int .i64 W.next) v2 (.slice a W.pn c) 37)
 go_enter Tryz.func25,Tryz.ntmps25
 go_wp2
 go_loopw [5] (fun i wr=>∃k:Nat,k≤W.pn∧i = .int .i64 k∧(∀j,j<k→¬(W.snaps j).set=name)∧Box6 wr w.heap.size v0 v1 (.int .i64 W.time) (.int .i64 W.next) v2 (.slice a W.pn c)∧Below w.heap.size w wr) (fun i _=>W.pn - (intOf i).toNat)
 case atStart=>exact⟨0,Nat.zero_le _,rfl,fun j hj=>absurd hj (Nat.not_lt_zero _),HB.out,ha⟩
 case round=>
  obtain⟨k,hk,rfl,hno,hX,hb⟩:=hrel
  have Hno:=hideW hno
  have HX:=hideW hX
  clear hno hX
  obtain⟨⟨x0,x1⟩,⟨x2,x3⟩,⟨x4,x5⟩,⟨x6,x7⟩,⟨x8,x9⟩,⟨x10,x11⟩⟩:=HX.out
  by_cases hlt:k<W.pn
  ·have hlt':(k:Int)<(W.pn:Int):=by omega
   obtain⟨b,off,vd,rfl,hs⟩:=(Hp.out.below hb).cells hlt
   have q2:=hs.c2
   clear hs
   by_cases he:(W.snaps k).set=name
   ·have H:=hideW he
    rw [he] at q2
    clear he
    go_wp2
    go_ret
    exact⟨BoolIs.yes ⟨k,hlt,H.out⟩,hb⟩
   ·have H:=hideW he
    have e0:((W.snaps k).set.toList == name.toList)=false:=str_ne he
    clear he
    go_wp2
    go_roundw
    case rel=>
     refine⟨k+1,by omega,by go_num,?_,HX.out,hb⟩
     intro j hj
     by_cases e:j=k
     ·subst e; exact H.out
     ·exact Hno.out j (by omega)
    case measure=>simp [intOf]; omega
  ·obtain rfl:k=W.pn:=by omega
   go_wp2
   go_ret
   exact⟨BoolIs.no (fun ⟨i,hi,h⟩=>Hno.out i hi h),hb⟩
theorem IntsOwn.row{w:World}{b n c:Nat}{a:Option Addr}{f:Nat→Int}(h:IntsOwn w b (.slice a n c) n f)(hlt:n<c):w.ownsRow b 2 1 (.slice a n c) n (ic f n)∧a=some ⟨b,0,none⟩∧0<n:=by
 obtain⟨hm,a0,c0,hv,hcc,hc,hr⟩:=h
 simp only [Value.slice.injEq,true_and] at hv
 obtain⟨rfl,rfl⟩:=hv
 obtain⟨h0,rfl,hcm,cur,hcur,hsz⟩:=hr hlt
 obtain⟨off,ha,hcell⟩:=hc h0
 simp only [Option.some.injEq,Addr.mk.injEq,true_and,and_true] at ha
 subst ha
 refine⟨⟨ic_len _ _,.inr ⟨b,c,cur,rfl,Nat.le_refl _,hcur,hcc,hcm,by simpa using hsz,?_⟩⟩,rfl,h0⟩
 apply List.ext_getElem?
 intro j
 by_cases hj:j<n
 ·have e:=(hcell j hj).1
  rw [Nat.zero_add,cell_of_row w b j cur _ (0,0) hcur] at e
  rw [List.getElem?_take,if_pos (by omega),ic_at f n j hj]
  simpa using e
 ·rw [List.getElem?_eq_none (by simp; omega),List.getElem?_eq_none (by rw [ic_len]; omega)]
theorem IntsOwn.block{w:World}{b n:Nat}{v:Value}{f:Nat→Int}(h:IntsOwn w b v n f)(h0:0<n):v.ownBlock=some b:=by
 obtain⟨_,a,c,rfl,_,hc,_⟩:=h
 obtain⟨off,rfl,_⟩:=hc h0
 rfl
theorem intsTy:Tryz.prog.underlying 23=some (.slice 2):=by kernel_rfl
set_option maxRecDepth 20000 in
theorem run_hold1{w:World}{b n B:Nat}{v:Value}{f:Nat→Int}{x:Int}(h:IntsOwn w b v n f)(hn:n≤1000)(hnew:w.cell? ⟨B,0,none⟩=some (.int .i64 x))(ty:TypeId) :
  ∃base g cap w',(Builtin.append_ #[23,23] ty #[v,.slice (some ⟨B,0,none⟩) 1 1]).run Tryz.prog w = .ok (.slice (some ⟨g,0,none⟩) (n+1) cap) w'∧w'.ownsRow base 2 1 (.slice (some ⟨g,0,none⟩) (n+1) cap) (n+1) (ic f n ++ [.int .i64 x])∧Turned (fun k=>0<n∧v.ownBlock=some k) w w'∧((0<n∧v.ownBlock=some g)∨w.heap.size≤g)∧g<w'.heap.size:=by
 obtain⟨i0,hi0,hzz⟩:=Option.map_eq_some_iff.1 infoInt64
 simp only [Prod.mk.injEq] at hzz
 obtain⟨hz,hs,hby⟩:=hzz
 obtain⟨a,c,rfl⟩:∃a c,v = .slice a n c:=by obtain⟨_,a,c,e,_⟩:=h; exact⟨a,c,e⟩
 by_cases hlt:n<c
 ·obtain⟨hown,rfl,h0⟩:=h.row hlt
  obtain⟨g,cap,w',hr,h2,h3,h4,h5⟩:=run_append_lies (P:=Tryz.prog) w 23 ty b 2 i0 _ 1 8 intsTy hi0 hz hs hby rfl (by decide) _ n (ic f n) hown ⟨B,0,none⟩ 1 1 [.int .i64 x] rfl (news1_of hnew) (one1 x) (by omega) (by unfold maxLen; omega) (by omega) (by have:=hown.lt b rfl; omega) w.heap.size rfl
  refine⟨b,g,cap,w',hr,h2,?_,?_,h5⟩
  ·refine⟨h3.os,h3.tape,h3.output,h3.size,fun k hk hne=>h3.block k hk (fun e=>hne ⟨h0,e.symm⟩)⟩
  ·exact h4.imp (fun h=>⟨h0,h⟩) (fun h=>by omega)
 ·obtain⟨hm,a0,c0,hv,hcc,hcell,-⟩:=h
  simp only [Value.slice.injEq,true_and] at hv
  obtain⟨rfl,rfl⟩:=hv
  obtain rfl:c=n:=by omega
  by_cases h0:0<c
  ·obtain⟨off,rfl,hcs⟩:=hcell h0
   obtain⟨v',w',hr,h1,h2⟩:=run_append_arg_grows (P:=Tryz.prog) w 23 ty 2 i0 _ 1 8 intsTy hi0 hz hs hby rfl (by decide) ⟨b,off,none⟩ c c (ic f c) (by rw [ic_len]) (fun j u hj=>by
     have hjl:j<c:=by
      have:=(List.getElem?_eq_some_iff.1 hj).1
      rw [ic_len] at this
      omega
     have hj':=ic_at f c j hjl
     rw [hj] at hj'
     injection hj' with hj'
     subst hj'
     have e:(⟨b,off,none⟩:Addr).add j=⟨b,off+j,none⟩:=by
      unfold Addr.add
      split
      ·simp_all
      ·simp
     rw [e]
     exact(hcs j hjl).1) ⟨B,0,none⟩ 1 1 [.int .i64 x] rfl (news1_of hnew) (by omega) (by unfold maxLen; omega) (by omega)
   obtain⟨g,cap,rfl,hcap,hbg,hgl,-⟩:=owns_cell h1 (by omega)
   exact⟨_,g,cap,w',hr,h1,⟨h2.os,h2.tape,h2.output,h2.size,fun k hk _=>h2.block k hk (by simp)⟩,Or.inr hbg,hgl⟩
  ·obtain rfl:c=0:=by omega
   obtain⟨g,cap,w',hr,h2,h3,h4,h5⟩:=run_append_lies (P:=Tryz.prog) w 23 ty w.heap.size 2 i0 _ 1 8 intsTy hi0 hz hs hby rfl (by decide) (.slice none 0 0) 0 [] ⟨by simp,Or.inl ⟨rfl,rfl⟩⟩ ⟨B,0,none⟩ 1 1 [.int .i64 x] rfl (news1_of hnew) (one1 x) (by omega) (by unfold maxLen; omega) (by omega) (Nat.le_refl _) w.heap.size rfl
   refine⟨_,g,cap,w',?_,h2,⟨h3.os,h3.tape,h3.output,h3.size,fun k hk _=>h3.block k hk (by simp [Value.ownBlock])⟩,Or.inr ?_,h5⟩
   ·rw [run_append_cap0 23 ty 2 i0 a ⟨B,0,none⟩ 1 1 intsTy hi0 (by omega) (by rw [hby]; omega)]; exact hr
   ·rcases h4 with h4 | h4
    ·cases h4
    ·omega
structure KeptH (p:Prop):Prop where
 out:p
theorem join_oneH{A B:Prop}(f:KeptH A→B)(h:A):B:=f ⟨h⟩
theorem append_heldIn{wa wb:World}{S:Nat→Prop}{X g cap base:Nat}{v0 v1:Value}{q:PoolD}{x:Int}(ho:PoolIn wa S v0 v1 q)(t:Turned (fun k=>0<q.hn∧v1.ownBlock=some k) wa wb)
  (hrow:wb.ownsRow base 2 1 (.slice (some ⟨g,0,none⟩) (q.hn+1) cap) (q.hn+1) (ic q.h q.hn ++ [.int .i64 x])) (hat:(0<q.hn∧v1.ownBlock=some g)∨¬S g) (hX:¬S X) (hXg:g≠X) (hm:q.hn+1≤maxLen) :
  PoolIn (wb.setCell ⟨X,1,none⟩ (.slice (some ⟨g,0,none⟩) (q.hn+1) cap)) (fun k=>S k∨k=g) v0 (.slice (some ⟨g,0,none⟩) (q.hn+1) cap) (holdD q x):=by
 obtain⟨bs,hb,kb,kv,h1,h2,h3,h4,h5⟩:=ho
 have tX:=Turned.put wb X 1 (.slice (some ⟨g,0,none⟩) (q.hn+1) cap)
 have hsb:∀k,SlotsB bs kb q.n q.s k→¬(0<q.hn∧v1.ownBlock=some k):=fun k hk hx=>by
  rw [h3.block hx.1] at hx
  simp only [Option.some.injEq] at hx
  exact h4 hx.1 (hx.2▸hk)
 have hsX:∀k,SlotsB bs kb q.n q.s k→¬k=X:=fun k hk e=>hX (e▸h5 k (Or.inl hk))
 have s1:=(h1.turned t (fun h0=>hsb _ (Or.inl ⟨h0,rfl⟩)) (fun i hi h=>hsb _ (Or.inr ⟨i,hi,h,rfl⟩))).turned tX (fun h0=>hsX _ (Or.inl ⟨h0,rfl⟩)) (fun i hi h=>hsX _ (Or.inr ⟨i,hi,h,rfl⟩))
 rw [←ic_hold] at hrow
 have hrow2:=hrow.kept (grown_of_turned tX) (Or.inr (by simp [Value.ownBlock]; exact hXg))
 obtain⟨gb,hi2,hg2⟩:=ints_of_owns2 (f:=(holdD q x).h) hm hrow2 (fun e=>absurd e (Nat.succ_ne_zero _))
 obtain rfl:g=gb:=by have:=hg2 (Nat.succ_pos _); simpa [Value.ownBlock] using this
 refine⟨bs,g,kb,kv,s1,h2,hi2,fun _ hx=>?_,fun k hk=>?_⟩
 ·rcases hat with⟨h0,he⟩ | he
  ·exact hsb g hx ⟨h0,he⟩
  ·exact he (h5 g (Or.inl hx))
 ·rcases hk with hk | ⟨_,rfl⟩
  ·exact Or.inl (h5 k (Or.inl hk))
  ·exact Or.inr rfl
set_option maxRecDepth 20000 in
set_option maxHeartbeats 2000000 in
theorem l05Hold_any(V lo hi:Nat)(P:Nat→Prop)(z0 z1 z2 z3 v:Value)(tm nx:Int)(p:PoolD)(l:List (Int×Int))(w:World)(hV:Box6 w V z0 z1 (.int .i64 tm) (.int .i64 nx) z2 z3)(hP:PoolIn w P z0 z1 p)(hPl:∀j,P j→j<V)(hv:PtrsAt w lo hi v l.length (fstL l) (sndL l))(hlo:V<lo)(hhi:hi≤w.heap.size)(hl:l.length≤200)(hpn:p.hn≤400) :
  Calls Tryz.prog 30 #[.pointer (some ⟨V,0,none⟩),v] w fun e w'=>e = .returned (.int .i64 (l.length:Int))∧∃y1,Box6 w' V z0 y1 (.int .i64 tm) (.int .i64 nx) z2 z3∧PoolIn w' (fun j=>P j∨(w.heap.size≤j∧j<w'.heap.size)) z0 y1 (holdAll p l)∧Turned (fun j=>j=V∨P j∨w.heap.size≤j) w w':=by
 have hVl:=hV.1.lt
 obtain⟨-,a,c,rfl,-,hx⟩:=hv
 have HX:=hideW hx
 have HV:=hideW hV
 have HP:=hideW hP
 clear hV hP hx
 go_enter Tryz.func30,Tryz.ntmps30
 go_wp2_with fail
 go_loopw [5] (fun i wr=>∃(k:Nat) (y1:Value),k≤l.length∧i = .int .i64 k∧Box6 wr V z0 y1 (.int .i64 tm) (.int .i64 nx) z2 z3∧PoolIn wr (fun j=>P j∨(w.heap.size≤j∧j<wr.heap.size)) z0 y1 (holdAll p (l.take k))∧Turned (fun j=>j=V∨P j∨w.heap.size≤j) w wr) (fun i _=>l.length - (intOf i).toNat)
 case atStart=>exact⟨0,_,Nat.zero_le _,rfl,HV.out,HP.out.mono (fun j h=>Or.inl h),Turned.refl _ _⟩
 case round=>
  obtain⟨k,y1,hk,rfl,hVk,hPk,hTk⟩:=hrel
  have HVk:=hideW hVk
  have HPk:=hideW hPk
  have HTk:=hideW hTk
  have hzk:=hTk.size
  clear hVk hPk hTk
  by_cases hlt:k<l.length
  ·have hlt':(k:Int)<(l.length:Int):=by omega
   obtain⟨b,off,rfl,hb1,hb2,hcell⟩:=HX.out (by omega)
   have q0:=(HTk.out.cell (o:=off+k*2) (show b<w.heap.size by omega) (fun h=>by
    rcases h with h | h | h
    ·omega
    ·have:=hPl b h; omega
    ·omega)).trans (hcell k hlt).1
   have hkl:(holdAll p (l.take k)).hn≤1000:=by
    rw [(holdAll_n (l.take k) p).2.2,List.length_take]
    omega
   obtain⟨bs,hbk,kb,kv,i1,i2,i3,i4,i5⟩:=id HPk.out
   obtain⟨a1,c1,rfl⟩:∃a1 c1,y1 = .slice a1 (holdAll p (l.take k)).hn c1:=by obtain⟨_,a1,c1,e,_⟩:=i3; exact⟨a1,c1,e⟩
   have hb0:Below wr.heap.size wr wr.drew:=(Below.refl _ _).drew
   have hba:=below_alloc wr.drew (.cells #[.int .i64 (fstL l k)] 2)
   have hbA:Below wr.heap.size wr (wr.drew.alloc (.cells #[.int .i64 (fstL l k)] 2)):=below_next hb0 hba
   obtain⟨base,g,cap,w5,hr5,hrow5,hT5,hg5,hgz5⟩:=run_hold1 (B:=wr.drew.heap.size) (x:=fstL l k) (i3.below hbA) hkl (World.cell?_alloc_at _ _ _ _ rfl) 23
   have hzA:(wr.drew.alloc (.cells #[.int .i64 (fstL l k)] 2)).heap.size≥wr.heap.size+1:=by rw [World.size_alloc]; exact Nat.le_refl _
   have hz5:wr.heap.size+1≤w5.heap.size:=by have:=hT5.size; omega
   have hkb:∀j,0<(holdAll p (l.take k)).hn∧(Value.slice a1 (holdAll p (l.take k)).hn c1).ownBlock=some j→P j∨(w.heap.size≤j∧j<wr.heap.size):=fun j h=>by
    have e:=i3.block h.1
    rw [h.2] at e
    injection e with e
    rw [e]
    exact i5 hbk (Or.inr ⟨h.1,rfl⟩)
   have hVn:∀j,0<(holdAll p (l.take k)).hn∧(Value.slice a1 (holdAll p (l.take k)).hn c1).ownBlock=some j→j≠V∧j≠b:=fun j h=>by
    rcases hkb j h with h' | h'
    ·have:=hPl j h'; exact⟨by omega,by omega⟩
    ·exact⟨by omega,by omega⟩
   have hgV:g≠V:=by
    rcases hg5 with h | h
    ·exact(hVn g h).1
    ·omega
   have hV5:=(HVk.out.below hbA).turned hT5 (fun h=>(hVn V h).1 rfl)
   have HKP:=hideW (show ∀w',Below wr.drew.heap.size wr.drew w'→(fun w':World=>w'.cell? ⟨b,off+k*2,none⟩=some (.int .i64 (fstL l k))) w' from fun w' hb=>(hb.cell (p:=⟨b,off+k*2,none⟩) (show b<wr.heap.size by omega)).trans q0)
   have HK5:=hideW (show(fun w':World=>w'.cell? ⟨b,off+k*2,none⟩=some (.int .i64 (fstL l k))) w5 from(hT5.cell (o:=off+k*2) (show b<_ by omega) (fun h=>(hVn b h).2 rfl)).trans ((hbA.cell (p:=⟨b,off+k*2,none⟩) (show b<wr.heap.size by omega)).trans q0))
   have hT6:=Turned.put w5 V 1 (.slice (some ⟨g,0,none⟩) ((holdAll p (l.take k)).hn+1) cap)
   have HK6:=hideW (show(fun w':World=>w'.cell? ⟨b,off+k*2,none⟩=some (.int .i64 (fstL l k))) (w5.setCell ⟨V,1,none⟩ (.slice (some ⟨g,0,none⟩) ((holdAll p (l.take k)).hn+1) cap))from(hT6.cell (o:=off+k*2) (show b<w5.heap.size by omega) (fun h=>by omega)).trans HK5.out)
   have HP6:=hideW (append_heldIn (X:=V) (HPk.out.below hbA) hT5 hrow5 (hg5.imp id (fun h hx=>by
    rcases hx with hx | hx
    ·have:=hPl g hx; omega
    ·omega)) (fun hx=>by
    rcases hx with hx | hx
    ·have:=hPl V hx; omega
    ·omega) hgV (by unfold maxLen; omega))
   have HT6:=hideW (show Turned (fun j=>j=V∨P j∨w.heap.size≤j) w (w5.setCell ⟨V,1,none⟩ (.slice (some ⟨g,0,none⟩) ((holdAll p (l.take k)).hn+1) cap))from(HTk.out.trans ((Turned.of_below hbA).trans (hT5.mono (fun j h=>by
    rcases hkb j h with h' | h'
    ·exact Or.inr (Or.inl h')
    ·exact Or.inr (Or.inr h'.1))))).trans (hT6.mono (fun j e=>Or.inl e)))
   have HR:=hideW hr5
   have HBA:=hideW hba
   have HG:=hideW (show(0<(holdAll p (l.take k)).hn∧(Value.slice a1 (holdAll p (l.take k)).hn c1).ownBlock=some g)∨wr.heap.size≤g from hg5.imp id (fun h=>by omega))
   have Hkb:=hideW hkb
   obtain⟨x4,-⟩:=(HVk.out.below hb0).2.1
   have X5:=hideW ((hba.cell (lt_of_cell x4)).trans x4)
   obtain⟨y4,y4'⟩:=hV5.2.1
   have HV5:=hideW hV5
   clear hr5 hrow5 hT5 hg5 hV5 hba hbA hcell i1 i2 i3 i4 i5 hkb hVn hzA q0
   go_wp2_with fail
   refine wp_region_held_drew (S:=(fun w':World=>w'.cell? ⟨b,off+k*2,none⟩=some (.int .i64 (fstL l k)))) (by kernel_rfl) (HKP.out _ (Below.refl _ _)) (fun hHeld=>?_)
   generalize wr.drew=q0 at hHeld HKP HR HBA x4 X5 hb0 ⊢
   refine' join_oneH (fun hfin=>_) _
   rotate_left
   ·skip
    refine tk 0 (h:=tk 1 (h:=tk 2 (h:=tk 3 (h:=tk 4 (h:=tk 6 (h:=tk 7 (h:=tk 8 (h:=tk 9 (h:=tk 10 (h:=?_))))))))))
    refine rd [5,11] (rc (fun K hK=>?_) (rc (fun K hK=>?_) .nil))
    ·go_simp
     (try go_wp2_with fail)
     refine hK.out _ _ (HKP.out _ (Below.refl _ _)) ?_
     clear hK K
     intro hHeld
     try simp only [Act.put,s1,s2,s3]
     refine rd [11] (rc (fun K hK=>?_) .nil)
     go_simp
     (try go_wp2_with fail)
     refine hK.out _ _ (HKP.out _ HBA.out) ?_
     clear hK K
     intro hHeld
     try simp only [Act.put,s1,s2,s3]
     refine rd [12] (rc (fun K hK=>?_) .nil)
     refine step_append_run rfl (.tmp 17) (.tmp 23) 23 rfl _ _ _ rfl rfl HR.out ?_
     (try go_wp2_with fail)
     refine hK.out _ _ (HK5.out) ?_
     clear hK K
     intro hHeld
     try simp only [Act.put,s1,s2,s3]
     refine tk 13 (h:=tk 14 (h:=tk 15 (h:=?_)))
     refine rd [16] (rc (fun K hK=>?_) .nil)
     go_simp
     (try go_wp2_with fail)
     refine hK.out _ _ (HK6.out) ?_
     clear hK K
     intro hHeld
     try simp only [Act.put,s1,s2,s3]
     refine wpAnyH_done (by kernel_rfl) ?_ _
     exact hfin.out
    ·go_simp
     (try go_wp2_with fail)
     refine hK.out _ _ (HKP.out _ HBA.out) ?_
     clear hK K
     intro hHeld
     try simp only [Act.put,s1,s2,s3]
     refine rd [5] (rc (fun K hK=>?_) .nil)
     have x5a:=X5.out
     go_simp
     (try go_wp2_with fail)
     refine hK.out _ _ (HKP.out _ HBA.out) ?_
     clear hK K
     intro hHeld
     try simp only [Act.put,s1,s2,s3]
     clear x5a
     refine rd [12] (rc (fun K hK=>?_) .nil)
     refine step_append_run rfl (.tmp 17) (.tmp 23) 23 rfl _ _ _ rfl rfl HR.out ?_
     (try go_wp2_with fail)
     refine hK.out _ _ (HK5.out) ?_
     clear hK K
     intro hHeld
     try simp only [Act.put,s1,s2,s3]
     refine tk 13 (h:=tk 14 (h:=tk 15 (h:=?_)))
     refine rd [16] (rc (fun K hK=>?_) .nil)
     go_simp
     (try go_wp2_with fail)
     refine hK.out _ _ (HK6.out) ?_
     clear hK K
     intro hHeld
     try simp only [Act.put,s1,s2,s3]
     refine wpAnyH_done (by kernel_rfl) ?_ _
     exact hfin.out
   go_wp2_with fail
   go_roundw
   case rel=>
    have hV6:Box6 (w5.setCell ⟨V,1,none⟩ (.slice (some ⟨g,0,none⟩) ((holdAll p (l.take k)).hn+1) cap)) V z0 (.slice (some ⟨g,0,none⟩) ((holdAll p (l.take k)).hn+1) cap) (.int .i64 tm) (.int .i64 nx) z2 z3:=⟨HV5.out.1.other _ (Or.inr (by decide)),HV5.out.2.1.set _,HV5.out.2.2.1.other _ (Or.inr (by decide)),HV5.out.2.2.2.1.other _ (Or.inr (by decide)),HV5.out.2.2.2.2.1.other _ (Or.inr (by decide)),HV5.out.2.2.2.2.2.other _ (Or.inr (by decide))⟩
    have he:holdAll p (l.take (k+1))=holdD (holdAll p (l.take k)) (fstL l k):=by
     rw [List.take_succ_eq_append_getElem hlt,holdAll_snoc]
     congr 1
     unfold fstL
     rw [List.getD_eq_getElem?_getD,List.getElem?_eq_getElem hlt]
     rfl
    refine⟨k+1,_,by omega,by go_num,hV6,?_,HT6.out⟩
    rw [he]
    refine HP6.out.mono (fun j hj=>?_)
    have hs6:=hT6.size
    rcases hj with(h | h) | rfl
    ·exact Or.inl h
    ·exact Or.inr ⟨h.1,by omega⟩
    ·rcases HG.out with h | h
     ·rcases Hkb.out j h with h' | h'
      ·exact Or.inl h'
      ·exact Or.inr ⟨h'.1,by omega⟩
     ·exact Or.inr ⟨by omega,by omega⟩
   case measure=>simp [intOf]; omega
  ·obtain rfl:k=l.length:=by omega
   go_wp2_with fail
   rw [List.take_length] at HPk
   go_ret
   exact⟨rfl,y1,HVk.out,HPk.out,HTk.out⟩
theorem rows_next{w:World}{k:Nat}{v:Value}{kv:Nat→Value}{dn:Nat→Nat}(hk:RowB w 56 2 v (dn k))(h:∀i,i<k→RowB w 56 2 (kv i) (dn i))(a:Addr)(u:Value):∀i,i<k+1→RowB (w.setCell a u) 56 2 ((fun j=>if j=k then v else kv j) i) (dn i):=fun i hi=>by
 by_cases e:i=k
 ·subst e
  simp only [if_true]
  exact hk.set a u
 ·simp only [if_neg e]
  exact(h i (by omega)).set a u
theorem run_copy_ptrsR(w:World)(lo hi:Nat)(a:Option Addr)(n c:Nat)(f g:Nat→Int)(h:PtrsAt w lo hi (.slice a n c) n f g)(hn:n≤1048576)(ty:TypeId):∃a' c' kb w1,
  (Builtin.append_ #[59,59] ty #[.slice (some ⟨w.heap.size,0,none⟩) 0 0,.slice a n c]).run Tryz.prog (w.alloc (.cells #[] 56)) = .ok (.slice a' n c') w1∧PtrsOwn w1 kb (.slice a' n c') n f g∧(0<n→w.heap.size≤kb∧kb<w1.heap.size)∧Below w.heap.size w w1∧RowB w1 56 2 (.slice a' n c') n:=by
 obtain⟨m1,a0,c0,hv,mc,g1⟩:=h
 simp only [Value.slice.injEq,true_and] at hv
 obtain⟨rfl,rfl⟩:=hv
 obtain⟨i0,hi0,hzz⟩:=Option.map_eq_some_iff.1 infoPtrT
 simp only [Prod.mk.injEq] at hzz
 obtain⟨hz,hs,hby⟩:=hzz
 have ht:Tryz.prog.underlying 59=some (.slice 56):=by kernel_rfl
 have hown0:(w.alloc (.cells #[] 56)).ownsRow w.heap.size 56 2 (.slice (some ⟨w.heap.size,0,none⟩) 0 0) 0 []:=World.ownsRow_made w #[] 0 (Nat.le_refl _) (Nat.zero_le _) (by simp)
 have hba:=below_alloc w (.cells #[] 56)
 by_cases h0:0<n
 ·obtain⟨b,off,rfl,_,_,hc⟩:=g1 h0
  have hadd:∀j,(⟨b,off,none⟩:Addr).add j=⟨b,off+j,none⟩:=fun j=>by unfold Addr.add; split <;> simp_all
  obtain⟨v',w1,hr,r1,r2,_⟩:=run_append_own (P:=Tryz.prog) (w.alloc (.cells #[] 56)) w.heap.size 59 ty 56 i0 (.agg #[.int .i64 0,.int .i64 0]) 2 16 ht hi0 hz hs hby rfl (by decide) _ 0 [] hown0 ⟨b,off,none⟩ n c (kc f g n) (kc_len f g n) (fun j u hj=>by
    have:=kc_cells hc j u hj
    rw [hadd] at this ⊢
    exact(hba.cell (lt_of_cell this)).trans this) (kc_one f g n) (by unfold maxLen; omega) (by omega) (by simp)
  have hown2:w1.ownsRow w.heap.size 56 2 v' n (kc f g n):=by simpa using r1
  obtain⟨kb,hp,hk⟩:=ptrs_of_owns m1 hown2
  obtain⟨_,a',c',rfl,_⟩:=id hp
  have hb1:Below w.heap.size w w1:=hba.grown r2 (by simp) (fun q hq=>by have:=hown0.lt q hq; omega)
  exact⟨a',c',kb,w1,hr,hp,hk,hb1,rowB_of_owns hown2 (fun e=>by omega)⟩
 ·obtain rfl:n=0:=by omega
  have hr:=run_append_zero (P:=Tryz.prog) (w:=w.alloc (.cells #[] 56)) w.heap.size 59 ty 56 i0 2 c a ht hi0 _ 0 [] hown0
  exact⟨_,0,0,_,hr,⟨Nat.zero_le _,_,0,rfl,Nat.le_refl _,fun h=>absurd h (Nat.lt_irrefl _)⟩,fun h=>absurd h (Nat.lt_irrefl _),hba,Or.inl ⟨rfl,_,rfl⟩⟩
end Go.Proofs.YtihdcanckbkgfaaGreatDoor
