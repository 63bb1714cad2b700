/- Rows of sets and snapshots that the call owns: one is edited, one is appended; a new snapshot of a set (no law is proved here). -/
import Derived.Test.YteipkhpniokkgaaGreatDoorG21
import Derived.Test.YteipkhpniokkgaaGreatDoorG20
import Derived.Test.YteipkhpniokkgaaGreatDoorG6
import Derived.Test.YteipkhpniokkgaaGreatDoorG18
import Derived.Test.YteipkhpniokkgaaGreatDoorG9
import Derived.Deep.RegionLaw
import Derived.Test.YteipkhpniokkgaaGreatDoorG22
import Derived.Test.YteipkhpniokkgaaGreatDoorG24
import Derived.Test.YteipkhpniokkgaaGreatDoorG23
import Derived.Deep.RegionHeld3
import Derived.Test.YteipkhpniokkgaaGreatDoorG4
import Derived.Test.YteipkhpniokkgaaGreatDoorG3
import Derived.BigQuiet
namespace Go.Proofs.YteipkhpniokkgaaGreatDoor
open Go.RowKit
set_option linter.unusedVariables false
theorem turned_grown{w w':World}{row:Option Nat}(h:w.grownBy w' row):Turned (fun k=>row=some k) w w':=⟨h.os,h.tape,h.output,h.size,fun k hk hn=>h.block k hk (fun e=>hn e.symm)⟩
theorem SetsOwn.edit{w w':World}{bs off n c:Nat}{kb:Nat→Nat}{kv:Nat→Value}{f:Nat→SetD}(ho:SetsOwn w bs kb kv (.slice (some ⟨bs,off,none⟩) n c) n f){k:Nat}(hk:k<n){s':SetD}{nb:Nat}{nv:Value}
  (ht:Turned (fun j=>j=bs) w w') (hx:∀j,j<n→j≠k→∀r,r<6→∀u,Cell w bs (off+j*6+r) u→Cell w' bs (off+j*6+r) u) (hs:SetOwn w' bs (off+k*6) nb nv s') :
  SetsOwn w' bs (fun j=>if j=k then nb else kb j) (fun j=>if j=k then nv else kv j) (.slice (some ⟨bs,off,none⟩) n c) n (fun j=>if j=k then s' else f j):=by
 obtain⟨hm,a,cap,hv,hc,hx0⟩:=ho
 simp only [Value.slice.injEq,true_and] at hv
 obtain⟨rfl,rfl⟩:=hv
 refine⟨hm,_,_,rfl,hc,fun h0=>?_⟩
 obtain⟨off',e,hall⟩:=hx0 h0
 simp only [Option.some.injEq,Addr.mk.injEq,true_and,and_true] at e
 subst e
 refine⟨off,rfl,fun j hj=>?_⟩
 by_cases e:j=k
 ·subst e
  simp only [if_true]
  exact hs
 ·simp only [if_neg e]
  have h:=hall j hj
  exact⟨hx j hj e 0 (by omega) _ h.c0,hx j hj e 1 (by omega) _ h.c1,hx j hj e 2 (by omega) _ h.c2,hx j hj e 3 (by omega) _ h.c3,hx j hj e 4 (by omega) _ h.c4,hx j hj e 5 (by omega) _ h.c5,h.dead.turned ht (fun h0 e=>h.apart h0 e),h.small,h.apart⟩
def snapC(s:SnapD)(dv:Value):List Value:=[.int .i64 s.id,.string s.name,.string s.set,.int .i64 s.prev,.int .i64 s.time,.int .i64 s.rs,.int .i64 s.rb,dv]
theorem snaps_append{w w':World}{base g cap bs nb n:Nat}{row:Option Nat}{kb:Nat→Nat}{kv:Nat→Value}{v dv:Value}{f:Nat→SnapD}{s:SnapD}(ho:SnapsOwn w bs kb kv v n f)(hap:SnapsApart kb n f)
  (hd:PtrsOwn w' nb dv s.dn s.ds s.db) (hsm:s.name.size≤maxLen∧s.set.size≤maxLen) (hnb:0<s.dn→(∀i,i<n→0<(f i).dn→kb i≠nb)∧nb≠g)
  (hrow:w'.ownsRow base 92 8 (.slice (some ⟨g,0,none⟩) (n+1) cap) (n+1) (clSnap f kv n ++ snapC s dv)) (hg:w.grownBy w' row) (hr:row=none∨(0<n∧row=v.ownBlock)) (hgg:(0<n∧v.ownBlock=some g)∨g=w.heap.size) (hm:n+1≤maxLen) :
  SnapsOwn w' g (fun j=>if j=n then nb else kb j) (fun j=>if j=n then dv else kv j) (.slice (some ⟨g,0,none⟩) (n+1) cap) (n+1) (fun j=>if j=n then s else f j)∧SnapsApart (fun j=>if j=n then nb else kb j) (n+1) (fun j=>if j=n then s else f j):=by
 have hob:0<n→v.ownBlock=some bs:=fun h0=>by
  obtain⟨_,a,c,hv,_,hx⟩:=ho
  obtain⟨off,ha,_⟩:=hx h0
  rw [hv,ha]; rfl
 have hel:∀i,i<n→∃o,SnapOwn w bs o (kb i) (kv i) (f i):=fun i hi=>by
  obtain⟨_,a,c,hv,_,hx⟩:=ho
  obtain⟨off,ha,h⟩:=hx (by omega)
  exact⟨_,h i hi⟩
 have hne:∀i,i<n→0<(f i).dn→kb i≠g∧row≠some (kb i):=fun i hi h0=>by
  obtain⟨o,h⟩:=hel i hi
  have h1:=h.apart h0
  have h2:=h.deadLt h0
  refine⟨?_,?_⟩
  ·rcases hgg with⟨h3,h4⟩ | h4
   ·rw [hob h3] at h4; injection h4 with h4; omega
   ·omega
  ·rcases hr with e | ⟨h3,e⟩
   ·rw [e]; exact fun h=>by cases h
   ·rw [e,hob h3]; exact fun h=>h1 (by injection h with h; exact h.symm)
 obtain⟨g',cap',hv',hcap,_,_,hcell⟩:=owns_cell hrow (by omega)
 simp only [Value.slice.injEq,Option.some.injEq,Addr.mk.injEq,and_true,true_and] at hv'
 obtain⟨rfl,rfl⟩:=hv'
 refine⟨⟨hm,_,_,rfl,hcap,fun _=>⟨0,rfl,fun i hi=>?_⟩⟩,fun i j hi hj hij h1 h2=>?_⟩
 ·rw [Nat.zero_add]
  by_cases e:i=n
  ·subst e
   simp only [if_true]
   have hc:∀r u,(snapC s dv)[r]?=some u→Cell w' g (i*8+r) u:=fun r u h=>hcell _ _ (by
    rw [List.getElem?_append_right (by rw [clSnap_len]; omega),clSnap_len,show i*8+r - i*8=r by omega]; exact h)
   exact⟨hc 0 _ rfl,hc 1 _ rfl,hc 2 _ rfl,hc 3 _ rfl,hc 4 _ rfl,hc 5 _ rfl,hc 6 _ rfl,hc 7 _ rfl,hd,hsm,fun h0=>(hnb h0).2⟩
  ·simp only [if_neg e]
   have hi':i<n:=by omega
   obtain⟨o,h⟩:=hel i hi'
   have hc:∀r,r<8→Cell w' g (i*8+r) (cellSnap f kv i r):=fun r hr'=>hcell _ _ (by
    rw [List.getElem?_append_left (by rw [clSnap_len]; omega)]; exact clSnap_at f kv n hi' hr')
   exact⟨hc 0 (by omega),hc 1 (by omega),hc 2 (by omega),hc 3 (by omega),hc 4 (by omega),hc 5 (by omega),hc 6 (by omega),hc 7 (by omega),h.dead.turned (turned_grown hg) (fun h0=>(hne i hi' h0).2),h.small,fun h0=>(hne i hi' h0).1⟩
 ·show(if i=n then nb else kb i)≠(if j=n then nb else kb j)
  by_cases e1:i=n
  ·by_cases e2:j=n
   ·omega
   ·rw [if_pos e1,if_neg e2]
    simp only [if_pos e1] at h1
    simp only [if_neg e2] at h2
    exact fun e=>(hnb h1).1 j (by omega) h2 e.symm
  ·by_cases e2:j=n
   ·rw [if_neg e1,if_pos e2]
    simp only [if_neg e1] at h1
    simp only [if_pos e2] at h2
    exact(hnb h2).1 i (by omega) h1
   ·rw [if_neg e1,if_neg e2]
    simp only [if_neg e1] at h1
    simp only [if_neg e2] at h2
    exact hap i j (by omega) (by omega) hij h1 h2
def WorldOwn2(w:World)(lo hi m top:Nat)(v0 v1 v2 v3:Value)(W:WorldD):Prop:=∃P Q R,WorldIn w P Q R v0 v1 v2 v3 W∧∀k,P k∨Q k∨R k→(lo≤k∧k<hi)∨(m≤k∧k<top)
theorem WorldOwn2.own{w:World}{lo hi m top:Nat}{v0 v1 v2 v3:Value}{W:WorldD}(h:WorldOwn2 w lo hi m top v0 v1 v2 v3 W)(h1:lo≤m)(h2:hi≤top):WorldOwn w lo top v0 v1 v2 v3 W:=by
 obtain⟨P,Q,R,h,hl⟩:=h
 exact⟨P,Q,R,h,fun k hk=>by have:=hl k hk; omega⟩
theorem WorldOwn2.turned{S:Nat→Prop}{w w':World}{lo hi m top:Nat}{v0 v1 v2 v3:Value}{W:WorldD}(h:WorldOwn2 w lo hi m top v0 v1 v2 v3 W)(t:Turned S w w')(hs:∀k,S k→k<lo∨(hi≤k∧k<m))(hm:hi≤m)(hlo:lo≤m):WorldOwn2 w' lo hi m top v0 v1 v2 v3 W:=by
 obtain⟨P,Q,R,h,hl⟩:=h
 exact⟨P,Q,R,h.turned t (fun k hk e=>by have:=hl k hk; have:=hs k e; omega),hl⟩
def snapOfSet(W:WorldD)(k:Nat)(name set:ByteArray):SnapD:={id:=W.next,name:=name,set:=set,prev:=(W.sets k).prev,time:=W.time,rs:=(W.sets k).rs,rb:=(W.sets k).rb,dn:=(W.sets k).dn,ds:=(W.sets k).ds,db:=(W.sets k).db}
def snapNewW(W:WorldD)(k:Nat)(name set:ByteArray):WorldD:={W with time:=W.time+1,next:=W.next+1,sets:=fun j=>if j=k then {W.sets k with prev:=W.next,dn:=0}else W.sets j,pn:=W.pn+1,snaps:=fun j=>if j=W.pn then snapOfSet W k name set else W.snaps j}
theorem snapNew_own{w w1:World}{P Q R:Nat→Prop}{v0 v1 v3:Value}{b2 off2 c2 g cap base lo:Nat}{row:Option Nat}{W:WorldD}{k:Nat}{name set:ByteArray}{dv:Value}{kbZ:Nat→Nat}{kvZ:Nat→Value}{bsZ:Nat}{kbS:Nat→Nat}{kvS:Nat→Value}
  (hP:PoolIn w P v0 v1 W.pool) (hS:SetsOwn w b2 kbS kvS (.slice (some ⟨b2,off2,none⟩) W.sn c2) W.sn W.sets) (hSa:SetsApart kbS W.sn W.sets) (hSq:∀j,SetsB b2 kbS W.sn W.sets j→Q j)
  (hZ:SnapsOwn w bsZ kbZ kvZ v3 W.pn W.snaps) (hZa:SnapsApart kbZ W.pn W.snaps) (hZr:∀j,SnapsB bsZ kbZ W.pn W.snaps j→R j)
  (pq:∀j,P j→¬Q j) (pr:∀j,P j→¬R j) (qr:∀j,Q j→¬R j) {hi:Nat} (hlt:∀j,P j∨Q j∨R j→lo≤j∧j<hi) (hhi:hi≤w.heap.size) (hk:k<W.sn) (hm:W.pn+1≤maxLen) (hn:name.size≤maxLen) (hs:set.size≤maxLen)
  (hrow:w1.ownsRow base 92 8 (.slice (some ⟨g,0,none⟩) (W.pn+1) cap) (W.pn+1) (clSnap W.snaps kvZ W.pn ++ snapC (snapOfSet W k name set) (kvS k))) (hg:w.grownBy w1 row) (hr:row=none∨(0<W.pn∧row=v3.ownBlock)) (hgg:(0<W.pn∧v3.ownBlock=some g)∨g=w.heap.size) (hlo:lo≤w.heap.size) (hgz:g<w1.heap.size) :
  WorldOwn2 ((w1.setCell ⟨b2,off2+k*6+2,none⟩ (.int .i64 W.next)).setCell ⟨b2,off2+k*6+5,none⟩ (.slice none 0 0)) lo hi w.heap.size w1.heap.size v0 v1 (.slice (some ⟨b2,off2,none⟩) W.sn c2) (.slice (some ⟨g,0,none⟩) (W.pn+1) cap) (snapNewW W k name set):=by
 have hob:0<W.pn→v3.ownBlock=some bsZ∧R bsZ:=fun h0=>by
  refine⟨?_,hZr _ (Or.inl ⟨h0,rfl⟩)⟩
  obtain⟨_,a,c,hv,_,hx⟩:=hZ
  obtain⟨off,ha,_⟩:=hx h0
  rw [hv,ha]; rfl
 have hrR:∀j,row=some j→R j:=fun j e=>by
  rcases hr with h | ⟨h0,h⟩
  ·rw [h] at e; cases e
  ·obtain⟨h1,h2⟩:=hob h0
   rw [h,h1] at e; injection e with e; exact e▸h2
 have hgR:R g∨g=w.heap.size:=by
  rcases hgg with⟨h0,h⟩ | h
  ·obtain⟨h1,h2⟩:=hob h0
   rw [h1] at h; injection h with h; exact Or.inl (h▸h2)
  ·exact Or.inr h
 have hT:=turned_grown hg
 have hPb:∀j,P j→¬(row=some j):=fun j hj e=>pr j hj (hrR j e)
 have hQb:∀j,Q j→¬(row=some j):=fun j hj e=>qr j hj (hrR j e)
 have hb2:Q b2:=hSq _ (Or.inl ⟨by omega,rfl⟩)
 have hS1:=hS.turned hT (fun j hj=>hQb j (hSq j hj))
 have hT2:Turned (fun j=>j=b2) w1 ((w1.setCell ⟨b2,off2+k*6+2,none⟩ (.int .i64 W.next)).setCell ⟨b2,off2+k*6+5,none⟩ (.slice none 0 0)):=(Turned.put w1 b2 _ _).trans (Turned.put _ b2 _ _)
 have hsk:SetOwn w1 b2 (off2+k*6) (kbS k) (kvS k) (W.sets k):=by
  obtain⟨_,a,c,hv,_,hx⟩:=hS1
  obtain⟨off,ha,h⟩:=hx (by omega)
  simp only [Value.slice.injEq,true_and] at hv
  obtain⟨rfl,_⟩:=hv
  simp only [Option.some.injEq,Addr.mk.injEq,true_and,and_true] at ha
  subst ha
  exact h k hk
 have hqk:0<(W.sets k).dn→Q (kbS k):=fun h0=>hSq _ (Or.inr ⟨k,hk,h0,rfl⟩)
 have hgq:∀j,Q j→j≠g:=fun j hj e=>by
  rcases hgR with h | h
  ·exact qr j hj (e▸h)
  ·have:=(hlt j (Or.inr (Or.inl hj))).2; omega
 have hgp:∀j,P j→j≠g:=fun j hj e=>by
  rcases hgR with h | h
  ·exact pr j hj (e▸h)
  ·have:=(hlt j (Or.inl hj)).2; omega
 obtain⟨hZ1,hZa1⟩:=snaps_append (s:=snapOfSet W k name set) (nb:=kbS k) hZ hZa (hsk.dead) ⟨hn,hs⟩ (fun h0=>⟨fun i hi h1 e=>qr _ (hqk h0) (hZr _ (Or.inr ⟨i,hi,h1,e.symm⟩)),hgq _ (hqk h0)⟩) hrow hg hr hgg hm
 have hZ2:=hZ1.turned hT2 (fun j hj e=>by
  rcases hj with⟨_,h⟩ | ⟨i,hi,h0,h⟩
  ·exact hgq b2 hb2 (by rw [←e]; exact h)
  ·by_cases e2:i=W.pn
   ·simp only [if_pos e2] at h h0
    exact hsk.apart h0 (by rw [←h]; exact e)
   ·simp only [if_neg e2] at h h0
    exact qr b2 hb2 (hZr _ (Or.inr ⟨i,by omega,h0,by rw [←e]; exact h⟩)))
 have hS2:=hS1.edit hk (s':={W.sets k with prev:=W.next,dn:=0}) (nb:=kbS k) (nv:=.slice none 0 0) hT2
  (fun j hj hne r hr u hc=>(hc.other _ (Or.inr (by omega))).other _ (Or.inr (by omega)))
  ⟨(hsk.c0.other _ (Or.inr (by omega))).other _ (Or.inr (by omega)),(hsk.c1.other _ (Or.inr (by omega))).other _ (Or.inr (by omega)),(hsk.c2.set _).other _ (Or.inr (by omega)),(hsk.c3.other _ (Or.inr (by omega))).other _ (Or.inr (by omega)),(hsk.c4.other _ (Or.inr (by omega))).other _ (Or.inr (by omega)),(hsk.c5.other _ (Or.inr (by omega))).set _,⟨Nat.zero_le _,none,0,rfl,Nat.le_refl _,fun h=>absurd h (Nat.lt_irrefl _)⟩,hsk.small,fun h=>absurd h (Nat.lt_irrefl _)⟩
 have hsz:=hg.size
 have hQ':∀j,SetsB b2 (fun j=>if j=k then kbS k else kbS j) W.sn (fun j=>if j=k then {W.sets k with prev:=W.next,dn:=0}else W.sets j) j→Q j∧(0<(W.sets k).dn→j≠kbS k):=by
  rintro j (⟨h0,rfl⟩ | ⟨i,hi,h0,rfl⟩)
  ·exact⟨hb2,fun h e=>hsk.apart h e.symm⟩
  ·by_cases e:i=k
   ·simp only [if_pos e] at h0
    exact absurd h0 (Nat.lt_irrefl _)
   ·simp only [if_neg e] at h0 ⊢
    exact⟨hSq _ (Or.inr ⟨i,hi,h0,rfl⟩),fun h e2=>hSa i k hi hk e h0 h e2⟩
 have hR':∀j,SnapsB g (fun j=>if j=W.pn then kbS k else kbZ j) (W.pn+1) (fun j=>if j=W.pn then snapOfSet W k name set else W.snaps j) j→R j∨j=g∨(0<(W.sets k).dn∧j=kbS k):=by
  rintro j (⟨h0,rfl⟩ | ⟨i,hi,h0,rfl⟩)
  ·exact Or.inr (Or.inl rfl)
  ·by_cases e:i=W.pn
   ·simp only [if_pos e] at h0 ⊢
    exact Or.inr (Or.inr ⟨h0,trivial⟩)
   ·simp only [if_neg e] at h0 ⊢
    exact Or.inl (hZr _ (Or.inr ⟨i,by omega,h0,rfl⟩))
 refine⟨P,_,_,⟨(hP.turned hT hPb).turned hT2 (fun j hj e=>pq j hj (e▸hb2)),⟨b2,_,_,hS2,?_,fun j hj=>hj⟩,⟨g,_,_,hZ2,hZa1,fun j hj=>hj⟩,?_,?_,?_⟩,?_⟩
 ·intro i j hi hj hij h1 h2
  show(if i=k then kbS k else kbS i)≠(if j=k then kbS k else kbS j)
  dsimp only [snapNewW] at h1 h2
  by_cases e1:i=k
  ·simp only [if_pos e1] at h1; exact absurd h1 (Nat.lt_irrefl _)
  ·by_cases e2:j=k
   ·simp only [if_pos e2] at h2; exact absurd h2 (Nat.lt_irrefl _)
   ·simp only [if_neg e1] at h1
    simp only [if_neg e2] at h2
    rw [if_neg e1,if_neg e2]
    exact hSa i j hi hj hij h1 h2
 ·exact fun j hj h=>pq j hj (hQ' j h).1
 ·intro j hj h
  rcases hR' j h with h | h | ⟨h0,h⟩
  ·exact pr j hj h
  ·exact hgp j hj h
  ·exact pq j hj (h▸hqk h0)
 ·intro j hj h
  obtain⟨h1,h2⟩:=hQ' j hj
  rcases hR' j h with h | h | ⟨h0,h⟩
  ·exact qr j h1 h
  ·exact hgq j h1 h
  ·exact h2 h0 h
 ·rintro j (h | h | h)
  ·have:=hlt j (Or.inl h); omega
  ·have:=hlt j (Or.inr (Or.inl (hQ' j h).1)); omega
  ·rcases hR' j h with h | h | ⟨h0,h⟩
   ·have:=hlt j (Or.inr (Or.inr h)); omega
   ·rcases hgR with h3 | h3
    ·have:=hlt g (Or.inr (Or.inr h3)); omega
    ·omega
   ·have:=hlt _ (Or.inr (Or.inl (hqk h0))); omega
end Go.Proofs.YteipkhpniokkgaaGreatDoor

namespace Go.Proofs.YteipkhpniokkgaaGreatDoor
open Go.RowKit
set_option linter.unusedVariables false
theorem wpList_append_run{P:Program}{w w1:World}{ops:Array Oper}{rest:List Oper}{o:Oper}{a:Act}{Q:Exit→Act→World→Prop}(hgd:o.guard=none)(s x:Operand)(t:TypeId)
  (ho:o.op = .call {callee:=.builtin .append,args:=#[s,x],argTypes:=#[t,t]}) (vs vx v':Value) (hs:a.eval s=vs) (hx:a.eval x=vx) (hrun:(Builtin.append_ #[t,t] o.type #[vs,vx]).run P w = .ok v' w1)
  (h:wpList P ops Q rest (a.put o.dst v') w1):wpList P ops Q (o :: rest) a w:=by
 refine wpList_plain hgd fun K hK=>?_
 unfold Oper.wp
 simp [execOp,ho,resolve,invoke,builtin,hs,hx,hrun,Result.andThen]
 exact hK _ _ h
end Go.Proofs.YteipkhpniokkgaaGreatDoor

namespace Go.Proofs.YteipkhpniokkgaaGreatDoor
open Go.RowKit
set_option linter.unusedVariables false
theorem step_append_run{P:Program}{w w1:World}{ops:Array Oper}{o:Oper}{a:Act}{K:Act→World→Prop}{Q:Exit→Act→World→Prop}{E:Prop}(hgd:o.guard=none)(s x:Operand)(t:TypeId)
  (ho:o.op = .call {callee:=.builtin .append,args:=#[s,x],argTypes:=#[t,t]}) (vs vx v':Value) (hs:a.eval s=vs) (hx:a.eval x=vx) (hrun:(Builtin.append_ #[t,t] o.type #[vs,vx]).run P w = .ok v' w1)
  (h:K (a.put o.dst v') w1):if Region.wanted o (yielded ops a.tmps)=true then Oper.wp P o a w K Q else E:=by
 have hw:Region.wanted o (yielded ops a.tmps)=true:=by simp [Region.wanted,hgd]
 rw [if_pos hw]
 unfold Oper.wp
 simp [execOp,ho,resolve,invoke,builtin,hs,hx,hrun,Result.andThen]
 exact h
theorem snapT:Tryz.prog.underlying 35=some (.slice 92):=by kernel_rfl
end Go.Proofs.YteipkhpniokkgaaGreatDoor

namespace Go.Proofs.YteipkhpniokkgaaGreatDoor
open Go.RowKit
set_option linter.unusedVariables false
theorem setCell_comm(w:World){b b':Nat}(o o':Nat)(u u':Value)(hne:b≠b'):(w.setCell ⟨b,o,none⟩ u).setCell ⟨b',o',none⟩ u'=(w.setCell ⟨b',o',none⟩ u').setCell ⟨b,o,none⟩ u:=by
 unfold World.setCell
 congr 1
 refine Array.ext_getElem? fun i=>?_
 simp only [Array.getElem?_modify]
 by_cases h1:b=i
 ·have h2:¬b'=i:=by omega
  simp [h1,h2]
 ·simp [h1]
theorem SetsOwn.nth{w:World}{bs n:Nat}{kb:Nat→Nat}{kv:Nat→Value}{v:Value}{f:Nat→SetD}(h:SetsOwn w bs kb kv v n f){k:Nat}(hk:k<n):∃off c,v = .slice (some ⟨bs,off,none⟩) n c∧SetOwn w bs (off+k*6) (kb k) (kv k) (f k):=by
 obtain⟨_,a,c,hv,_,hx⟩:=h
 obtain⟨off,ha,h⟩:=hx (by omega)
 exact⟨off,c,by rw [hv,ha],h k hk⟩
theorem snapOwn_cell{w:World}{bs o nb:Nat}{f:Nat→SnapD}{kv:Nat→Value}{i:Nat}(h:SnapOwn w bs o nb (kv i) (f i)):∀r,r<8→w.cell? ⟨bs,o+r,none⟩=some (cellSnap f kv i r)
 | 0,_=>h.c0.1
 | 1,_=>h.c1.1
 | 2,_=>h.c2.1
 | 3,_=>h.c3.1
 | 4,_=>h.c4.1
 | 5,_=>h.c5.1
 | 6,_=>h.c6.1
 | 7,_=>h.c7.1
 | n+8,h=>absurd h (by omega)
theorem ptrs_one{w:World}{b:Nat}{v:Value}{n:Nat}{fs fb:Nat→Int}(h:PtrsOwn w b v n fs fb):v.oneCell'=true:=by
 obtain⟨_,a,c,rfl,_⟩:=h
 rfl
theorem run_addSnap(w:World)(lo hi:Nat){P Q R:Nat→Prop}{v0 v1 v3:Value}{b2 off2 c2:Nat}{W:WorldD}(hin:WorldInR w P Q R v0 v1 (.slice (some ⟨b2,off2,none⟩) W.sn c2) v3 W)(hlt:∀j,P j∨Q j∨R j→lo≤j∧j<hi)(hhi:hi≤w.heap.size)(hlo:lo≤w.heap.size){k:Nat}(hk:k<W.sn)(hp:W.pn<20)(name set:ByteArray)(hn:name.size≤maxLen)(hs:set.size≤maxLen)(ty:TypeId) :
  ∃dv nb,SetOwn w b2 (off2+k*6) nb dv (W.sets k)∧lo≤b2∧b2<hi∧∃g cap w',(Builtin.append_ #[35,35] ty #[v3,.slice (some ⟨w.heap.size,0,none⟩) 1 1]).run Tryz.prog (w.alloc (.cells #[.int .i64 W.next,.string name,.string set,.int .i64 (W.sets k).prev,.int .i64 W.time,.int .i64 (W.sets k).rs,.int .i64 (W.sets k).rb,dv] 92)) = .ok (.slice (some ⟨g,0,none⟩) (W.pn+1) cap) w'∧Turned (fun j=>lo≤j∧j<hi∧j≠b2) w w'∧w.heap.size<w'.heap.size∧
   WorldOwn2 ((w'.setCell ⟨b2,off2+k*6+2,none⟩ (.int .i64 W.next)).setCell ⟨b2,off2+k*6+5,none⟩ (.slice none 0 0)) lo hi (w.heap.size+1) w'.heap.size v0 v1 (.slice (some ⟨b2,off2,none⟩) W.sn c2) (.slice (some ⟨g,0,none⟩) (W.pn+1) cap) (snapNewW W k name set):=by
 obtain⟨hP,⟨bs,kbS,kvS,hS,hSa,hSq,-,-⟩,⟨bsZ,kbZ,kvZ,hZ,hZa,hZr,hZR,-⟩,pq,pr,qr⟩:=hin
 obtain⟨off,c,hv,hsk⟩:=hS.nth hk
 simp only [Value.slice.injEq,Option.some.injEq,Addr.mk.injEq,and_true,true_and] at hv
 obtain⟨⟨rfl,rfl⟩,rfl⟩:=hv
 have hb2:Q b2:=hSq _ (Or.inl ⟨by omega,rfl⟩)
 have hb2l:=hlt b2 (Or.inr (Or.inl hb2))
 refine⟨kvS k,kbS k,hsk,hb2l.1,hb2l.2,?_⟩
 have ha:=below_alloc w (.cells #[.int .i64 W.next,.string name,.string set,.int .i64 (W.sets k).prev,.int .i64 W.time,.int .i64 (W.sets k).rs,.int .i64 (W.sets k).rb,kvS k] 92)
 have hz:(w.alloc (.cells #[.int .i64 W.next,.string name,.string set,.int .i64 (W.sets k).prev,.int .i64 W.time,.int .i64 (W.sets k).rs,.int .i64 (W.sets k).rb,kvS k] 92)).heap.size=w.heap.size+1:=World.size_alloc _ _
 have hnew:∀j u,(snapC (snapOfSet W k name set) (kvS k))[j]?=some u→(w.alloc (.cells #[.int .i64 W.next,.string name,.string set,.int .i64 (W.sets k).prev,.int .i64 W.time,.int .i64 (W.sets k).rs,.int .i64 (W.sets k).rb,kvS k] 92)).cell? ((⟨w.heap.size,0,none⟩:Addr).add j)=some u:=fun j u hj=>by
  have e:(⟨w.heap.size,0,none⟩:Addr).add j=⟨w.heap.size,j,none⟩:=by
   unfold Addr.add
   split
   ·simp_all
   ·simp
  rw [e]
  refine(World.cell?_alloc_at _ _ _ _ rfl).trans ?_
  rw [←hj]
  exact List.getElem?_toArray ..
 have hone:∀u∈snapC (snapOfSet W k name set) (kvS k),u.oneCell'=true:=fun u hu=>by
  have h1:=ptrs_one hsk.dead
  simp only [snapC,List.mem_cons,List.not_mem_nil,or_false] at hu
  rcases hu with rfl | rfl | rfl | rfl | rfl | rfl | rfl | rfl <;> first | rfl | exact h1
 obtain⟨i0,hi0,hzz⟩:=Option.map_eq_some_iff.1 infoSnapT
 simp only [Prod.mk.injEq] at hzz
 obtain⟨hzv,hsz,hby⟩:=hzz
 have hPa:=hP.below ha
 have hSA:=hS.below ha
 have hZA:=hZ.below ha
 have hob:0<W.pn→v3.ownBlock=some bsZ∧R bsZ:=fun h0=>by
  refine⟨?_,hZr _ (Or.inl ⟨h0,rfl⟩)⟩
  obtain⟨_,a,c,hv,_,hx⟩:=hZ
  obtain⟨off,ha,_⟩:=hx h0
  rw [hv,ha]; rfl
 generalize w.alloc (.cells #[.int .i64 W.next,.string name,.string set,.int .i64 (W.sets k).prev,.int .i64 W.time,.int .i64 (W.sets k).rs,.int .i64 (W.sets k).rb,kvS k] 92)=wa at ha hz hnew hPa hSA hZA ⊢
 obtain⟨g,cap,w',row,hr,hrow,hg,hrr,hgg,hgz⟩:=RowB.append (P:=Tryz.prog) 35 ty 92 i0 _ 8 96 lo snapT hi0 hzv hsz hby rfl (by decide) (hZR.below ha) (clSnap_len W.snaps kvZ W.pn)
  (fun h0 g hgb=>by
   obtain⟨h1,h2⟩:=hob h0
   rw [h1] at hgb; injection hgb with hgb
   exact hgb▸(hlt _ (Or.inr (Or.inr h2))).1)
  (fun h0 g hgb j u hj=>by
   have hjl:j<W.pn*8:=by
    have:=(List.getElem?_eq_some_iff.1 hj).1
    rwa [clSnap_len] at this
   obtain⟨_,a,c,hv,_,hx⟩:=hZA
   obtain⟨off,ha',hall⟩:=hx h0
   rcases hZR with⟨e,_⟩ | ⟨_,g',cap',cur,hv',_⟩
   ·omega
   ·rw [hv,ha'] at hv'
    simp only [Value.slice.injEq,Option.some.injEq,Addr.mk.injEq,and_true,true_and] at hv'
    obtain⟨⟨rfl,rfl⟩,rfl⟩:=hv'
    rw [hv,ha'] at hgb
    obtain rfl:bsZ=g:=by injection hgb
    have hd:j / 8<W.pn:=by omega
    have h8:=snapOwn_cell (hall (j / 8) hd) (j % 8) (by omega)
    have e1:0+j / 8*8+j % 8=j:=by omega
    have e2:=clSnap_at W.snaps kvZ W.pn hd (show j % 8<8 by omega)
    rw [show j / 8*8+j % 8=j by omega,hj] at e2
    rw [e1] at h8
    rw [h8,e2])
  ⟨w.heap.size,0,none⟩ 1 1 (snapC (snapOfSet W k name set) (kvS k)) rfl hnew hone (by omega) (by unfold maxLen; omega) (by omega) (by omega)
 refine⟨g,cap,w',hr,?_,by have:=hg.size; omega,?_⟩
 ·refine(Turned.of_below ha).trans ((turned_grown hg).mono ?_)
  intro j hj
  rcases hrr with h | ⟨h0,h⟩
  ·rw [h] at hj; cases hj
  ·obtain⟨h1,h2⟩:=hob h0
   rw [h,h1] at hj; injection hj with hj
   subst hj
   exact⟨(hlt _ (Or.inr (Or.inr h2))).1,(hlt _ (Or.inr (Or.inr h2))).2,fun e=>qr b2 hb2 (e▸h2)⟩
 ·rw [←hz]
  exact snapNew_own (dv:=kvS k) hPa hSA hSa hSq hZA hZa hZr pq pr qr hlt (by omega) hk (by unfold maxLen; omega) hn hs hrow hg hrr hgg (by omega) hgz
end Go.Proofs.YteipkhpniokkgaaGreatDoor

namespace Go.Proofs.YteipkhpniokkgaaGreatDoor
open Go.RowKit
set_option linter.unusedVariables false
structure Kept (p:Prop):Prop where
 out:p
theorem join_one{A B:Prop}(f:Kept A→B)(h:A):B:=f ⟨h⟩
set_option maxRecDepth 20000 in
set_option maxHeartbeats 2000000 in
theorem addSnap_any(p:Nat→Addr)(C k:Nat)(z0 z1 z2 z3:Value)(W:WorldD)(set name:ByteArray)(w:World)(h8:W.sn≤8)(ht0:0≤W.time)(hn0:0≤W.next)(hroom:RoomSnap W)(hk:k<W.sn)(hname:(W.sets k).name=set)(hfirst:∀j,j<k→(W.sets j).name≠set)(hs1:set.size≤maxLen)(hs2:name.size≤maxLen)(hlt:C<w.heap.size)
  (ho:WorldOwnR w (C+1) w.heap.size z0 z1 z2 z3 W) (hC:Box9 w C z0 z1 (.int .i64 W.time) (.int .i64 W.next) z2 z3 (.int .i64 0) (.int .i64 0) .nilIface) :
  Calls Tryz.prog 49 #[.pointer (some ⟨C,0,none⟩),.string set,.string name] w (DoneI p ⟨snapNewW W k name set,W.next,0,0⟩ C w):=by
 have Ho:=hideW ho
 have HC:=hideW hC
 have Hn:=hideW hname
 have Hf:=hideW hfirst
 obtain⟨l0,lc0,l1,lc1,l2,lc2,l3,lc3,rfl,rfl,rfl,rfl⟩:=ho.form
 obtain⟨b2,off2,vd,rfl,-⟩:=ho.own.at.sets.cells hk
 obtain⟨r1,r2,r3⟩:=hroom
 have Hh1:=hideW hs1
 have Hh2:=hideW hs2
 clear ho hC hname hfirst hs1 hs2
 have hw1:IntKind.i64.wrap (W.time+1)=W.time+1:=wrap_small (by omega) (by omega)
 have hw2:IntKind.i64.wrap (W.next+1)=W.next+1:=wrap_small (by omega) (by omega)
 obtain⟨-,-,-,⟨c3,-⟩,⟨c4,-⟩,-,-,-,-⟩:=HC.out
 have IX:=hideW (show ∀w',Below w.heap.size w w'→Calls Tryz.prog 97 #[.pointer (some ⟨C,0,none⟩),.string set] w' fun e w''=>e = .returned (.pointer (some ⟨b2,off2+k*6,none⟩))∧Below w'.heap.size w' w'' from fun w' hb'=>by
  refine(chSet_any C (C+1) w.heap.size W.sn k lc2 _ W.sets set w' ((hb'.cell (lt_of_cell c4)).trans c4) (Ho.out.own.at.sets.below hb') h8 hk Hn.out Hf.out).mono ?_
  rintro e w2 ⟨⟨b,off,e1,rfl⟩,hb2⟩
  simp only [Option.some.injEq,Addr.mk.injEq,and_true] at e1
  obtain⟨rfl,rfl⟩:=e1
  exact⟨rfl,hb2⟩)
 clear c4
 go_enter Tryz.func49,Tryz.ntmps49
 go_wp2_with fail
 go_region_held3 (fun w'=>w'.cell? ⟨C,3,none⟩=some (.int .i64 W.next)) (go_keep)
  (first | (go_at_call 97; refine(IX.out _ (Below.refl _ _).drew).mono ?_; rintro e w2 ⟨rfl,hb2⟩; have hb2':=below_undrew hb2; have hc3':=(hb2'.cell (lt_of_cell c3)).trans c3))
 go_wp2_with fail
 have Ho2:=hideW (Ho.out.below hb2')
 have HC2:=hideW (HC.out.below hb2')
 have hz2:=hb2'.size
 clear c3 hc3' hb2 IX Ho HC
 obtain⟨⟨x2,-⟩,⟨x5,-⟩⟩:=(⟨HC2.out.2.2.1,HC2.out.2.2.2.2.2.1⟩:Cell w2 C 2 _∧Cell w2 C 5 _)
 obtain⟨P,Q,R,hin,hltS⟩:=Ho2.out
 have hb0:Below w2.heap.size w2 w2.drew:=(Below.refl _ _).drew
 obtain⟨dv,nb,hsk,hlb,hub,g,cap,w5,hr5,hT5,hsz5,hO5⟩:=run_addSnap w2.drew (C+1) w2.heap.size (hin.below hb0) (fun j hj=>by have:=hltS j hj; omega) (Nat.le_refl _) (by show C+1≤w2.heap.size; omega) hk r1 name set Hh2.out Hh1.out 35
 obtain⟨da,dc,rfl⟩:∃a c,dv = .slice a (W.sets k).dn c:=by obtain⟨_,a,c,h,_⟩:=hsk.dead; exact⟨a,c,h⟩
 have hub':b2<w2.heap.size:=hub
 have hne1:C≠b2:=by omega
 have hne2:b2≠C:=by omega
 have HKP:=hideW (show ∀w',Below w2.drew.heap.size w2.drew w'→(fun w':World=>w'.cell? ⟨C,2,none⟩=some (.int .i64 W.time)∧w'.cell? ⟨b2,off2+k*6+2,none⟩=some (.int .i64 (W.sets k).prev)∧w'.cell? ⟨b2,off2+k*6+3,none⟩=some (.int .i64 (W.sets k).rs)∧w'.cell? ⟨b2,off2+k*6+4,none⟩=some (.int .i64 (W.sets k).rb)∧w'.cell? ⟨b2,off2+k*6+5,none⟩=some (.slice da (W.sets k).dn dc)) w' from fun w' hb=>⟨(hb.cell (p:=⟨C,2,none⟩) (lt_of_cell x2)).trans x2,(hsk.c2.below hb).1,(hsk.c3.below hb).1,(hsk.c4.below hb).1,(hsk.c5.below hb).1⟩)
 have hC5:=(HC2.out.below hb0).turned hT5 (fun h=>by omega)
 have hs5:∀{o v},Cell w2.drew b2 o v→Cell w5 b2 o v:=fun h=>h.turned hT5 (fun h=>h.2.2 rfl)
 have HK5:=hideW (show(fun w':World=>w'.cell? ⟨C,2,none⟩=some (.int .i64 W.time)∧w'.cell? ⟨b2,off2+k*6+2,none⟩=some (.int .i64 (W.sets k).prev)∧w'.cell? ⟨b2,off2+k*6+3,none⟩=some (.int .i64 (W.sets k).rs)∧w'.cell? ⟨b2,off2+k*6+4,none⟩=some (.int .i64 (W.sets k).rb)∧w'.cell? ⟨b2,off2+k*6+5,none⟩=some (.slice da (W.sets k).dn dc)) w5 from⟨hC5.2.2.1.1,(hs5 hsk.c2).1,(hs5 hsk.c3).1,(hs5 hsk.c4).1,(hs5 hsk.c5).1⟩)
 have HK6:=hideW (show(fun w':World=>w'.cell? ⟨C,2,none⟩=some (.int .i64 W.time)∧w'.cell? ⟨b2,off2+k*6+2,none⟩=some (.int .i64 (W.sets k).prev)∧w'.cell? ⟨b2,off2+k*6+3,none⟩=some (.int .i64 (W.sets k).rs)∧w'.cell? ⟨b2,off2+k*6+4,none⟩=some (.int .i64 (W.sets k).rb)∧w'.cell? ⟨b2,off2+k*6+5,none⟩=some (.slice da (W.sets k).dn dc)) (w5.setCell ⟨C,5,none⟩ (.slice (some ⟨g,0,none⟩) (W.pn+1) cap))from⟨(hC5.2.2.1.other _ (Or.inr (by decide))).1,((hs5 hsk.c2).other _ (Or.inl hne1)).1,((hs5 hsk.c3).other _ (Or.inl hne1)).1,((hs5 hsk.c4).other _ (Or.inl hne1)).1,((hs5 hsk.c5).other _ (Or.inl hne1)).1⟩)
 have HC5:=hideW hC5
 have HSK5:=hideW (hs5 hsk.c2)
 have HSK6:=hideW (hs5 hsk.c5)
 have HO5:=hideW (hO5.own (show C+1≤w2.heap.size+1 by omega) (show w2.heap.size≤w5.heap.size from hT5.size))
 have HT5:=hideW (show Turned (fun j=>C+1≤j∧j<w2.heap.size∧j≠b2) w2 w5 from⟨hT5.os,hT5.tape,hT5.output,hT5.size,hT5.block⟩)
 have HR:=hideW hr5
 have HBA:=hideW (below_alloc w2.drew (.cells #[.int .i64 W.next,.string name,.string set,.int .i64 (W.sets k).prev,.int .i64 W.time,.int .i64 (W.sets k).rs,.int .i64 (W.sets k).rb,.slice da (W.sets k).dn dc] 92))
 have x5':w2.drew.cell? ⟨C,5,none⟩=some (.slice l3 W.pn lc3):=x5
 have X5:=hideW ((HBA.out.cell (lt_of_cell x5')).trans x5')
 obtain⟨y5,g5⟩:=hC5.2.2.2.2.2.1
 clear hr5 hO5 hT5 hsk hin hltS hub hC5 hs5 x2 x5
 refine wp_region_held_drew (S:=(fun w':World=>w'.cell? ⟨C,2,none⟩=some (.int .i64 W.time)∧w'.cell? ⟨b2,off2+k*6+2,none⟩=some (.int .i64 (W.sets k).prev)∧w'.cell? ⟨b2,off2+k*6+3,none⟩=some (.int .i64 (W.sets k).rs)∧w'.cell? ⟨b2,off2+k*6+4,none⟩=some (.int .i64 (W.sets k).rb)∧w'.cell? ⟨b2,off2+k*6+5,none⟩=some (.slice da (W.sets k).dn dc))) (by kernel_rfl) (HKP.out _ (Below.refl _ _)) (fun hHeld=>?_)
 generalize w2.drew=q0 at hHeld HKP HR HBA x5' X5 hb0 ⊢
 refine' join_one (fun hfin=>_) _
 rotate_left
 ·skip
  refine tk 0 (h:=tk 1 (h:=tk 2 (h:=tk 3 (h:=tk 4 (h:=tk 6 (h:=tk 7 (h:=tk 8 (h:=tk 9 (h:=tk 10 (h:=tk 11 (h:=tk 12 (h:=tk 13 (h:=tk 14 (h:=tk 15 (h:=tk 16 (h:=tk 17 (h:=tk 18 (h:=tk 19 (h:=tk 20 (h:=tk 21 (h:=tk 22 (h:=tk 23 (h:=tk 24 (h:=tk 25 (h:=tk 26 (h:=?_))))))))))))))))))))))))))
  refine rd [5,27] (rc (fun K hK=>?_) (rc (fun K hK=>?_) .nil))
  ·go_simp
   (try go_wp2_with fail)
   refine hK.out _ _ (HKP.out _ (Below.refl _ _)) ?_
   clear hK K
   intro hHeld
   try simp only [Act.put,s1,s2,s3]
   refine rd [27] (rc (fun K hK=>?_) .nil)
   go_simp
   (try go_wp2_with fail)
   refine hK.out _ _ (HKP.out _ HBA.out) ?_
   clear hK K
   intro hHeld
   try simp only [Act.put,s1,s2,s3]
   refine rd [28] (rc (fun K hK=>?_) .nil)
   refine step_append_run rfl (.tmp 21) (.tmp 43) 35 rfl _ _ _ rfl rfl HR.out ?_
   (try go_wp2_with fail)
   refine hK.out _ _ (HK5.out) ?_
   clear hK K
   intro hHeld
   try simp only [Act.put,s1,s2,s3]
   refine tk 29 (h:=tk 30 (h:=tk 31 (h:=?_)))
   refine rd [32] (rc (fun K hK=>?_) .nil)
   go_simp
   (try go_wp2_with fail)
   refine hK.out _ _ (HK6.out) ?_
   clear hK K
   intro hHeld
   try simp only [Act.put,s1,s2,s3]
   refine wpAnyH_done (by kernel_rfl) ?_ _
   exact hfin.out
  ·go_simp
   (try go_wp2_with fail)
   refine hK.out _ _ (HKP.out _ HBA.out) ?_
   clear hK K
   intro hHeld
   try simp only [Act.put,s1,s2,s3]
   refine rd [5] (rc (fun K hK=>?_) .nil)
   have x5a:=X5.out
   go_simp
   (try go_wp2_with fail)
   refine hK.out _ _ (HKP.out _ HBA.out) ?_
   clear hK K
   intro hHeld
   try simp only [Act.put,s1,s2,s3]
   clear x5a
   refine rd [28] (rc (fun K hK=>?_) .nil)
   refine step_append_run rfl (.tmp 21) (.tmp 43) 35 rfl _ _ _ rfl rfl HR.out ?_
   (try go_wp2_with fail)
   refine hK.out _ _ (HK5.out) ?_
   clear hK K
   intro hHeld
   try simp only [Act.put,s1,s2,s3]
   refine tk 29 (h:=tk 30 (h:=tk 31 (h:=?_)))
   refine rd [32] (rc (fun K hK=>?_) .nil)
   go_simp
   (try go_wp2_with fail)
   refine hK.out _ _ (HK6.out) ?_
   clear hK K
   intro hHeld
   try simp only [Act.put,s1,s2,s3]
   refine wpAnyH_done (by kernel_rfl) ?_ _
   exact hfin.out
 obtain⟨-,-,⟨y2,g2⟩,⟨y3,g3⟩,-,-,⟨y6,g6⟩,-,-⟩:=HC5.out
 obtain⟨t2,t2'⟩:=HSK5.out
 obtain⟨t5,t5'⟩:=HSK6.out
 go_wp2_with fail
 have hC5:=HC5.out
 have hfinC:Box9 ((((((w5.setCell ⟨C,5,none⟩ (.slice (some ⟨g,0,none⟩) (W.pn+1) cap)).setCell ⟨b2,off2+k*6+2,none⟩ (.int .i64 W.next)).setCell ⟨b2,off2+k*6+5,none⟩ (.slice none 0 0)).setCell ⟨C,6,none⟩ (.int .i64 W.next)).setCell ⟨C,2,none⟩ (.int .i64 (W.time+1))).setCell ⟨C,3,none⟩ (.int .i64 (W.next+1))) C (.slice l0 W.pool.n lc0) (.slice l1 W.pool.hn lc1) (.int .i64 (W.time+1)) (.int .i64 (W.next+1)) (.slice (some ⟨b2,off2,none⟩) W.sn lc2) (.slice (some ⟨g,0,none⟩) (W.pn+1) cap) (.int .i64 W.next) (.int .i64 0) .nilIface:=⟨((((((hC5.1.other _ (Or.inr (by decide))).other _ (Or.inl hne2)).other _ (Or.inl hne2)).other _ (Or.inr (by decide))).other _ (Or.inr (by decide))).other _ (Or.inr (by decide))),((((((hC5.2.1.other _ (Or.inr (by decide))).other _ (Or.inl hne2)).other _ (Or.inl hne2)).other _ (Or.inr (by decide))).other _ (Or.inr (by decide))).other _ (Or.inr (by decide))),((((((hC5.2.2.1.other _ (Or.inr (by decide))).other _ (Or.inl hne2)).other _ (Or.inl hne2)).other _ (Or.inr (by decide))).set _).other _ (Or.inr (by decide))),((((((hC5.2.2.2.1.other _ (Or.inr (by decide))).other _ (Or.inl hne2)).other _ (Or.inl hne2)).other _ (Or.inr (by decide))).other _ (Or.inr (by decide))).set _),((((((hC5.2.2.2.2.1.other _ (Or.inr (by decide))).other _ (Or.inl hne2)).other _ (Or.inl hne2)).other _ (Or.inr (by decide))).other _ (Or.inr (by decide))).other _ (Or.inr (by decide))),((((((hC5.2.2.2.2.2.1.set _).other _ (Or.inl hne2)).other _ (Or.inl hne2)).other _ (Or.inr (by decide))).other _ (Or.inr (by decide))).other _ (Or.inr (by decide))),((((((hC5.2.2.2.2.2.2.1.other _ (Or.inr (by decide))).other _ (Or.inl hne2)).other _ (Or.inl hne2)).set _).other _ (Or.inr (by decide))).other _ (Or.inr (by decide))),((((((hC5.2.2.2.2.2.2.2.1.other _ (Or.inr (by decide))).other _ (Or.inl hne2)).other _ (Or.inl hne2)).other _ (Or.inr (by decide))).other _ (Or.inr (by decide))).other _ (Or.inr (by decide))),((((((hC5.2.2.2.2.2.2.2.2.other _ (Or.inr (by decide))).other _ (Or.inl hne2)).other _ (Or.inl hne2)).other _ (Or.inr (by decide))).other _ (Or.inr (by decide))).other _ (Or.inr (by decide)))⟩
 have hO6:WorldOwn ((((((w5.setCell ⟨C,5,none⟩ (.slice (some ⟨g,0,none⟩) (W.pn+1) cap)).setCell ⟨b2,off2+k*6+2,none⟩ (.int .i64 W.next)).setCell ⟨b2,off2+k*6+5,none⟩ (.slice none 0 0)).setCell ⟨C,6,none⟩ (.int .i64 W.next)).setCell ⟨C,2,none⟩ (.int .i64 (W.time+1))).setCell ⟨C,3,none⟩ (.int .i64 (W.next+1))) (C+1) w5.heap.size (.slice l0 W.pool.n lc0) (.slice l1 W.pool.hn lc1) (.slice (some ⟨b2,off2,none⟩) W.sn lc2) (.slice (some ⟨g,0,none⟩) (W.pn+1) cap) (snapNewW W k name set):=by
  rw [setCell_comm w5 5 (off2+k*6+2) _ _ hne1,setCell_comm _ 5 (off2+k*6+5) _ _ hne1]
  exact HO5.out.turned ((((Turned.put _ C 5 _).trans (Turned.put _ C 6 _)).trans (Turned.put _ C 2 _)).trans (Turned.put _ C 3 _)) (fun j e=>by omega)
 have hT6:Turned (fun j=>C≤j) w5 ((((((w5.setCell ⟨C,5,none⟩ (.slice (some ⟨g,0,none⟩) (W.pn+1) cap)).setCell ⟨b2,off2+k*6+2,none⟩ (.int .i64 W.next)).setCell ⟨b2,off2+k*6+5,none⟩ (.slice none 0 0)).setCell ⟨C,6,none⟩ (.int .i64 W.next)).setCell ⟨C,2,none⟩ (.int .i64 (W.time+1))).setCell ⟨C,3,none⟩ (.int .i64 (W.next+1))):=(((((Turned.put _ C 5 _).mono (fun j e=>by omega)).trans ((Turned.put _ b2 _ _).mono (fun j e=>by omega))).trans ((Turned.put _ b2 _ _).mono (fun j e=>by omega))).trans ((Turned.put _ C 6 _).mono (fun j e=>by omega))).trans (((Turned.put _ C 2 _).mono (fun j e=>by omega)).trans ((Turned.put _ C 3 _).mono (fun j e=>by omega)))
 have hz5:=HT5.out.size
 have hz6:=hT6.size
 go_end0
 refine⟨⟨_,rfl⟩,?_,by omega,Or.inl ⟨rfl,_,_,_,_,hfinC,hO6.wide (Nat.le_refl _) hz6⟩⟩
 exact(hb2'.mono (by omega)).trans ((HT5.out.below (B:=C) (by omega) (fun j h=>by omega)).trans (hT6.below (B:=C) (by omega) (fun j h=>h)))
set_option maxRecDepth 20000 in
set_option maxHeartbeats 2000000 in
theorem snapNewDo_any(p:Nat→Addr)(C k B0 B1:Nat)(z0 z1 z2 z3:Value)(W:WorldD)(set name:ByteArray)(w:World)(h8:W.sn≤8)(ht0:0≤W.time)(hn0:0≤W.next)(hroom:RoomSnap W)(hk:k<W.sn)(hname:(W.sets k).name=set)(hfirst:∀j,j<k→(W.sets j).name≠set)(hs1:set.size≤maxLen)(hs2:name.size≤maxLen)(hlt:C<w.heap.size)
  (k0:w.cell? ⟨B0,0,none⟩=some (.string set)) (k1:w.cell? ⟨B1,0,none⟩=some (.string name)) (ho:WorldOwnR w (C+1) w.heap.size z0 z1 z2 z3 W) (hC:Box9 w C z0 z1 (.int .i64 W.time) (.int .i64 W.next) z2 z3 (.int .i64 0) (.int .i64 0) .nilIface) :
  Calls Tryz.prog 48 #[.pointer (some ⟨C,0,none⟩),.pointer (some ⟨B0,0,none⟩),.pointer (some ⟨B1,0,none⟩)] w (DoneI p ⟨snapNewW W k name set,W.next,0,0⟩ C w):=by
 have H:=hideW (addSnap_any p C k z0 z1 z2 z3 W set name w h8 ht0 hn0 hroom hk hname hfirst hs1 hs2 hlt ho hC)
 clear ho hC hname hfirst hroom
 go_enter Tryz.func48,Tryz.ntmps48
 go_wp2_with fail
 refine H.out.mono ?_
 rintro e w' ⟨⟨v,rfl⟩,hr⟩
 have Hr:=hideW hr
 clear hr
 go_wp2_with fail
 go_end0
 refine⟨⟨_,rfl⟩,?_⟩
 obtain⟨h1,h2,h3⟩:=Hr.out
 refine⟨h1,h2,?_⟩
 rcases h3 with⟨-,h⟩ | h
 ·exact Or.inl ⟨rfl,h⟩
 ·exact Or.inr h
end Go.Proofs.YteipkhpniokkgaaGreatDoor

namespace Go.Proofs.YteipkhpniokkgaaGreatDoor
open Go.RowKit
set_option linter.unusedVariables false
theorem setNo_has{W:WorldD}{x:ByteArray}(h:HasSet W x):∃k,SetNo W x k:=by
 obtain⟨k,hk,hn⟩:=h
 induction k using Nat.strongRecOn with
 | _ k ih=>
  by_cases e:∃j,j<k∧(W.sets j).name=x
  ·obtain⟨j,hj,hx⟩:=e
   exact ih j hj (by omega) hx
  ·exact⟨k,hk,hn,fun j hj hx=>e ⟨j,hj,hx⟩⟩
theorem RefI.all{W:WorldD}{a b:Prop}{m:Nat}{Q:Nat→Prop}{ei:Nat→Nat}(h:RefI W a b m Q ei none):∀j,j<m→Q j:=by
 rcases h with⟨_,e⟩ | ⟨_,_,e⟩ | ⟨_,_,_,k,hk,_,_,e⟩ | ⟨_,_,_,h4,_⟩
 ·cases e
 ·cases e
 ·cases e
 ·exact h4
set_option maxRecDepth 20000 in
set_option maxHeartbeats 400000 in
theorem implSnapNew_any(p:Nat→Addr)(v0 v1 v2 v3:Value)(lo hi:Nat)(W:WorldD)(set:ByteArray)(name:ByteArray)(w:World)(hE:Errs w p)(h:WorldAt w lo hi v0 v1 v2 v3 W)(hwf:PrevsWf W)(b1:poolN W.pool≤1048576)(b2:W.sn≤1048576)(b3:W.pn≤1048576)(b4:DeadsN W)(hset:set.size≤maxLen)(hname:name.size≤maxLen) :
  Calls Tryz.prog 16 #[worldV v0 v1 v2 v3 W,.string set,.string name] w fun e w'=>∃r o,RefI W (∃i,i<2∧8000<((fun i=>match i with | 0=>set | _=>name) i).size) (∃i,i<1∧¬NameP ((fun i=>match i with  | _=>name) i)) 3 (fun i=>match i with | 0=>HasSet W set | 1=>¬∃i,i<W.pn∧(W.snaps i).set=set∧(W.snaps i).name=name | _=>RoomSnap W) (fun i=>match i with | 0=>2 | 1=>3 | _=>4) r∧(r=none→∃k,SetNo W set k∧o=⟨snapNewW W k name set,W.next,0,0⟩)∧NewWOut (outW r o) w e w':=by
 by_cases hs:HasSet W set
 ·obtain⟨k,hk⟩:=setNo_has hs
  refine(implSnapNew_of p v0 v1 v2 v3 lo hi W set name ⟨snapNewW W k name set,W.next,0,0⟩ w hE h hwf b1 b2 b3 b4 hset hname ?_).mono ?_
  ·intro B0 B1 C w' z0 z1 z2 z3 k0 _ k1 _ hI _ _ hq hlt hb ho hC
   have ht:=hI.names.time
   have hn:=hI.names.next
   exact snapNewDo_any p C k B0 B1 z0 z1 z2 z3 W set name w' hI.names.sets.1 (by have:=ht.1; omega) (by have:=hn.1; omega) (hq 2 (by omega)) hk.1 hk.2.1 hk.2.2 hset hname hlt k0 k1 ho hC
  ·rintro e w' ⟨r,h1,h2⟩
   exact⟨r,_,h1,fun _=>⟨k,hk,rfl⟩,h2⟩
 ·refine(implSnapNew_of p v0 v1 v2 v3 lo hi W set name (refuseW 0) w hE h hwf b1 b2 b3 b4 hset hname ?_).mono ?_
  ·intro B0 B1 C w' z0 z1 z2 z3 k0 _ k1 _ hI _ _ hq hlt hb ho hC
   exact absurd (hq 0 (by omega)) hs
  ·rintro e w' ⟨r,h1,h2⟩
   exact⟨r,_,h1,fun e=>absurd ((e▸h1).all 0 (by omega)) hs,h2⟩
set_option maxRecDepth 20000 in
set_option maxHeartbeats 1000000 in
theorem l05Named_any(v0 v1 v2 v3:Value)(lo hi:Nat)(W:WorldD)(set name:ByteArray)(w:World)(h:WorldAt w lo hi v0 v1 v2 v3 W) :
  Calls Tryz.prog 44 #[worldV v0 v1 v2 v3 W,.string set,.string name] w fun e w'=>BoolIs (∃i,i<W.pn∧(W.snaps i).set=set∧(W.snaps i).name=name) e∧Below w.heap.size w w':=by
 have Hp:=hideW h.snaps
 obtain⟨m1,a,c,rfl,mc,_⟩:=id h.snaps
 unfold maxLen at m1
 clear h
 have ha:=below_alloc w (.cells #[v0,v1,.int .i64 W.time,.int .i64 W.next,v2,.slice a W.pn c] 37)
 have HB:=hideW (Box6.new w v0 v1 (.int .i64 W.time) (.int .i64 W.next) v2 (.slice a W.pn c) 37)
 go_enter Tryz.func44,Tryz.ntmps44
 go_wp2
 go_loopw [7] (fun i wr=>∃k:Nat,k≤W.pn∧i = .int .i64 k∧(∀j,j<k→¬((W.snaps j).set=set∧(W.snaps j).name=name))∧Box6 wr w.heap.size v0 v1 (.int .i64 W.time) (.int .i64 W.next) v2 (.slice a W.pn c)∧Below w.heap.size w wr) (fun i _=>W.pn - (intOf i).toNat)
 case atStart=>exact⟨0,Nat.zero_le _,rfl,fun j hj=>absurd hj (Nat.not_lt_zero _),HB.out,ha⟩
 case round=>
  obtain⟨k,hk,rfl,hno,hX,hb⟩:=hrel
  have Hno:=hideW hno
  have HX:=hideW hX
  clear hno hX
  obtain⟨⟨x0,x1⟩,⟨x2,x3⟩,⟨x4,x5⟩,⟨x6,x7⟩,⟨x8,x9⟩,⟨x10,x11⟩⟩:=HX.out
  by_cases hlt:k<W.pn
  ·have hlt':(k:Int)<(W.pn:Int):=by omega
   obtain⟨b,off,vd,rfl,hs⟩:=(Hp.out.below hb).cells hlt
   have q1:=hs.c1
   have q2:=hs.c2
   clear hs
   by_cases he:(W.snaps k).set=set
   ·have H:=hideW he
    rw [he] at q2
    clear he
    by_cases he:(W.snaps k).name=name
    ·have H2:=hideW he
     rw [he] at q1
     clear he
     go_wp2
     go_ret
     exact⟨BoolIs.yes ⟨k,hlt,H.out,H2.out⟩,hb⟩
    ·have H2:=hideW he
     have e0:((W.snaps k).name.toList == name.toList)=false:=str_ne he
     clear he
     go_wp2
     go_roundw
     case rel=>
      refine⟨k+1,by omega,by go_num,?_,HX.out,hb⟩
      intro j hj
      by_cases e:j=k
      ·subst e; exact fun h=>H2.out h.2
      ·exact Hno.out j (by omega)
     case measure=>simp [intOf]; omega
   ·have H:=hideW he
    have e0:((W.snaps k).set.toList == set.toList)=false:=str_ne he
    clear he
    go_wp2
    go_roundw
    case rel=>
     refine⟨k+1,by omega,by go_num,?_,HX.out,hb⟩
     intro j hj
     by_cases e:j=k
     ·subst e; exact fun h=>H.out h.1
     ·exact Hno.out j (by omega)
    case measure=>simp [intOf]; omega
  ·obtain rfl:k=W.pn:=by omega
   go_wp2
   go_ret
   exact⟨BoolIs.no (fun ⟨i,hi,h⟩=>Hno.out i hi h),hb⟩
set_option maxRecDepth 20000 in
set_option maxHeartbeats 1000000 in
theorem l05Ill_any(c:Int)(w:World):Calls Tryz.prog 22 #[.int .i64 c] w fun e w'=>e = .returned (.agg #[.slice none 0 0,.slice none 0 0,.int .i64 0,.int .i64 0,.slice none 0 0,.slice none 0 0,.int .i64 0,.int .i64 0,.int .i64 c])∧Below w.heap.size w w':=by
 have ha:=below_alloc w (.cells #[.slice none 0 0,.slice none 0 0,.int .i64 0,.int .i64 0,.slice none 0 0,.slice none 0 0,.int .i64 0,.int .i64 0,.int .i64 c] 39)
 have HRz:=Box9.new w (.slice none 0 0) (.slice none 0 0) (.int .i64 0) (.int .i64 0) (.slice none 0 0) (.slice none 0 0) (.int .i64 0) (.int .i64 0) (.int .i64 c) 39
 go_enter Tryz.func22,Tryz.ntmps22
 go_wp2_with fail
 refine bodyPost_ret (v:=.agg #[.slice none 0 0,.slice none 0 0,.int .i64 0,.int .i64 0,.slice none 0 0,.slice none 0 0,.int .i64 0,.int .i64 0,.int .i64 c]) (by simp [results,Tryz.results22,go_sem,HRz.1.1,HRz.2.1.1,HRz.2.2.1.1,HRz.2.2.2.1.1,HRz.2.2.2.2.1.1,HRz.2.2.2.2.2.1.1,HRz.2.2.2.2.2.2.1.1,HRz.2.2.2.2.2.2.2.1.1,HRz.2.2.2.2.2.2.2.2.1]) rfl ?_
 exact⟨rfl,ha⟩
end Go.Proofs.YteipkhpniokkgaaGreatDoor
