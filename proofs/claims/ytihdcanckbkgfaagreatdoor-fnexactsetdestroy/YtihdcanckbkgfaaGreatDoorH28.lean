/- A set is taken out of a change: (*impl.change).dropSet, and the deed of impl.SetDestroy. -/
import Derived.Test.YtihdcanckbkgfaaGreatDoorH24
import Derived.Test.YtihdcanckbkgfaaGreatDoorH26
import Derived.Test.YtihdcanckbkgfaaGreatDoorH23
import Derived.Test.YtihdcanckbkgfaaGreatDoorH16
import Derived.Test.YtihdcanckbkgfaaGreatDoorH27
import Derived.Test.YtihdcanckbkgfaaGreatDoorH17
import Derived.Test.YtihdcanckbkgfaaGreatDoorH2
import Derived.Test.YtihdcanckbkgfaaGreatDoorH11
import Derived.Test.YtihdcanckbkgfaaGreatDoorH9
import Derived.Test.YtihdcanckbkgfaaGreatDoorH3
import Derived.Test.YtihdcanckbkgfaaGreatDoorH18
import Derived.Test.YtihdcanckbkgfaaGreatDoorProg
import GoSem.ClaimJoined
import GoSem.ClaimMapViews
import Derived.JoinedTies
import Derived.KernelRfl
import Derived.RowKit
import Derived.Test.YtihdcanckbkgfaaGreatDoorH1
import Derived.Deep.RegionHeld3
import Derived.Deep.QuietTactic
import Derived.BigQuiet
namespace Go.Proofs.YtihdcanckbkgfaaGreatDoor
open Go.RowKit
set_option linter.unusedVariables false
theorem del_lo{α : Type}{f:Nat→α}{k i:Nat}(h:i<k):del f k i=f i:=if_pos h
theorem del_hi{α : Type}{f:Nat→α}{k i:Nat}(h:¬i<k):del f k i=f (i+1):=if_neg h
theorem sets_del{w w':World}{bs off c n k:Nat}{kb:Nat→Nat}{kv:Nat→Value}{f:Nat→SetD}{S:Nat→Prop}(ho:SetsOwn w bs kb kv (.slice (some ⟨bs,off,none⟩) n c) n f)(hap:SetsApart kb n f)(hk:k<n)(ht:Turned S w w')(hS:∀i,i<n→0<(f i).dn→¬S (kb i))
  (hc:∀i,i<n - 1→∀r,r<6→Cell w' bs (off+i*6+r) (cellSet (del f k) (del kv k) i r)) :
  SetsOwn w' bs (del kb k) (del kv k) (.slice (some ⟨bs,off,none⟩) (n - 1) c) (n - 1) (del f k)∧SetsApart (del kb k) (n - 1) (del f k)∧∀j,SetsB bs (del kb k) (n - 1) (del f k) j→SetsB bs kb n f j:=by
 have hel:∀i,i<n→SetOwn w bs (off+i*6) (kb i) (kv i) (f i):=fun i hi=>by
  obtain⟨off',c',ev,h⟩:=ho.nth hi
  simp only [Value.slice.injEq,Option.some.injEq,Addr.mk.injEq,and_true,true_and] at ev
  obtain⟨rfl,rfl⟩:=ev
  exact h
 obtain⟨hm,a,cc,hv,hcc,-⟩:=ho
 simp only [Value.slice.injEq,true_and] at hv
 obtain⟨rfl,rfl⟩:=hv
 have key:∀i,i<n - 1→∃i',i'<n∧del kb k i=kb i'∧del kv k i=kv i'∧del f k i=f i'∧i'=(if i<k then i else i+1):=fun i hi=>by
  by_cases e:i<k
  ·exact⟨i,by omega,del_lo e,del_lo e,del_lo e,by rw [if_pos e]⟩
  ·exact⟨i+1,by omega,del_hi e,del_hi e,del_hi e,by rw [if_neg e]⟩
 refine⟨⟨by omega,_,_,rfl,by omega,fun _=>⟨off,rfl,fun i hi=>?_⟩⟩,fun i j hi hj hij h1 h2=>?_,?_⟩
 ·have hc':=hc i hi
  obtain⟨i',hi',e1,e2,e3,-⟩:=key i hi
  have h:=hel i' hi'
  refine⟨hc' 0 (by omega),hc' 1 (by omega),hc' 2 (by omega),hc' 3 (by omega),hc' 4 (by omega),hc' 5 (by omega),?_,?_,?_⟩
  ·rw [e1,e2,e3]; exact h.dead.turned ht (fun h0=>hS i' hi' h0)
  ·rw [e3]; exact h.small
  ·rw [e1,e3]; exact h.apart
 ·obtain⟨i',hi',e1,-,e3,f1⟩:=key i hi
  obtain⟨j',hj',e1',-,e3',f2⟩:=key j hj
  rw [e1,e1']
  rw [e3] at h1
  rw [e3'] at h2
  refine hap i' j' hi' hj' (fun e=>hij ?_) h1 h2
  rw [f1,f2] at e
  split at e <;> split at e <;> omega
 ·rintro j (⟨h0,rfl⟩ | ⟨i,hi,h0,rfl⟩)
  ·exact Or.inl ⟨by omega,rfl⟩
  ·obtain⟨i',hi',e1,-,e3,-⟩:=key i hi
   rw [e3] at h0
   exact Or.inr ⟨i',hi',h0,e1⟩
noncomputable def dropW(W:WorldD)(k:Nat):WorldD:={W with pool:=holdAll W.pool (shedL W (W.sets k)),sn:=W.sn - 1,sets:=del W.sets k}
set_option maxRecDepth 20000 in
set_option maxHeartbeats 2000000 in
theorem dropSet_any(p:Nat→Addr)(C k:Nat)(z0 z1 z2 z3:Value)(W:WorldD)(name:ByteArray)(w:World)(hI:ImplW W)(hT:TreeOk W.pool (W.sets k).rs (W.sets k).rb)(ht:TimeOk (aheadOf W (W.sets k).prev).time)(hx:(Lit.int .i64 (W.sets k).prev).wf=true)(hk:SetNo W name k)(hlt:C<w.heap.size)
  (ho:WorldOwnR w (C+1) w.heap.size z0 z1 z2 z3 W) (hC:Box9 w C z0 z1 (.int .i64 W.time) (.int .i64 W.next) z2 z3 (.int .i64 0) (.int .i64 0) .nilIface) :
  Calls Tryz.prog 37 #[.pointer (some ⟨C,0,none⟩),.string name] w (DoneI p ⟨dropW W k,0,((shedL W (W.sets k)).length:Int),0⟩ C w):=by
 have h8:=hI.names.sets.1
 have h20:=hI.names.snaps.1
 have HI:=hideW hI
 have HT:=hideW hT
 have Ht:=hideW ht
 have Hx:=hideW hx
 have Hk:=hideW hk
 have hkn:=hk.1
 obtain⟨P,Q,R,hinR,hltS⟩:=ho
 have hin:=hinR.isIn
 obtain⟨bs0,kb,kv,hS,hSa,hSq⟩:=hin.sets
 obtain⟨off,c,rfl,hsk⟩:=hS.nth hkn
 have hQb:Q bs0:=hSq _ (Or.inl ⟨by omega,rfl⟩)
 have hbl:=hltS bs0 (Or.inr (Or.inl hQb))
 obtain⟨bs,hbs⟩:∃bs,bs=bs0:=⟨_,rfl⟩
 have hal:=below_alloc w (.cells #[.string name] 9)
 have hz1:(w.alloc (.cells #[.string name] 9)).heap.size=w.heap.size+1:=World.size_alloc _ _
 have cB:(w.alloc (.cells #[.string name] 9)).cell? ⟨w.heap.size,0,none⟩=some (.string name):=World.cell?_alloc_at _ _ _ _ rfl
 have HSET:=hideW (show ∀w',Below w.heap.size w w'→Calls Tryz.prog 81 #[.pointer (some ⟨C,0,none⟩),.string name] w' fun e w''=>e = .returned (.pointer (some ⟨bs,off+k*6,none⟩))∧Below w'.heap.size w' w'' from fun w' hb'=>by
  obtain⟨c4,-⟩:=(hC.below hb').2.2.2.2.1
  refine(chSet_any C (C+1) w.heap.size W.sn k c _ W.sets name w' c4 ((hS.at (lo:=C+1) (hi:=w.heap.size) (fun j hj=>hltS j (Or.inr (Or.inl (hSq j hj))))).below hb') h8 hkn hk.2.1 hk.2.2).mono ?_
  rintro e w2 ⟨⟨b,off',e1,rfl⟩,hb2⟩
  simp only [Option.some.injEq,Addr.mk.injEq,and_true] at e1
  obtain⟨rfl,rfl⟩:=e1
  exact⟨by rw [hbs],hb2⟩)
 subst hbs
 have HC:=hideW hC
 have HIN:=hideW hin
 have HLT:=hideW hltS
 have HSO:=hideW hS
 have HSA:=hideW hSa
 have HSQ:=hideW hSq
 have HSK:=hideW hsk
 have HQB:=hideW hQb
 have HCB:=hideW cB
 clear hinR hin hltS hS hSa hSq hsk hC hI hT ht hx hk hQb
 go_enter Tryz.func37,Tryz.ntmps37
 go_wp2_with fail
 clear cB
 generalize w.alloc (.cells #[.string name] 9)=w1 at hal hz1 HCB ⊢
 refine(HSET.out _ hal).mono ?_
 clear HSET
 rintro e w2 ⟨rfl,hb2'⟩
 have hb2:=below_next hal hb2'
 have cB2:=(hb2'.cell (lt_of_cell HCB.out)).trans HCB.out
 go_wp2_with fail
 have hz2:=hb2'.size
 have hne:bs≠C:=by omega
 have hs2:=HSK.out.below hb2
 refine(shed_any C bs (off+k*6) P Q R _ _ _ _ _ 0 0 W (W.sets k) w2 (HIN.out.below hb2) (fun j hj=>by have:=HLT.out j hj; omega) (HC.out.below hb2) ⟨hs2.c2.1,hs2.c3.1,hs2.c4.1⟩ hne HI.out.right HT.out Ht.out h20 HI.out.names.idsWf HI.out.names.dist Hx.out (by omega) (by omega)).mono ?_
 rintro e w3 ⟨⟨ve,rfl⟩,y0,y1,hC3,hP3,hT3⟩
 have hz3:=hT3.size
 rw [Int.zero_add] at hC3
 have hS3:=(HSO.out.below hb2).turned hT3 (fun j hj e=>by have:=HLT.out j (Or.inr (Or.inl (HSQ.out j hj))); omega)
 have hZ3:=(HIN.out.snaps.turned (Turned.of_below (S:=fun _=>False) hb2) (fun _ _ h=>h)).turned hT3 (fun j hj e=>by have:=HLT.out j (Or.inr (Or.inr hj)); omega)
 have cB3:=(hT3.cell (o:=0) (lt_of_cell cB2) (fun h=>by omega)).trans cB2
 have hcc:W.sn≤c:=by obtain⟨_,a,c',e,h,_⟩:=HSO.out; injection e with e1 e2 e3; omega
 have HDEL:=hideW (delSet_any 0 w3.heap.size bs off W.sn c k w.heap.size kb kv W.sets name w3 hS3 (hS3.at (fun j hj=>⟨Nat.zero_le _,by have:=HLT.out j (Or.inr (Or.inl (HSQ.out j hj))); omega⟩)) hkn h8 hcc Hk.out.2.1 (fun i hi hne h=>by
  rcases Nat.lt_or_gt_of_ne hne with h1 | h1
  ·exact HI.out.names.setsDist k hkn i h1 (by rw [h,Hk.out.2.1])
  ·exact HI.out.names.setsDist i hi k h1 (by rw [h,Hk.out.2.1])) cB3 (by omega))
 have HC3:=hideW hC3
 have HP3:=hideW hP3
 have HT3:=hideW hT3
 have HZ3:=hideW hZ3
 have HS3:=hideW hS3
 obtain⟨x4,-⟩:=hC3.2.2.2.2.1
 clear hC3 hP3 hT3 hZ3 hS3 hs2 cB2 cB3
 go_wp2_with fail
 clear x4
 refine HDEL.out.mono ?_
 clear HDEL
 rintro e w4 ⟨rfl,hT4,hcell4⟩
 have hz4:=hT4.size
 have HT4:=hideW hT4
 have HCell4:=hideW hcell4
 have hC4:=HC3.out.turned hT4 (fun h=>by omega)
 have HC4:=hideW hC4
 obtain⟨x4,x4'⟩:=hC4.2.2.2.2.1
 clear hT4 hcell4 hC4
 go_wp2_with fail
 have hT5:=Turned.put w4 C 4 (.slice (some ⟨bs,off,none⟩) (W.sn - 1) c)
 have hz5:=hT5.size
 go_end0
 have hC5:Box9 (w4.setCell ⟨C,4,none⟩ (.slice (some ⟨bs,off,none⟩) (W.sn - 1) c)) C y0 y1 (.int .i64 W.time) (.int .i64 W.next) (.slice (some ⟨bs,off,none⟩) (W.sn - 1) c) z3 (.int .i64 0) (.int .i64 ((shedL W (W.sets k)).length:Int)) .nilIface:=⟨HC4.out.1.other _ (Or.inr (by decide)),HC4.out.2.1.other _ (Or.inr (by decide)),HC4.out.2.2.1.other _ (Or.inr (by decide)),HC4.out.2.2.2.1.other _ (Or.inr (by decide)),HC4.out.2.2.2.2.1.set _,HC4.out.2.2.2.2.2.1.other _ (Or.inr (by decide)),HC4.out.2.2.2.2.2.2.1.other _ (Or.inr (by decide)),HC4.out.2.2.2.2.2.2.2.1.other _ (Or.inr (by decide)),HC4.out.2.2.2.2.2.2.2.2.other _ (Or.inr (by decide))⟩
 have hTall:Turned (fun j=>j=C∨j=bs) w (w4.setCell ⟨C,4,none⟩ (.slice (some ⟨bs,off,none⟩) (W.sn - 1) c)):=(((Turned.of_below hb2).trans (HT3.out.mono (fun j e=>Or.inl e))).trans (HT4.out.mono (fun j e=>Or.inr e))).trans (hT5.mono (fun j e=>Or.inl e))
 refine⟨⟨_,rfl⟩,hTall.below (B:=C) (by omega) (fun j h=>by omega),by omega,Or.inl ⟨rfl,_,_,_,_,hC5,?_⟩⟩
 have hT35:Turned (fun j=>j=bs∨j=C) w3 (w4.setCell ⟨C,4,none⟩ (.slice (some ⟨bs,off,none⟩) (W.sn - 1) c)):=(HT4.out.mono (fun j e=>Or.inl e)).trans (hT5.mono (fun j e=>Or.inr e))
 obtain⟨d1,d2,d3⟩:=sets_del HS3.out HSA.out hkn hT35 (fun i hi h0 h=>by
  have hq:=HLT.out _ (Or.inr (Or.inl (HSQ.out _ (Or.inr ⟨i,hi,h0,rfl⟩))))
  rcases h with h | h
  ·obtain⟨off',c',ev,hx⟩:=HSO.out.nth hi
   exact hx.apart h0 h
  ·omega) (fun i hi r hr=>(HCell4.out i hi r hr).other _ (Or.inl (fun e=>hne e.symm)))
 refine⟨(fun j=>P j∨(w2.heap.size≤j∧j<w3.heap.size)),Q,R,⟨HP3.out.turned hT35 (fun j hj e=>?_),⟨bs,_,_,d1,d2,fun j hj=>HSQ.out j (d3 j hj)⟩,HZ3.out.turned hT35 (fun j hj e=>?_),fun j hj hq=>?_,fun j hj hq=>?_,HIN.out.qr⟩,fun j hj=>?_⟩
 ·rcases hj with h | h
  ·rcases e with e | e
   ·exact HIN.out.pq j h (by rw [e]; exact HQB.out)
   ·have:=HLT.out j (Or.inl h); omega
  ·omega
 ·rcases e with e | e
  ·exact HIN.out.qr bs HQB.out (by rw [←e]; exact hj)
  ·have:=HLT.out j (Or.inr (Or.inr hj)); omega
 ·have:=HLT.out j (Or.inr (Or.inl hq))
  rcases hj with h | h
  ·exact HIN.out.pq j h hq
  ·omega
 ·have:=HLT.out j (Or.inr (Or.inr hq))
  rcases hj with h | h
  ·exact HIN.out.pr j h hq
  ·omega
 ·rcases hj with(h | h) | h | h
  ·have:=HLT.out j (Or.inl h); omega
  ·omega
  ·have:=HLT.out j (Or.inr (Or.inl h)); omega
  ·have:=HLT.out j (Or.inr (Or.inr h)); omega
set_option maxRecDepth 20000 in
set_option maxHeartbeats 2000000 in
theorem setDestroyDo_any(p:Nat→Addr)(C k B0:Nat)(z0 z1 z2 z3:Value)(W:WorldD)(name:ByteArray)(w:World)(hI:ImplW W)(hT:TreeOk W.pool (W.sets k).rs (W.sets k).rb)(ht:TimeOk (aheadOf W (W.sets k).prev).time)(hx:(Lit.int .i64 (W.sets k).prev).wf=true)(hk:SetNo W name k)(hlt:C<w.heap.size)(k0:w.cell? ⟨B0,0,none⟩=some (.string name))
  (ho:WorldOwnR w (C+1) w.heap.size z0 z1 z2 z3 W) (hC:Box9 w C z0 z1 (.int .i64 W.time) (.int .i64 W.next) z2 z3 (.int .i64 0) (.int .i64 0) .nilIface) :
  Calls Tryz.prog 36 #[.pointer (some ⟨C,0,none⟩),.pointer (some ⟨B0,0,none⟩)] w (DoneI p ⟨dropW W k,0,((shedL W (W.sets k)).length:Int),0⟩ C w):=by
 have H:=hideW (dropSet_any p C k z0 z1 z2 z3 W name w hI hT ht hx hk hlt ho hC)
 clear ho hC hI hT ht hx hk
 go_enter Tryz.func36,Tryz.ntmps36
 go_wp2_with fail
 refine H.out.mono ?_
 rintro e w' ⟨⟨v,rfl⟩,hr⟩
 have Hr:=hideW hr
 clear hr
 go_wp2_with fail
 go_end0
 refine⟨⟨_,rfl⟩,?_⟩
 obtain⟨h1,h2,h3⟩:=Hr.out
 refine⟨h1,h2,?_⟩
 rcases h3 with⟨-,h⟩ | h
 ·exact Or.inl ⟨rfl,h⟩
 ·exact Or.inr h
theorem setNo_has{W:WorldD}{x:ByteArray}(h:HasSet W x):∃k,SetNo W x k:=by
 obtain⟨k,hk,hn⟩:=h
 induction k using Nat.strongRecOn with
 | _ k ih=>
  by_cases e:∃j,j<k∧(W.sets j).name=x
  ·obtain⟨j,hj,hx⟩:=e
   exact ih j hj (by omega) hx
  ·exact⟨k,hk,hn,fun j hj hx=>e ⟨j,hj,hx⟩⟩
theorem RefI.all{W:WorldD}{a b:Prop}{m:Nat}{Q:Nat→Prop}{ei:Nat→Nat}(h:RefI W a b m Q ei none):∀j,j<m→Q j:=by
 rcases h with⟨_,e⟩ | ⟨_,_,e⟩ | ⟨_,_,_,k,hk,_,_,e⟩ | ⟨_,_,_,h4,_⟩
 ·cases e
 ·cases e
 ·cases e
 ·exact h4
theorem RefI.uniq{W:WorldD}{a b:Prop}{m:Nat}{Q:Nat→Prop}{ei:Nat→Nat}{r r':Option Nat}(h:RefI W a b m Q ei r)(h':RefI W a b m Q ei r'):r=r':=by
 rcases h with⟨h1,e⟩ | ⟨h1,h2,e⟩ | ⟨h1,h2,h3,i,hi,hn,hl,e⟩ | ⟨h1,h2,h3,h4,e⟩
 ·rcases h' with⟨g1,e'⟩ | ⟨g1,g2,e'⟩ | ⟨g1,g2,g3,j,hj,gn,gl,e'⟩ | ⟨g1,g2,g3,g4,e'⟩
  ·rw [e,e']
  ·exact absurd h1 g1
  ·exact absurd h1 g1
  ·exact absurd h1 g1
 ·rcases h' with⟨g1,e'⟩ | ⟨g1,g2,e'⟩ | ⟨g1,g2,g3,j,hj,gn,gl,e'⟩ | ⟨g1,g2,g3,g4,e'⟩
  ·exact absurd g1 h1
  ·rw [e,e']
  ·rcases h2 with h | h
   ·exact absurd g2 h
   ·exact absurd h g3
  ·rcases h2 with h | h
   ·exact absurd g2 h
   ·exact absurd h g3
 ·rcases h' with⟨g1,e'⟩ | ⟨g1,g2,e'⟩ | ⟨g1,g2,g3,j,hj,gn,gl,e'⟩ | ⟨g1,g2,g3,g4,e'⟩
  ·exact absurd g1 h1
  ·rcases g2 with h | h
   ·exact absurd h2 h
   ·exact absurd h h3
  ·rcases Nat.lt_trichotomy i j with h | h | h
   ·exact absurd (gl i h) hn
   ·rw [e,e',h]
   ·exact absurd (hl j h) gn
  ·exact absurd (g4 i hi) hn
 ·rcases h' with⟨g1,e'⟩ | ⟨g1,g2,e'⟩ | ⟨g1,g2,g3,j,hj,gn,gl,e'⟩ | ⟨g1,g2,g3,g4,e'⟩
  ·exact absurd g1 h1
  ·rcases g2 with h | h
   ·exact absurd h2 h
   ·exact absurd h h3
  ·exact absurd (h4 j hj) gn
  ·rw [e,e']
theorem RefI.impl{W:WorldD}{a b:Prop}{m:Nat}{Q:Nat→Prop}{ei:Nat→Nat}(h:RefI W a b m Q ei none):ImplW W:=by
 rcases h with⟨_,e⟩ | ⟨_,_,e⟩ | ⟨_,_,_,k,hk,_,_,e⟩ | ⟨_,h2,_,h4,_⟩
 ·cases e
 ·cases e
 ·cases e
 ·exact h2
theorem long1{a:ByteArray}:(∃i,i<1∧8000<((fun (_:Nat)=>a) i).size)↔8000<a.size:=⟨fun ⟨_,_,h⟩=>h,fun h=>⟨0,by omega,h⟩⟩
theorem ahead_time{W:WorldD}(h:SpecNames W)(x:Int):TimeOk (aheadOf W x).time:=by
 by_cases hx:∃k,SnapNo W x k
 ·obtain⟨k,hk⟩:=hx
  rw [aheadOf_at hk]
  have h1:=(h.2.2.2.2.2 k hk.1).1
  have h2:=h.1
  unfold Between at h2
  exact⟨by have:=h1.2.2.1; omega,by have:=h1.2.2.2.1; omega⟩
 ·have e:aheadOf W x=zeroSnap:=by unfold aheadOf; rw [dif_neg hx]
  rw [e]
  exact⟨by decide,by decide⟩
def AnsSetDestroy(W:WorldD)(name:ByteArray)(w:World)(e:Ending)(w':World):Prop:=∃r o,RefI W (∃i,i<1∧8000<((fun (_:Nat)=>name) i).size) (∃i,i<0∧¬NameP ((fun _=>⟨#[]⟩) i)) 2 (fun i=>match i with | 0=>HasSet W name | _=>¬∃i,i<W.pn∧(W.snaps i).set=name) (fun i=>match i with | 0=>2 | _=>5) r∧(r=none→∃k,SetNo W name k∧o=⟨dropW W k,0,((shedL W (W.sets k)).length:Int),0⟩)∧NewWOut (outW r o) w e w'
theorem AnsSetDestroy.ill{W:WorldD}{name:ByteArray}{w w':World}{e:Ending}{i:Nat}(hr:RefI W (∃i,i<1∧8000<((fun (_:Nat)=>name) i).size) (∃i,i<0∧¬NameP ((fun _=>⟨#[]⟩) i)) 2 (fun i=>match i with | 0=>HasSet W name | _=>¬∃i,i<W.pn∧(W.snaps i).set=name) (fun i=>match i with | 0=>2 | _=>5) (some i))(h:NewWOut (refuseW (errC i)) w e w'):AnsSetDestroy W name w e w':=⟨some i,refuseW 0,hr,fun e=>(by cases e),h⟩
set_option maxRecDepth 20000 in
set_option maxHeartbeats 400000 in
theorem implSetDestroy_any(p:Nat→Addr)(v0 v1 v2 v3:Value)(lo hi:Nat)(W:WorldD)(name:ByteArray)(w:World)(hE:Errs w p)(h:WorldAt w lo hi v0 v1 v2 v3 W)(hwf:PrevsWf W)(b1:poolN W.pool≤1048576)(b2:W.sn≤1048576)(b3:W.pn≤1048576)(b4:DeadsN W)(hname:name.size≤maxLen) :
  Calls Tryz.prog 9 #[worldV v0 v1 v2 v3 W,.string name] w (AnsSetDestroy W name w):=by
 by_cases hs:HasSet W name
 ·obtain⟨k,hk⟩:=setNo_has hs
  refine(implSetDestroy_of p v0 v1 v2 v3 lo hi W name ⟨dropW W k,0,((shedL W (W.sets k)).length:Int),0⟩ w hE h hwf b1 b2 b3 b4 hname ?_).mono ?_
  ·intro B0 C w' z0 z1 z2 z3 k0 _ hI _ _ hq hlt hb ho hC
   have hS:=(world_iff W).1 hI
   have hx:=hwf (W.pn+k) (by have:=hk.1; unfold memN; omega)
   rw [memOf_set] at hx
   exact setDestroyDo_any p C k B0 z0 z1 z2 z3 W name w' hI (hS.sets k hk.1).1 (ahead_time hS.names _) hx hk hlt k0 ho hC
  ·rintro e w' ⟨r,h1,h2⟩
   exact⟨r,_,h1,fun _=>⟨k,hk,rfl⟩,h2⟩
 ·refine(implSetDestroy_of p v0 v1 v2 v3 lo hi W name (refuseW 0) w hE h hwf b1 b2 b3 b4 hname ?_).mono ?_
  ·intro B0 C w' z0 z1 z2 z3 k0 _ hI _ _ hq hlt hb ho hC
   exact absurd (hq 0 (by omega)) hs
  ·rintro e w' ⟨r,h1,h2⟩
   exact⟨r,_,h1,fun e=>absurd ((e▸h1).all 0 (by omega)) hs,h2⟩
structure RowTurned (bs o n:Nat) (w w':World):Prop where
 turned:Turned (fun b=>b=bs) w w'
 kept:∀x v,(x<o∨o+n≤x)→Cell w bs x v→Cell w' bs x v
theorem RowTurned.refl(bs o n:Nat)(w:World):RowTurned bs o n w w:=⟨Turned.refl _ _,fun _ _ _ h=>h⟩
theorem RowTurned.set{bs o n:Nat}{w w':World}(h:RowTurned bs o n w w')(x:Nat)(u:Value)(h1:o≤x)(h2:x<o+n):RowTurned bs o n w (w'.setCell ⟨bs,x,none⟩ u):=
 ⟨h.turned.setCell (p:=⟨bs,x,none⟩) rfl u,fun y v hy hc=>(h.kept y v hy hc).other u (Or.inr (by omega))⟩
theorem RowTurned.below{bs o n:Nat}{w w' w2:World}(h:RowTurned bs o n w w')(t:Below w'.heap.size w' w2):RowTurned bs o n w w2:=
 ⟨h.turned.trans (Turned.of_below t),fun y v hy hc=>(h.kept y v hy hc).below t⟩
theorem Set_step{w w1 w2:World}{bs off n k:Nat}{kb:Nat→Nat}{kv:Nat→Value}{f:Nat→SetD}{s:SetD}(h:∀j,j<n→SetOwn w bs (off+j*6) (kb j) (kv j) (f j))(hap:SetsApart kb n f)(hk:k<n)
  (r:RowTurned bs (off+k*6) 6 w w1) (t:Turned (fun b=>0<(f k).dn∧b=kb k) w1 w2) (c0:Cell w1 bs (off+k*6) (.string s.name)) (c1:Cell w1 bs ((off+k*6)+1) (.int .i64 s.origin)) (c2:Cell w1 bs ((off+k*6)+2) (.int .i64 s.prev)) (c3:Cell w1 bs ((off+k*6)+3) (.int .i64 s.rs)) (c4:Cell w1 bs ((off+k*6)+4) (.int .i64 s.rb)) (c5:Cell w1 bs (off+k*6+5) (kv k)) (hdn:s.dn=(f k).dn) (hp:PtrsOwn w2 (kb k) (kv k) s.dn s.ds s.db) (hs:s.name.size≤maxLen) :
  ∀j,j<n→SetOwn w2 bs (off+j*6) (kb j) (kv j) (if j=k then s else f j):=by
 intro j hj
 have nb:¬(0<(f k).dn∧bs=kb k):=fun hx=>(h k hk).apart hx.1 hx.2.symm
 by_cases e:j=k
 ·subst e
  rw [if_pos rfl]
  exact⟨c0.turned t nb,c1.turned t nb,c2.turned t nb,c3.turned t nb,c4.turned t nb,c5.turned t nb,hp,hs,by rw [hdn]; exact(h j hj).apart⟩
 ·rw [if_neg e]
  have hj':=h j hj
  refine⟨(r.kept _ _ (by omega) hj'.c0).turned t nb,(r.kept _ _ (by omega) hj'.c1).turned t nb,(r.kept _ _ (by omega) hj'.c2).turned t nb,(r.kept _ _ (by omega) hj'.c3).turned t nb,(r.kept _ _ (by omega) hj'.c4).turned t nb,(r.kept _ _ (by omega) hj'.c5).turned t nb,?_,hj'.small,hj'.apart⟩
  exact(hj'.dead.turned r.turned (fun h0 hx=>hj'.apart h0 hx)).turned t (fun h0 hx=>hap j k hj hk e h0 hx.1 hx.2)
theorem Snap_step{w w1 w2:World}{bs off n k:Nat}{kb:Nat→Nat}{kv:Nat→Value}{f:Nat→SnapD}{s:SnapD}(h:∀j,j<n→SnapOwn w bs (off+j*8) (kb j) (kv j) (f j))(hap:SnapsApart kb n f)(hk:k<n)
  (r:RowTurned bs (off+k*8) 8 w w1) (t:Turned (fun b=>0<(f k).dn∧b=kb k) w1 w2) (c0:Cell w1 bs (off+k*8) (.int .i64 s.id)) (c1:Cell w1 bs ((off+k*8)+1) (.string s.name)) (c2:Cell w1 bs ((off+k*8)+2) (.string s.set)) (c3:Cell w1 bs ((off+k*8)+3) (.int .i64 s.prev)) (c4:Cell w1 bs ((off+k*8)+4) (.int .i64 s.time)) (c5:Cell w1 bs ((off+k*8)+5) (.int .i64 s.rs)) (c6:Cell w1 bs ((off+k*8)+6) (.int .i64 s.rb)) (c7:Cell w1 bs (off+k*8+7) (kv k)) (hdn:s.dn=(f k).dn) (hp:PtrsOwn w2 (kb k) (kv k) s.dn s.ds s.db) (hs:s.name.size≤maxLen∧s.set.size≤maxLen) :
  ∀j,j<n→SnapOwn w2 bs (off+j*8) (kb j) (kv j) (if j=k then s else f j):=by
 intro j hj
 have nb:¬(0<(f k).dn∧bs=kb k):=fun hx=>(h k hk).apart hx.1 hx.2.symm
 by_cases e:j=k
 ·subst e
  rw [if_pos rfl]
  exact⟨c0.turned t nb,c1.turned t nb,c2.turned t nb,c3.turned t nb,c4.turned t nb,c5.turned t nb,c6.turned t nb,c7.turned t nb,hp,hs,by rw [hdn]; exact(h j hj).apart⟩
 ·rw [if_neg e]
  have hj':=h j hj
  refine⟨(r.kept _ _ (by omega) hj'.c0).turned t nb,(r.kept _ _ (by omega) hj'.c1).turned t nb,(r.kept _ _ (by omega) hj'.c2).turned t nb,(r.kept _ _ (by omega) hj'.c3).turned t nb,(r.kept _ _ (by omega) hj'.c4).turned t nb,(r.kept _ _ (by omega) hj'.c5).turned t nb,(r.kept _ _ (by omega) hj'.c6).turned t nb,(r.kept _ _ (by omega) hj'.c7).turned t nb,?_,hj'.small,hj'.apart⟩
  exact(hj'.dead.turned r.turned (fun h0 hx=>hj'.apart h0 hx)).turned t (fun h0 hx=>hap j k hj hk e h0 hx.1 hx.2)
def mtLoop(k:Nat)(out:ByteArray):ByteArray:=
 if h:k=0 then out else mtLoop (k / 10) (⟨#[48+UInt8.ofNat (k % 10)]⟩ ++ out)
termination_by k
decreasing_by omega
def mtF(k:Int):ByteArray:=if k≤0 then⟨#[109,48]⟩else⟨#[109]⟩ ++ mtLoop k.toNat ⟨#[]⟩
theorem mt_start{n:Nat}(h:(n:Int)≤1000000000000):n<10 ^ (13 - (⟨#[]⟩:ByteArray).size):=by
 show n<10 ^ 13
 omega
theorem size_one(x:UInt8)(out:ByteArray):((⟨#[x]⟩:ByteArray) ++ out).size=out.size+1:=by
 rw [ByteArray.size_append]
 show 1+out.size=_
 omega
theorem mt_bound{m:Nat}{out:ByteArray}(h:m<10 ^ (13 - out.size)):m≤10000000000000:=by
 have h2:10 ^ (13 - out.size)≤10 ^ 13:=Nat.pow_le_pow_right (by omega) (by omega)
 omega
theorem mt_next{m:Nat}{out:ByteArray}(x:UInt8)(h0:¬m=0)(h:m<10 ^ (13 - out.size))(h2:out.size≤13) :
  m / 10<10 ^ (13 - ((⟨#[x]⟩:ByteArray) ++ out).size)∧((⟨#[x]⟩:ByteArray) ++ out).size≤13:=by
 rw [size_one]
 by_cases e:out.size=13
 ·rw [e] at h; simp at h; omega
 ·obtain⟨j,hj⟩:∃j,13 - out.size=j+1:=⟨12 - out.size,by omega⟩
  rw [hj,Nat.pow_succ] at h
  have:13 - (out.size+1)=j:=by omega
  rw [this]
  exact⟨by omega,by omega⟩
theorem mt_step{m:Nat}{out:ByteArray}(h0:¬m=0):mtLoop (m / 10) (⟨#[48+UInt8.ofNat (m % 10)]⟩ ++ out)=mtLoop m out:=by
 conv=>rhs; rw [mtLoop]
 rw [dif_neg h0]
theorem mt_size(m:Nat):∀(out:ByteArray),m<10 ^ (13 - out.size)→out.size≤13→(mtLoop m out).size≤13:=by
 induction m using Nat.strongRecOn with
 | _ m ih=>
  intro out h h2
  by_cases h0:m=0
  ·rw [mtLoop,dif_pos h0]; exact h2
  ·rw [mtLoop,dif_neg h0]
   have:=mt_next (48+UInt8.ofNat (m % 10)) h0 h h2
   exact ih (m / 10) (by omega) _ this.1 this.2
theorem mtF_size{k:Int}(hk:k≤1000000000000):(mtF k).size≤maxLen:=by
 unfold mtF maxLen
 split
 ·decide
 ·have h:(mtLoop k.toNat ⟨#[]⟩).size≤13:=mt_size _ _ (mt_start (by omega)) (Nat.zero_le _)
  rw [size_one]
  omega
theorem conv_one(w:World)(n:Int):(convert 171 9 (.slice (some ⟨w.heap.size,0,none⟩) 1 1)).run Tryz.prog (w.alloc (.cells #[.int .u8 n] 5)) = .ok (.string ⟨#[UInt8.ofNat n.toNat]⟩) (w.alloc (.cells #[.int .u8 n] 5)):=
 run_convert_bytes_arg (P:=Tryz.prog) (w.alloc (.cells #[.int .u8 n] 5)) 171 5 (by kernel_rfl) (by kernel_rfl) w.heap.size 0 1 1 [n] rfl (fun i hi=>by
  obtain rfl:i=0:=by omega
  simp) 9 (by kernel_rfl)
set_option maxRecDepth 20000 in
set_option maxHeartbeats 400000 in
theorem markText_any(k:Int)(w:World)(hk:k≤1000000000000) :
  Calls Tryz.prog 93 #[.int .i64 k] w fun e w'=>e = .returned (.string (mtF k))∧Below w.heap.size w w':=by
 by_cases h0:k≤0
 ·have hm:Hid (mtF k=⟨#[109,48]⟩):=if_pos h0
  go_enter Tryz.func93,Tryz.ntmps93
  go_wp2
  go_ret
  exact⟨by rw [hm.out]; rfl,Below.refl _ _⟩
 ·obtain⟨n,rfl⟩:=Int.eq_ofNat_of_zero_le (by omega:0≤k)
  have hm:Hid (mtF (n:Int)=⟨#[109]⟩ ++ mtLoop n ⟨#[]⟩):=if_neg h0
  have hst:Hid (n<10 ^ (13 - (⟨#[]⟩:ByteArray).size)):=mt_start hk
  have hcv:=conv_one
  go_enter Tryz.func93,Tryz.ntmps93
  go_wp2
  go_loopw [0,3] (fun v s wr=>∃(m:Nat) (out:ByteArray),v = .int .i64 m∧s = .string out∧m<10 ^ (13 - out.size)∧out.size≤13∧mtLoop m out=mtLoop n ⟨#[]⟩∧Below w.heap.size w wr) (fun v _ _=>(intOf v).toNat)
  case atStart=>exact⟨n,⟨#[]⟩,rfl,rfl,hst.out,Nat.zero_le _,rfl,Below.refl _ _⟩
  case round=>
   obtain⟨m,out,rfl,rfl,hm1,hm2,hm3,hb⟩:=hrel
   have Hm3:Hid (m<10 ^ (13 - out.size)∧mtLoop m out=mtLoop n ⟨#[]⟩):=⟨hm1,hm3⟩
   have hmb:=mt_bound hm1
   clear hm1 hm3
   by_cases hz:m=0
   ·subst hz
    go_wp2
    go_ret
    refine⟨?_,hb⟩
    have e1:=Hm3.out.2
    rw [mtLoop,dif_pos rfl] at e1
    rw [hm.out,←e1]
    rfl
   ·have hz':(0:Int)<(m:Int):=by omega
    have Hz:Hid (¬m=0):=hz
    clear hz
    go_wp2
    go_roundw
    case rel=>
     have hn:=mt_next (48+UInt8.ofNat (m % 10)) Hz.out Hm3.out.1 hm2
     exact⟨m / 10,_,by go_num,rfl,hn.1,hn.2,(mt_step Hz.out).trans Hm3.out.2,hb.alloc hb.size _⟩
    case measure=>simp [intOf]; omega
theorem hideM{P:Prop}(h:P):Hid P:=h
def SameShape(b:Nat)(w w':World):Prop:=∀cur,w.heap[b]?=some (.cells cur 2 (0,0))→∃cur',w'.heap[b]?=some (.cells cur' 2 (0,0))∧cur'.size=cur.size
theorem SameShape.refl(b:Nat)(w:World):SameShape b w w:=fun cur h=>⟨cur,h,rfl⟩
theorem SameShape.set{b:Nat}{w w':World}(h:SameShape b w w')(o:Nat)(u:Value):SameShape b w (w'.setCell ⟨b,o,none⟩ u):=fun cur hc=>by
 obtain⟨cur',h1,h2⟩:=h cur hc
 exact⟨cur'.setIfInBounds o u,heap_setCell_at u h1,by simpa using h2⟩
theorem SameShape.room{b:Nat}{w w':World}{a:Option Addr}{n c:Nat}(h:SameShape b w w')(hr:Room w b a n c):Room w' b a n c:=fun hlt=>by
 obtain⟨r0,r1,r2,cur,r3,r4⟩:=hr hlt
 obtain⟨cur',h1,h2⟩:=h cur r3
 exact⟨r0,r1,r2,cur',h1,by omega⟩
set_option maxRecDepth 20000 in
set_option maxHeartbeats 400000 in
theorem markInt64S_any(b:Nat)(v:Value)(n:Nat)(f:Nat→Int)(k0:Int)(w:World)(h1:IntsOwn w b v n f)(hk0:0≤k0)(hk1:k0+n≤1000000000000) :
  Calls Tryz.prog 92 #[v,.int .i64 k0] w fun e w'=>e = .returned (.int .i64 (k0+n))∧IntsOwn w' b v n (fun i=>k0+i)∧Turned (fun k=>0<n∧k=b) w w':=by
 have h1':=h1
 obtain⟨m1,a,c,rfl,mc,g1,hroom⟩:=h1
 have Hroom:=hideM hroom
 clear hroom
 by_cases hn0:n=0
 ·subst hn0
  go_enter Tryz.func92,Tryz.ntmps92
  go_wp2
  refine wp_loop_rounds 1 ?_
  rw [rounds_succ]
  go_wp2
  go_ret
  exact⟨by simp,⟨m1,a,c,rfl,mc,fun h=>absurd h (by omega),Hroom.out⟩,Turned.refl _ _⟩
 ·obtain⟨off,rfl,g2⟩:=g1 (by omega)
  clear g1
  have hm1:=m1
  unfold maxLen at m1
  have G2:Hid (∀i,i<n→Cell w b (off+i) (.int .i64 (f i))):=g2
  clear g2 h1'
  go_enter Tryz.func92,Tryz.ntmps92
  go_wp2
  go_loopw [1,5] (fun m i wr=>∃k:Nat,k≤n∧i = .int .i64 k∧m = .int .i64 (k0+k)∧(∀j,j<n→Cell wr b (off+j) (.int .i64 (if j<k then k0+j else f j)))∧Turned (fun k=>0<n∧k=b) w wr∧SameShape b w wr) (fun _ i _=>n - (intOf i).toNat)
  case atStart=>exact⟨0,Nat.zero_le _,rfl,by simp,fun j hj=>by simpa using G2.out j hj,Turned.refl _ _,SameShape.refl _ _⟩
  case round=>
   obtain⟨k,hk,rfl,rfl,hall,ht,hsh⟩:=hrel
   have Hsh:=hideM hsh
   clear hsh
   have Hall:Hid (∀j,j<n→Cell wr b (off+j) (.int .i64 (if j<k then k0+j else f j))):=hall
   clear hall
   by_cases hlt:k<n
   ·have hlt':(k:Int)<(n:Int):=by omega
    obtain⟨hc,hf⟩:=Hall.out k hlt
    go_wp2
    go_roundw
    case rel=>
     refine⟨k+1,by omega,by go_num,by go_num,fun j hj=>?_,ht.setCell ⟨by omega,rfl⟩ _,Hsh.out.set _ _⟩
     by_cases e:j=k
     ·subst e
      rw [if_pos (by omega)]
      exact(Hall.out j hj).set _
     ·have:=(Hall.out j hj).other (b':=b) (o':=off+k) (.int .i64 (k0+k)) (Or.inr (by omega))
      by_cases e2:j<k
      ·rw [if_pos (by omega)]; rw [if_pos e2] at this; exact this
      ·rw [if_neg (by omega)]; rw [if_neg e2] at this; exact this
    case measure=>simp [intOf]; omega
   ·obtain rfl:k=n:=by omega
    go_wp2
    go_ret
    refine⟨rfl,⟨hm1,_,c,rfl,mc,fun _=>⟨off,rfl,fun i hi=>?_⟩,Hsh.out.room Hroom.out⟩,ht⟩
    have:=Hall.out i hi
    rw [if_pos hi] at this
    exact this
set_option maxRecDepth 20000 in
set_option maxHeartbeats 400000 in
theorem markPtrS_any(b:Nat)(v:Value)(n:Nat)(f g:Nat→Int)(k0:Int)(w:World)(h1:PtrsOwn w b v n f g)(hk0:0≤k0)(hk1:k0+2*n≤1000000000000) :
  Calls Tryz.prog 94 #[v,.int .i64 k0] w fun e w'=>e = .returned (.int .i64 (k0+2*n))∧PtrsOwn w' b v n (fun i=>k0+2*i) (fun i=>k0+2*i+1)∧Turned (fun k=>0<n∧k=b) w w':=by
 have h1':=h1
 obtain⟨m1,a,c,rfl,mc,g1⟩:=h1
 by_cases hn0:n=0
 ·subst hn0
  go_enter Tryz.func94,Tryz.ntmps94
  go_wp2
  refine wp_loop_rounds 1 ?_
  rw [rounds_succ]
  go_wp2
  go_ret
  exact⟨by simp,⟨m1,a,c,rfl,mc,fun h=>absurd h (by omega)⟩,Turned.refl _ _⟩
 ·obtain⟨off,rfl,g2⟩:=g1 (by omega)
  clear g1
  have hm1:=m1
  unfold maxLen at m1
  have G2:Hid (∀i,i<n→Cell w b (off+i*2) (.int .i64 (f i))∧Cell w b (off+i*2+1) (.int .i64 (g i))):=g2
  clear g2 h1'
  go_enter Tryz.func94,Tryz.ntmps94
  go_wp2
  go_loopw [1,5] (fun m i wr=>∃k:Nat,k≤n∧i = .int .i64 k∧m = .int .i64 (k0+2*k)∧(∀j,j<n→Cell wr b (off+j*2) (.int .i64 (if j<k then k0+2*j else f j))∧Cell wr b (off+j*2+1) (.int .i64 (if j<k then k0+2*j+1 else g j)))∧Turned (fun k=>0<n∧k=b) w wr) (fun _ i _=>n - (intOf i).toNat)
  case atStart=>exact⟨0,Nat.zero_le _,rfl,by simp,fun j hj=>by simpa using G2.out j hj,Turned.refl _ _⟩
  case round=>
   obtain⟨k,hk,rfl,rfl,hall,ht⟩:=hrel
   have Hall:Hid (∀j,j<n→Cell wr b (off+j*2) (.int .i64 (if j<k then k0+2*j else f j))∧Cell wr b (off+j*2+1) (.int .i64 (if j<k then k0+2*j+1 else g j))):=hall
   clear hall
   by_cases hlt:k<n
   ·have hlt':(k:Int)<(n:Int):=by omega
    obtain⟨⟨hc,hf⟩,⟨hc2,hf2⟩⟩:=Hall.out k hlt
    go_wp2
    go_roundw
    case rel=>
     refine⟨k+1,by omega,by go_num,by go_num,fun j hj=>?_,(ht.setCell ⟨by omega,rfl⟩ _).setCell ⟨by omega,rfl⟩ _⟩
     by_cases e:j=k
     ·subst e
      rw [if_pos (by omega),if_pos (by omega)]
      exact⟨((Hall.out j hj).1.set _).other _ (Or.inr (by omega)),((Hall.out j hj).2.other _ (Or.inr (by omega))).set _⟩
     ·have t1:=((Hall.out j hj).1.other (b':=b) (o':=off+k*2) (.int .i64 (k0+2*k)) (Or.inr (by omega))).other (b':=b) (o':=off+k*2+1) (.int .i64 (k0+2*k+1)) (Or.inr (by omega))
      have t2:=((Hall.out j hj).2.other (b':=b) (o':=off+k*2) (.int .i64 (k0+2*k)) (Or.inr (by omega))).other (b':=b) (o':=off+k*2+1) (.int .i64 (k0+2*k+1)) (Or.inr (by omega))
      by_cases e2:j<k
      ·rw [if_pos (by omega),if_pos (by omega)]; rw [if_pos e2] at t1 t2; exact⟨t1,t2⟩
      ·rw [if_neg (by omega),if_neg (by omega)]; rw [if_neg e2] at t1 t2; exact⟨t1,t2⟩
    case measure=>simp [intOf]; omega
   ·obtain rfl:k=n:=by omega
    go_wp2
    go_ret
    refine⟨rfl,⟨hm1,_,c,rfl,mc,fun _=>⟨off,rfl,fun i hi=>?_⟩⟩,ht⟩
    have:=Hall.out i hi
    rw [if_pos hi,if_pos hi] at this
    exact this
def cntSl(f:Nat→SlotD)(k0:Int):Nat→Int
 | 0=>k0
 | j+1=>cntSl f k0 j+2+2*(f j).kn
def marked(s:SlotD)(c:Int):SlotD:={birth:=c,kn:=s.kn,ks:=fun i=>c+1+2*i,kb:=fun i=>c+1+2*i+1,data:=mtF (c+1+2*s.kn)}
theorem cntSl_mono(f:Nat→SlotD)(k0:Int)(j:Nat):∀m,cntSl f k0 j≤cntSl f k0 (j+m)
 | 0=>Int.le_refl _
 | m+1=>by
  have:=cntSl_mono f k0 j m
  show _≤cntSl f k0 (j+m)+2+2*((f (j+m)).kn:Int)
  omega
theorem cntSl_le(f:Nat→SlotD)(k0:Int){j n:Nat}(h:j≤n):cntSl f k0 j≤cntSl f k0 n:=by
 obtain⟨m,rfl⟩:=Nat.exists_eq_add_of_le h
 exact cntSl_mono f k0 j m
def markS(f:Nat→SlotD)(k0:Int)(j:Nat):SlotD:=marked (f j) (cntSl f k0 j)
theorem slots_step{w w1 w2:World}{bs off:Nat}{kb:Nat→Nat}{kv:Nat→Value}{n k:Nat}{f:Nat→SlotD}{s':SlotD}
  (h:∀j,j<n→SlotOwn w bs (off+j*3) (kb j) (kv j) (f j)) (hap:KidsApart kb n f) (hk:k<n)
  (t1:Turned (fun b=>0<(f k).kn∧b=kb k) (w.setCell ⟨bs,off+k*3,none⟩ (.int .i64 s'.birth)) w1) (t2:Below w1.heap.size w1 w2)
  (hkn:s'.kn=(f k).kn) (hp:PtrsOwn w1 (kb k) (kv k) s'.kn s'.ks s'.kb) (hs:s'.data.size≤maxLen) :
  ∀j,j<n→SlotOwn (w2.setCell ⟨bs,off+k*3+2,none⟩ (.string s'.data)) bs (off+j*3) (kb j) (kv j) (if j=k then s' else f j):=by
 intro j hj
 have nb:¬(0<(f k).kn∧bs=kb k):=fun hx=>(h k hk).apart hx.1 hx.2.symm
 by_cases e:j=k
 ·subst e
  rw [if_pos rfl]
  have hj':=h j hj
  refine⟨?_,?_,?_,?_,hs,?_⟩
  ·exact(((hj'.birth.set _).turned t1 nb).below t2).other _ (Or.inr (by omega))
  ·exact(((hj'.kidsv.other _ (Or.inr (by omega))).turned t1 nb).below t2).other _ (Or.inr (by omega))
  ·exact(((hj'.data.other _ (Or.inr (by omega))).turned t1 nb).below t2).set _
  ·refine(hp.below t2).turned (Turned.put _ _ _ _) (fun h0 hx=>?_)
   exact hj'.apart (hkn▸h0) hx
  ·rw [hkn]; exact hj'.apart
 ·rw [if_neg e]
  have hj':=h j hj
  have c0:=hj'.birth.other (b':=bs) (o':=off+k*3) (.int .i64 s'.birth) (Or.inr (by omega))
  have c1:=hj'.kidsv.other (b':=bs) (o':=off+k*3) (.int .i64 s'.birth) (Or.inr (by omega))
  have c2:=hj'.data.other (b':=bs) (o':=off+k*3) (.int .i64 s'.birth) (Or.inr (by omega))
  have c3:=hj'.kids.turned (Turned.put w bs (off+k*3) (.int .i64 s'.birth)) (fun h0 hx=>hj'.apart h0 hx)
  refine⟨?_,?_,?_,?_,hj'.small,hj'.apart⟩
  ·exact((c0.turned t1 nb).below t2).other _ (Or.inr (by omega))
  ·exact((c1.turned t1 nb).below t2).other _ (Or.inr (by omega))
  ·exact((c2.turned t1 nb).below t2).other _ (Or.inr (by omega))
  ·refine((c3.turned t1 (fun h0 hx=>hap j k hj hk e h0 hx.1 hx.2)).below t2).turned (Turned.put _ _ _ _) (fun h0 hx=>hj'.apart h0 hx)
theorem stS_start(f:Nat→SlotD)(k0:Int)(j:Nat):(if j<0 then markS f k0 j else f j)=f j:=if_neg (by omega)
theorem stS_kn(f:Nat→SlotD)(k0:Int)(k j:Nat):(if j<k then markS f k0 j else f j).kn=(f j).kn:=by split <;> rfl
set_option maxRecDepth 20000 in
set_option maxHeartbeats 1000000 in
theorem markSlotS_any(bs:Nat)(kb:Nat→Nat)(kv:Nat→Value)(v:Value)(n:Nat)(f:Nat→SlotD)(k0:Int)(w:World)(h1:SlotsOwn w bs kb kv v n f)(hap:KidsApart kb n f)(hk0:0≤k0)(hk1:cntSl f k0 n≤1000000000000) :
  Calls Tryz.prog 91 #[v,.int .i64 k0] w fun e w'=>e = .returned (.int .i64 (cntSl f k0 n))∧SlotsOwn w' bs kb kv v n (markS f k0)∧Turned (SlotsB bs kb n f) w w':=by
 obtain⟨m1,a,c,rfl,mc,g1⟩:=h1
 by_cases hn0:n=0
 ·subst hn0
  go_enter Tryz.func91,Tryz.ntmps91
  go_wp2
  refine wp_loop_rounds 1 ?_
  rw [rounds_succ]
  go_wp2
  go_ret
  exact⟨by simp [cntSl],⟨m1,a,c,rfl,mc,fun h=>absurd h (by omega)⟩,Turned.refl _ _⟩
 ·obtain⟨off,rfl,g2⟩:=g1 (by omega)
  clear g1
  have hm1:=m1
  unfold maxLen at m1
  have G2:Hid (∀j,j<n→SlotOwn w bs (off+j*3) (kb j) (kv j) (f j)):=g2
  have Hap:Hid (KidsApart kb n f):=hap
  have Hk1:Hid (cntSl f k0 n≤1000000000000):=hk1
  clear g2 hap hk1
  go_enter Tryz.func91,Tryz.ntmps91
  go_wp2
  go_loopw [1,5] (fun m i wr=>∃k:Nat,k≤n∧i = .int .i64 k∧m = .int .i64 (cntSl f k0 k)∧(∀j,j<n→SlotOwn wr bs (off+j*3) (kb j) (kv j) (if j<k then markS f k0 j else f j))∧Turned (SlotsB bs kb n f) w wr) (fun _ i _=>n - (intOf i).toNat)
  case atStart=>exact⟨0,Nat.zero_le _,rfl,rfl,fun j hj=>by rw [stS_start]; exact G2.out j hj,Turned.refl _ _⟩
  case round=>
   obtain⟨k,hk,rfl,rfl,hall,ht⟩:=hrel
   have Hall:Hid (∀j,j<n→SlotOwn wr bs (off+j*3) (kb j) (kv j) (if j<k then markS f k0 j else f j)):=hall
   clear hall
   by_cases hlt:k<n
   ·have hlt':(k:Int)<(n:Int):=by omega
    have hs:=Hall.out k hlt
    rw [if_neg (by omega)] at hs
    have hc0:k0≤cntSl f k0 k:=cntSl_le f k0 (Nat.zero_le k)
    have hc1:cntSl f k0 k+2+2*((f k).kn:Int)≤1000000000000:=Int.le_trans (cntSl_le f k0 (show k+1≤n from hlt)) Hk1.out
    obtain⟨hb0,hf0⟩:=hs.birth
    obtain⟨hb1,hf1⟩:=hs.kidsv
    obtain⟨hb2,hf2⟩:=hs.data
    have Hs:Hid (SlotOwn wr bs (off+k*3) (kb k) (kv k) (f k)):=hs
    obtain⟨_,ka,kc,hkv,_⟩:=hs.kids
    clear hs
    generalize hx:kv k=kvk at *
    have Hx:Hid (kv k=kvk):=hx
    clear hx
    subst hkv
    go_wp2_with fail
    refine(markPtrS_any (kb k) _ (f k).kn (f k).ks (f k).kb _ _ ?p1 ?p2 ?p3).mono ?_
    case p1=>exact Hs.out.kids.turned (Turned.put _ _ _ _) (fun h0 hx=>Hs.out.apart h0 hx)
    case p2=>omega
    case p3=>omega
    rintro e w1 ⟨rfl,hp1,ht1⟩
    have nb:¬(0<(f k).kn∧bs=kb k):=fun hx=>Hs.out.apart hx.1 hx.2.symm
    have Hd:=((Hs.out.data.other (b':=bs) (o':=off+k*3) (.int .i64 (cntSl f k0 k)) (Or.inr (by omega))).turned ht1 nb)
    have Hp1:Hid (PtrsOwn w1 (kb k) (.slice ka (f k).kn kc) (f k).kn (fun i=>cntSl f k0 k+1+2*i) (fun i=>cntSl f k0 k+1+2*i+1)):=hp1
    clear nb hp1 hb0 hf0 hb1 hf1 hb2 hf2
    go_wp2_with fail
    refine(markText_any _ _ (by omega)).mono ?_
    rintro e w2 ⟨rfl,hb2⟩
    obtain⟨hd2,hf2⟩:=Hd.below hb2
    clear Hd
    go_wp2
    go_roundw
    case rel=>
     refine⟨k+1,by omega,by go_num,congrArg (Value.int .i64) (by show _=cntSl f k0 k+2+2*((f k).kn:Int); omega),fun j hj=>?_,?_⟩
     ·have st:=slots_step (s':=markS f k0 k) Hall.out (by
        intro i j hi hj hij h1 h2
        rw [stS_kn] at h1 h2
        exact Hap.out i j hi hj hij h1 h2) hlt (by rw [if_neg (Nat.lt_irrefl k)]; exact ht1) hb2 (by rw [if_neg (Nat.lt_irrefl k)]; rfl) (by rw [Hx.out]; exact Hp1.out) (mtF_size (by omega)) j hj
      by_cases e:j=k
      ·subst e
       rw [if_pos rfl] at st
       rw [if_pos (by omega)]
       exact st
      ·rw [if_neg e] at st
       by_cases e2:j<k
       ·rw [if_pos e2] at st; rw [if_pos (by omega)]; exact st
       ·rw [if_neg e2] at st; rw [if_neg (by omega)]; exact st
     ·refine(((ht.setCell (Or.inl ⟨by omega,rfl⟩) _).trans (ht1.mono ?_)).trans (Turned.of_below hb2)).setCell (Or.inl ⟨by omega,rfl⟩) _
      rintro b ⟨hb,rfl⟩
      exact Or.inr ⟨k,hlt,hb,rfl⟩
    case measure=>simp [intOf]; omega
   ·obtain rfl:k=n:=by omega
    go_wp2
    go_ret
    refine⟨rfl,⟨hm1,_,c,rfl,mc,fun _=>⟨off,rfl,fun i hi=>?_⟩⟩,ht⟩
    have:=Hall.out i hi
    rw [if_pos hi] at this
    exact this
set_option maxRecDepth 20000 in
set_option maxHeartbeats 400000 in
theorem markPool_any(bs hb:Nat)(kb:Nat→Nat)(kv:Nat→Value)(v0 v1:Value)(p:PoolD)(k0:Int)(w:World)
  (h1:SlotsOwn w bs kb kv v0 p.n p.s) (hap:KidsApart kb p.n p.s) (h2:IntsOwn w hb v1 p.hn p.h) (hd:0<p.hn→¬SlotsB bs kb p.n p.s hb)
  (hk0:0≤k0) (hk1:cntSl p.s k0 p.n+p.hn≤1000000000000) :
  Calls Tryz.prog 42 #[.agg #[v0,v1],.int .i64 k0] w fun e w'=>e = .returned (.int .i64 (cntSl p.s k0 p.n+p.hn))∧SlotsOwn w' bs kb kv v0 p.n (markS p.s k0)∧IntsOwn w' hb v1 p.hn (fun i=>cntSl p.s k0 p.n+i)∧
   Turned (fun k=>SlotsB bs kb p.n p.s k∨(0<p.hn∧k=hb)) w w':=by
 have q1:=h1
 have q2:=h2
 obtain⟨_,a,c,rfl,_⟩:=h1
 obtain⟨_,a',c',rfl,_⟩:=h2
 have Hk:Hid (cntSl p.s k0 p.n+p.hn≤1000000000000):=hk1
 have hk00:Hid (k0≤cntSl p.s k0 p.n):=cntSl_le p.s k0 (Nat.zero_le p.n)
 clear hk1
 go_enter Tryz.func42,Tryz.ntmps42
 go_wp2_with fail
 have hbw:=(Below.refl w.heap.size w).alloc (Nat.le_refl _) (.cells #[.slice a p.n c,.slice a' p.hn c'] 33)
 refine(markSlotS_any bs kb kv _ p.n p.s _ _ (q1.below hbw) hap hk0 (by have:=Hk.out; omega)).mono ?_
 rintro e w1 ⟨rfl,hs1,ht1⟩
 have nb:¬SlotsB bs kb p.n p.s w.heap.size:=fun x=>Nat.lt_irrefl _ (q1.lt x)
 have e1:=ht1.cell (b:=w.heap.size) (o:=1) (by simp) nb
 simp at e1
 go_wp2_with fail
 refine(markInt64S_any hb _ p.hn p.h _ _ ((q2.below hbw).turned ht1 hd) (by have:=hk00.out; omega) Hk.out).mono ?_
 rintro e w2 ⟨rfl,hs2,ht2⟩
 go_wp2
 go_ret
 refine⟨rfl,?_,hs2,?_⟩
 ·refine hs1.turned ht2 (fun h0 hx=>?_) (fun i hi h0 hx=>?_)
  ·exact hd hx.1 (Or.inl ⟨h0,hx.2.symm⟩)
  ·exact hd hx.1 (Or.inr ⟨i,hi,h0,hx.2.symm⟩)
 ·exact((Turned.of_below hbw).trans (ht1.mono fun k h=>Or.inl h)).trans (ht2.mono fun k h=>Or.inr h)
def markP(p:PoolD)(k0:Int):PoolD:={n:=p.n,s:=markS p.s k0,hn:=p.hn,h:=fun i=>cntSl p.s k0 p.n+i}
def endP(p:PoolD)(k0:Int):Int:=cntSl p.s k0 p.n+p.hn
end Go.Proofs.YtihdcanckbkgfaaGreatDoor
