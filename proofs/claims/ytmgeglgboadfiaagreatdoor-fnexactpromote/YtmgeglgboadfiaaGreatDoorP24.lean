/- What the laws' own functions of measuring answer (szPtrS, szInt64S, szSlot, szSlotS, szPool): what is left, if it is not negative, tells how much there is. -/
import Derived.Test.YtmgeglgboadfiaaGreatDoorProg
import GoSem.ClaimJoined
import GoSem.ClaimMapViews
import Derived.JoinedTies
import Derived.KernelRfl
import Derived.RowKit
import Derived.Test.YtmgeglgboadfiaaGreatDoorP1
import Derived.Test.YtmgeglgboadfiaaGreatDoorP12
import Derived.Test.YtmgeglgboadfiaaGreatDoorP11
import Derived.Deep.RegionHeld3
import Derived.Deep.QuietTactic
import Derived.BigQuiet
namespace Go.Proofs.YtmgeglgboadfiaaGreatDoor
open Go.RowKit
set_option linter.unusedVariables false
def LeftIs(t:Nat)(left:Int)(e:Ending):Prop:=∃r:Int,e = .returned (.int .i64 r)∧(0≤r→r+t=left)∧r≤left∧-1≤r
set_option maxRecDepth 20000 in
set_option maxHeartbeats 400000 in
theorem szPtrS_any(v:Value)(n lo hi:Nat)(f g:Nat→Int)(left:Int)(w:World)(h1:PtrsAt w lo hi v n f g)(hl0:0≤left)(hl1:left≤1048576) :
  Calls Tryz.prog 135 #[v,.int .i64 left] w fun e w'=>LeftIs n left e∧Below w.heap.size w w':=by
 obtain⟨m1,a,c,rfl,mc,g1⟩:=h1
 unfold maxLen at m1
 clear g1
 by_cases h:left - (n:Int)<0
 ·go_enter Tryz.func135,Tryz.ntmps135
  go_wp2
  go_ret
  exact⟨⟨-1,rfl,by omega,by omega,by omega⟩,Below.refl _ _⟩
 ·go_enter Tryz.func135,Tryz.ntmps135
  go_wp2
  go_ret
  exact⟨⟨_,rfl,by omega,by omega,by omega⟩,Below.refl _ _⟩
set_option maxRecDepth 20000 in
set_option maxHeartbeats 400000 in
theorem szInt64S_any(v:Value)(n lo hi:Nat)(f:Nat→Int)(left:Int)(w:World)(h1:IntsAt w lo hi v n f)(hl0:0≤left)(hl1:left≤1048576) :
  Calls Tryz.prog 65 #[v,.int .i64 left] w fun e w'=>LeftIs n left e∧Below w.heap.size w w':=by
 obtain⟨m1,a,c,rfl,mc,g1⟩:=h1
 unfold maxLen at m1
 clear g1
 by_cases h:left - (n:Int)<0
 ·go_enter Tryz.func65,Tryz.ntmps65
  go_wp2
  go_ret
  exact⟨⟨-1,rfl,by omega,by omega,by omega⟩,Below.refl _ _⟩
 ·go_enter Tryz.func65,Tryz.ntmps65
  go_wp2
  go_ret
  exact⟨⟨_,rfl,by omega,by omega,by omega⟩,Below.refl _ _⟩
set_option maxRecDepth 20000 in
set_option maxHeartbeats 400000 in
theorem szSlot_any(v0 v1 v2:Value)(lo hi:Nat)(s:SlotD)(left:Int)(w:World)(h1:SlotAt w lo hi v0 v1 v2 s)(hl0:0≤left)(hl1:left≤1048576) :
  Calls Tryz.prog 134 #[.agg #[v0,v1,v2],.int .i64 left] w fun e w'=>LeftIs (slotN s) left e∧Below w.heap.size w w':=by
 obtain⟨rfl,p1,rfl,m1⟩:=h1
 have q1:=p1
 obtain⟨_,a,c,rfl,_⟩:=p1
 unfold maxLen at m1
 go_enter Tryz.func134,Tryz.ntmps134
 go_wp2_with fail
 have hbw:=(Below.refl w.heap.size w).alloc (Nat.le_refl _) (.cells #[.int .i64 s.birth,.slice a s.kn c,.string s.data] 183)
 refine(szPtrS_any _ s.kn lo hi _ _ _ _ (q1.below hbw) hl0 hl1).mono ?_
 rintro e w1 ⟨⟨r,rfl,hr1,hr2,hr3⟩,hb1⟩
 have hb2:=below_next hbw hb1
 have e1:=hb1.cell (p:=⟨w.heap.size,2,none⟩) (by simp)
 simp at e1
 have Hr:Hid (0≤r→r+s.kn=left):=hr1
 clear hr1 hb1 hbw
 by_cases h:r<0
 ·go_wp2
  go_ret
  exact⟨⟨-1,rfl,by omega,by omega,by omega⟩,hb2⟩
 ·by_cases h2:r - (s.data.size:Int)<0
  ·go_wp2
   go_ret
   exact⟨⟨-1,rfl,by omega,by omega,by omega⟩,hb2⟩
  ·go_wp2
   go_ret
   refine⟨⟨_,rfl,fun _=>?_,by omega,by omega⟩,hb2⟩
   have:=Hr.out (by omega)
   unfold slotN
   omega
set_option maxRecDepth 20000 in
set_option maxHeartbeats 400000 in
theorem szSlotS_any(v:Value)(n lo hi:Nat)(f:Nat→SlotD)(left:Int)(w:World)(h1:SlotsAt w lo hi v n f)(hl0:0≤left)(hl1:left≤1048576) :
  Calls Tryz.prog 64 #[v,.int .i64 left] w fun e w'=>LeftIs (n+slotsN f n) left e∧Below w.heap.size w w':=by
 obtain⟨m1,a,c,rfl,mc,g1⟩:=h1
 unfold maxLen at m1
 have G1:Hid (0<n→∃b off,a=some ⟨b,off,none⟩∧lo≤b∧b<hi∧∀i,i<n→∃v0 v1 v2,w.cell? ⟨b,off+i*3,none⟩=some v0∧w.cell? ⟨b,off+i*3+1,none⟩=some v1∧w.cell? ⟨b,off+i*3+2,none⟩=some v2∧SlotAt w lo hi v0 v1 v2 (f i)):=g1
 clear g1
 by_cases h:left - (n:Int)<0
 ·go_enter Tryz.func64,Tryz.ntmps64
  go_wp2
  go_ret
  exact⟨⟨-1,rfl,by omega,by omega,by omega⟩,Below.refl _ _⟩
 ·go_enter Tryz.func64,Tryz.ntmps64
  go_wp2
  go_loopw [1,5] (fun m i wr=>∃(k:Nat) (r:Int),k≤n∧i = .int .i64 k∧m = .int .i64 r∧0≤r∧r+n+slotsN f k=left∧Below w.heap.size w wr) (fun _ i _=>n - (intOf i).toNat)
  case atStart=>exact⟨0,_,Nat.zero_le _,rfl,rfl,by omega,by simp [slotsN],Below.refl _ _⟩
  case round=>
   obtain⟨k,r,hk,rfl,rfl,hr0,hr,hb⟩:=hrel
   have hr1:r≤left:=by omega
   have Hr:Hid (r+n+slotsN f k=left):=hr
   clear hr
   by_cases hlt:k<n
   ·have hlt':(k:Int)<(n:Int):=by omega
    obtain⟨b,off,rfl,_,_,k1⟩:=G1.out (by omega)
    obtain⟨x0,x1,x2,c0,c1,c2,hs⟩:=k1 k hlt
    have hd0:=(hb.cell (lt_of_cell c0)).trans c0
    have hd1:=(hb.cell (lt_of_cell c1)).trans c1
    have hd2:=(hb.cell (lt_of_cell c2)).trans c2
    have hs':=hs.below hb
    have Hs:Hid (SlotAt wr lo hi x0 x1 x2 (f k)):=hs'
    clear k1 G1 c0 c1 c2 hs
    obtain⟨rfl,⟨_,ka,kc,rfl,_⟩,rfl,_⟩:=hs'
    go_wp2_with fail
    refine(szSlot_any _ _ _ lo hi (f k) _ _ Hs.out hr0 (by omega)).mono ?_
    rintro e w1 ⟨⟨r',rfl,hq1,hq2,hq3⟩,hb1⟩
    have hb2:=below_next hb hb1
    have Hq:Hid (0≤r'→r'+slotN (f k)=r):=hq1
    clear hq1 hb1 hd0 hd1 hd2
    by_cases h3:r'<0
    ·go_wp2
     go_ret
     exact⟨⟨-1,rfl,by omega,by omega,by omega⟩,hb2⟩
    ·go_wp2
     go_roundw
     case rel=>
      refine⟨k+1,r',by omega,by go_num,rfl,by omega,?_,hb2⟩
      have e1:=Hq.out (by omega)
      have e2:=Hr.out
      show r'+(n:Int)+((slotsN f k+slotN (f k):Nat):Int)=left
      omega
     case measure=>simp [intOf]; omega
   ·obtain rfl:k=n:=by omega
    go_wp2
    go_ret
    exact⟨⟨r,rfl,fun _=>by have:=Hr.out; omega,hr1,by omega⟩,hb⟩
set_option maxRecDepth 20000 in
set_option maxHeartbeats 400000 in
theorem szPool_any(v0 v1:Value)(lo hi:Nat)(p:PoolD)(left:Int)(w:World)(h1:PoolAt w lo hi v0 v1 p)(hl0:0≤left)(hl1:left≤1048576) :
  Calls Tryz.prog 22 #[.agg #[v0,v1],.int .i64 left] w fun e w'=>LeftIs (poolN p) left e∧Below w.heap.size w w':=by
 have q1:=h1
 obtain⟨⟨_,a,c,rfl,_⟩,⟨_,a',c',rfl,_⟩⟩:=h1
 go_enter Tryz.func22,Tryz.ntmps22
 go_wp2_with fail
 have hbw:=(Below.refl w.heap.size w).alloc (Nat.le_refl _) (.cells #[.slice a p.n c,.slice a' p.hn c'] 25)
 refine(szSlotS_any _ p.n lo hi _ _ _ (q1.1.below hbw) hl0 hl1).mono ?_
 rintro e w1 ⟨⟨r,rfl,hr1,hr2,hr3⟩,hb1⟩
 have hb2:=below_next hbw hb1
 have e1:=hb1.cell (p:=⟨w.heap.size,1,none⟩) (by simp)
 simp at e1
 have Hr:Hid (0≤r→r+(p.n+slotsN p.s p.n:Nat)=left):=hr1
 clear hr1 hb1 hbw
 by_cases h:r<0
 ·go_wp2
  go_ret
  exact⟨⟨-1,rfl,by omega,by omega,by omega⟩,hb2⟩
 ·go_wp2_with fail
  refine(szInt64S_any _ p.hn lo hi _ _ _ (q1.2.below hb2) (by omega) (by omega)).mono ?_
  rintro e w2 ⟨⟨r',rfl,hq1,hq2,hq3⟩,hb3⟩
  have hb4:=below_next hb2 hb3
  have Hq:Hid (0≤r'→r'+p.hn=r):=hq1
  clear hq1 hb3
  by_cases h3:r'<0
  ·go_wp2
   go_ret
   exact⟨⟨-1,rfl,by omega,by omega,by omega⟩,hb4⟩
  ·go_wp2
   go_ret
   refine⟨⟨r',rfl,fun _=>?_,by omega,by omega⟩,hb4⟩
   have e1:=Hq.out (by omega)
   have e2:=Hr.out (by omega)
   unfold poolN
   omega
end Go.Proofs.YtmgeglgboadfiaaGreatDoor

namespace Go.Proofs.YtmgeglgboadfiaaGreatDoor
open Go.RowKit Go.Maps
set_option linter.unusedVariables false
def setN(s:SetD):Nat:=s.name.size+s.dn
def setsN(f:Nat→SetD):Nat→Nat
 | 0=>0
 | k+1=>setsN f k+setN (f k)
def snapN(s:SnapD):Nat:=s.name.size+s.set.size+s.dn
def snapsN(f:Nat→SnapD):Nat→Nat
 | 0=>0
 | k+1=>snapsN f k+snapN (f k)
def worldN(W:WorldD):Nat:=poolN W.pool+(W.sn+setsN W.sets W.sn)+(W.pn+snapsN W.snaps W.pn)
set_option maxRecDepth 20000 in
set_option maxHeartbeats 400000 in
theorem szSet_any(v:Value)(lo hi:Nat)(s:SetD)(left:Int)(w:World)(h1:PtrsAt w lo hi v s.dn s.ds s.db)(m1:s.name.size≤maxLen)(hl0:0≤left)(hl1:left≤1048576) :
  Calls Tryz.prog 66 #[setV v s,.int .i64 left] w fun e w'=>LeftIs (setN s) left e∧Below w.heap.size w w':=by
 unfold setV
 have H1:=hideW h1
 obtain⟨-,a,c,rfl,-⟩:=id h1
 clear h1
 unfold maxLen at m1
 have hbw:=below_alloc w (.cells #[.string s.name,.int .i64 s.origin,.int .i64 s.prev,.int .i64 s.rs,.int .i64 s.rb,.slice a s.dn c] 116)
 go_enter Tryz.func66,Tryz.ntmps66
 by_cases h:left - (s.name.size:Int)<0
 ·go_wp2
  go_ret
  exact⟨⟨-1,rfl,by omega,by omega,by omega⟩,hbw⟩
 ·go_wp2_with fail
  refine(szPtrS_any _ s.dn lo hi _ _ _ _ (H1.out.below hbw) (by omega) (by omega)).mono ?_
  rintro e w1 ⟨⟨r,rfl,hr1,hr2,hr3⟩,hb1⟩
  have hb2:=below_next hbw hb1
  have Hr:=hideW hr1
  clear hr1 hb1 hbw
  by_cases h2:r<0
  ·go_wp2
   go_ret
   exact⟨⟨-1,rfl,by omega,by omega,by omega⟩,hb2⟩
  ·go_wp2
   go_ret
   refine⟨⟨_,rfl,fun _=>?_,by omega,by omega⟩,hb2⟩
   have:=Hr.out (by omega)
   unfold setN
   omega
set_option maxRecDepth 20000 in
set_option maxHeartbeats 400000 in
theorem szSnap_any(v:Value)(lo hi:Nat)(s:SnapD)(left:Int)(w:World)(h1:PtrsAt w lo hi v s.dn s.ds s.db)(m1:s.name.size≤maxLen)(m2:s.set.size≤maxLen)(hl0:0≤left)(hl1:left≤1048576) :
  Calls Tryz.prog 67 #[snapV v s,.int .i64 left] w fun e w'=>LeftIs (snapN s) left e∧Below w.heap.size w w':=by
 unfold snapV
 have H1:=hideW h1
 obtain⟨-,a,c,rfl,-⟩:=id h1
 clear h1
 unfold maxLen at m1 m2
 have hbw:=below_alloc w (.cells #[.int .i64 s.id,.string s.name,.string s.set,.int .i64 s.prev,.int .i64 s.time,.int .i64 s.rs,.int .i64 s.rb,.slice a s.dn c] 119)
 go_enter Tryz.func67,Tryz.ntmps67
 by_cases h:left - (s.name.size:Int)<0
 ·go_wp2
  go_ret
  exact⟨⟨-1,rfl,by omega,by omega,by omega⟩,hbw⟩
 ·by_cases h':left - (s.name.size:Int) - (s.set.size:Int)<0
  ·go_wp2
   go_ret
   exact⟨⟨-1,rfl,by omega,by omega,by omega⟩,hbw⟩
  ·go_wp2_with fail
   refine(szPtrS_any _ s.dn lo hi _ _ _ _ (H1.out.below hbw) (by omega) (by omega)).mono ?_
   rintro e w1 ⟨⟨r,rfl,hr1,hr2,hr3⟩,hb1⟩
   have hb2:=below_next hbw hb1
   have Hr:=hideW hr1
   clear hr1 hb1 hbw
   by_cases h2:r<0
   ·go_wp2
    go_ret
    exact⟨⟨-1,rfl,by omega,by omega,by omega⟩,hb2⟩
   ·go_wp2
    go_ret
    refine⟨⟨_,rfl,fun _=>?_,by omega,by omega⟩,hb2⟩
    have:=Hr.out (by omega)
    unfold snapN
    omega
end Go.Proofs.YtmgeglgboadfiaaGreatDoor

namespace Go.Proofs.YtmgeglgboadfiaaGreatDoor
open Go.RowKit
set_option linter.unusedVariables false
set_option maxRecDepth 20000 in
set_option maxHeartbeats 400000 in
theorem eqPtr_any(a b c d:Int)(w:World) :
  Calls Tryz.prog 174 #[.agg #[.int .i64 a,.int .i64 b],.agg #[.int .i64 c,.int .i64 d]] w fun e w'=>BoolIs (PtrEq a b c d) e∧Below w.heap.size w w':=by
 by_cases h1:a=c
 ·by_cases h2:b=d
  ·subst h1 h2
   go_enter Tryz.func174,Tryz.ntmps174
   go_wp2
   go_ret
   exact⟨BoolIs.yes ⟨rfl,rfl⟩,((Below.refl _ _).alloc (Nat.le_refl _) _).alloc (by simp) _⟩
  ·subst h1
   have hb:(b != d)=true:=by simp [h2]
   have H2:Hid (¬PtrEq a b a d):=fun h=>h2 h.2
   clear h2
   go_enter Tryz.func174,Tryz.ntmps174
   go_wp2
   go_ret
   exact⟨BoolIs.no H2.out,((Below.refl _ _).alloc (Nat.le_refl _) _).alloc (by simp) _⟩
 ·have hb:(a != c)=true:=by simp [h1]
  have H2:Hid (¬PtrEq a b c d):=fun h=>h1 h.1
  clear h1
  go_enter Tryz.func174,Tryz.ntmps174
  go_wp2
  go_ret
  exact⟨BoolIs.no H2.out,((Below.refl _ _).alloc (Nat.le_refl _) _).alloc (by simp) _⟩
set_option maxRecDepth 20000 in
set_option maxHeartbeats 400000 in
theorem eqInt64S_any(v v':Value)(n n' lo hi lo' hi':Nat)(f f':Nat→Int)(w:World)(h1:IntsAt w lo hi v n f)(h2:IntsAt w lo' hi' v' n' f') :
  Calls Tryz.prog 109 #[v,v'] w fun e w'=>BoolIs (IntsEq n n' f f') e∧Below w.heap.size w w':=by
 obtain⟨m1,a,c,rfl,mc,g1⟩:=h1
 obtain⟨m2,a',c',rfl,mc',g2⟩:=h2
 unfold maxLen at m1 m2
 by_cases hn:n=n'
 ·subst hn
  have hne:((n:Int) != (n:Int))=false:=by simp
  go_enter Tryz.func109,Tryz.ntmps109
  go_wp2
  go_loopw [5] (fun i wr=>∃k:Nat,k≤n∧i = .int .i64 k∧(∀j,j<k→f j=f' j)∧Below w.heap.size w wr) (fun i _=>n - (intOf i).toNat)
  case atStart=>exact⟨0,Nat.zero_le _,rfl,fun j h=>absurd h (Nat.not_lt_zero _),Below.refl _ _⟩
  case round=>
   obtain⟨k,hk,rfl,hall,hb⟩:=hrel
   have Hall:Hid (∀j,j<k→f j=f' j):=hall
   clear hall
   by_cases hlt:k<n
   ·have hlt':(k:Int)<(n:Int):=by omega
    obtain⟨b,off,rfl,_,_,k1⟩:=g1 (by omega)
    obtain⟨b',off',rfl,_,_,k2⟩:=g2 (by omega)
    have hc1:wr.cell? ⟨b,off+k,none⟩=some (.int .i64 (f k)):=(hb.cell (lt_of_cell (k1 k hlt))).trans (k1 k hlt)
    have hc2:wr.cell? ⟨b',off'+k,none⟩=some (.int .i64 (f' k)):=(hb.cell (lt_of_cell (k2 k hlt))).trans (k2 k hlt)
    clear k1 k2 g1 g2
    by_cases he:f k=f' k
    ·have he':(f k != f' k)=false:=by simp [he]
     have He:Hid (f k=f' k):=he
     clear he
     go_wp2_with fail
     go_quiet (fail)
     go_wp2
     go_roundw
     case rel=>exact⟨k+1,by omega,by go_num,relNext hlt Hall.out He.out,below_drewN hb _⟩
     case measure=>simp [intOf]; omega
    ·have he':(f k != f' k)=true:=by simp [he]
     have He:Hid (¬f k=f' k):=he
     clear he
     go_wp2_with fail
     go_quiet (fail)
     go_wp2
     go_ret
     exact⟨BoolIs.no fun h=>He.out (h.2 k hlt),below_drewN hb _⟩
   ·go_wp2
    go_ret
    exact⟨BoolIs.yes ⟨rfl,fun i hi=>Hall.out i (by omega)⟩,hb⟩
 ·have hne:((n:Int) != (n':Int))=true:=by simp; omega
  have Hn:Hid (¬n=n'):=hn
  clear hn
  go_enter Tryz.func109,Tryz.ntmps109
  go_wp2
  go_ret
  exact⟨BoolIs.no fun h=>Hn.out h.1,Below.refl _ _⟩
set_option maxRecDepth 20000 in
set_option maxHeartbeats 400000 in
theorem eqPtrS_any(v v':Value)(n n' lo hi lo' hi':Nat)(f g f' g':Nat→Int)(w:World)(h1:PtrsAt w lo hi v n f g)(h2:PtrsAt w lo' hi' v' n' f' g') :
  Calls Tryz.prog 175 #[v,v'] w fun e w'=>BoolIs (PtrsEq n n' f g f' g') e∧Below w.heap.size w w':=by
 obtain⟨m1,a,c,rfl,mc,g1⟩:=h1
 obtain⟨m2,a',c',rfl,mc',g2⟩:=h2
 unfold maxLen at m1 m2
 by_cases hn:n=n'
 ·subst hn
  have hne:((n:Int) != (n:Int))=false:=by simp
  go_enter Tryz.func175,Tryz.ntmps175
  go_wp2
  go_loopw [5] (fun i wr=>∃k:Nat,k≤n∧i = .int .i64 k∧(∀j,j<k→f j=f' j∧g j=g' j)∧Below w.heap.size w wr) (fun i _=>n - (intOf i).toNat)
  case atStart=>exact⟨0,Nat.zero_le _,rfl,fun j h=>absurd h (Nat.not_lt_zero _),Below.refl _ _⟩
  case round=>
   obtain⟨k,hk,rfl,hall,hb⟩:=hrel
   have Hall:Hid (∀j,j<k→f j=f' j∧g j=g' j):=hall
   clear hall
   by_cases hlt:k<n
   ·have hlt':(k:Int)<(n:Int):=by omega
    obtain⟨b,off,rfl,_,_,k1⟩:=g1 (by omega)
    obtain⟨b',off',rfl,_,_,k2⟩:=g2 (by omega)
    have hc1:wr.cell? ⟨b,off+k*2,none⟩=some (.int .i64 (f k)):=(hb.cell (lt_of_cell (k1 k hlt).1)).trans (k1 k hlt).1
    have hd1:wr.cell? ⟨b,off+k*2+1,none⟩=some (.int .i64 (g k)):=(hb.cell (lt_of_cell (k1 k hlt).2)).trans (k1 k hlt).2
    have hc2:wr.cell? ⟨b',off'+k*2,none⟩=some (.int .i64 (f' k)):=(hb.cell (lt_of_cell (k2 k hlt).1)).trans (k2 k hlt).1
    have hd2:wr.cell? ⟨b',off'+k*2+1,none⟩=some (.int .i64 (g' k)):=(hb.cell (lt_of_cell (k2 k hlt).2)).trans (k2 k hlt).2
    clear k1 k2 g1 g2
    go_wp2_with fail
    go_region_held3 (fun w'=>w'.cell? ⟨b,off+k*2,none⟩=some (.int .i64 (f k))∧w'.cell? ⟨b,off+k*2+1,none⟩=some (.int .i64 (g k))∧w'.cell? ⟨b',off'+k*2,none⟩=some (.int .i64 (f' k))∧w'.cell? ⟨b',off'+k*2+1,none⟩=some (.int .i64 (g' k))) (go_keep)
     (first | (go_at_call 174; refine(eqPtr_any _ _ _ _ _).mono ?_; rintro e w1 ⟨⟨t,rfl,ht⟩,hb1⟩; have z1:=(hb1.cell (p:=⟨b,off+k*2,none⟩) (lt_of_cell hc1)).trans hc1; have z2:=(hb1.cell (p:=⟨b,off+k*2+1,none⟩) (lt_of_cell hd1)).trans hd1; have z3:=(hb1.cell (p:=⟨b',off'+k*2,none⟩) (lt_of_cell hc2)).trans hc2; have z4:=(hb1.cell (p:=⟨b',off'+k*2+1,none⟩) (lt_of_cell hd2)).trans hd2))
    have Ht:Hid (t=true↔PtrEq (f k) (g k) (f' k) (g' k)):=ht
    have hb2:=below_call hb hb1
    clear ht z1 z2 z3 z4 hc1 hd1 hc2 hd2 hb1
    cases t
    ·go_wp2
     go_ret
     exact⟨BoolIs.no fun h=>absurd (Ht.out.2 (h.2 k hlt)) (by simp),hb2⟩
    ·go_wp2
     go_roundw
     case rel=>exact⟨k+1,by omega,by go_num,relNext hlt Hall.out (Ht.out.1 rfl),hb2⟩
     case measure=>simp [intOf]; omega
   ·go_wp2
    go_ret
    exact⟨BoolIs.yes ⟨rfl,fun i hi=>Hall.out i (by omega)⟩,hb⟩
 ·have hne:((n:Int) != (n':Int))=true:=by simp; omega
  have Hn:Hid (¬n=n'):=hn
  clear hn
  go_enter Tryz.func175,Tryz.ntmps175
  go_wp2
  go_ret
  exact⟨BoolIs.no fun h=>Hn.out h.1,Below.refl _ _⟩
set_option maxRecDepth 20000 in
set_option maxHeartbeats 400000 in
theorem eqSlot_any(v0 v1 v2 u0 u1 u2:Value)(lo hi lo' hi':Nat)(s t:SlotD)(w:World)(h1:SlotAt w lo hi v0 v1 v2 s)(h2:SlotAt w lo' hi' u0 u1 u2 t) :
  Calls Tryz.prog 173 #[.agg #[v0,v1,v2],.agg #[u0,u1,u2]] w fun e w'=>BoolIs (SlotEq s t) e∧Below w.heap.size w w':=by
 obtain⟨rfl,p1,rfl,m1⟩:=h1
 obtain⟨rfl,p2,rfl,m2⟩:=h2
 have q1:=p1
 have q2:=p2
 obtain⟨_,a,c,rfl,_⟩:=p1
 obtain⟨_,a',c',rfl,_⟩:=p2
 by_cases h1:s.birth=t.birth
 ·have hb:(s.birth != t.birth)=false:=by simp [h1]
  have H1:Hid (s.birth=t.birth):=h1
  clear h1
  go_enter Tryz.func173,Tryz.ntmps173
  go_wp2_with fail
  have hbw:=((Below.refl w.heap.size w).alloc (Nat.le_refl _) (.cells #[.int .i64 s.birth,.slice a s.kn c,.string s.data] 127)).alloc (by simp) (.cells #[.int .i64 t.birth,.slice a' t.kn c',.string t.data] 127)
  refine(eqPtrS_any _ _ _ _ _ _ _ _ _ _ _ _ _ (q1.below hbw) (q2.below hbw)).mono ?_
  rintro e w1 ⟨⟨x,rfl,hx⟩,hb1⟩
  have Hx:Hid (x=true↔PtrsEq s.kn t.kn s.ks s.kb t.ks t.kb):=hx
  have hb2:=below_next hbw hb1
  have e1:=hb1.cell (p:=⟨w.heap.size,2,none⟩) (by simp; omega)
  have e2:=hb1.cell (p:=⟨w.heap.size+1,2,none⟩) (by simp)
  simp at e1 e2
  clear hx hb1 hbw
  cases x
  ·go_wp2
   go_ret
   exact⟨BoolIs.no fun h=>absurd (Hx.out.2 h.2.1) (by simp),hb2⟩
  ·by_cases h3:s.data=t.data
   ·have h3':=str_eq h3
    have H3:Hid (s.data=t.data):=h3
    clear h3
    go_wp2
    go_ret
    exact⟨BoolIs.yes ⟨H1.out,(by simpa using Hx.out),H3.out⟩,hb2⟩
   ·have h3':=str_ne h3
    have H3:Hid (¬s.data=t.data):=h3
    clear h3
    go_wp2
    go_ret
    exact⟨BoolIs.no fun h=>H3.out h.2.2,hb2⟩
 ·have hb:(s.birth != t.birth)=true:=by simp [h1]
  have H1:Hid (¬s.birth=t.birth):=h1
  clear h1
  go_enter Tryz.func173,Tryz.ntmps173
  go_wp2
  go_ret
  exact⟨BoolIs.no fun h=>H1.out h.1,((Below.refl _ _).alloc (Nat.le_refl _) _).alloc (by simp) _⟩
set_option maxRecDepth 20000 in
set_option maxHeartbeats 400000 in
theorem eqSlotS_any(v v':Value)(n n' lo hi lo' hi':Nat)(f f':Nat→SlotD)(w:World)(h1:SlotsAt w lo hi v n f)(h2:SlotsAt w lo' hi' v' n' f') :
  Calls Tryz.prog 108 #[v,v'] w fun e w'=>BoolIs (SlotsEq n n' f f') e∧Below w.heap.size w w':=by
 obtain⟨m1,a,c,rfl,mc,g1⟩:=h1
 obtain⟨m2,a',c',rfl,mc',g2⟩:=h2
 unfold maxLen at m1 m2
 by_cases hn:n=n'
 ·subst hn
  have hne:((n:Int) != (n:Int))=false:=by simp
  go_enter Tryz.func108,Tryz.ntmps108
  go_wp2
  go_loopw [5] (fun i wr=>∃k:Nat,k≤n∧i = .int .i64 k∧(∀j,j<k→SlotEq (f j) (f' j))∧Below w.heap.size w wr) (fun i _=>n - (intOf i).toNat)
  case atStart=>exact⟨0,Nat.zero_le _,rfl,fun j h=>absurd h (Nat.not_lt_zero _),Below.refl _ _⟩
  case round=>
   obtain⟨k,hk,rfl,hall,hb⟩:=hrel
   have Hall:Hid (∀j,j<k→SlotEq (f j) (f' j)):=hall
   clear hall
   by_cases hlt:k<n
   ·have hlt':(k:Int)<(n:Int):=by omega
    obtain⟨b,off,rfl,_,_,k1⟩:=g1 (by omega)
    obtain⟨b',off',rfl,_,_,k2⟩:=g2 (by omega)
    obtain⟨x0,x1,x2,c0,c1,c2,hs⟩:=k1 k hlt
    obtain⟨y0,y1,y2,d0,d1,d2,ht⟩:=k2 k hlt
    have hc0:=(hb.cell (lt_of_cell c0)).trans c0
    have hc1:=(hb.cell (lt_of_cell c1)).trans c1
    have hc2:=(hb.cell (lt_of_cell c2)).trans c2
    have hd0:=(hb.cell (lt_of_cell d0)).trans d0
    have hd1:=(hb.cell (lt_of_cell d1)).trans d1
    have hd2:=(hb.cell (lt_of_cell d2)).trans d2
    have hs':=hs.below hb
    have ht':=ht.below hb
    clear k1 k2 g1 g2 c0 c1 c2 d0 d1 d2 hs ht
    have hs2:=hs'
    have ht2:=ht'
    obtain⟨rfl,⟨_,sa,sc,rfl,_⟩,rfl,_⟩:=hs2
    obtain⟨rfl,⟨_,ta,tc,rfl,_⟩,rfl,_⟩:=ht2
    go_wp2_with fail
    go_region_held3 (fun w'=>w'.cell? ⟨b,off+k*3,none⟩=some (.int .i64 (f k).birth)∧w'.cell? ⟨b,off+k*3+1,none⟩=some (.slice sa (f k).kn sc)∧w'.cell? ⟨b,off+k*3+2,none⟩=some (.string (f k).data)∧w'.cell? ⟨b',off'+k*3,none⟩=some (.int .i64 (f' k).birth)∧w'.cell? ⟨b',off'+k*3+1,none⟩=some (.slice ta (f' k).kn tc)∧w'.cell? ⟨b',off'+k*3+2,none⟩=some (.string (f' k).data)) (go_keep)
     (first | (go_at_call 173; refine(eqSlot_any _ _ _ _ _ _ lo hi lo' hi' (f k) (f' k) _ ?_ ?_).mono ?_; (exact hs'.below ((Below.refl _ _).drew)); (exact ht'.below ((Below.refl _ _).drew)); rintro e w1 ⟨⟨t,rfl,hx⟩,hb1⟩; have z1:=(hb1.cell (p:=⟨b,off+k*3,none⟩) (lt_of_cell hc0)).trans hc0; have z2:=(hb1.cell (p:=⟨b,off+k*3+1,none⟩) (lt_of_cell hc1)).trans hc1; have z3:=(hb1.cell (p:=⟨b,off+k*3+2,none⟩) (lt_of_cell hc2)).trans hc2; have y1:=(hb1.cell (p:=⟨b',off'+k*3,none⟩) (lt_of_cell hd0)).trans hd0; have y2:=(hb1.cell (p:=⟨b',off'+k*3+1,none⟩) (lt_of_cell hd1)).trans hd1; have y3:=(hb1.cell (p:=⟨b',off'+k*3+2,none⟩) (lt_of_cell hd2)).trans hd2))
    have Ht:Hid (t=true↔SlotEq (f k) (f' k)):=hx
    have hb2:=below_call hb hb1
    clear hx z1 z2 z3 y1 y2 y3 hc0 hc1 hc2 hd0 hd1 hd2 hb1
    cases t
    ·go_wp2
     go_ret
     exact⟨BoolIs.no fun h=>absurd (Ht.out.2 (h.2 k hlt)) (by simp),hb2⟩
    ·go_wp2
     go_roundw
     case rel=>exact⟨k+1,by omega,by go_num,relNext hlt Hall.out (Ht.out.1 rfl),hb2⟩
     case measure=>simp [intOf]; omega
   ·go_wp2
    go_ret
    exact⟨BoolIs.yes ⟨rfl,fun i hi=>Hall.out i (by omega)⟩,hb⟩
 ·have hne:((n:Int) != (n':Int))=true:=by simp; omega
  have Hn:Hid (¬n=n'):=hn
  clear hn
  go_enter Tryz.func108,Tryz.ntmps108
  go_wp2
  go_ret
  exact⟨BoolIs.no fun h=>Hn.out h.1,Below.refl _ _⟩
set_option maxRecDepth 20000 in
set_option maxHeartbeats 400000 in
theorem eqPool_any(v0 v1 u0 u1:Value)(lo hi lo' hi':Nat)(p q:PoolD)(w:World)(h1:PoolAt w lo hi v0 v1 p)(h2:PoolAt w lo' hi' u0 u1 q) :
  Calls Tryz.prog 39 #[.agg #[v0,v1],.agg #[u0,u1]] w fun e w'=>BoolIs (PoolEq p q) e∧Below w.heap.size w w':=by
 have q1:=h1
 have q2:=h2
 obtain⟨⟨_,a,c,rfl,_⟩,⟨_,a1,c1,rfl,_⟩⟩:=h1
 obtain⟨⟨_,b,d,rfl,_⟩,⟨_,b1,d1,rfl,_⟩⟩:=h2
 go_enter Tryz.func39,Tryz.ntmps39
 go_wp2_with fail
 have hbw:=((Below.refl w.heap.size w).alloc (Nat.le_refl _) (.cells #[.slice a p.n c,.slice a1 p.hn c1] 33)).alloc (by simp) (.cells #[.slice b q.n d,.slice b1 q.hn d1] 33)
 refine(eqSlotS_any _ _ _ _ _ _ _ _ _ _ _ (q1.1.below hbw) (q2.1.below hbw)).mono ?_
 rintro e w1 ⟨⟨x,rfl,hx⟩,hb1⟩
 have Hx:Hid (x=true↔SlotsEq p.n q.n p.s q.s):=hx
 have hb2:=below_next hbw hb1
 have e1:=hb1.cell (p:=⟨w.heap.size,1,none⟩) (by simp; omega)
 have e2:=hb1.cell (p:=⟨w.heap.size+1,1,none⟩) (by simp)
 simp at e1 e2
 clear hx hb1 hbw
 cases x
 ·go_wp2
  go_ret
  exact⟨BoolIs.no fun h=>absurd (Hx.out.2 h.1) (by simp),hb2⟩
 ·go_wp2_with fail
  refine(eqInt64S_any _ _ _ _ _ _ _ _ _ _ _ (q1.2.below hb2) (q2.2.below hb2)).mono ?_
  rintro e w2 ⟨⟨y,rfl,hy⟩,hb3⟩
  have Hy:Hid (y=true↔IntsEq p.hn q.hn p.h q.h):=hy
  have hb4:=below_next hb2 hb3
  clear hy hb3 hb2
  cases y
  ·go_wp2
   go_ret
   exact⟨BoolIs.no fun h=>absurd (Hy.out.2 h.2) (by simp),hb4⟩
  ·go_wp2
   go_ret
   exact⟨BoolIs.yes ⟨(by simpa using Hx.out),(by simpa using Hy.out)⟩,hb4⟩
end Go.Proofs.YtmgeglgboadfiaaGreatDoor
