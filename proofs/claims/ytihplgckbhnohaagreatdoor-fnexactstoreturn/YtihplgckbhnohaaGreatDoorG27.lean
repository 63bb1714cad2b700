/- What the laws' own functions of comparing answer (eqPtr, eqPtrS, eqSlot, eqSlotS, eqInt64S, eqPool): true just where both hold the same; they write nothing that was there. -/
import Derived.Test.YtihplgckbhnohaaGreatDoorProg
import GoSem.ClaimJoined
import GoSem.ClaimMapViews
import Derived.JoinedTies
import Derived.KernelRfl
import Derived.RowKit
import Derived.Test.YtihplgckbhnohaaGreatDoorG1
import Derived.Deep.RegionHeld3
import Derived.Deep.QuietTactic
import Derived.BigQuiet
import Derived.Test.YtihplgckbhnohaaGreatDoorG26
import Derived.Deep.OwnRows
import Derived.Test.YtihplgckbhnohaaGreatDoorG19
import Derived.Test.YtihplgckbhnohaaGreatDoorG17
import Derived.Test.YtihplgckbhnohaaGreatDoorG3
namespace Go.Proofs.YtihplgckbhnohaaGreatDoor
open Go.RowKit
set_option linter.unusedVariables false
set_option maxRecDepth 20000 in
set_option maxHeartbeats 400000 in
theorem eqPtr_any(a b c d:Int)(w:World) :
  Calls Tryz.prog 91 #[.agg #[.int .i64 a,.int .i64 b],.agg #[.int .i64 c,.int .i64 d]] w fun e w'=>BoolIs (PtrEq a b c d) e∧Below w.heap.size w w':=by
 by_cases h1:a=c
 ·by_cases h2:b=d
  ·subst h1 h2
   go_enter Tryz.func91,Tryz.ntmps91
   go_wp2
   go_ret
   exact⟨BoolIs.yes ⟨rfl,rfl⟩,((Below.refl _ _).alloc (Nat.le_refl _) _).alloc (by simp) _⟩
  ·subst h1
   have hb:(b != d)=true:=by simp [h2]
   have H2:Hid (¬PtrEq a b a d):=fun h=>h2 h.2
   clear h2
   go_enter Tryz.func91,Tryz.ntmps91
   go_wp2
   go_ret
   exact⟨BoolIs.no H2.out,((Below.refl _ _).alloc (Nat.le_refl _) _).alloc (by simp) _⟩
 ·have hb:(a != c)=true:=by simp [h1]
  have H2:Hid (¬PtrEq a b c d):=fun h=>h1 h.1
  clear h1
  go_enter Tryz.func91,Tryz.ntmps91
  go_wp2
  go_ret
  exact⟨BoolIs.no H2.out,((Below.refl _ _).alloc (Nat.le_refl _) _).alloc (by simp) _⟩
set_option maxRecDepth 20000 in
set_option maxHeartbeats 400000 in
theorem eqInt64S_any(v v':Value)(n n' lo hi lo' hi':Nat)(f f':Nat→Int)(w:World)(h1:IntsAt w lo hi v n f)(h2:IntsAt w lo' hi' v' n' f') :
  Calls Tryz.prog 60 #[v,v'] w fun e w'=>BoolIs (IntsEq n n' f f') e∧Below w.heap.size w w':=by
 obtain⟨m1,a,c,rfl,mc,g1⟩:=h1
 obtain⟨m2,a',c',rfl,mc',g2⟩:=h2
 unfold maxLen at m1 m2
 by_cases hn:n=n'
 ·subst hn
  have hne:((n:Int) != (n:Int))=false:=by simp
  go_enter Tryz.func60,Tryz.ntmps60
  go_wp2
  go_loopw [5] (fun i wr=>∃k:Nat,k≤n∧i = .int .i64 k∧(∀j,j<k→f j=f' j)∧Below w.heap.size w wr) (fun i _=>n - (intOf i).toNat)
  case atStart=>exact⟨0,Nat.zero_le _,rfl,fun j h=>absurd h (Nat.not_lt_zero _),Below.refl _ _⟩
  case round=>
   obtain⟨k,hk,rfl,hall,hb⟩:=hrel
   have Hall:Hid (∀j,j<k→f j=f' j):=hall
   clear hall
   by_cases hlt:k<n
   ·have hlt':(k:Int)<(n:Int):=by omega
    obtain⟨b,off,rfl,_,_,k1⟩:=g1 (by omega)
    obtain⟨b',off',rfl,_,_,k2⟩:=g2 (by omega)
    have hc1:wr.cell? ⟨b,off+k,none⟩=some (.int .i64 (f k)):=(hb.cell (lt_of_cell (k1 k hlt))).trans (k1 k hlt)
    have hc2:wr.cell? ⟨b',off'+k,none⟩=some (.int .i64 (f' k)):=(hb.cell (lt_of_cell (k2 k hlt))).trans (k2 k hlt)
    clear k1 k2 g1 g2
    by_cases he:f k=f' k
    ·have he':(f k != f' k)=false:=by simp [he]
     have He:Hid (f k=f' k):=he
     clear he
     go_wp2_with fail
     go_quiet (fail)
     go_wp2
     go_roundw
     case rel=>exact⟨k+1,by omega,by go_num,relNext hlt Hall.out He.out,below_drewN hb _⟩
     case measure=>simp [intOf]; omega
    ·have he':(f k != f' k)=true:=by simp [he]
     have He:Hid (¬f k=f' k):=he
     clear he
     go_wp2_with fail
     go_quiet (fail)
     go_wp2
     go_ret
     exact⟨BoolIs.no fun h=>He.out (h.2 k hlt),below_drewN hb _⟩
   ·go_wp2
    go_ret
    exact⟨BoolIs.yes ⟨rfl,fun i hi=>Hall.out i (by omega)⟩,hb⟩
 ·have hne:((n:Int) != (n':Int))=true:=by simp; omega
  have Hn:Hid (¬n=n'):=hn
  clear hn
  go_enter Tryz.func60,Tryz.ntmps60
  go_wp2
  go_ret
  exact⟨BoolIs.no fun h=>Hn.out h.1,Below.refl _ _⟩
set_option maxRecDepth 20000 in
set_option maxHeartbeats 400000 in
theorem eqPtrS_any(v v':Value)(n n' lo hi lo' hi':Nat)(f g f' g':Nat→Int)(w:World)(h1:PtrsAt w lo hi v n f g)(h2:PtrsAt w lo' hi' v' n' f' g') :
  Calls Tryz.prog 92 #[v,v'] w fun e w'=>BoolIs (PtrsEq n n' f g f' g') e∧Below w.heap.size w w':=by
 obtain⟨m1,a,c,rfl,mc,g1⟩:=h1
 obtain⟨m2,a',c',rfl,mc',g2⟩:=h2
 unfold maxLen at m1 m2
 by_cases hn:n=n'
 ·subst hn
  have hne:((n:Int) != (n:Int))=false:=by simp
  go_enter Tryz.func92,Tryz.ntmps92
  go_wp2
  go_loopw [5] (fun i wr=>∃k:Nat,k≤n∧i = .int .i64 k∧(∀j,j<k→f j=f' j∧g j=g' j)∧Below w.heap.size w wr) (fun i _=>n - (intOf i).toNat)
  case atStart=>exact⟨0,Nat.zero_le _,rfl,fun j h=>absurd h (Nat.not_lt_zero _),Below.refl _ _⟩
  case round=>
   obtain⟨k,hk,rfl,hall,hb⟩:=hrel
   have Hall:Hid (∀j,j<k→f j=f' j∧g j=g' j):=hall
   clear hall
   by_cases hlt:k<n
   ·have hlt':(k:Int)<(n:Int):=by omega
    obtain⟨b,off,rfl,_,_,k1⟩:=g1 (by omega)
    obtain⟨b',off',rfl,_,_,k2⟩:=g2 (by omega)
    have hc1:wr.cell? ⟨b,off+k*2,none⟩=some (.int .i64 (f k)):=(hb.cell (lt_of_cell (k1 k hlt).1)).trans (k1 k hlt).1
    have hd1:wr.cell? ⟨b,off+k*2+1,none⟩=some (.int .i64 (g k)):=(hb.cell (lt_of_cell (k1 k hlt).2)).trans (k1 k hlt).2
    have hc2:wr.cell? ⟨b',off'+k*2,none⟩=some (.int .i64 (f' k)):=(hb.cell (lt_of_cell (k2 k hlt).1)).trans (k2 k hlt).1
    have hd2:wr.cell? ⟨b',off'+k*2+1,none⟩=some (.int .i64 (g' k)):=(hb.cell (lt_of_cell (k2 k hlt).2)).trans (k2 k hlt).2
    clear k1 k2 g1 g2
    go_wp2_with fail
    go_region_held3 (fun w'=>w'.cell? ⟨b,off+k*2,none⟩=some (.int .i64 (f k))∧w'.cell? ⟨b,off+k*2+1,none⟩=some (.int .i64 (g k))∧w'.cell? ⟨b',off'+k*2,none⟩=some (.int .i64 (f' k))∧w'.cell? ⟨b',off'+k*2+1,none⟩=some (.int .i64 (g' k))) (go_keep)
     (first | (go_at_call 91; refine(eqPtr_any _ _ _ _ _).mono ?_; rintro e w1 ⟨⟨t,rfl,ht⟩,hb1⟩; have z1:=(hb1.cell (p:=⟨b,off+k*2,none⟩) (lt_of_cell hc1)).trans hc1; have z2:=(hb1.cell (p:=⟨b,off+k*2+1,none⟩) (lt_of_cell hd1)).trans hd1; have z3:=(hb1.cell (p:=⟨b',off'+k*2,none⟩) (lt_of_cell hc2)).trans hc2; have z4:=(hb1.cell (p:=⟨b',off'+k*2+1,none⟩) (lt_of_cell hd2)).trans hd2))
    have Ht:Hid (t=true↔PtrEq (f k) (g k) (f' k) (g' k)):=ht
    have hb2:=below_call hb hb1
    clear ht z1 z2 z3 z4 hc1 hd1 hc2 hd2 hb1
    cases t
    ·go_wp2
     go_ret
     exact⟨BoolIs.no fun h=>absurd (Ht.out.2 (h.2 k hlt)) (by simp),hb2⟩
    ·go_wp2
     go_roundw
     case rel=>exact⟨k+1,by omega,by go_num,relNext hlt Hall.out (Ht.out.1 rfl),hb2⟩
     case measure=>simp [intOf]; omega
   ·go_wp2
    go_ret
    exact⟨BoolIs.yes ⟨rfl,fun i hi=>Hall.out i (by omega)⟩,hb⟩
 ·have hne:((n:Int) != (n':Int))=true:=by simp; omega
  have Hn:Hid (¬n=n'):=hn
  clear hn
  go_enter Tryz.func92,Tryz.ntmps92
  go_wp2
  go_ret
  exact⟨BoolIs.no fun h=>Hn.out h.1,Below.refl _ _⟩
set_option maxRecDepth 20000 in
set_option maxHeartbeats 400000 in
theorem eqSlot_any(v0 v1 v2 u0 u1 u2:Value)(lo hi lo' hi':Nat)(s t:SlotD)(w:World)(h1:SlotAt w lo hi v0 v1 v2 s)(h2:SlotAt w lo' hi' u0 u1 u2 t) :
  Calls Tryz.prog 90 #[.agg #[v0,v1,v2],.agg #[u0,u1,u2]] w fun e w'=>BoolIs (SlotEq s t) e∧Below w.heap.size w w':=by
 obtain⟨rfl,p1,rfl,m1⟩:=h1
 obtain⟨rfl,p2,rfl,m2⟩:=h2
 have q1:=p1
 have q2:=p2
 obtain⟨_,a,c,rfl,_⟩:=p1
 obtain⟨_,a',c',rfl,_⟩:=p2
 by_cases h1:s.birth=t.birth
 ·have hb:(s.birth != t.birth)=false:=by simp [h1]
  have H1:Hid (s.birth=t.birth):=h1
  clear h1
  go_enter Tryz.func90,Tryz.ntmps90
  go_wp2_with fail
  have hbw:=((Below.refl w.heap.size w).alloc (Nat.le_refl _) (.cells #[.int .i64 s.birth,.slice a s.kn c,.string s.data] 66)).alloc (by simp) (.cells #[.int .i64 t.birth,.slice a' t.kn c',.string t.data] 66)
  refine(eqPtrS_any _ _ _ _ _ _ _ _ _ _ _ _ _ (q1.below hbw) (q2.below hbw)).mono ?_
  rintro e w1 ⟨⟨x,rfl,hx⟩,hb1⟩
  have Hx:Hid (x=true↔PtrsEq s.kn t.kn s.ks s.kb t.ks t.kb):=hx
  have hb2:=below_next hbw hb1
  have e1:=hb1.cell (p:=⟨w.heap.size,2,none⟩) (by simp; omega)
  have e2:=hb1.cell (p:=⟨w.heap.size+1,2,none⟩) (by simp)
  simp at e1 e2
  clear hx hb1 hbw
  cases x
  ·go_wp2
   go_ret
   exact⟨BoolIs.no fun h=>absurd (Hx.out.2 h.2.1) (by simp),hb2⟩
  ·by_cases h3:s.data=t.data
   ·have h3':=str_eq h3
    have H3:Hid (s.data=t.data):=h3
    clear h3
    go_wp2
    go_ret
    exact⟨BoolIs.yes ⟨H1.out,(by simpa using Hx.out),H3.out⟩,hb2⟩
   ·have h3':=str_ne h3
    have H3:Hid (¬s.data=t.data):=h3
    clear h3
    go_wp2
    go_ret
    exact⟨BoolIs.no fun h=>H3.out h.2.2,hb2⟩
 ·have hb:(s.birth != t.birth)=true:=by simp [h1]
  have H1:Hid (¬s.birth=t.birth):=h1
  clear h1
  go_enter Tryz.func90,Tryz.ntmps90
  go_wp2
  go_ret
  exact⟨BoolIs.no fun h=>H1.out h.1,((Below.refl _ _).alloc (Nat.le_refl _) _).alloc (by simp) _⟩
set_option maxRecDepth 20000 in
set_option maxHeartbeats 400000 in
theorem eqSlotS_any(v v':Value)(n n' lo hi lo' hi':Nat)(f f':Nat→SlotD)(w:World)(h1:SlotsAt w lo hi v n f)(h2:SlotsAt w lo' hi' v' n' f') :
  Calls Tryz.prog 59 #[v,v'] w fun e w'=>BoolIs (SlotsEq n n' f f') e∧Below w.heap.size w w':=by
 obtain⟨m1,a,c,rfl,mc,g1⟩:=h1
 obtain⟨m2,a',c',rfl,mc',g2⟩:=h2
 unfold maxLen at m1 m2
 by_cases hn:n=n'
 ·subst hn
  have hne:((n:Int) != (n:Int))=false:=by simp
  go_enter Tryz.func59,Tryz.ntmps59
  go_wp2
  go_loopw [5] (fun i wr=>∃k:Nat,k≤n∧i = .int .i64 k∧(∀j,j<k→SlotEq (f j) (f' j))∧Below w.heap.size w wr) (fun i _=>n - (intOf i).toNat)
  case atStart=>exact⟨0,Nat.zero_le _,rfl,fun j h=>absurd h (Nat.not_lt_zero _),Below.refl _ _⟩
  case round=>
   obtain⟨k,hk,rfl,hall,hb⟩:=hrel
   have Hall:Hid (∀j,j<k→SlotEq (f j) (f' j)):=hall
   clear hall
   by_cases hlt:k<n
   ·have hlt':(k:Int)<(n:Int):=by omega
    obtain⟨b,off,rfl,_,_,k1⟩:=g1 (by omega)
    obtain⟨b',off',rfl,_,_,k2⟩:=g2 (by omega)
    obtain⟨x0,x1,x2,c0,c1,c2,hs⟩:=k1 k hlt
    obtain⟨y0,y1,y2,d0,d1,d2,ht⟩:=k2 k hlt
    have hc0:=(hb.cell (lt_of_cell c0)).trans c0
    have hc1:=(hb.cell (lt_of_cell c1)).trans c1
    have hc2:=(hb.cell (lt_of_cell c2)).trans c2
    have hd0:=(hb.cell (lt_of_cell d0)).trans d0
    have hd1:=(hb.cell (lt_of_cell d1)).trans d1
    have hd2:=(hb.cell (lt_of_cell d2)).trans d2
    have hs':=hs.below hb
    have ht':=ht.below hb
    clear k1 k2 g1 g2 c0 c1 c2 d0 d1 d2 hs ht
    have hs2:=hs'
    have ht2:=ht'
    obtain⟨rfl,⟨_,sa,sc,rfl,_⟩,rfl,_⟩:=hs2
    obtain⟨rfl,⟨_,ta,tc,rfl,_⟩,rfl,_⟩:=ht2
    go_wp2_with fail
    go_region_held3 (fun w'=>w'.cell? ⟨b,off+k*3,none⟩=some (.int .i64 (f k).birth)∧w'.cell? ⟨b,off+k*3+1,none⟩=some (.slice sa (f k).kn sc)∧w'.cell? ⟨b,off+k*3+2,none⟩=some (.string (f k).data)∧w'.cell? ⟨b',off'+k*3,none⟩=some (.int .i64 (f' k).birth)∧w'.cell? ⟨b',off'+k*3+1,none⟩=some (.slice ta (f' k).kn tc)∧w'.cell? ⟨b',off'+k*3+2,none⟩=some (.string (f' k).data)) (go_keep)
     (first | (go_at_call 90; refine(eqSlot_any _ _ _ _ _ _ lo hi lo' hi' (f k) (f' k) _ ?_ ?_).mono ?_; (exact hs'.below ((Below.refl _ _).drew)); (exact ht'.below ((Below.refl _ _).drew)); rintro e w1 ⟨⟨t,rfl,hx⟩,hb1⟩; have z1:=(hb1.cell (p:=⟨b,off+k*3,none⟩) (lt_of_cell hc0)).trans hc0; have z2:=(hb1.cell (p:=⟨b,off+k*3+1,none⟩) (lt_of_cell hc1)).trans hc1; have z3:=(hb1.cell (p:=⟨b,off+k*3+2,none⟩) (lt_of_cell hc2)).trans hc2; have y1:=(hb1.cell (p:=⟨b',off'+k*3,none⟩) (lt_of_cell hd0)).trans hd0; have y2:=(hb1.cell (p:=⟨b',off'+k*3+1,none⟩) (lt_of_cell hd1)).trans hd1; have y3:=(hb1.cell (p:=⟨b',off'+k*3+2,none⟩) (lt_of_cell hd2)).trans hd2))
    have Ht:Hid (t=true↔SlotEq (f k) (f' k)):=hx
    have hb2:=below_call hb hb1
    clear hx z1 z2 z3 y1 y2 y3 hc0 hc1 hc2 hd0 hd1 hd2 hb1
    cases t
    ·go_wp2
     go_ret
     exact⟨BoolIs.no fun h=>absurd (Ht.out.2 (h.2 k hlt)) (by simp),hb2⟩
    ·go_wp2
     go_roundw
     case rel=>exact⟨k+1,by omega,by go_num,relNext hlt Hall.out (Ht.out.1 rfl),hb2⟩
     case measure=>simp [intOf]; omega
   ·go_wp2
    go_ret
    exact⟨BoolIs.yes ⟨rfl,fun i hi=>Hall.out i (by omega)⟩,hb⟩
 ·have hne:((n:Int) != (n':Int))=true:=by simp; omega
  have Hn:Hid (¬n=n'):=hn
  clear hn
  go_enter Tryz.func59,Tryz.ntmps59
  go_wp2
  go_ret
  exact⟨BoolIs.no fun h=>Hn.out h.1,Below.refl _ _⟩
set_option maxRecDepth 20000 in
set_option maxHeartbeats 400000 in
theorem eqPool_any(v0 v1 u0 u1:Value)(lo hi lo' hi':Nat)(p q:PoolD)(w:World)(h1:PoolAt w lo hi v0 v1 p)(h2:PoolAt w lo' hi' u0 u1 q) :
  Calls Tryz.prog 36 #[.agg #[v0,v1],.agg #[u0,u1]] w fun e w'=>BoolIs (PoolEq p q) e∧Below w.heap.size w w':=by
 have q1:=h1
 have q2:=h2
 obtain⟨⟨_,a,c,rfl,_⟩,⟨_,a1,c1,rfl,_⟩⟩:=h1
 obtain⟨⟨_,b,d,rfl,_⟩,⟨_,b1,d1,rfl,_⟩⟩:=h2
 go_enter Tryz.func36,Tryz.ntmps36
 go_wp2_with fail
 have hbw:=((Below.refl w.heap.size w).alloc (Nat.le_refl _) (.cells #[.slice a p.n c,.slice a1 p.hn c1] 35)).alloc (by simp) (.cells #[.slice b q.n d,.slice b1 q.hn d1] 35)
 refine(eqSlotS_any _ _ _ _ _ _ _ _ _ _ _ (q1.1.below hbw) (q2.1.below hbw)).mono ?_
 rintro e w1 ⟨⟨x,rfl,hx⟩,hb1⟩
 have Hx:Hid (x=true↔SlotsEq p.n q.n p.s q.s):=hx
 have hb2:=below_next hbw hb1
 have e1:=hb1.cell (p:=⟨w.heap.size,1,none⟩) (by simp; omega)
 have e2:=hb1.cell (p:=⟨w.heap.size+1,1,none⟩) (by simp)
 simp at e1 e2
 clear hx hb1 hbw
 cases x
 ·go_wp2
  go_ret
  exact⟨BoolIs.no fun h=>absurd (Hx.out.2 h.1) (by simp),hb2⟩
 ·go_wp2_with fail
  refine(eqInt64S_any _ _ _ _ _ _ _ _ _ _ _ (q1.2.below hb2) (q2.2.below hb2)).mono ?_
  rintro e w2 ⟨⟨y,rfl,hy⟩,hb3⟩
  have Hy:Hid (y=true↔IntsEq p.hn q.hn p.h q.h):=hy
  have hb4:=below_next hb2 hb3
  clear hy hb3 hb2
  cases y
  ·go_wp2
   go_ret
   exact⟨BoolIs.no fun h=>absurd (Hy.out.2 h.2) (by simp),hb4⟩
  ·go_wp2
   go_ret
   exact⟨BoolIs.yes ⟨(by simpa using Hx.out),(by simpa using Hy.out)⟩,hb4⟩
end Go.Proofs.YtihplgckbhnohaaGreatDoor

namespace Go.Proofs.YtihplgckbhnohaaGreatDoor
open Go.RowKit
set_option linter.unusedVariables false
set_option maxRecDepth 20000 in
set_option maxHeartbeats 400000 in
theorem toInt64S_any(v:Value)(n lo hi:Nat)(f:Nat→Int)(w:World)(h1:IntsAt w lo hi v n f)(hn:n≤1048576) :
  Calls Tryz.prog 56 #[v] w fun e w'=>(∃v',e = .returned v'∧IntsOwn w' w.heap.size v' n f)∧Below w.heap.size w w'∧w.heap.size<w'.heap.size:=by
 obtain⟨m1,a,c,rfl,mc,g1⟩:=h1
 have hm1:=m1
 unfold maxLen at m1
 have G1:Hid (0<n→∃b off,a=some ⟨b,off,none⟩∧lo≤b∧b<hi∧∀i,i<n→w.cell? ⟨b,off+i,none⟩=some (.int .i64 (f i))):=g1
 clear g1
 have hmk:=make_zeros 23 2 (.int .i64 0) 1 8 (by kernel_rfl) infoInt64 rfl n hn (by omega)
 go_enter Tryz.func56,Tryz.ntmps56
 go_wp2
 go_loopw [4] (fun i wr=>∃k:Nat,k≤n∧i = .int .i64 k∧(∀j,j<n→Cell wr w.heap.size (0+j) (.int .i64 (if j<k then f j else 0)))∧Below w.heap.size w wr∧w.heap.size<wr.heap.size) (fun i _=>n - (intOf i).toNat)
 case atStart=>exact⟨0,Nat.zero_le _,rfl,fun j hj=>by have:=new_cell w #[.int .i64 0] n j 0 2 hj (by simp); simpa using this,below_alloc _ _,by simp⟩
 case round=>
  obtain⟨k,hk,rfl,hall,hb,hsz⟩:=hrel
  have Hall:Hid (∀j,j<n→Cell wr w.heap.size (0+j) (.int .i64 (if j<k then f j else 0))):=hall
  clear hall
  by_cases hlt:k<n
  ·have hlt':(k:Int)<(n:Int):=by omega
   obtain⟨b,off,rfl,_,_,k1⟩:=G1.out (by omega)
   have hc1:=(hb.cell (lt_of_cell (k1 k hlt))).trans (k1 k hlt)
   obtain⟨hc2,hf2⟩:=Hall.out k hlt
   rw [if_neg (Nat.lt_irrefl k),Nat.zero_add] at hc2
   rw [Nat.zero_add] at hf2
   go_wp2
   go_roundw
   case rel=>
    refine⟨k+1,by omega,by go_num,fun j hj=>?_,hb.setCell (Nat.le_refl _) _,by simpa using hsz⟩
    by_cases e:j=k
    ·subst e
     rw [if_pos (by omega)]
     simpa using (Hall.out j hj).set (.int .i64 (f j))
    ·have:=(Hall.out j hj).other (b':=w.heap.size) (o':=k) (.int .i64 (f k)) (Or.inr (by omega))
     by_cases e2:j<k
     ·rw [if_pos (by omega)]; rw [if_pos e2] at this; exact this
     ·rw [if_neg (by omega)]; rw [if_neg e2] at this; exact this
   case measure=>simp [intOf]; omega
  ·obtain rfl:k=n:=by omega
   go_wp2
   go_ret
   refine⟨⟨_,rfl,hm1,_,k,rfl,Nat.le_refl _,fun _=>⟨0,rfl,fun i hi=>?_⟩,fun h=>absurd h (Nat.lt_irrefl _)⟩,hb,hsz⟩
   have:=Hall.out i hi
   rw [if_pos hi] at this
   exact this
set_option maxRecDepth 20000 in
set_option maxHeartbeats 400000 in
theorem toPtr_any(a b:Int)(w:World) :
  Calls Tryz.prog 88 #[.agg #[.int .i64 a,.int .i64 b]] w fun e w'=>e = .returned (.agg #[.int .i64 a,.int .i64 b])∧Below w.heap.size w w':=by
 go_enter Tryz.func88,Tryz.ntmps88
 go_wp2
 refine bodyPost_ret (v:=.agg #[.int .i64 a,.int .i64 b]) (by simp [results,Tryz.results88,go_sem]) rfl ⟨rfl,?_⟩
 exact(((Below.refl _ _).alloc (Nat.le_refl _) _).alloc (by simp) _).alloc (by simp; omega) _
set_option maxRecDepth 20000 in
set_option maxHeartbeats 400000 in
theorem toPtrS_any(v:Value)(n lo hi:Nat)(f g:Nat→Int)(w:World)(h1:PtrsAt w lo hi v n f g)(hn:n≤1048576) :
  Calls Tryz.prog 89 #[v] w fun e w'=>(∃v',e = .returned v'∧PtrsOwn w' w.heap.size v' n f g)∧Below w.heap.size w w'∧w.heap.size<w'.heap.size:=by
 obtain⟨m1,a,c,rfl,mc,g1⟩:=h1
 have hm1:=m1
 unfold maxLen at m1
 have G1:Hid (0<n→∃b off,a=some ⟨b,off,none⟩∧lo≤b∧b<hi∧∀i,i<n→w.cell? ⟨b,off+i*2,none⟩=some (.int .i64 (f i))∧w.cell? ⟨b,off+i*2+1,none⟩=some (.int .i64 (g i))):=g1
 clear g1
 have hmk:=make_zeros 64 88 (.agg #[.int .i64 0,.int .i64 0]) 2 16 (by kernel_rfl) infoPtr rfl n hn (by omega)
 go_enter Tryz.func89,Tryz.ntmps89
 go_wp2
 go_loopw [4] (fun i wr=>∃k:Nat,k≤n∧i = .int .i64 k∧(∀j,j<n→Cell wr w.heap.size (0+j*2) (.int .i64 (if j<k then f j else 0))∧Cell wr w.heap.size (0+j*2+1) (.int .i64 (if j<k then g j else 0)))∧Below w.heap.size w wr∧w.heap.size<wr.heap.size) (fun i _=>n - (intOf i).toNat)
 case atStart=>
  refine⟨0,Nat.zero_le _,rfl,fun j hj=>⟨?_,?_⟩,below_alloc _ _,by simp⟩
  ·have:=new_cell w #[.int .i64 0,.int .i64 0] n j 0 88 hj (by simp); simpa using this
  ·have:=new_cell w #[.int .i64 0,.int .i64 0] n j 1 88 hj (by simp); simpa using this
 case round=>
  obtain⟨k,hk,rfl,hall,hb,hsz⟩:=hrel
  have Hall:Hid (∀j,j<n→Cell wr w.heap.size (0+j*2) (.int .i64 (if j<k then f j else 0))∧Cell wr w.heap.size (0+j*2+1) (.int .i64 (if j<k then g j else 0))):=hall
  clear hall
  by_cases hlt:k<n
  ·have hlt':(k:Int)<(n:Int):=by omega
   obtain⟨b,off,rfl,_,_,k1⟩:=G1.out (by omega)
   have hc1:=(hb.cell (lt_of_cell (k1 k hlt).1)).trans (k1 k hlt).1
   have hd1:=(hb.cell (lt_of_cell (k1 k hlt).2)).trans (k1 k hlt).2
   clear k1 G1
   go_wp2_with fail
   refine(toPtr_any _ _ _).mono ?_
   rintro e w1 ⟨rfl,hb1⟩
   have hb2:=below_next hb hb1
   have hsz2:w.heap.size<w1.heap.size:=Nat.lt_of_lt_of_le hsz hb1.size
   have Hall2:Hid (∀j,j<n→Cell w1 w.heap.size (0+j*2) (.int .i64 (if j<k then f j else 0))∧Cell w1 w.heap.size (0+j*2+1) (.int .i64 (if j<k then g j else 0))):=fun j hj=>⟨(Hall.out j hj).1.below hb1,(Hall.out j hj).2.below hb1⟩
   clear Hall hb1 hc1 hd1
   obtain⟨⟨hc2,hf2⟩,⟨hc3,hf3⟩⟩:=Hall2.out k hlt
   rw [if_neg (Nat.lt_irrefl k),Nat.zero_add] at hc2 hc3
   rw [Nat.zero_add] at hf2 hf3
   go_wp2
   go_roundw
   case rel=>
    refine⟨k+1,by omega,by go_num,fun j hj=>?_,(hb2.setCell (Nat.le_refl _) _).setCell (Nat.le_refl _) _,by simpa using hsz2⟩
    by_cases e:j=k
    ·subst e
     rw [if_pos (by omega),if_pos (by omega)]
     have t1:=((Hall2.out j hj).1.set (.int .i64 (f j))).other (b':=w.heap.size) (o':=0+j*2+1) (.int .i64 (g j)) (Or.inr (by omega))
     have t2:=((Hall2.out j hj).2.other (b':=w.heap.size) (o':=0+j*2) (.int .i64 (f j)) (Or.inr (by omega))).set (.int .i64 (g j))
     simp only [Nat.zero_add] at t1 t2 ⊢
     exact⟨t1,t2⟩
    ·have t1:=((Hall2.out j hj).1.other (b':=w.heap.size) (o':=k*2) (.int .i64 (f k)) (Or.inr (by omega))).other (b':=w.heap.size) (o':=k*2+1) (.int .i64 (g k)) (Or.inr (by omega))
     have t2:=((Hall2.out j hj).2.other (b':=w.heap.size) (o':=k*2) (.int .i64 (f k)) (Or.inr (by omega))).other (b':=w.heap.size) (o':=k*2+1) (.int .i64 (g k)) (Or.inr (by omega))
     by_cases e2:j<k
     ·rw [if_pos (by omega),if_pos (by omega)]; rw [if_pos e2] at t1 t2; exact⟨t1,t2⟩
     ·rw [if_neg (by omega),if_neg (by omega)]; rw [if_neg e2] at t1 t2; exact⟨t1,t2⟩
   case measure=>simp [intOf]; omega
  ·obtain rfl:k=n:=by omega
   go_wp2
   go_ret
   refine⟨⟨_,rfl,hm1,_,k,rfl,Nat.le_refl _,fun _=>⟨0,rfl,fun i hi=>?_⟩⟩,hb,hsz⟩
   have:=Hall.out i hi
   rw [if_pos hi,if_pos hi] at this
   exact this
set_option maxRecDepth 20000 in
set_option maxHeartbeats 400000 in
theorem toSlot_any(v0 v1 v2:Value)(lo hi:Nat)(s:SlotD)(w:World)(h1:SlotAt w lo hi v0 v1 v2 s)(hn:s.kn≤1048576) :
  Calls Tryz.prog 87 #[.agg #[v0,v1,v2]] w fun e w'=>(∃kv kb,e = .returned (.agg #[.int .i64 s.birth,kv,.string s.data])∧PtrsOwn w' kb kv s.kn s.ks s.kb∧w.heap.size≤kb∧kb<w'.heap.size)∧Below w.heap.size w w':=by
 obtain⟨rfl,p1,rfl,m1⟩:=h1
 have q1:=p1
 obtain⟨_,a,c,rfl,_⟩:=p1
 go_enter Tryz.func87,Tryz.ntmps87
 go_wp2_with fail
 have ha1:=below_alloc w (.cells #[.int .i64 s.birth,.slice a s.kn c,.string s.data] 143)
 have ha2:=below_next ha1 (below_alloc _ (.cells #[.int .i64 0,.slice none 0 0,.string ⟨#[]⟩] 66))
 have ha3:=below_next ha2 (below_alloc _ (.cells #[.int .i64 s.birth,.slice none 0 0,.string ⟨#[]⟩] 66))
 refine(toPtrS_any _ s.kn lo hi _ _ _ (q1.below ha3) hn).mono ?_
 rintro e w1 ⟨⟨kv,rfl,hown⟩,hb1,hsz⟩
 have HB:Hid (Box3 w1 w.heap.size (.int .i64 s.birth) (.slice a s.kn c) (.string s.data)):=(((Box3.new w _ _ _ _).below (below_alloc _ _)).below (below_alloc _ _)).below hb1
 have HR:Hid (Box3 w1 (w.heap.size+1) (.int .i64 0) (.slice none 0 0) (.string ⟨#[]⟩)):=by
  have:=(((Box3.new (w.alloc (.cells #[.int .i64 s.birth,.slice a s.kn c,.string s.data] 143)) (.int .i64 0) (.slice none 0 0) (.string ⟨#[]⟩) 66).below (below_alloc _ _)).below hb1)
  rw [World.size_alloc] at this
  exact this
 have HO:Hid (Box3 w1 (w.heap.size+1+1) (.int .i64 s.birth) (.slice none 0 0) (.string ⟨#[]⟩)):=by
  have:=((Box3.new ((w.alloc (.cells #[.int .i64 s.birth,.slice a s.kn c,.string s.data] 143)).alloc (.cells #[.int .i64 0,.slice none 0 0,.string ⟨#[]⟩] 66)) (.int .i64 s.birth) (.slice none 0 0) (.string ⟨#[]⟩) 66).below hb1)
  rw [World.size_alloc,World.size_alloc] at this
  exact this
 have hb2:=below_next ha3 hb1
 have Hown:Hid (PtrsOwn w1 (w.heap.size+1+1+1) kv s.kn s.ks s.kb):=by
  have:=hown
  rw [World.size_alloc,World.size_alloc,World.size_alloc] at this
  exact this
 have hsz':w.heap.size+1+1+1<w1.heap.size:=by
  rw [World.size_alloc,World.size_alloc,World.size_alloc] at hsz
  exact hsz
 clear hsz
 obtain⟨_,ka,kc,rfl,_⟩:=hown
 clear ha1 ha2 ha3 hb1
 obtain⟨⟨x0,x1⟩,⟨x2,x3⟩,⟨x4,x5⟩⟩:=HB.out
 obtain⟨⟨y0,y1⟩,⟨y2,y3⟩,⟨y4,y5⟩⟩:=HR.out
 obtain⟨⟨z0,z1⟩,⟨z2,z3⟩,⟨z4,z5⟩⟩:=HO.out
 go_wp2
 have HR2:=((HR.out.other (b':=w.heap.size+1+1) (o':=1) (.slice ka s.kn kc) (by omega)).other (b':=w.heap.size+1+1) (o':=2) (.string s.data) (by omega)).put (.int .i64 s.birth) (.slice ka s.kn kc) (.string s.data)
 refine bodyPost_ret (v:=.agg #[.int .i64 s.birth,.slice ka s.kn kc,.string s.data]) (by simp [results,Tryz.results87,go_sem,HR2.1.1,HR2.2.1.1,HR2.2.2.1]) rfl ⟨⟨_,w.heap.size+1+1+1,rfl,?_,by omega,by simpa using hsz'⟩,?_⟩
 ·exact((((Hown.out.put _ (by omega)).put _ (by omega)).put _ (by omega)).put _ (by omega)).put _ (by omega)
 ·exact((((hb2.setCell (by show _≤w.heap.size+1+1; omega) _).setCell (by show _≤w.heap.size+1+1; omega) _).setCell (by show _≤w.heap.size+1; omega) _).setCell (by show _≤w.heap.size+1; omega) _).setCell (by show _≤w.heap.size+1; omega) _
structure Part (wr:World) (bs n k:Nat) (f:Nat→SlotD) (kb:Nat→Nat) (kv:Nat→Value):Prop where
 slots:∀j,j<n→SlotOwn wr bs (0+j*3) (kb j) (kv j) (if j<k then f j else zeroS)
 apart:KidsApart kb k f
 place:∀j,j<k→0<(f j).kn→bs<kb j∧kb j<wr.heap.size
theorem Part.below{wr w':World}{bs n k:Nat}{f:Nat→SlotD}{kb:Nat→Nat}{kv:Nat→Value}(h:Part wr bs n k f kb kv)(t:Below wr.heap.size wr w'):Part w' bs n k f kb kv:=
 ⟨fun j hj=>(h.slots j hj).below t,h.apart,fun j hj h0=>by have:=h.place j hj h0; have:=t.size; omega⟩
theorem Part.next{wr w1:World}{bs n k b:Nat}{f:Nat→SlotD}{kb:Nat→Nat}{kv:Nat→Value}{v:Value}(h:Part wr bs n k f kb kv)(hk:k<n)(hbs:bs<wr.heap.size)(t:Below wr.heap.size wr w1)
  (hp:PtrsOwn w1 b v (f k).kn (f k).ks (f k).kb) (hb:wr.heap.size≤b) (hb2:b<w1.heap.size) (hs:(f k).data.size≤maxLen) :
  Part (((w1.setCell ⟨bs,0+k*3,none⟩ (.int .i64 (f k).birth)).setCell ⟨bs,0+k*3+1,none⟩ v).setCell ⟨bs,0+k*3+2,none⟩ (.string (f k).data)) bs n (k+1) f (fun j=>if j=k then b else kb j) (fun j=>if j=k then v else kv j):=by
 have h':=h.below t
 refine⟨fun j hj=>?_,fun i j hi hj hij h1 h2=>?_,fun j hj h0=>?_⟩
 ·have hj':=h'.slots j hj
  by_cases e:j=k
  ·subst e
   simp only [if_true]
   rw [if_pos (by omega)]
   refine⟨?_,?_,?_,?_,hs,fun _=>by omega⟩
   ·exact((hj'.birth.set _).other _ (Or.inr (by omega))).other _ (Or.inr (by omega))
   ·exact((hj'.kidsv.other _ (Or.inr (by omega))).set _).other _ (Or.inr (by omega))
   ·exact((hj'.data.other _ (Or.inr (by omega))).other _ (Or.inr (by omega))).set _
   ·exact((hp.put _ (by omega)).put _ (by omega)).put _ (by omega)
  ·simp only [if_neg e]
   have es:(if j<k+1 then f j else zeroS)=if j<k then f j else zeroS:=by
    by_cases e2:j<k
    ·rw [if_pos e2,if_pos (by omega)]
    ·rw [if_neg e2,if_neg (by omega)]
   rw [es]
   refine⟨?_,?_,?_,?_,hj'.small,hj'.apart⟩
   ·exact((hj'.birth.other _ (Or.inr (by omega))).other _ (Or.inr (by omega))).other _ (Or.inr (by omega))
   ·exact((hj'.kidsv.other _ (Or.inr (by omega))).other _ (Or.inr (by omega))).other _ (Or.inr (by omega))
   ·exact((hj'.data.other _ (Or.inr (by omega))).other _ (Or.inr (by omega))).other _ (Or.inr (by omega))
   ·refine((hj'.kids.turned (Turned.put _ _ _ _) ?_).turned (Turned.put _ _ _ _) ?_).turned (Turned.put _ _ _ _) ?_
    all_goals exact fun h0 hx=>hj'.apart h0 hx
 ·show(if i=k then b else kb i)≠(if j=k then b else kb j)
  by_cases e1:i=k
  ·by_cases e2:j=k
   ·omega
   ·rw [if_pos e1,if_neg e2]
    have:=h.place j (by omega) h2
    omega
  ·by_cases e2:j=k
   ·rw [if_neg e1,if_pos e2]
    have:=h.place i (by omega) h1
    omega
   ·rw [if_neg e1,if_neg e2]
    exact h.apart i j (by omega) (by omega) hij h1 h2
 ·simp only [World.size_setCell]
  by_cases e:j=k
  ·rw [if_pos e]; omega
  ·rw [if_neg e]
   have:=h'.place j (by omega) h0
   omega
theorem zeroS_own{w:World}{bs n j:Nat}(hj:j<n)(hbs:bs=w.heap.size):SlotOwn (w.alloc (.cells (zeros #[.int .i64 0,.slice none 0 0,.string ⟨#[]⟩] n) 66)) bs (0+j*3) 0 (.slice none 0 0) zeroS:=by
 subst hbs
 have c0:=new_cell w #[.int .i64 0,.slice none 0 0,.string ⟨#[]⟩] n j 0 66 hj (by simp)
 have c1:=new_cell w #[.int .i64 0,.slice none 0 0,.string ⟨#[]⟩] n j 1 66 hj (by simp)
 have c2:=new_cell w #[.int .i64 0,.slice none 0 0,.string ⟨#[]⟩] n j 2 66 hj (by simp)
 refine⟨?_,?_,?_,⟨Nat.zero_le _,none,0,rfl,Nat.le_refl _,fun h=>absurd h (Nat.lt_irrefl _)⟩,Nat.zero_le _,fun h=>absurd h (Nat.lt_irrefl _)⟩
 ·show Cell _ _ _ (.int .i64 0)
  simpa using c0
 ·simpa using c1
 ·show Cell _ _ _ (.string ⟨#[]⟩)
  simpa using c2
set_option maxRecDepth 20000 in
set_option maxHeartbeats 400000 in
theorem toSlotS_any(v:Value)(n lo hi:Nat)(f:Nat→SlotD)(w:World)(h1:SlotsAt w lo hi v n f)(hn:n+slotsN f n≤1048576) :
  Calls Tryz.prog 55 #[v] w fun e w'=>(∃v' kb kv,e = .returned v'∧SlotsOwn w' w.heap.size kb kv v' n f∧KidsApart kb n f∧∀j,j<n→0<(f j).kn→w.heap.size<kb j∧kb j<w'.heap.size)∧Below w.heap.size w w'∧w.heap.size<w'.heap.size:=by
 obtain⟨m1,a,c,rfl,mc,g1⟩:=h1
 have hm1:=m1
 unfold maxLen at m1
 have G1:Hid (0<n→∃b off,a=some ⟨b,off,none⟩∧lo≤b∧b<hi∧∀i,i<n→∃v0 v1 v2,w.cell? ⟨b,off+i*3,none⟩=some v0∧w.cell? ⟨b,off+i*3+1,none⟩=some v1∧w.cell? ⟨b,off+i*3+2,none⟩=some v2∧SlotAt w lo hi v0 v1 v2 (f i)):=g1
 have Hn:Hid (n+slotsN f n≤1048576):=hn
 clear g1
 have hmk:=make_zeros 33 66 (.agg #[.int .i64 0,.slice none 0 0,.string ⟨#[]⟩]) 3 48 (by kernel_rfl) infoSlotT rfl n (by omega) (by omega)
 clear hn
 go_enter Tryz.func55,Tryz.ntmps55
 go_wp2
 go_loopw [4] (fun i wr=>∃(k:Nat) (kb:Nat→Nat) (kv:Nat→Value),k≤n∧i = .int .i64 k∧Part wr w.heap.size n k f kb kv∧Below w.heap.size w wr∧w.heap.size<wr.heap.size) (fun i _=>n - (intOf i).toNat)
 case atStart=>exact⟨0,fun _=>0,fun _=>.slice none 0 0,Nat.zero_le _,rfl,⟨fun j hj=>by rw [if_neg (by omega)]; exact zeroS_own hj rfl,fun i j hi=>absurd hi (by omega),fun j hj=>absurd hj (by omega)⟩,below_alloc _ _,by simp⟩
 case round=>
  obtain⟨k,kb,kv,hk,rfl,hpart,hb,hsz⟩:=hrel
  by_cases hlt:k<n
  ·have hlt':(k:Int)<(n:Int):=by omega
   obtain⟨b,off,rfl,_,_,k1⟩:=G1.out (by omega)
   obtain⟨x0,x1,x2,c0,c1,c2,hs⟩:=k1 k hlt
   have hd0:=(hb.cell (lt_of_cell c0)).trans c0
   have hd1:=(hb.cell (lt_of_cell c1)).trans c1
   have hd2:=(hb.cell (lt_of_cell c2)).trans c2
   have hs':=hs.below hb
   have Hs:Hid (SlotAt wr lo hi x0 x1 x2 (f k)):=hs'
   clear k1 G1 c0 c1 c2 hs
   obtain⟨rfl,⟨_,ka,kc,rfl,_⟩,rfl,hsmall⟩:=hs'
   go_wp2_with fail
   refine(toSlot_any _ _ _ lo hi (f k) _ Hs.out (by have h1:=Hn.out; have h2:=slotN_le f hlt; unfold slotN at h2; omega)).mono ?_
   rintro e w1 ⟨⟨nv,nb,rfl,hp,hnb1,hnb2⟩,hb1⟩
   have hb2:=below_next hb hb1
   have hz:=(hpart.slots k hlt).below hb1
   obtain⟨e0,e1⟩:=hz.birth
   obtain⟨e2,e3⟩:=hz.kidsv
   obtain⟨e4,e5⟩:=hz.data
   clear hd0 hd1 hd2 hz
   rw [Nat.zero_add] at e0 e1 e2 e3 e4 e5
   have Hp:Hid (PtrsOwn w1 nb nv (f k).kn (f k).ks (f k).kb):=hp
   obtain⟨_,na,nc,rfl,_⟩:=hp
   have hsz1:w.heap.size<w1.heap.size:=by have:=hb1.size; omega
   go_wp2
   go_roundw
   case rel=>
    refine⟨k+1,(fun j=>if j=k then nb else kb j),(fun j=>if j=k then .slice na (f k).kn nc else kv j),by omega,by go_num,?_,((hb2.setCell (Nat.le_refl _) _).setCell (Nat.le_refl _) _).setCell (Nat.le_refl _) _,by simpa using hsz1⟩
    have hx:=hpart.next hlt hsz hb1 Hp.out hnb1 hnb2 hsmall
    rw [Nat.zero_add] at hx
    exact hx
   case measure=>simp [intOf]; omega
  ·obtain rfl:k=n:=by omega
   go_wp2
   go_ret
   refine⟨⟨_,kb,kv,rfl,⟨hm1,_,k,rfl,Nat.le_refl _,fun _=>⟨0,rfl,fun i hi=>?_⟩⟩,hpart.apart,hpart.place⟩,hb,hsz⟩
   have:=hpart.slots i hi
   rw [if_pos hi] at this
   exact this
set_option maxRecDepth 20000 in
set_option maxHeartbeats 400000 in
theorem toPool_any(v0 v1:Value)(lo hi:Nat)(p:PoolD)(w:World)(h1:PoolAt w lo hi v0 v1 p)(hn:poolN p≤1048576):Calls Tryz.prog 33 #[.agg #[v0,v1]] w (NewPool p w):=by
 have q1:=h1
 obtain⟨⟨_,a,c,rfl,_⟩,⟨_,a',c',rfl,_⟩⟩:=h1
 unfold poolN at hn
 go_enter Tryz.func33,Tryz.ntmps33
 go_wp2_with fail
 have ha1:=below_alloc w (.cells #[.slice a p.n c,.slice a' p.hn c'] 25)
 have ha2:=below_next ha1 (below_alloc _ (.cells #[.slice none 0 0,.slice none 0 0] 35))
 have ha3:=below_next ha2 (below_alloc _ (.cells #[.slice none 0 0,.slice none 0 0] 35))
 refine(toSlotS_any _ p.n lo hi p.s _ (q1.1.below ha3) (by omega)).mono ?_
 rintro e w1 ⟨⟨sv,kb,kv,rfl,hown,hap,hpl⟩,hb1,hsz⟩
 have HB:Hid (Box2 w1 w.heap.size (.slice a p.n c) (.slice a' p.hn c')):=(((Box2.new w _ _ _).below (below_alloc _ _)).below (below_alloc _ _)).below hb1
 have HR:Hid (Box2 w1 (w.heap.size+1) (.slice none 0 0) (.slice none 0 0)):=by
  have:=(((Box2.new (w.alloc (.cells #[.slice a p.n c,.slice a' p.hn c'] 25)) (.slice none 0 0) (.slice none 0 0) 35).below (below_alloc _ _)).below hb1)
  rw [World.size_alloc] at this
  exact this
 have HO:Hid (Box2 w1 (w.heap.size+1+1) (.slice none 0 0) (.slice none 0 0)):=by
  have:=((Box2.new ((w.alloc (.cells #[.slice a p.n c,.slice a' p.hn c'] 25)).alloc (.cells #[.slice none 0 0,.slice none 0 0] 35)) (.slice none 0 0) (.slice none 0 0) 35).below hb1)
  rw [World.size_alloc,World.size_alloc] at this
  exact this
 have hb2:=below_next ha3 hb1
 rw [World.size_alloc,World.size_alloc,World.size_alloc] at hown hpl hsz
 have Hown:Hid (SlotsOwn w1 (w.heap.size+1+1+1) kb kv sv p.n p.s):=hown
 have Hap:Hid (KidsApart kb p.n p.s):=hap
 have Hpl:Hid (∀j,j<p.n→0<(p.s j).kn→w.heap.size+1+1+1<kb j∧kb j<w1.heap.size):=hpl
 obtain⟨_,sa,sc,rfl,_⟩:=hown
 clear hap hpl ha1 ha2 ha3 hb1
 obtain⟨⟨x0,x1⟩,⟨x2,x3⟩⟩:=HB.out
 obtain⟨⟨z0,z1⟩,⟨z2,z3⟩⟩:=HO.out
 go_wp2_with fail
 have hb3:=hb2.setCell (p:=⟨w.heap.size+1+1,0,none⟩) (by show _≤w.heap.size+1+1; omega) (.slice sa p.n sc)
 refine(toInt64S_any _ p.hn lo hi p.h _ (q1.2.below hb3) (by omega)).mono ?_
 rintro e w2 ⟨⟨hv,rfl,hiown⟩,hb4,hsz4⟩
 rw [World.size_setCell] at hiown hsz4
 have hb5:=below_next hb3 hb4
 have HR2:Hid (Box2 w2 (w.heap.size+1) (.slice none 0 0) (.slice none 0 0)):=(HR.out.other _ (by omega)).below hb4
 have HO2:Hid (Box2 w2 (w.heap.size+1+1) (.slice sa p.n sc) (.slice none 0 0)):=(show Box2 (w1.setCell ⟨w.heap.size+1+1,0,none⟩ (.slice sa p.n sc)) (w.heap.size+1+1) (.slice sa p.n sc) (.slice none 0 0)from⟨HO.out.1.set _,HO.out.2.other _ (Or.inr (by omega))⟩).below hb4
 have Hown2:Hid (SlotsOwn w2 (w.heap.size+1+1+1) kb kv (.slice sa p.n sc) p.n p.s):=
  (Hown.out.turned (Turned.put _ _ _ _) (fun _ e=>by omega) (fun i hi h0 e=>by have:=Hpl.out i hi h0; omega)).below hb4
 have Hiown:Hid (IntsOwn w2 w1.heap.size hv p.hn p.h):=hiown
 obtain⟨_,ia,ic,rfl,_⟩:=hiown
 clear x0 x1 x2 x3 z0 z1 z2 z3 hb4 hb3 HB HR HO Hown hb2
 obtain⟨⟨y0,y1⟩,⟨y2,y3⟩⟩:=HR2.out
 obtain⟨⟨z0,z1⟩,⟨z2,z3⟩⟩:=HO2.out
 go_wp2
 have HR3:=(HR2.out.other (b':=w.heap.size+1+1) (o':=1) (.slice ia p.hn ic) (by omega)).put (.slice sa p.n sc) (.slice ia p.hn ic)
 refine bodyPost_ret (v:=.agg #[.slice sa p.n sc,.slice ia p.hn ic]) (by simp [results,Tryz.results33,go_sem,HR3.1.1,HR3.2.1]) rfl ⟨_,_,rfl,?_,?_⟩
 ·refine⟨w.heap.size+1+1+1,w1.heap.size,kb,kv,?_,Hap.out,?_,?_,?_⟩
  ·have pl:=Hpl.out
   refine((Hown2.out.turned (Turned.put _ _ _ _) ?_ ?_).turned (Turned.put _ _ _ _) ?_ ?_).turned (Turned.put _ _ _ _) ?_ ?_
   ·exact fun _ e=>by omega
   ·exact fun i hi h0 e=>by have:=pl i hi h0; omega
   ·exact fun _ e=>by omega
   ·exact fun i hi h0 e=>by have:=pl i hi h0; omega
   ·exact fun _ e=>by omega
   ·exact fun i hi h0 e=>by have:=pl i hi h0; omega
  ·exact((Hiown.out.put _ (by omega)).put _ (by omega)).put _ (by omega)
  ·rintro h0 (⟨_,e⟩ | ⟨i,hi,h1,e⟩)
   ·omega
   ·have:=Hpl.out i hi h1; omega
  ·simp only [World.size_setCell]
   rintro k ((⟨_,rfl⟩ | ⟨i,hi,h1,rfl⟩) | ⟨_,rfl⟩)
   ·omega
   ·have:=Hpl.out i hi h1; omega
   ·omega
 ·exact((hb5.setCell (by show _≤w.heap.size+1+1; omega) _).setCell (by show _≤w.heap.size+1; omega) _).setCell (by show _≤w.heap.size+1; omega) _
end Go.Proofs.YtihplgckbhnohaaGreatDoor

namespace Go.Proofs.YtihplgckbhnohaaGreatDoor
open Go.RowKit Go.Maps
set_option linter.unusedVariables false
theorem Box6.off6{w:World}{b:Nat}{a0 a1 a2 a3 a4 a5:Value}(h:Box6 w b a0 a1 a2 a3 a4 a5){b':Nat}(o:Nat)(u:Value)(o':Nat)(u':Value)(hne:b'≠b):Box6 ((w.setCell ⟨b',o,none⟩ u).setCell ⟨b',o',none⟩ u') b a0 a1 a2 a3 a4 a5:=by
 obtain⟨h0,h1,h2,h3,h4,h5⟩:=h
 have hc:∀{j:Nat} {v:Value},Cell w b j v→Cell ((w.setCell ⟨b',o,none⟩ u).setCell ⟨b',o',none⟩ u') b j v:=fun hc=>(hc.other _ (Or.inl hne)).other _ (Or.inl hne)
 exact⟨hc h0,hc h1,hc h2,hc h3,hc h4,hc h5⟩
theorem Box6.mid6{w:World}{b:Nat}{a0 a1 a2 a3 a4 a5:Value}(h:Box6 w b a0 a1 a2 a3 a4 a5)(u u':Value):Box6 ((w.setCell ⟨b,3,none⟩ u).setCell ⟨b,4,none⟩ u') b a0 a1 a2 u u' a5:=by
 obtain⟨h0,h1,h2,h3,h4,h5⟩:=h
 exact⟨(h0.other _ (Or.inr (by omega))).other _ (Or.inr (by omega)),(h1.other _ (Or.inr (by omega))).other _ (Or.inr (by omega)),(h2.other _ (Or.inr (by omega))).other _ (Or.inr (by omega)),(h3.set _).other _ (Or.inr (by omega)),(h4.other _ (Or.inr (by omega))).set _,(h5.other _ (Or.inr (by omega))).other _ (Or.inr (by omega))⟩
set_option maxRecDepth 20000 in
set_option maxHeartbeats 400000 in
theorem toSet_any(v:Value)(lo hi:Nat)(s:SetD)(w:World)(h1:PtrsAt w lo hi v s.dn s.ds s.db)(hn:s.dn≤1048576) :
  Calls Tryz.prog 57 #[setV v s] w fun e w'=>(∃v' b,e = .returned (setV v' s)∧PtrsOwn w' b v' s.dn s.ds s.db∧w.heap.size≤b∧b<w'.heap.size)∧Below w.heap.size w w':=by
 unfold setV
 have H1:=hideW h1
 obtain⟨-,a,c,rfl,-⟩:=id h1
 clear h1
 have hst:∀Wa Wb Wc:World,Wa=w.alloc (.cells #[.string s.name,.int .i64 s.origin,.int .i64 s.prev,.int .i64 s.rs,.int .i64 s.rb,.slice a s.dn c] 113)→Wb=Wa.alloc (.cells #[.string ⟨#[]⟩,.int .i64 0,.int .i64 0,.int .i64 0,.int .i64 0,.slice none 0 0] 90)→Wc=Wb.alloc (.cells #[.string s.name,.int .i64 s.origin,.int .i64 s.prev,.int .i64 0,.int .i64 0,.slice none 0 0] 90)→Box6 Wc w.heap.size (.string s.name) (.int .i64 s.origin) (.int .i64 s.prev) (.int .i64 s.rs) (.int .i64 s.rb) (.slice a s.dn c)∧Box6 Wc (w.heap.size+1) (.string ⟨#[]⟩) (.int .i64 0) (.int .i64 0) (.int .i64 0) (.int .i64 0) (.slice none 0 0)∧Box6 Wc (w.heap.size+1+1) (.string s.name) (.int .i64 s.origin) (.int .i64 s.prev) (.int .i64 0) (.int .i64 0) (.slice none 0 0)∧Below w.heap.size w Wc∧Wc.heap.size=w.heap.size+3:=by
  rintro Wa Wb Wc ea eb ec
  have ha:=below_alloc w (.cells #[.string s.name,.int .i64 s.origin,.int .i64 s.prev,.int .i64 s.rs,.int .i64 s.rb,.slice a s.dn c] 113)
  have h1:=Box6.new w (.string s.name) (.int .i64 s.origin) (.int .i64 s.prev) (.int .i64 s.rs) (.int .i64 s.rb) (.slice a s.dn c) 113
  have z1:Wa.heap.size=w.heap.size+1:=by rw [ea]; exact World.size_alloc _ _
  rw [←ea] at ha h1
  have hb:=below_alloc Wa (.cells #[.string ⟨#[]⟩,.int .i64 0,.int .i64 0,.int .i64 0,.int .i64 0,.slice none 0 0] 90)
  have h2:=Box6.new Wa (.string ⟨#[]⟩) (.int .i64 0) (.int .i64 0) (.int .i64 0) (.int .i64 0) (.slice none 0 0) 90
  have z2:Wb.heap.size=w.heap.size+1+1:=by rw [eb,World.size_alloc,z1]
  rw [←eb,z1] at h2
  rw [←eb] at hb
  have hc:=below_alloc Wb (.cells #[.string s.name,.int .i64 s.origin,.int .i64 s.prev,.int .i64 0,.int .i64 0,.slice none 0 0] 90)
  have h3:=Box6.new Wb (.string s.name) (.int .i64 s.origin) (.int .i64 s.prev) (.int .i64 0) (.int .i64 0) (.slice none 0 0) 90
  have z3:Wc.heap.size=w.heap.size+3:=by rw [ec,World.size_alloc,z2]
  rw [←ec,z2] at h3
  rw [←ec] at hc
  exact⟨(h1.below hb).below hc,h2.below hc,h3,below_next (below_next ha hb) hc,z3⟩
 obtain⟨hx,hy,hz,hbw,hsz⟩:=hst _ _ _ rfl rfl rfl
 have HX:=hideW hx
 have HY:=hideW hy
 have HZ:=hideW hz
 have HS:=hideW hsz
 clear hx hy hz hst hsz
 go_enter Tryz.func57,Tryz.ntmps57
 go_wp2_with fail
 generalize ((w.alloc (.cells #[.string s.name,.int .i64 s.origin,.int .i64 s.prev,.int .i64 s.rs,.int .i64 s.rb,.slice a s.dn c] 113)).alloc (.cells #[.string ⟨#[]⟩,.int .i64 0,.int .i64 0,.int .i64 0,.int .i64 0,.slice none 0 0] 90)).alloc (.cells #[.string s.name,.int .i64 s.origin,.int .i64 s.prev,.int .i64 0,.int .i64 0,.slice none 0 0] 90)=W0 at HX HY HZ HS hbw ⊢
 refine(toPtr_any s.rs s.rb W0).mono ?_
 rintro e w1 ⟨rfl,hb1⟩
 have HX1:=hideW ((HX.out.below hb1).off6 3 (.int .i64 s.rs) 4 (.int .i64 s.rb) (show w.heap.size+1+1≠_ by omega))
 have HY1:=hideW ((HY.out.below hb1).off6 3 (.int .i64 s.rs) 4 (.int .i64 s.rb) (show w.heap.size+1+1≠_ by omega))
 have HZ1:=hideW ((HZ.out.below hb1).mid6 (.int .i64 s.rs) (.int .i64 s.rb))
 have hB1:Below w.heap.size w ((w1.setCell ⟨w.heap.size+1+1,3,none⟩ (.int .i64 s.rs)).setCell ⟨w.heap.size+1+1,4,none⟩ (.int .i64 s.rb)):=((below_next hbw hb1).setCell (by show _≤w.heap.size+1+1; omega) _).setCell (by show _≤w.heap.size+1+1; omega) _
 have HS1:=hideW (show w.heap.size+3≤((w1.setCell ⟨w.heap.size+1+1,3,none⟩ (.int .i64 s.rs)).setCell ⟨w.heap.size+1+1,4,none⟩ (.int .i64 s.rb)).heap.size by simp only [World.size_setCell]; have:=hb1.size; have:=HS.out; omega)
 obtain⟨⟨x0,x0'⟩,⟨x1,x1'⟩,⟨x2,x2'⟩,⟨x3,x3'⟩,⟨x4,x4'⟩,⟨x5,x5'⟩⟩:=HX.out.below hb1
 obtain⟨⟨z0,z0'⟩,⟨z1,z1'⟩,⟨z2,z2'⟩,⟨z3,z3'⟩,⟨z4,z4'⟩,⟨z5,z5'⟩⟩:=HZ.out.below hb1
 clear hb1 hbw HX HY HZ HS
 go_wp2_with fail
 clear x0 x1 x2 x3 x4 x5 z0 z1 z2 z3 z4 z5 x0' x1' x2' x3' x4' x5' z0' z1' z2' z3' z4' z5'
 generalize (w1.setCell ⟨w.heap.size+1+1,3,none⟩ (.int .i64 s.rs)).setCell ⟨w.heap.size+1+1,4,none⟩ (.int .i64 s.rb)=W1 at HX1 HY1 HZ1 HS1 hB1 ⊢
 refine(toPtrS_any _ s.dn lo hi _ _ W1 (H1.out.below hB1) hn).mono ?_
 rintro e w2 ⟨⟨v',rfl,ho⟩,hb2,hz2⟩
 obtain⟨-,av,cv,rfl,-,-⟩:=id ho
 have HO:=hideW ho
 have HX2:=hideW (HX1.out.below hb2)
 have HY2:=hideW (HY1.out.below hb2)
 have HZ2:=hideW (HZ1.out.below hb2)
 have hB2:=below_next hB1 hb2
 clear ho hb2 HX1 HY1 HZ1 hB1
 obtain⟨⟨x0,x0'⟩,⟨x1,x1'⟩,⟨x2,x2'⟩,⟨x3,x3'⟩,⟨x4,x4'⟩,⟨x5,x5'⟩⟩:=HX2.out
 obtain⟨⟨y0,y0'⟩,⟨y1,y1'⟩,⟨y2,y2'⟩,⟨y3,y3'⟩,⟨y4,y4'⟩,⟨y5,y5'⟩⟩:=HY2.out
 obtain⟨⟨z0,z0'⟩,⟨z1,z1'⟩,⟨z2,z2'⟩,⟨z3,z3'⟩,⟨z4,z4'⟩,⟨z5,z5'⟩⟩:=HZ2.out
 go_wp2
 have HR:=(show Box6 (w2.setCell ⟨w.heap.size+1+1,5,none⟩ (.slice av s.dn cv)) (w.heap.size+1) _ _ _ _ _ _ from(by
  obtain⟨h0,h1,h2,h3,h4,h5⟩:=HY2.out
  have hc:∀{j:Nat} {v:Value},Cell w2 (w.heap.size+1) j v→Cell (w2.setCell ⟨w.heap.size+1+1,5,none⟩ (.slice av s.dn cv)) (w.heap.size+1) j v:=fun hc=>hc.other _ (Or.inl (by omega))
  exact⟨hc h0,hc h1,hc h2,hc h3,hc h4,hc h5⟩)).put (.string s.name) (.int .i64 s.origin) (.int .i64 s.prev) (.int .i64 s.rs) (.int .i64 s.rb) (.slice av s.dn cv)
 have hs1:=HS1.out
 refine bodyPost_ret (v:=.agg #[.string s.name,.int .i64 s.origin,.int .i64 s.prev,.int .i64 s.rs,.int .i64 s.rb,.slice av s.dn cv]) (by simp [results,Tryz.results57,go_sem,HR.1.1,HR.2.1.1,HR.2.2.1.1,HR.2.2.2.1.1,HR.2.2.2.2.1.1,HR.2.2.2.2.2.1]) rfl ⟨⟨_,W1.heap.size,rfl,?_,by omega,by simpa using hz2⟩,?_⟩
 ·exact((((((HO.out.put _ (by omega)).put _ (by omega)).put _ (by omega)).put _ (by omega)).put _ (by omega)).put _ (by omega)).put _ (by omega)
 ·exact((((((hB2.setCell (by show _≤w.heap.size+1+1; omega) _).setCell (by show _≤w.heap.size+1; omega) _).setCell (by show _≤w.heap.size+1; omega) _).setCell (by show _≤w.heap.size+1; omega) _).setCell (by show _≤w.heap.size+1; omega) _).setCell (by show _≤w.heap.size+1; omega) _).setCell (by show _≤w.heap.size+1; omega) _
end Go.Proofs.YtihplgckbhnohaaGreatDoor
