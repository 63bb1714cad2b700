/- What the laws' measuring of lists of sets and snapshots and of worlds answers (no law is proved here). -/
import Derived.Test.YtmgeglgboadfiaaGreatDoorP24
import Derived.Test.YtmgeglgboadfiaaGreatDoorP3
namespace Go.Proofs.YtmgeglgboadfiaaGreatDoor
open Go.RowKit Go.Maps
set_option linter.unusedVariables false
set_option maxRecDepth 20000 in
set_option maxHeartbeats 400000 in
theorem szSetS_any(v:Value)(n lo hi:Nat)(f:Nat→SetD)(left:Int)(w:World)(h1:SetsAt w lo hi v n f)(hl0:0≤left)(hl1:left≤1048576) :
  Calls Tryz.prog 23 #[v,.int .i64 left] w fun e w'=>LeftIs (n+setsN f n) left e∧Below w.heap.size w w':=by
 have H1:=hideW h1
 obtain⟨m1,a,c,rfl,mc,-⟩:=id h1
 unfold maxLen at m1
 clear h1
 by_cases h:left - (n:Int)<0
 ·go_enter Tryz.func23,Tryz.ntmps23
  go_wp2
  go_ret
  exact⟨⟨-1,rfl,by omega,by omega,by omega⟩,Below.refl _ _⟩
 ·go_enter Tryz.func23,Tryz.ntmps23
  go_wp2
  go_loopw [1,5] (fun m i wr=>∃(k:Nat) (r:Int),k≤n∧i = .int .i64 k∧m = .int .i64 r∧0≤r∧r+n+setsN f k=left∧Below w.heap.size w wr) (fun _ i _=>n - (intOf i).toNat)
  case atStart=>exact⟨0,_,Nat.zero_le _,rfl,rfl,by omega,by simp [setsN],Below.refl _ _⟩
  case round=>
   obtain⟨k,r,hk,rfl,rfl,hr0,hr,hb⟩:=hrel
   have hr1:r≤left:=by omega
   have Hr:=hideW hr
   clear hr
   by_cases hlt:k<n
   ·have hlt':(k:Int)<(n:Int):=by omega
    obtain⟨b,off,vd,rfl,hs2⟩:=(H1.out.below hb).cells hlt
    obtain⟨-,ad,cd,rfl,-,-⟩:=id hs2.dead
    have q0:=hs2.c0
    have q1:=hs2.c1
    have q2:=hs2.c2
    have q3:=hs2.c3
    have q4:=hs2.c4
    have q5:=hs2.c5
    have Hs:=hideW hs2
    clear hs2
    go_wp2_with fail
    refine(szSet_any _ lo hi (f k) _ _ Hs.out.dead Hs.out.small hr0 (by omega)).mono ?_
    rintro e w1 ⟨⟨r',rfl,hq1,hq2,hq3⟩,hb1⟩
    have hb2:=below_next hb hb1
    have Hq:=hideW hq1
    clear hq1 hb1 q0 q1 q2 q3 q4 q5
    by_cases h3:r'<0
    ·go_wp2
     go_ret
     exact⟨⟨-1,rfl,by omega,by omega,by omega⟩,hb2⟩
    ·go_wp2
     go_roundw
     case rel=>
      refine⟨k+1,r',by omega,by go_num,rfl,by omega,?_,hb2⟩
      have e1:=Hq.out (by omega)
      have e2:=Hr.out
      show r'+(n:Int)+((setsN f k+setN (f k):Nat):Int)=left
      omega
     case measure=>simp [intOf]; omega
   ·obtain rfl:k=n:=by omega
    go_wp2
    go_ret
    exact⟨⟨r,rfl,fun _=>by have:=Hr.out; omega,hr1,by omega⟩,hb⟩
set_option maxRecDepth 20000 in
set_option maxHeartbeats 400000 in
theorem szSnapS_any(v:Value)(n lo hi:Nat)(f:Nat→SnapD)(left:Int)(w:World)(h1:SnapsAt w lo hi v n f)(hl0:0≤left)(hl1:left≤1048576) :
  Calls Tryz.prog 24 #[v,.int .i64 left] w fun e w'=>LeftIs (n+snapsN f n) left e∧Below w.heap.size w w':=by
 have H1:=hideW h1
 obtain⟨m1,a,c,rfl,mc,-⟩:=id h1
 unfold maxLen at m1
 clear h1
 by_cases h:left - (n:Int)<0
 ·go_enter Tryz.func24,Tryz.ntmps24
  go_wp2
  go_ret
  exact⟨⟨-1,rfl,by omega,by omega,by omega⟩,Below.refl _ _⟩
 ·go_enter Tryz.func24,Tryz.ntmps24
  go_wp2
  go_loopw [1,5] (fun m i wr=>∃(k:Nat) (r:Int),k≤n∧i = .int .i64 k∧m = .int .i64 r∧0≤r∧r+n+snapsN f k=left∧Below w.heap.size w wr) (fun _ i _=>n - (intOf i).toNat)
  case atStart=>exact⟨0,_,Nat.zero_le _,rfl,rfl,by omega,by simp [snapsN],Below.refl _ _⟩
  case round=>
   obtain⟨k,r,hk,rfl,rfl,hr0,hr,hb⟩:=hrel
   have hr1:r≤left:=by omega
   have Hr:=hideW hr
   clear hr
   by_cases hlt:k<n
   ·have hlt':(k:Int)<(n:Int):=by omega
    obtain⟨b,off,vd,rfl,hs2⟩:=(H1.out.below hb).cells hlt
    obtain⟨-,ad,cd,rfl,-,-⟩:=id hs2.dead
    have q0:=hs2.c0
    have q1:=hs2.c1
    have q2:=hs2.c2
    have q3:=hs2.c3
    have q4:=hs2.c4
    have q5:=hs2.c5
    have q6:=hs2.c6
    have q7:=hs2.c7
    have Hs:=hideW hs2
    clear hs2
    go_wp2_with fail
    refine(szSnap_any _ lo hi (f k) _ _ Hs.out.dead Hs.out.small.1 Hs.out.small.2 hr0 (by omega)).mono ?_
    rintro e w1 ⟨⟨r',rfl,hq1,hq2,hq3⟩,hb1⟩
    have hb2:=below_next hb hb1
    have Hq:=hideW hq1
    clear hq1 hb1 q0 q1 q2 q3 q4 q5 q6 q7
    by_cases h3:r'<0
    ·go_wp2
     go_ret
     exact⟨⟨-1,rfl,by omega,by omega,by omega⟩,hb2⟩
    ·go_wp2
     go_roundw
     case rel=>
      refine⟨k+1,r',by omega,by go_num,rfl,by omega,?_,hb2⟩
      have e1:=Hq.out (by omega)
      have e2:=Hr.out
      show r'+(n:Int)+((snapsN f k+snapN (f k):Nat):Int)=left
      omega
     case measure=>simp [intOf]; omega
   ·obtain rfl:k=n:=by omega
    go_wp2
    go_ret
    exact⟨⟨r,rfl,fun _=>by have:=Hr.out; omega,hr1,by omega⟩,hb⟩
set_option maxRecDepth 20000 in
set_option maxHeartbeats 400000 in
theorem szWorld_any(v0 v1 v2 v3:Value)(lo hi:Nat)(W:WorldD)(left:Int)(w:World)(h1:WorldAt w lo hi v0 v1 v2 v3 W)(hl0:0≤left)(hl1:left≤1048576) :
  Calls Tryz.prog 7 #[worldV v0 v1 v2 v3 W,.int .i64 left] w fun e w'=>LeftIs (worldN W) left e∧Below w.heap.size w w':=by
 have H1:=hideW h1
 clear h1
 have ha:=below_alloc w (.cells #[v0,v1,.int .i64 W.time,.int .i64 W.next,v2,v3] 29)
 have HX:=hideW (Box6.new w v0 v1 (.int .i64 W.time) (.int .i64 W.next) v2 v3 29)
 go_enter Tryz.func7,Tryz.ntmps7
 go_wp2_with fail
 refine(szPool_any _ _ lo hi W.pool _ _ (H1.out.below ha).pool hl0 hl1).mono ?_
 rintro e w1 ⟨⟨r,rfl,hr1,hr2,hr3⟩,hb1⟩
 have hB1:=below_next ha hb1
 have HX1:=hideW (HX.out.below hb1)
 have Hr:=hideW hr1
 clear hr1 hb1 ha HX
 obtain⟨⟨x0,-⟩,⟨x1,-⟩,⟨x2,-⟩,⟨x3,-⟩,⟨x4,-⟩,⟨x5,-⟩⟩:=HX1.out
 by_cases h:r<0
 ·go_wp2
  go_ret
  exact⟨⟨-1,rfl,by omega,by omega,by omega⟩,hB1⟩
 ·go_wp2_with fail
  refine(szSetS_any _ W.sn lo hi _ _ _ (H1.out.below hB1).sets (by omega) (by omega)).mono ?_
  rintro e w2 ⟨⟨r',rfl,hq1,hq2,hq3⟩,hb2⟩
  have hB2:=below_next hB1 hb2
  have HX2:=hideW (HX1.out.below hb2)
  have Hq:=hideW hq1
  clear hq1 hb2 x0 x1 x2 x3 x4 x5
  obtain⟨⟨x0,-⟩,⟨x1,-⟩,⟨x2,-⟩,⟨x3,-⟩,⟨x4,-⟩,⟨x5,-⟩⟩:=HX2.out
  by_cases h3:r'<0
  ·go_wp2
   go_ret
   exact⟨⟨-1,rfl,by omega,by omega,by omega⟩,hB2⟩
  ·go_wp2_with fail
   refine(szSnapS_any _ W.pn lo hi _ _ _ (H1.out.below hB2).snaps (by omega) (by omega)).mono ?_
   rintro e w3 ⟨⟨r2,rfl,hs1,hs2,hs3⟩,hb3⟩
   have hB3:=below_next hB2 hb3
   have Hs:=hideW hs1
   clear hs1 hb3
   by_cases h4:r2<0
   ·go_wp2
    go_ret
    exact⟨⟨-1,rfl,by omega,by omega,by omega⟩,hB3⟩
   ·go_wp2
    go_ret
    refine⟨⟨r2,rfl,fun _=>?_,by omega,by omega⟩,hB3⟩
    have e1:=Hq.out (by omega)
    have e2:=Hr.out (by omega)
    have e3:=Hs.out (by omega)
    unfold worldN
    omega
end Go.Proofs.YtmgeglgboadfiaaGreatDoor
