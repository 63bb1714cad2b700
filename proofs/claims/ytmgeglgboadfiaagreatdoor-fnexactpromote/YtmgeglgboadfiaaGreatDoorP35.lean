/- What the laws' comparing of sets, snapshots and worlds answers where both hold the same: true (no law is proved here). -/
import Derived.Test.YtmgeglgboadfiaaGreatDoorP12
import Derived.Test.YtmgeglgboadfiaaGreatDoorP11
import Derived.Test.YtmgeglgboadfiaaGreatDoorP24
import Derived.Test.YtmgeglgboadfiaaGreatDoorP3
import Derived.Test.YtmgeglgboadfiaaGreatDoorP29
import Derived.Test.YtmgeglgboadfiaaGreatDoorProg
import GoSem.ClaimJoined
import GoSem.ClaimMapViews
import Derived.JoinedTies
import Derived.KernelRfl
import Derived.RowKit
import Derived.Test.YtmgeglgboadfiaaGreatDoorP1
import Derived.Test.YtmgeglgboadfiaaGreatDoorP30
import Derived.Test.YtmgeglgboadfiaaGreatDoorP20
namespace Go.Proofs.YtmgeglgboadfiaaGreatDoor
open Go.RowKit Go.Maps
set_option linter.unusedVariables false
set_option maxRecDepth 20000 in
set_option maxHeartbeats 400000 in
theorem eqSet_same(v u:Value)(lo hi lo' hi':Nat)(s:SetD)(w:World)(h1:PtrsAt w lo hi v s.dn s.ds s.db)(h2:PtrsAt w lo' hi' u s.dn s.ds s.db) :
  Calls Tryz.prog 110 #[setV v s,setV u s] w fun e w'=>e = .returned (.bool true)∧Below w.heap.size w w':=by
 unfold setV
 have H1:=hideW h1
 have H2:=hideW h2
 obtain⟨-,a1,c1,rfl,-⟩:=id h1
 obtain⟨-,a2,c2,rfl,-⟩:=id h2
 clear h1 h2
 have ha:=below_alloc w (.cells #[.string s.name,.int .i64 s.origin,.int .i64 s.prev,.int .i64 s.rs,.int .i64 s.rb,.slice a1 s.dn c1] 67)
 have ha2:=below_alloc (w.alloc (.cells #[.string s.name,.int .i64 s.origin,.int .i64 s.prev,.int .i64 s.rs,.int .i64 s.rb,.slice a1 s.dn c1] 67)) (.cells #[.string s.name,.int .i64 s.origin,.int .i64 s.prev,.int .i64 s.rs,.int .i64 s.rb,.slice a2 s.dn c2] 67)
 have hA:=below_next ha ha2
 have HX:=hideW ((Box6.new w (.string s.name) (.int .i64 s.origin) (.int .i64 s.prev) (.int .i64 s.rs) (.int .i64 s.rb) (.slice a1 s.dn c1) 67).below ha2)
 have hy:=Box6.new (w.alloc (.cells #[.string s.name,.int .i64 s.origin,.int .i64 s.prev,.int .i64 s.rs,.int .i64 s.rb,.slice a1 s.dn c1] 67)) (.string s.name) (.int .i64 s.origin) (.int .i64 s.prev) (.int .i64 s.rs) (.int .i64 s.rb) (.slice a2 s.dn c2) 67
 rw [World.size_alloc] at hy
 have HY:=hideW hy
 clear ha ha2 hy
 go_enter Tryz.func110,Tryz.ntmps110
 go_wp2_with fail
 generalize (w.alloc (.cells #[.string s.name,.int .i64 s.origin,.int .i64 s.prev,.int .i64 s.rs,.int .i64 s.rb,.slice a1 s.dn c1] 67)).alloc (.cells #[.string s.name,.int .i64 s.origin,.int .i64 s.prev,.int .i64 s.rs,.int .i64 s.rb,.slice a2 s.dn c2] 67)=W at HX HY hA ⊢
 refine(eqPtr_any s.rs s.rb s.rs s.rb W).mono ?_
 rintro e w1 ⟨⟨t,rfl,ht⟩,hb1⟩
 obtain rfl:t=true:=ht.2 ⟨rfl,rfl⟩
 have HX1:=hideW (HX.out.below hb1)
 have HY1:=hideW (HY.out.below hb1)
 have hB1:=below_next hA hb1
 clear ht hb1 hA HX HY
 obtain⟨⟨x0,-⟩,⟨x1,-⟩,⟨x2,-⟩,⟨x3,-⟩,⟨x4,-⟩,⟨x5,-⟩⟩:=HX1.out
 obtain⟨⟨y0,-⟩,⟨y1,-⟩,⟨y2,-⟩,⟨y3,-⟩,⟨y4,-⟩,⟨y5,-⟩⟩:=HY1.out
 go_wp2_with fail
 refine(eqPtrS_any _ _ s.dn s.dn lo hi lo' hi' s.ds s.db s.ds s.db _ (H1.out.below hB1) (H2.out.below hB1)).mono ?_
 rintro e w2 ⟨⟨t,rfl,ht⟩,hb2⟩
 obtain rfl:t=true:=ht.2 ⟨rfl,fun _ _=>⟨rfl,rfl⟩⟩
 have hB2:=below_next hB1 hb2
 clear ht hb2
 go_wp2
 go_ret
 exact⟨rfl,hB2⟩
set_option maxRecDepth 20000 in
set_option maxHeartbeats 400000 in
theorem eqSnap_same(v u:Value)(lo hi lo' hi':Nat)(s:SnapD)(w:World)(h1:PtrsAt w lo hi v s.dn s.ds s.db)(h2:PtrsAt w lo' hi' u s.dn s.ds s.db) :
  Calls Tryz.prog 111 #[snapV v s,snapV u s] w fun e w'=>e = .returned (.bool true)∧Below w.heap.size w w':=by
 unfold snapV
 have H1:=hideW h1
 have H2:=hideW h2
 obtain⟨-,a1,c1,rfl,-⟩:=id h1
 obtain⟨-,a2,c2,rfl,-⟩:=id h2
 clear h1 h2
 have ha:=below_alloc w (.cells #[.int .i64 s.id,.string s.name,.string s.set,.int .i64 s.prev,.int .i64 s.time,.int .i64 s.rs,.int .i64 s.rb,.slice a1 s.dn c1] 99)
 have ha2:=below_alloc (w.alloc (.cells #[.int .i64 s.id,.string s.name,.string s.set,.int .i64 s.prev,.int .i64 s.time,.int .i64 s.rs,.int .i64 s.rb,.slice a1 s.dn c1] 99)) (.cells #[.int .i64 s.id,.string s.name,.string s.set,.int .i64 s.prev,.int .i64 s.time,.int .i64 s.rs,.int .i64 s.rb,.slice a2 s.dn c2] 99)
 have hA:=below_next ha ha2
 have HX:=hideW ((Box8.new w (.int .i64 s.id) (.string s.name) (.string s.set) (.int .i64 s.prev) (.int .i64 s.time) (.int .i64 s.rs) (.int .i64 s.rb) (.slice a1 s.dn c1) 99).below ha2)
 have hy:=Box8.new (w.alloc (.cells #[.int .i64 s.id,.string s.name,.string s.set,.int .i64 s.prev,.int .i64 s.time,.int .i64 s.rs,.int .i64 s.rb,.slice a1 s.dn c1] 99)) (.int .i64 s.id) (.string s.name) (.string s.set) (.int .i64 s.prev) (.int .i64 s.time) (.int .i64 s.rs) (.int .i64 s.rb) (.slice a2 s.dn c2) 99
 rw [World.size_alloc] at hy
 have HY:=hideW hy
 clear ha ha2 hy
 go_enter Tryz.func111,Tryz.ntmps111
 go_wp2_with fail
 generalize (w.alloc (.cells #[.int .i64 s.id,.string s.name,.string s.set,.int .i64 s.prev,.int .i64 s.time,.int .i64 s.rs,.int .i64 s.rb,.slice a1 s.dn c1] 99)).alloc (.cells #[.int .i64 s.id,.string s.name,.string s.set,.int .i64 s.prev,.int .i64 s.time,.int .i64 s.rs,.int .i64 s.rb,.slice a2 s.dn c2] 99)=W at HX HY hA ⊢
 refine(eqPtr_any s.rs s.rb s.rs s.rb W).mono ?_
 rintro e w1 ⟨⟨t,rfl,ht⟩,hb1⟩
 obtain rfl:t=true:=ht.2 ⟨rfl,rfl⟩
 have HX1:=hideW (HX.out.below hb1)
 have HY1:=hideW (HY.out.below hb1)
 have hB1:=below_next hA hb1
 clear ht hb1 hA HX HY
 obtain⟨⟨⟨x0,-⟩,⟨x1,-⟩,⟨x2,-⟩,⟨x3,-⟩⟩,⟨x4,-⟩,⟨x5,-⟩,⟨x6,-⟩,⟨x7,-⟩⟩:=HX1.out
 obtain⟨⟨⟨y0,-⟩,⟨y1,-⟩,⟨y2,-⟩,⟨y3,-⟩⟩,⟨y4,-⟩,⟨y5,-⟩,⟨y6,-⟩,⟨y7,-⟩⟩:=HY1.out
 go_wp2_with fail
 refine(eqPtrS_any _ _ s.dn s.dn lo hi lo' hi' s.ds s.db s.ds s.db _ (H1.out.below hB1) (H2.out.below hB1)).mono ?_
 rintro e w2 ⟨⟨t,rfl,ht⟩,hb2⟩
 obtain rfl:t=true:=ht.2 ⟨rfl,fun _ _=>⟨rfl,rfl⟩⟩
 have hB2:=below_next hB1 hb2
 clear ht hb2
 go_wp2
 go_ret
 exact⟨rfl,hB2⟩
set_option maxRecDepth 20000 in
set_option maxHeartbeats 1000000 in
theorem eqSetS_same(v u:Value)(n lo hi lo' hi':Nat)(f:Nat→SetD)(w:World)(h1:SetsAt w lo hi v n f)(h2:SetsAt w lo' hi' u n f) :
  Calls Tryz.prog 40 #[v,u] w fun e w'=>e = .returned (.bool true)∧Below w.heap.size w w':=by
 have H1:=hideW h1
 have H2:=hideW h2
 obtain⟨m1,a,c,rfl,mc,-⟩:=id h1
 obtain⟨-,a',c',rfl,mc',-⟩:=id h2
 unfold maxLen at m1
 clear h1 h2
 have hne:((n:Int) != (n:Int))=false:=by simp
 go_enter Tryz.func40,Tryz.ntmps40
 go_wp2
 go_loopw [5] (fun i wr=>∃k:Nat,k≤n∧i = .int .i64 k∧Below w.heap.size w wr) (fun i _=>n - (intOf i).toNat)
 case atStart=>exact⟨0,Nat.zero_le _,rfl,Below.refl _ _⟩
 case round=>
  obtain⟨k,hk,rfl,hb⟩:=hrel
  by_cases hlt:k<n
  ·have hlt':(k:Int)<(n:Int):=by omega
   obtain⟨b,off,vd,rfl,hs'⟩:=(H1.out.below hb).cells hlt
   obtain⟨b',off',ve,rfl,ht'⟩:=(H2.out.below hb).cells hlt
   obtain⟨-,da,dc,rfl,-,-⟩:=id hs'.dead
   obtain⟨-,ea,ec,rfl,-,-⟩:=id ht'.dead
   have q0:=hs'.c0
   have r0:=ht'.c0
   have q1:=hs'.c1
   have r1:=ht'.c1
   have q2:=hs'.c2
   have r2:=ht'.c2
   have q3:=hs'.c3
   have r3:=ht'.c3
   have q4:=hs'.c4
   have r4:=ht'.c4
   have q5:=hs'.c5
   have r5:=ht'.c5
   have Hs:=hideW hs'
   have Ht:=hideW ht'
   clear hs' ht'
   go_wp2_with fail
   go_region_held3 (fun w'=>w'.cell? ⟨b,off+k*6,none⟩=some (.string (f k).name)∧w'.cell? ⟨b,off+k*6+1,none⟩=some (.int .i64 (f k).origin)∧w'.cell? ⟨b,off+k*6+2,none⟩=some (.int .i64 (f k).prev)∧w'.cell? ⟨b,off+k*6+3,none⟩=some (.int .i64 (f k).rs)∧w'.cell? ⟨b,off+k*6+4,none⟩=some (.int .i64 (f k).rb)∧w'.cell? ⟨b,off+k*6+5,none⟩=some (.slice da (f k).dn dc)∧w'.cell? ⟨b',off'+k*6,none⟩=some (.string (f k).name)∧w'.cell? ⟨b',off'+k*6+1,none⟩=some (.int .i64 (f k).origin)∧w'.cell? ⟨b',off'+k*6+2,none⟩=some (.int .i64 (f k).prev)∧w'.cell? ⟨b',off'+k*6+3,none⟩=some (.int .i64 (f k).rs)∧w'.cell? ⟨b',off'+k*6+4,none⟩=some (.int .i64 (f k).rb)∧w'.cell? ⟨b',off'+k*6+5,none⟩=some (.slice ea (f k).dn ec)) (go_keep)
    (first
     | (go_at_call 110; refine(eqSet_same _ _ lo hi lo' hi' (f k) _ (Hs.out.dead.below (Below.refl _ _).drew) (Ht.out.dead.below (Below.refl _ _).drew)).mono ?_; rintro e w1 ⟨rfl,hb1⟩; have hb1':=below_undrew hb1; have hs':=Hs.out; have ht':=Ht.out; have z0:=(hs'.below hb1').c0; have zz0:=(ht'.below hb1').c0; have z1:=(hs'.below hb1').c1; have zz1:=(ht'.below hb1').c1; have z2:=(hs'.below hb1').c2; have zz2:=(ht'.below hb1').c2; have z3:=(hs'.below hb1').c3; have zz3:=(ht'.below hb1').c3; have z4:=(hs'.below hb1').c4; have zz4:=(ht'.below hb1').c4; have z5:=(hs'.below hb1').c5; have zz5:=(ht'.below hb1').c5))
   have hb2:=below_next hb hb1'
   clear z0 zz0 q0 r0 z1 zz1 q1 r1 z2 zz2 q2 r2 z3 zz3 q3 r3 z4 zz4 q4 r4 z5 zz5 q5 r5 hs' ht' hb1 hb1'
   go_wp2
   go_roundw
   case rel=>exact⟨k+1,by omega,by go_num,hb2⟩
   case measure=>simp [intOf]; omega
  ·go_wp2
   go_ret
   exact⟨rfl,hb⟩
set_option maxRecDepth 20000 in
set_option maxHeartbeats 1000000 in
theorem eqSnapS_same(v u:Value)(n lo hi lo' hi':Nat)(f:Nat→SnapD)(w:World)(h1:SnapsAt w lo hi v n f)(h2:SnapsAt w lo' hi' u n f) :
  Calls Tryz.prog 41 #[v,u] w fun e w'=>e = .returned (.bool true)∧Below w.heap.size w w':=by
 have H1:=hideW h1
 have H2:=hideW h2
 obtain⟨m1,a,c,rfl,mc,-⟩:=id h1
 obtain⟨-,a',c',rfl,mc',-⟩:=id h2
 unfold maxLen at m1
 clear h1 h2
 have hne:((n:Int) != (n:Int))=false:=by simp
 go_enter Tryz.func41,Tryz.ntmps41
 go_wp2
 go_loopw [5] (fun i wr=>∃k:Nat,k≤n∧i = .int .i64 k∧Below w.heap.size w wr) (fun i _=>n - (intOf i).toNat)
 case atStart=>exact⟨0,Nat.zero_le _,rfl,Below.refl _ _⟩
 case round=>
  obtain⟨k,hk,rfl,hb⟩:=hrel
  by_cases hlt:k<n
  ·have hlt':(k:Int)<(n:Int):=by omega
   obtain⟨b,off,vd,rfl,hs'⟩:=(H1.out.below hb).cells hlt
   obtain⟨b',off',ve,rfl,ht'⟩:=(H2.out.below hb).cells hlt
   obtain⟨-,da,dc,rfl,-,-⟩:=id hs'.dead
   obtain⟨-,ea,ec,rfl,-,-⟩:=id ht'.dead
   have q0:=hs'.c0
   have r0:=ht'.c0
   have q1:=hs'.c1
   have r1:=ht'.c1
   have q2:=hs'.c2
   have r2:=ht'.c2
   have q3:=hs'.c3
   have r3:=ht'.c3
   have q4:=hs'.c4
   have r4:=ht'.c4
   have q5:=hs'.c5
   have r5:=ht'.c5
   have q6:=hs'.c6
   have r6:=ht'.c6
   have q7:=hs'.c7
   have r7:=ht'.c7
   have Hs:=hideW hs'
   have Ht:=hideW ht'
   clear hs' ht'
   go_wp2_with fail
   go_region_held3 (fun w'=>w'.cell? ⟨b,off+k*8,none⟩=some (.int .i64 (f k).id)∧w'.cell? ⟨b,off+k*8+1,none⟩=some (.string (f k).name)∧w'.cell? ⟨b,off+k*8+2,none⟩=some (.string (f k).set)∧w'.cell? ⟨b,off+k*8+3,none⟩=some (.int .i64 (f k).prev)∧w'.cell? ⟨b,off+k*8+4,none⟩=some (.int .i64 (f k).time)∧w'.cell? ⟨b,off+k*8+5,none⟩=some (.int .i64 (f k).rs)∧w'.cell? ⟨b,off+k*8+6,none⟩=some (.int .i64 (f k).rb)∧w'.cell? ⟨b,off+k*8+7,none⟩=some (.slice da (f k).dn dc)∧w'.cell? ⟨b',off'+k*8,none⟩=some (.int .i64 (f k).id)∧w'.cell? ⟨b',off'+k*8+1,none⟩=some (.string (f k).name)∧w'.cell? ⟨b',off'+k*8+2,none⟩=some (.string (f k).set)∧w'.cell? ⟨b',off'+k*8+3,none⟩=some (.int .i64 (f k).prev)∧w'.cell? ⟨b',off'+k*8+4,none⟩=some (.int .i64 (f k).time)∧w'.cell? ⟨b',off'+k*8+5,none⟩=some (.int .i64 (f k).rs)∧w'.cell? ⟨b',off'+k*8+6,none⟩=some (.int .i64 (f k).rb)∧w'.cell? ⟨b',off'+k*8+7,none⟩=some (.slice ea (f k).dn ec)) (go_keep)
    (first
     | (go_at_call 111; refine(eqSnap_same _ _ lo hi lo' hi' (f k) _ (Hs.out.dead.below (Below.refl _ _).drew) (Ht.out.dead.below (Below.refl _ _).drew)).mono ?_; rintro e w1 ⟨rfl,hb1⟩; have hb1':=below_undrew hb1; have hs':=Hs.out; have ht':=Ht.out; have z0:=(hs'.below hb1').c0; have zz0:=(ht'.below hb1').c0; have z1:=(hs'.below hb1').c1; have zz1:=(ht'.below hb1').c1; have z2:=(hs'.below hb1').c2; have zz2:=(ht'.below hb1').c2; have z3:=(hs'.below hb1').c3; have zz3:=(ht'.below hb1').c3; have z4:=(hs'.below hb1').c4; have zz4:=(ht'.below hb1').c4; have z5:=(hs'.below hb1').c5; have zz5:=(ht'.below hb1').c5; have z6:=(hs'.below hb1').c6; have zz6:=(ht'.below hb1').c6; have z7:=(hs'.below hb1').c7; have zz7:=(ht'.below hb1').c7))
   have hb2:=below_next hb hb1'
   clear z0 zz0 q0 r0 z1 zz1 q1 r1 z2 zz2 q2 r2 z3 zz3 q3 r3 z4 zz4 q4 r4 z5 zz5 q5 r5 z6 zz6 q6 r6 z7 zz7 q7 r7 hs' ht' hb1 hb1'
   go_wp2
   go_roundw
   case rel=>exact⟨k+1,by omega,by go_num,hb2⟩
   case measure=>simp [intOf]; omega
  ·go_wp2
   go_ret
   exact⟨rfl,hb⟩
set_option maxRecDepth 20000 in
set_option maxHeartbeats 400000 in
theorem eqWorld_same(v0 v1 v2 v3 u0 u1 u2 u3:Value)(lo hi lo' hi':Nat)(W:WorldD)(w:World)(h1:WorldAt w lo hi v0 v1 v2 v3 W)(h2:WorldAt w lo' hi' u0 u1 u2 u3 W) :
  Calls Tryz.prog 12 #[worldV v0 v1 v2 v3 W,worldV u0 u1 u2 u3 W] w fun e w'=>e = .returned (.bool true)∧Below w.heap.size w w':=by
 have H1:=hideW h1
 have H2:=hideW h2
 clear h1 h2
 have ha:=below_alloc w (.cells #[v0,v1,.int .i64 W.time,.int .i64 W.next,v2,v3] 37)
 have ha2:=below_alloc (w.alloc (.cells #[v0,v1,.int .i64 W.time,.int .i64 W.next,v2,v3] 37)) (.cells #[u0,u1,.int .i64 W.time,.int .i64 W.next,u2,u3] 37)
 have hA:=below_next ha ha2
 have HX:=hideW ((Box6.new w v0 v1 (.int .i64 W.time) (.int .i64 W.next) v2 v3 37).below ha2)
 have hy:=Box6.new (w.alloc (.cells #[v0,v1,.int .i64 W.time,.int .i64 W.next,v2,v3] 37)) u0 u1 (.int .i64 W.time) (.int .i64 W.next) u2 u3 37
 rw [World.size_alloc] at hy
 have HY:=hideW hy
 clear ha ha2 hy
 go_enter Tryz.func12,Tryz.ntmps12
 go_wp2_with fail
 generalize (w.alloc (.cells #[v0,v1,.int .i64 W.time,.int .i64 W.next,v2,v3] 37)).alloc (.cells #[u0,u1,.int .i64 W.time,.int .i64 W.next,u2,u3] 37)=W0 at HX HY hA ⊢
 refine(eqPool_any _ _ _ _ lo hi lo' hi' W.pool W.pool _ (H1.out.below hA).pool (H2.out.below hA).pool).mono ?_
 rintro e w1 ⟨⟨t,rfl,ht⟩,hb1⟩
 obtain rfl:t=true:=ht.2 (PoolEq.refl W.pool)
 have HX1:=hideW (HX.out.below hb1)
 have HY1:=hideW (HY.out.below hb1)
 have hB1:=below_next hA hb1
 clear ht hb1 hA HX HY
 obtain⟨⟨x0,-⟩,⟨x1,-⟩,⟨x2,-⟩,⟨x3,-⟩,⟨x4,-⟩,⟨x5,-⟩⟩:=HX1.out
 obtain⟨⟨y0,-⟩,⟨y1,-⟩,⟨y2,-⟩,⟨y3,-⟩,⟨y4,-⟩,⟨y5,-⟩⟩:=HY1.out
 go_wp2_with fail
 refine(eqSetS_same _ _ W.sn lo hi lo' hi' W.sets _ (H1.out.below hB1).sets (H2.out.below hB1).sets).mono ?_
 rintro e w2 ⟨rfl,hb2⟩
 have HX2:=hideW (HX1.out.below hb2)
 have HY2:=hideW (HY1.out.below hb2)
 have hB2:=below_next hB1 hb2
 clear hb2 hB1 HX1 HY1 x0 x1 x2 x3 x4 x5 y0 y1 y2 y3 y4 y5
 obtain⟨⟨x0,-⟩,⟨x1,-⟩,⟨x2,-⟩,⟨x3,-⟩,⟨x4,-⟩,⟨x5,-⟩⟩:=HX2.out
 obtain⟨⟨y0,-⟩,⟨y1,-⟩,⟨y2,-⟩,⟨y3,-⟩,⟨y4,-⟩,⟨y5,-⟩⟩:=HY2.out
 go_wp2_with fail
 refine(eqSnapS_same _ _ W.pn lo hi lo' hi' W.snaps _ (H1.out.below hB2).snaps (H2.out.below hB2).snaps).mono ?_
 rintro e w3 ⟨rfl,hb3⟩
 have hB3:=below_next hB2 hb3
 clear hb3
 go_wp2
 go_ret
 exact⟨rfl,hB3⟩
end Go.Proofs.YtmgeglgboadfiaaGreatDoor

namespace Go.Proofs.YtmgeglgboadfiaaGreatDoor
open Go.RowKit
set_option linter.unusedVariables false
set_option maxRecDepth 20000 in
set_option maxHeartbeats 400000 in
theorem heldInt64S_any(v:Value)(n lo hi:Nat)(f:Nat→Int)(k0:Int)(w:World)(h1:IntsAt w lo hi v n f)(hk0:0≤k0)(hk1:k0+n≤1000000000000)(hf:∀i,i<n→f i=k0+i) :
  Calls Tryz.prog 177 #[v,.int .i64 k0] w fun e w'=>e = .returned (.int .i64 (k0+n))∧Below w.heap.size w w':=by
 obtain⟨m1,a,c,rfl,mc,g1⟩:=h1
 unfold maxLen at m1
 have Hf:Hid (∀i,i<n→f i=k0+i):=hf
 clear hf
 go_enter Tryz.func177,Tryz.ntmps177
 go_wp2
 go_loopw [1,5] (fun m i wr=>∃k:Nat,k≤n∧i = .int .i64 k∧m = .int .i64 (k0+k)∧Below w.heap.size w wr) (fun _ i _=>n - (intOf i).toNat)
 case atStart=>exact⟨0,Nat.zero_le _,rfl,by simp,Below.refl _ _⟩
 case round=>
  obtain⟨k,hk,rfl,rfl,hb⟩:=hrel
  by_cases hlt:k<n
  ·have hlt':(k:Int)<(n:Int):=by omega
   obtain⟨b,off,rfl,_,_,k1⟩:=g1 (by omega)
   have hc1:wr.cell? ⟨b,off+k,none⟩=some (.int .i64 (k0+k)):=by rw [←Hf.out k hlt]; exact(hb.cell (lt_of_cell (k1 k hlt))).trans (k1 k hlt)
   clear k1 g1
   go_wp2
   go_roundw
   case rel=>exact⟨k+1,by omega,by go_num,by go_num,hb⟩
   case measure=>simp [intOf]; omega
  ·obtain rfl:k=n:=by omega
   go_wp2
   go_ret
   exact⟨rfl,hb⟩
set_option maxRecDepth 20000 in
set_option maxHeartbeats 400000 in
theorem heldPtrS_any(v:Value)(n lo hi:Nat)(f g:Nat→Int)(k0:Int)(w:World)(h1:PtrsAt w lo hi v n f g)(hk0:0≤k0)(hk1:k0+2*n≤1000000000000)(hf:∀i,i<n→f i=k0+2*i∧g i=k0+2*i+1) :
  Calls Tryz.prog 178 #[v,.int .i64 k0] w fun e w'=>e = .returned (.int .i64 (k0+2*n))∧Below w.heap.size w w':=by
 obtain⟨m1,a,c,rfl,mc,g1⟩:=h1
 unfold maxLen at m1
 have Hf:Hid (∀i,i<n→f i=k0+2*i∧g i=k0+2*i+1):=hf
 clear hf
 go_enter Tryz.func178,Tryz.ntmps178
 go_wp2
 go_loopw [1,5] (fun m i wr=>∃k:Nat,k≤n∧i = .int .i64 k∧m = .int .i64 (k0+2*k)∧Below w.heap.size w wr) (fun _ i _=>n - (intOf i).toNat)
 case atStart=>exact⟨0,Nat.zero_le _,rfl,by simp,Below.refl _ _⟩
 case round=>
  obtain⟨k,hk,rfl,rfl,hb⟩:=hrel
  by_cases hlt:k<n
  ·have hlt':(k:Int)<(n:Int):=by omega
   obtain⟨b,off,rfl,_,_,k1⟩:=g1 (by omega)
   have hc1:wr.cell? ⟨b,off+k*2,none⟩=some (.int .i64 (k0+2*k)):=by rw [←(Hf.out k hlt).1]; exact(hb.cell (lt_of_cell (k1 k hlt).1)).trans (k1 k hlt).1
   have hc2:wr.cell? ⟨b,off+k*2+1,none⟩=some (.int .i64 (k0+2*k+1)):=by rw [←(Hf.out k hlt).2]; exact(hb.cell (lt_of_cell (k1 k hlt).2)).trans (k1 k hlt).2
   clear k1 g1
   go_wp2
   go_roundw
   case rel=>exact⟨k+1,by omega,by go_num,by go_num,hb⟩
   case measure=>simp [intOf]; omega
  ·obtain rfl:k=n:=by omega
   go_wp2
   go_ret
   exact⟨rfl,hb⟩
set_option maxRecDepth 20000 in
set_option maxHeartbeats 400000 in
theorem heldSlotS_any(v:Value)(n lo hi:Nat)(f:Nat→SlotD)(k0:Int)(w:World)(h1:SlotsAt w lo hi v n (markS f k0))(hk0:0≤k0)(hk1:cntSl f k0 n≤1000000000000) :
  Calls Tryz.prog 176 #[v,.int .i64 k0] w fun e w'=>e = .returned (.int .i64 (cntSl f k0 n))∧Below w.heap.size w w':=by
 obtain⟨m1,a,c,rfl,mc,g1⟩:=h1
 unfold maxLen at m1
 have Hk1:Hid (cntSl f k0 n≤1000000000000):=hk1
 have G1:Hid (0<n→∃b off,a=some ⟨b,off,none⟩∧lo≤b∧b<hi∧∀i,i<n→∃v0 v1 v2,w.cell? ⟨b,off+i*3,none⟩=some v0∧w.cell? ⟨b,off+i*3+1,none⟩=some v1∧w.cell? ⟨b,off+i*3+2,none⟩=some v2∧SlotAt w lo hi v0 v1 v2 (markS f k0 i)):=g1
 clear g1 hk1
 go_enter Tryz.func176,Tryz.ntmps176
 go_wp2
 go_loopw [1,5] (fun m i wr=>∃k:Nat,k≤n∧i = .int .i64 k∧m = .int .i64 (cntSl f k0 k)∧Below w.heap.size w wr) (fun _ i _=>n - (intOf i).toNat)
 case atStart=>exact⟨0,Nat.zero_le _,rfl,rfl,Below.refl _ _⟩
 case round=>
  obtain⟨k,hk,rfl,rfl,hb⟩:=hrel
  by_cases hlt:k<n
  ·have hlt':(k:Int)<(n:Int):=by omega
   have hc0:k0≤cntSl f k0 k:=cntSl_le f k0 (Nat.zero_le k)
   have hc1:cntSl f k0 k+2+2*((f k).kn:Int)≤1000000000000:=Int.le_trans (cntSl_le f k0 (show k+1≤n from hlt)) Hk1.out
   obtain⟨b,off,rfl,_,_,k1⟩:=G1.out (by omega)
   obtain⟨x0,x1,x2,c0,c1,c2,hs⟩:=k1 k hlt
   have hd0:=(hb.cell (lt_of_cell c0)).trans c0
   have hd1:=(hb.cell (lt_of_cell c1)).trans c1
   have hd2:=(hb.cell (lt_of_cell c2)).trans c2
   have hs':=hs.below hb
   clear k1 G1 c0 c1 c2 hs
   obtain⟨rfl,hkids,rfl,_⟩:=hs'
   have Hkids:Hid (PtrsAt wr lo hi x1 (f k).kn (fun i=>cntSl f k0 k+1+2*i) (fun i=>cntSl f k0 k+1+2*i+1)):=hkids
   obtain⟨_,ka,kc,rfl,_⟩:=hkids
   have hd0':wr.cell? ⟨b,off+k*3,none⟩=some (.int .i64 (cntSl f k0 k)):=hd0
   have hd1':wr.cell? ⟨b,off+k*3+1,none⟩=some (.slice ka (f k).kn kc):=hd1
   have hd2':wr.cell? ⟨b,off+k*3+2,none⟩=some (.string (mtF (cntSl f k0 k+1+2*(f k).kn))):=hd2
   clear hd0 hd1 hd2
   go_wp2_with fail
   refine(heldPtrS_any _ (f k).kn lo hi _ _ _ _ Hkids.out (by omega) (by omega) (fun i hi=>⟨rfl,rfl⟩)).mono ?_
   rintro e w1 ⟨rfl,hb1⟩
   have hz:w1.cell? ⟨b,off+k*3+2,none⟩=some (.string (mtF (cntSl f k0 k+1+2*(f k).kn))):=(hb1.cell (lt_of_cell hd2')).trans hd2'
   have hbb:=below_next hb hb1
   clear hd0' hd1' hd2' Hkids hb1
   have hnn:¬cntSl f k0 k+1+2*((f k).kn:Int)<0:=by omega
   have hse:=str_eq (rfl:mtF (cntSl f k0 k+1+2*(f k).kn)=mtF (cntSl f k0 k+1+2*(f k).kn))
   go_wp2_with fail
   go_region_held3 (fun w'=>w'.cell? ⟨b,off+k*3+2,none⟩=some (.string (mtF (cntSl f k0 k+1+2*(f k).kn)))) (go_keep)
     (first | (go_at_call 114; refine(markText_any _ _ (by omega)).mono ?_; rintro e w2 ⟨rfl,hb2⟩; have z1:=(hb2.cell (p:=⟨b,off+k*3+2,none⟩) (lt_of_cell hz)).trans hz))
   have hbc:=below_call hbb hb2
   clear hb2 z1
   go_wp2
   go_roundw
   case rel=>exact⟨k+1,by omega,by go_num,congrArg (Value.int .i64) (by show _=cntSl f k0 k+2+2*((f k).kn:Int); omega),hbc⟩
   case measure=>simp [intOf]; omega
  ·obtain rfl:k=n:=by omega
   go_wp2
   go_ret
   exact⟨rfl,hb⟩
set_option maxRecDepth 20000 in
set_option maxHeartbeats 400000 in
theorem heldPool_any(v0 v1:Value)(lo hi:Nat)(p:PoolD)(k0:Int)(w:World)(h1:SlotsAt w lo hi v0 p.n (markS p.s k0))(h2:IntsAt w lo hi v1 p.hn (fun i=>cntSl p.s k0 p.n+i))
  (hk0:0≤k0) (hk1:cntSl p.s k0 p.n+p.hn≤1000000000000) :
  Calls Tryz.prog 116 #[.agg #[v0,v1],.int .i64 k0] w fun e w'=>e = .returned (.int .i64 (cntSl p.s k0 p.n+p.hn))∧Below w.heap.size w w':=by
 have q1:=h1
 have q2:=h2
 obtain⟨_,a,c,rfl,_⟩:=h1
 obtain⟨_,a',c',rfl,_⟩:=h2
 have hk00:k0≤cntSl p.s k0 p.n:=cntSl_le p.s k0 (Nat.zero_le p.n)
 have hge:¬cntSl p.s k0 p.n<0:=by omega
 have hge2:¬cntSl p.s k0 p.n+(p.hn:Int)<0:=by omega
 go_enter Tryz.func116,Tryz.ntmps116
 go_wp2_with fail
 have hbw:=(Below.refl w.heap.size w).alloc (Nat.le_refl _) (.cells #[.slice a p.n c,.slice a' p.hn c'] 33)
 refine(heldSlotS_any _ p.n lo hi p.s _ _ (q1.below hbw) hk0 (by omega)).mono ?_
 rintro e w1 ⟨rfl,hb1⟩
 have e1:=hb1.cell (p:=⟨w.heap.size,1,none⟩) (by simp)
 simp at e1
 have hb2:=below_next hbw hb1
 clear hb1
 go_wp2_with fail
 refine(heldInt64S_any _ p.hn lo hi _ _ _ (q2.below hb2) (by omega) hk1 (fun i hi=>rfl)).mono ?_
 rintro e w2 ⟨rfl,hb3⟩
 have hb4:=below_next hb2 hb3
 go_wp2
 go_ret
 exact⟨rfl,hb4⟩
theorem heldPool_own(lo hi:Nat)(v0 v1:Value)(p:PoolD)(k0:Int)(w:World)(h:PoolAt w lo hi v0 v1 (markP p k0))(hk0:0≤k0)(hk1:endP p k0≤1000000000000) :
  Calls Tryz.prog 116 #[.agg #[v0,v1],.int .i64 k0] w fun e w'=>e = .returned (.int .i64 (endP p k0))∧Below w.heap.size w w':=
 heldPool_any v0 v1 lo hi p k0 w h.1 h.2 hk0 hk1
set_option maxRecDepth 20000 in
set_option maxHeartbeats 1000000 in
theorem heldSetS_any(v:Value)(n lo hi:Nat)(f:Nat→SetD)(k0:Int)(w:World)(h1:SetsAt w lo hi v n (markSetD f k0))(hk0:0≤k0)(hk1:cntSet f k0 n≤1000000000000) :
  Calls Tryz.prog 117 #[v,.int .i64 k0] w fun e w'=>e = .returned (.int .i64 (cntSet f k0 n))∧Below w.heap.size w w':=by
 have H1:=hideM h1
 obtain⟨m1,a,c,rfl,mc,-⟩:=id h1
 unfold maxLen at m1
 have Hk1:=hideM hk1
 clear h1 hk1
 go_enter Tryz.func117,Tryz.ntmps117
 go_wp2
 go_loopw [1,5] (fun m i wr=>∃k:Nat,k≤n∧i = .int .i64 k∧m = .int .i64 (cntSet f k0 k)∧Below w.heap.size w wr) (fun _ i _=>n - (intOf i).toNat)
 case atStart=>exact⟨0,Nat.zero_le _,rfl,rfl,Below.refl _ _⟩
 case round=>
  obtain⟨k,hk,rfl,rfl,hb⟩:=hrel
  by_cases hlt:k<n
  ·have hlt':(k:Int)<(n:Int):=by omega
   have hc0:k0≤cntSet f k0 k:=cntSet_le f k0 (Nat.zero_le k)
   have hc1:cntSet f k0 k+5+2*((f k).dn:Int)≤1000000000000:=Int.le_trans (cntSet_le f k0 (show k+1≤n from hlt)) Hk1.out
   obtain⟨b,off,vd,rfl,hs2⟩:=(H1.out.below hb).cells hlt
   obtain⟨-,ad,cd,rfl,-,-⟩:=id hs2.dead
   have q0:wr.cell? ⟨b,off+k*6,none⟩=some (.string (mtF (cntSet f k0 k))):=hs2.c0
   have q1:wr.cell? ⟨b,off+k*6+1,none⟩=some (.int .i64 (cntSet f k0 k+1)):=hs2.c1
   have q2:wr.cell? ⟨b,off+k*6+2,none⟩=some (.int .i64 (cntSet f k0 k+1+1)):=hs2.c2
   have q3:wr.cell? ⟨b,off+k*6+3,none⟩=some (.int .i64 (cntSet f k0 k+1+1+1)):=hs2.c3
   have q4:wr.cell? ⟨b,off+k*6+4,none⟩=some (.int .i64 (cntSet f k0 k+1+1+1+1)):=hs2.c4
   have q5:=hs2.c5
   have Hd:=hideM (show PtrsAt wr lo hi (.slice ad (f k).dn cd) (f k).dn (fun i=>cntSet f k0 k+1+1+1+1+1+2*i) (fun i=>cntSet f k0 k+1+1+1+1+1+2*i+1)from hs2.dead)
   clear hs2
   go_wp2_with fail
   have hse1:=str_eq (rfl:mtF (cntSet f k0 k)=mtF (cntSet f k0 k))
   go_region_held3 (fun w'=>w'.cell? ⟨b,off+k*6,none⟩=some (.string (mtF (cntSet f k0 k)))) (go_keep)
    (first | (go_at_call 114; refine(markText_any _ _ (by omega)).mono ?_; rintro e w1 ⟨rfl,hm1⟩; have hm1':=below_undrew hm1; have z1:=(hm1'.cell (p:=⟨b,off+k*6,none⟩) (lt_of_cell q0)).trans q0))
   have hb1:=below_next hb hm1'
   replace q0:=(hm1'.cell (lt_of_cell q0)).trans q0
   replace q1:=(hm1'.cell (lt_of_cell q1)).trans q1
   replace q2:=(hm1'.cell (lt_of_cell q2)).trans q2
   replace q3:=(hm1'.cell (lt_of_cell q3)).trans q3
   replace q4:=(hm1'.cell (lt_of_cell q4)).trans q4
   replace q5:=(hm1'.cell (lt_of_cell q5)).trans q5
   have Hd1:=hideM (Hd.out.below hm1')
   clear hm1 hm1' z1 hse1
   go_wp2_with fail
   refine(heldPtrS_any _ (f k).dn lo hi _ _ _ _ Hd1.out (by omega) (by omega) (fun i hi=>⟨rfl,rfl⟩)).mono ?_
   rintro e wz ⟨rfl,hbz⟩
   have hB:=below_next hb1 hbz
   have hnn:¬cntSet f k0 k+1+1+1+1+1+2*((f k).dn:Int)<0:=by omega
   clear q0 q1 q2 q3 q4 q5 hbz
   go_wp2
   go_roundw
   case rel=>exact⟨k+1,by omega,by go_num,congrArg (Value.int .i64) (by show _=cntSet f k0 k+5+2*((f k).dn:Int); omega),hB⟩
   case measure=>simp [intOf]; omega
  ·obtain rfl:k=n:=by omega
   go_wp2
   go_ret
   exact⟨rfl,hb⟩
set_option maxRecDepth 20000 in
set_option maxHeartbeats 1000000 in
theorem heldSnapS_any(v:Value)(n lo hi:Nat)(f:Nat→SnapD)(k0:Int)(w:World)(h1:SnapsAt w lo hi v n (markSnapD f k0))(hk0:0≤k0)(hk1:cntSnap f k0 n≤1000000000000) :
  Calls Tryz.prog 118 #[v,.int .i64 k0] w fun e w'=>e = .returned (.int .i64 (cntSnap f k0 n))∧Below w.heap.size w w':=by
 have H1:=hideM h1
 obtain⟨m1,a,c,rfl,mc,-⟩:=id h1
 unfold maxLen at m1
 have Hk1:=hideM hk1
 clear h1 hk1
 go_enter Tryz.func118,Tryz.ntmps118
 go_wp2
 go_loopw [1,5] (fun m i wr=>∃k:Nat,k≤n∧i = .int .i64 k∧m = .int .i64 (cntSnap f k0 k)∧Below w.heap.size w wr) (fun _ i _=>n - (intOf i).toNat)
 case atStart=>exact⟨0,Nat.zero_le _,rfl,rfl,Below.refl _ _⟩
 case round=>
  obtain⟨k,hk,rfl,rfl,hb⟩:=hrel
  by_cases hlt:k<n
  ·have hlt':(k:Int)<(n:Int):=by omega
   have hc0:k0≤cntSnap f k0 k:=cntSnap_le f k0 (Nat.zero_le k)
   have hc1:cntSnap f k0 k+7+2*((f k).dn:Int)≤1000000000000:=Int.le_trans (cntSnap_le f k0 (show k+1≤n from hlt)) Hk1.out
   obtain⟨b,off,vd,rfl,hs2⟩:=(H1.out.below hb).cells hlt
   obtain⟨-,ad,cd,rfl,-,-⟩:=id hs2.dead
   have q0:wr.cell? ⟨b,off+k*8,none⟩=some (.int .i64 (cntSnap f k0 k)):=hs2.c0
   have q1:wr.cell? ⟨b,off+k*8+1,none⟩=some (.string (mtF (cntSnap f k0 k+1))):=hs2.c1
   have q2:wr.cell? ⟨b,off+k*8+2,none⟩=some (.string (mtF (cntSnap f k0 k+1+1))):=hs2.c2
   have q3:wr.cell? ⟨b,off+k*8+3,none⟩=some (.int .i64 (cntSnap f k0 k+1+1+1)):=hs2.c3
   have q4:wr.cell? ⟨b,off+k*8+4,none⟩=some (.int .i64 (cntSnap f k0 k+1+1+1+1)):=hs2.c4
   have q5:wr.cell? ⟨b,off+k*8+5,none⟩=some (.int .i64 (cntSnap f k0 k+1+1+1+1+1)):=hs2.c5
   have q6:wr.cell? ⟨b,off+k*8+6,none⟩=some (.int .i64 (cntSnap f k0 k+1+1+1+1+1+1)):=hs2.c6
   have q7:=hs2.c7
   have Hd:=hideM (show PtrsAt wr lo hi (.slice ad (f k).dn cd) (f k).dn (fun i=>cntSnap f k0 k+1+1+1+1+1+1+1+2*i) (fun i=>cntSnap f k0 k+1+1+1+1+1+1+1+2*i+1)from hs2.dead)
   clear hs2
   go_wp2_with fail
   have hse1:=str_eq (rfl:mtF (cntSnap f k0 k+1)=mtF (cntSnap f k0 k+1))
   go_region_held3 (fun w'=>w'.cell? ⟨b,off+k*8+1,none⟩=some (.string (mtF (cntSnap f k0 k+1)))) (go_keep)
    (first | (go_at_call 114; refine(markText_any _ _ (by omega)).mono ?_; rintro e w1 ⟨rfl,hm1⟩; have hm1':=below_undrew hm1; have z1:=(hm1'.cell (p:=⟨b,off+k*8+1,none⟩) (lt_of_cell q1)).trans q1))
   have hb1:=below_next hb hm1'
   replace q0:=(hm1'.cell (lt_of_cell q0)).trans q0
   replace q1:=(hm1'.cell (lt_of_cell q1)).trans q1
   replace q2:=(hm1'.cell (lt_of_cell q2)).trans q2
   replace q3:=(hm1'.cell (lt_of_cell q3)).trans q3
   replace q4:=(hm1'.cell (lt_of_cell q4)).trans q4
   replace q5:=(hm1'.cell (lt_of_cell q5)).trans q5
   replace q6:=(hm1'.cell (lt_of_cell q6)).trans q6
   replace q7:=(hm1'.cell (lt_of_cell q7)).trans q7
   have Hd1:=hideM (Hd.out.below hm1')
   clear hm1 hm1' z1 hse1
   go_wp2_with fail
   have hse2:=str_eq (rfl:mtF (cntSnap f k0 k+1+1)=mtF (cntSnap f k0 k+1+1))
   go_region_held3 (fun w'=>w'.cell? ⟨b,off+k*8+2,none⟩=some (.string (mtF (cntSnap f k0 k+1+1)))) (go_keep)
    (first | (go_at_call 114; refine(markText_any _ _ (by omega)).mono ?_; rintro e w2 ⟨rfl,hm2⟩; have hm2':=below_undrew hm2; have z2:=(hm2'.cell (p:=⟨b,off+k*8+2,none⟩) (lt_of_cell q2)).trans q2))
   have hb2:=below_next hb1 hm2'
   replace q0:=(hm2'.cell (lt_of_cell q0)).trans q0
   replace q1:=(hm2'.cell (lt_of_cell q1)).trans q1
   replace q2:=(hm2'.cell (lt_of_cell q2)).trans q2
   replace q3:=(hm2'.cell (lt_of_cell q3)).trans q3
   replace q4:=(hm2'.cell (lt_of_cell q4)).trans q4
   replace q5:=(hm2'.cell (lt_of_cell q5)).trans q5
   replace q6:=(hm2'.cell (lt_of_cell q6)).trans q6
   replace q7:=(hm2'.cell (lt_of_cell q7)).trans q7
   have Hd2:=hideM (Hd1.out.below hm2')
   clear hm2 hm2' z2 hse2
   go_wp2_with fail
   refine(heldPtrS_any _ (f k).dn lo hi _ _ _ _ Hd2.out (by omega) (by omega) (fun i hi=>⟨rfl,rfl⟩)).mono ?_
   rintro e wz ⟨rfl,hbz⟩
   have hB:=below_next hb2 hbz
   have hnn:¬cntSnap f k0 k+1+1+1+1+1+1+1+2*((f k).dn:Int)<0:=by omega
   clear q0 q1 q2 q3 q4 q5 q6 q7 hbz
   go_wp2
   go_roundw
   case rel=>exact⟨k+1,by omega,by go_num,congrArg (Value.int .i64) (by show _=cntSnap f k0 k+7+2*((f k).dn:Int); omega),hB⟩
   case measure=>simp [intOf]; omega
  ·obtain rfl:k=n:=by omega
   go_wp2
   go_ret
   exact⟨rfl,hb⟩
set_option maxRecDepth 20000 in
set_option maxHeartbeats 400000 in
theorem heldWorld_any(lo hi:Nat)(v0 v1 v2 v3:Value)(W:WorldD)(k0:Int)(w:World)(h:WorldAt w lo hi v0 v1 v2 v3 (markW W k0))(hk0:0≤k0)(hk1:endW W k0≤1000000000000) :
  Calls Tryz.prog 45 #[worldV v0 v1 v2 v3 W,.int .i64 k0] w fun e w'=>e = .returned (.int .i64 (endW W k0))∧Below w.heap.size w w':=by
 have H:=hideM h
 have HE:=hideM (endW_le W k0)
 have HK:=hideM hk1
 clear h hk1
 have ha:=below_alloc w (.cells #[v0,v1,.int .i64 W.time,.int .i64 W.next,v2,v3] 37)
 have HB:=hideM (Box6.new w v0 v1 (.int .i64 W.time) (.int .i64 W.next) v2 v3 37)
 obtain⟨⟨x0,-⟩,⟨x1,-⟩,⟨x2,-⟩,⟨x3,-⟩,⟨x4,-⟩,⟨x5,-⟩⟩:=HB.out
 go_enter Tryz.func45,Tryz.ntmps45
 go_wp2_with fail
 clear x0 x1 x2 x3 x4 x5
 generalize w.alloc (.cells #[v0,v1,.int .i64 W.time,.int .i64 W.next,v2,v3] 37)=W0 at ha HB ⊢
 refine(heldPool_own lo hi _ _ W.pool k0 W0 (H.out.pool.below ha) hk0 (by have:=HE.out; have:=HK.out; omega)).mono ?_
 rintro e w1 ⟨rfl,hb1⟩
 have hB1:=below_next ha hb1
 have HB1:=hideM (HB.out.below hb1)
 have n1:¬endP W.pool k0<0:=by have:=HE.out; omega
 clear hb1 ha HB
 obtain⟨⟨x0,-⟩,⟨x1,-⟩,⟨x2,-⟩,⟨x3,-⟩,⟨x4,-⟩,⟨x5,-⟩⟩:=HB1.out
 go_wp2_with fail
 clear x0 x1 x2 x3 x4 x5
 refine(heldSetS_any _ W.sn lo hi W.sets _ w1 (H.out.sets.below hB1) (by have:=HE.out; omega) (by have:=HE.out; have:=HK.out; omega)).mono ?_
 rintro e w2 ⟨rfl,hb2⟩
 have hB2:=below_next hB1 hb2
 have HB2:=hideM (HB1.out.below hb2)
 have n2:¬cntSet W.sets (endP W.pool k0) W.sn<0:=by have:=HE.out; omega
 clear hb2 hB1 HB1
 obtain⟨⟨x0,-⟩,⟨x1,-⟩,⟨x2,-⟩,⟨x3,-⟩,⟨x4,-⟩,⟨x5,-⟩⟩:=HB2.out
 go_wp2_with fail
 clear x0 x1 x2 x3 x4 x5
 refine(heldSnapS_any _ W.pn lo hi W.snaps _ w2 (H.out.snaps.below hB2) (by have:=HE.out; omega) (by have:=HE.out; have:=HK.out; unfold endW at *; omega)).mono ?_
 rintro e w3 ⟨rfl,hb3⟩
 have hB3:=below_next hB2 hb3
 have n3:¬cntSnap W.snaps (cntSet W.sets (endP W.pool k0) W.sn) W.pn<0:=by have:=HE.out; unfold endW at *; omega
 clear hb3 hB2 HB2
 go_wp2
 go_ret
 exact⟨rfl,hB3⟩
set_option maxRecDepth 20000 in
set_option maxHeartbeats 2000000 in
theorem eqWOut_same(v0 v1 v2 v3 x0 x1 x2 x3:Value)(lo hi lo' hi':Nat)(o:WOutD)(w:World)(h1:WorldAt w lo hi v0 v1 v2 v3 o.world)(h2:WorldAt w lo' hi' x0 x1 x2 x3 o.world) :
  Calls Tryz.prog 11 #[woutV v0 v1 v2 v3 o,woutV x0 x1 x2 x3 o] w fun e w'=>e = .returned (.bool true)∧Below w.heap.size w w':=by
 obtain⟨a0,ac0,a1,ac1,a2,ac2,a3,ac3,rfl,rfl,rfl,rfl⟩:=h1.form
 obtain⟨c0,cc0,c1,cc1,c2,cc2,c3,cc3,rfl,rfl,rfl,rfl⟩:=h2.form
 have H1:=hideE h1
 have H2:=hideE h2
 clear h1 h2
 have ha:=below_alloc w (.cells #[.slice a0 o.world.pool.n ac0,.slice a1 o.world.pool.hn ac1,.int .i64 o.world.time,.int .i64 o.world.next,.slice a2 o.world.sn ac2,.slice a3 o.world.pn ac3,.int .i64 o.id,.int .i64 o.many,.int .i64 o.code] 39)
 have hb2:=below_alloc (w.alloc (.cells #[.slice a0 o.world.pool.n ac0,.slice a1 o.world.pool.hn ac1,.int .i64 o.world.time,.int .i64 o.world.next,.slice a2 o.world.sn ac2,.slice a3 o.world.pn ac3,.int .i64 o.id,.int .i64 o.many,.int .i64 o.code] 39)) (.cells #[.slice c0 o.world.pool.n cc0,.slice c1 o.world.pool.hn cc1,.int .i64 o.world.time,.int .i64 o.world.next,.slice c2 o.world.sn cc2,.slice c3 o.world.pn cc3,.int .i64 o.id,.int .i64 o.many,.int .i64 o.code] 39)
 have hb:=below_next ha hb2
 have HA:=(Box9.new w (.slice a0 o.world.pool.n ac0) (.slice a1 o.world.pool.hn ac1) (.int .i64 o.world.time) (.int .i64 o.world.next) (.slice a2 o.world.sn ac2) (.slice a3 o.world.pn ac3) (.int .i64 o.id) (.int .i64 o.many) (.int .i64 o.code) 39).below hb2
 have HB:=Box9.new (w.alloc (.cells #[.slice a0 o.world.pool.n ac0,.slice a1 o.world.pool.hn ac1,.int .i64 o.world.time,.int .i64 o.world.next,.slice a2 o.world.sn ac2,.slice a3 o.world.pn ac3,.int .i64 o.id,.int .i64 o.many,.int .i64 o.code] 39)) (.slice c0 o.world.pool.n cc0) (.slice c1 o.world.pool.hn cc1) (.int .i64 o.world.time) (.int .i64 o.world.next) (.slice c2 o.world.sn cc2) (.slice c3 o.world.pn cc3) (.int .i64 o.id) (.int .i64 o.many) (.int .i64 o.code) 39
 rw [World.size_alloc] at HB
 obtain⟨⟨p0,-⟩,⟨p1,-⟩,⟨p2,-⟩,⟨p3,-⟩,⟨p4,-⟩,⟨p5,-⟩,⟨p6,-⟩,⟨p7,-⟩,⟨p8,-⟩⟩:=id HA
 obtain⟨⟨q0,-⟩,⟨q1,-⟩,⟨q2,-⟩,⟨q3,-⟩,⟨q4,-⟩,⟨q5,-⟩,⟨q6,-⟩,⟨q7,-⟩,⟨q8,-⟩⟩:=id HB
 go_enter Tryz.func11,Tryz.ntmps11
 go_wp2_with fail
 clear p0 p1 p2 p3 p4 p5 p6 p7 p8 q0 q1 q2 q3 q4 q5 q6 q7 q8
 generalize ((w.alloc (.cells #[.slice a0 o.world.pool.n ac0,.slice a1 o.world.pool.hn ac1,.int .i64 o.world.time,.int .i64 o.world.next,.slice a2 o.world.sn ac2,.slice a3 o.world.pn ac3,.int .i64 o.id,.int .i64 o.many,.int .i64 o.code] 39)).alloc (.cells #[.slice c0 o.world.pool.n cc0,.slice c1 o.world.pool.hn cc1,.int .i64 o.world.time,.int .i64 o.world.next,.slice c2 o.world.sn cc2,.slice c3 o.world.pn cc3,.int .i64 o.id,.int .i64 o.many,.int .i64 o.code] 39))=W2 at hb HA HB ⊢
 clear ha hb2
 refine(eqWorld_same _ _ _ _ _ _ _ _ _ _ _ _ o.world W2 (H1.out.below hb) (H2.out.below hb)).mono ?_
 rintro e w3 ⟨rfl,hb3⟩
 obtain⟨-,-,-,-,-,-,⟨p6,-⟩,⟨p7,-⟩,⟨p8,-⟩⟩:=HA.below hb3
 obtain⟨-,-,-,-,-,-,⟨q6,-⟩,⟨q7,-⟩,⟨q8,-⟩⟩:=HB.below hb3
 have hid:(o.id != o.id)=false:=by simp
 have hmany:(o.many != o.many)=false:=by simp
 have hcode:(o.code != o.code)=false:=by simp
 go_wp2
 go_ret
 exact⟨rfl,below_next hb hb3⟩
set_option maxRecDepth 20000 in
set_option maxHeartbeats 2000000 in
theorem markWOut_any(lo hi:Nat)(v0 v1 v2 v3:Value)(o:WOutD)(k0:Int)(w:World)(h:WorldOwn w lo hi v0 v1 v2 v3 o.world)(hh:hi≤w.heap.size)(hk0:0≤k0)(hk1:endW o.world k0≤1000000000000) :
  Calls Tryz.prog 14 #[woutV v0 v1 v2 v3 o,.int .i64 k0] w fun e w'=>e = .returned (.int .i64 (endW o.world k0))∧WorldOwn w' lo hi v0 v1 v2 v3 (markW o.world k0)∧Turned (fun k=>lo≤k∧k<hi) w w':=by
 have H:=hideE h
 obtain⟨a0,ac0,a1,ac1,a2,ac2,a3,ac3,rfl,rfl,rfl,rfl⟩:=h.form
 clear h
 have ha:=below_alloc w (.cells #[.slice a0 o.world.pool.n ac0,.slice a1 o.world.pool.hn ac1,.int .i64 o.world.time,.int .i64 o.world.next,.slice a2 o.world.sn ac2,.slice a3 o.world.pn ac3,.int .i64 o.id,.int .i64 o.many,.int .i64 o.code] 39)
 obtain⟨⟨p0,-⟩,⟨p1,-⟩,⟨p2,-⟩,⟨p3,-⟩,⟨p4,-⟩,⟨p5,-⟩,⟨p6,-⟩,⟨p7,-⟩,⟨p8,-⟩⟩:=Box9.new w (.slice a0 o.world.pool.n ac0) (.slice a1 o.world.pool.hn ac1) (.int .i64 o.world.time) (.int .i64 o.world.next) (.slice a2 o.world.sn ac2) (.slice a3 o.world.pn ac3) (.int .i64 o.id) (.int .i64 o.many) (.int .i64 o.code) 39
 have hk2:¬endW o.world k0<0:=by have h1:=endW_le o.world k0; omega
 go_enter Tryz.func14,Tryz.ntmps14
 go_wp2_with fail
 clear p0 p1 p2 p3 p4 p5 p6 p7 p8
 generalize (w.alloc (.cells #[.slice a0 o.world.pool.n ac0,.slice a1 o.world.pool.hn ac1,.int .i64 o.world.time,.int .i64 o.world.next,.slice a2 o.world.sn ac2,.slice a3 o.world.pn ac3,.int .i64 o.id,.int .i64 o.many,.int .i64 o.code] 39))=W2 at ha ⊢
 refine(markWorld_any lo hi _ _ _ _ o.world k0 W2 (H.out.below ha) hk0 hk1).mono ?_
 rintro e w3 ⟨rfl,ho,hT⟩
 have Ho:=hideE ho
 clear ho
 go_wp2
 go_ret
 exact⟨rfl,Ho.out,(Turned.of_below ha).trans hT⟩
set_option maxRecDepth 20000 in
set_option maxHeartbeats 2000000 in
theorem heldWOut_any(lo hi:Nat)(v0 v1 v2 v3:Value)(o:WOutD)(k0:Int)(w:World)(h:WorldAt w lo hi v0 v1 v2 v3 (markW o.world k0))(hk0:0≤k0)(hk1:endW o.world k0≤1000000000000) :
  Calls Tryz.prog 15 #[woutV v0 v1 v2 v3 o,.int .i64 k0] w fun e w'=>e = .returned (.int .i64 (endW o.world k0))∧Below w.heap.size w w':=by
 have H:=hideE h
 clear h
 have hk2:¬endW o.world k0<0:=by have h1:=endW_le o.world k0; omega
 have ha:=below_alloc w (.cells #[v0,v1,.int .i64 o.world.time,.int .i64 o.world.next,v2,v3,.int .i64 o.id,.int .i64 o.many,.int .i64 o.code] 39)
 obtain⟨⟨p0,-⟩,⟨p1,-⟩,⟨p2,-⟩,⟨p3,-⟩,⟨p4,-⟩,⟨p5,-⟩,⟨p6,-⟩,⟨p7,-⟩,⟨p8,-⟩⟩:=Box9.new w (v0) (v1) (.int .i64 o.world.time) (.int .i64 o.world.next) (v2) (v3) (.int .i64 o.id) (.int .i64 o.many) (.int .i64 o.code) 39
 go_enter Tryz.func15,Tryz.ntmps15
 go_wp2_with fail
 clear p0 p1 p2 p3 p4 p5 p6 p7 p8
 generalize (w.alloc (.cells #[v0,v1,.int .i64 o.world.time,.int .i64 o.world.next,v2,v3,.int .i64 o.id,.int .i64 o.many,.int .i64 o.code] 39))=W2 at ha ⊢
 refine(heldWorld_any lo hi _ _ _ _ o.world k0 W2 (H.out.below ha) hk0 hk1).mono ?_
 rintro e w3 ⟨rfl,hb3⟩
 go_wp2
 go_ret
 exact⟨rfl,below_next ha hb3⟩
end Go.Proofs.YtmgeglgboadfiaaGreatDoor
