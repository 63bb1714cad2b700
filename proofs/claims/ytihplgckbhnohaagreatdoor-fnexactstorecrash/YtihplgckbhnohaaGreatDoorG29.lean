/- What the laws' comparing of sets, snapshots and worlds answers where both hold the same: true (no law is proved here). -/
import Derived.Test.YtihplgckbhnohaaGreatDoorG19
import Derived.Test.YtihplgckbhnohaaGreatDoorG17
import Derived.Test.YtihplgckbhnohaaGreatDoorG27
import Derived.Test.YtihplgckbhnohaaGreatDoorG3
import Derived.Test.YtihplgckbhnohaaGreatDoorProg
import GoSem.ClaimJoined
import GoSem.ClaimMapViews
import Derived.JoinedTies
import Derived.KernelRfl
import Derived.RowKit
import Derived.Test.YtihplgckbhnohaaGreatDoorG1
import Derived.ProofKit
import Derived.Deep.Slices
import Derived.Deep.SlicePairs
import Derived.Deep.Strs
import Derived.Deep.MidRow
import Derived.Lib.SmallJoins
import Derived.Test.YtihplgckbhnohaaGreatDoorG21
namespace Go.Proofs.YtihplgckbhnohaaGreatDoor
open Go.RowKit Go.Maps
set_option linter.unusedVariables false
set_option maxRecDepth 20000 in
set_option maxHeartbeats 400000 in
theorem eqSet_same(v u:Value)(lo hi lo' hi':Nat)(s:SetD)(w:World)(h1:PtrsAt w lo hi v s.dn s.ds s.db)(h2:PtrsAt w lo' hi' u s.dn s.ds s.db) :
  Calls Tryz.prog 61 #[setV v s,setV u s] w fun e w'=>e = .returned (.bool true)∧Below w.heap.size w w':=by
 unfold setV
 have H1:=hideW h1
 have H2:=hideW h2
 obtain⟨-,a1,c1,rfl,-⟩:=id h1
 obtain⟨-,a2,c2,rfl,-⟩:=id h2
 clear h1 h2
 have ha:=below_alloc w (.cells #[.string s.name,.int .i64 s.origin,.int .i64 s.prev,.int .i64 s.rs,.int .i64 s.rb,.slice a1 s.dn c1] 90)
 have ha2:=below_alloc (w.alloc (.cells #[.string s.name,.int .i64 s.origin,.int .i64 s.prev,.int .i64 s.rs,.int .i64 s.rb,.slice a1 s.dn c1] 90)) (.cells #[.string s.name,.int .i64 s.origin,.int .i64 s.prev,.int .i64 s.rs,.int .i64 s.rb,.slice a2 s.dn c2] 90)
 have hA:=below_next ha ha2
 have HX:=hideW ((Box6.new w (.string s.name) (.int .i64 s.origin) (.int .i64 s.prev) (.int .i64 s.rs) (.int .i64 s.rb) (.slice a1 s.dn c1) 90).below ha2)
 have hy:=Box6.new (w.alloc (.cells #[.string s.name,.int .i64 s.origin,.int .i64 s.prev,.int .i64 s.rs,.int .i64 s.rb,.slice a1 s.dn c1] 90)) (.string s.name) (.int .i64 s.origin) (.int .i64 s.prev) (.int .i64 s.rs) (.int .i64 s.rb) (.slice a2 s.dn c2) 90
 rw [World.size_alloc] at hy
 have HY:=hideW hy
 clear ha ha2 hy
 go_enter Tryz.func61,Tryz.ntmps61
 go_wp2_with fail
 generalize (w.alloc (.cells #[.string s.name,.int .i64 s.origin,.int .i64 s.prev,.int .i64 s.rs,.int .i64 s.rb,.slice a1 s.dn c1] 90)).alloc (.cells #[.string s.name,.int .i64 s.origin,.int .i64 s.prev,.int .i64 s.rs,.int .i64 s.rb,.slice a2 s.dn c2] 90)=W at HX HY hA ⊢
 refine(eqPtr_any s.rs s.rb s.rs s.rb W).mono ?_
 rintro e w1 ⟨⟨t,rfl,ht⟩,hb1⟩
 obtain rfl:t=true:=ht.2 ⟨rfl,rfl⟩
 have HX1:=hideW (HX.out.below hb1)
 have HY1:=hideW (HY.out.below hb1)
 have hB1:=below_next hA hb1
 clear ht hb1 hA HX HY
 obtain⟨⟨x0,-⟩,⟨x1,-⟩,⟨x2,-⟩,⟨x3,-⟩,⟨x4,-⟩,⟨x5,-⟩⟩:=HX1.out
 obtain⟨⟨y0,-⟩,⟨y1,-⟩,⟨y2,-⟩,⟨y3,-⟩,⟨y4,-⟩,⟨y5,-⟩⟩:=HY1.out
 go_wp2_with fail
 refine(eqPtrS_any _ _ s.dn s.dn lo hi lo' hi' s.ds s.db s.ds s.db _ (H1.out.below hB1) (H2.out.below hB1)).mono ?_
 rintro e w2 ⟨⟨t,rfl,ht⟩,hb2⟩
 obtain rfl:t=true:=ht.2 ⟨rfl,fun _ _=>⟨rfl,rfl⟩⟩
 have hB2:=below_next hB1 hb2
 clear ht hb2
 go_wp2
 go_ret
 exact⟨rfl,hB2⟩
set_option maxRecDepth 20000 in
set_option maxHeartbeats 400000 in
theorem eqSnap_same(v u:Value)(lo hi lo' hi':Nat)(s:SnapD)(w:World)(h1:PtrsAt w lo hi v s.dn s.ds s.db)(h2:PtrsAt w lo' hi' u s.dn s.ds s.db) :
  Calls Tryz.prog 62 #[snapV v s,snapV u s] w fun e w'=>e = .returned (.bool true)∧Below w.heap.size w w':=by
 unfold snapV
 have H1:=hideW h1
 have H2:=hideW h2
 obtain⟨-,a1,c1,rfl,-⟩:=id h1
 obtain⟨-,a2,c2,rfl,-⟩:=id h2
 clear h1 h2
 have ha:=below_alloc w (.cells #[.int .i64 s.id,.string s.name,.string s.set,.int .i64 s.prev,.int .i64 s.time,.int .i64 s.rs,.int .i64 s.rb,.slice a1 s.dn c1] 92)
 have ha2:=below_alloc (w.alloc (.cells #[.int .i64 s.id,.string s.name,.string s.set,.int .i64 s.prev,.int .i64 s.time,.int .i64 s.rs,.int .i64 s.rb,.slice a1 s.dn c1] 92)) (.cells #[.int .i64 s.id,.string s.name,.string s.set,.int .i64 s.prev,.int .i64 s.time,.int .i64 s.rs,.int .i64 s.rb,.slice a2 s.dn c2] 92)
 have hA:=below_next ha ha2
 have HX:=hideW ((Box8.new w (.int .i64 s.id) (.string s.name) (.string s.set) (.int .i64 s.prev) (.int .i64 s.time) (.int .i64 s.rs) (.int .i64 s.rb) (.slice a1 s.dn c1) 92).below ha2)
 have hy:=Box8.new (w.alloc (.cells #[.int .i64 s.id,.string s.name,.string s.set,.int .i64 s.prev,.int .i64 s.time,.int .i64 s.rs,.int .i64 s.rb,.slice a1 s.dn c1] 92)) (.int .i64 s.id) (.string s.name) (.string s.set) (.int .i64 s.prev) (.int .i64 s.time) (.int .i64 s.rs) (.int .i64 s.rb) (.slice a2 s.dn c2) 92
 rw [World.size_alloc] at hy
 have HY:=hideW hy
 clear ha ha2 hy
 go_enter Tryz.func62,Tryz.ntmps62
 go_wp2_with fail
 generalize (w.alloc (.cells #[.int .i64 s.id,.string s.name,.string s.set,.int .i64 s.prev,.int .i64 s.time,.int .i64 s.rs,.int .i64 s.rb,.slice a1 s.dn c1] 92)).alloc (.cells #[.int .i64 s.id,.string s.name,.string s.set,.int .i64 s.prev,.int .i64 s.time,.int .i64 s.rs,.int .i64 s.rb,.slice a2 s.dn c2] 92)=W at HX HY hA ⊢
 refine(eqPtr_any s.rs s.rb s.rs s.rb W).mono ?_
 rintro e w1 ⟨⟨t,rfl,ht⟩,hb1⟩
 obtain rfl:t=true:=ht.2 ⟨rfl,rfl⟩
 have HX1:=hideW (HX.out.below hb1)
 have HY1:=hideW (HY.out.below hb1)
 have hB1:=below_next hA hb1
 clear ht hb1 hA HX HY
 obtain⟨⟨⟨x0,-⟩,⟨x1,-⟩,⟨x2,-⟩,⟨x3,-⟩⟩,⟨x4,-⟩,⟨x5,-⟩,⟨x6,-⟩,⟨x7,-⟩⟩:=HX1.out
 obtain⟨⟨⟨y0,-⟩,⟨y1,-⟩,⟨y2,-⟩,⟨y3,-⟩⟩,⟨y4,-⟩,⟨y5,-⟩,⟨y6,-⟩,⟨y7,-⟩⟩:=HY1.out
 go_wp2_with fail
 refine(eqPtrS_any _ _ s.dn s.dn lo hi lo' hi' s.ds s.db s.ds s.db _ (H1.out.below hB1) (H2.out.below hB1)).mono ?_
 rintro e w2 ⟨⟨t,rfl,ht⟩,hb2⟩
 obtain rfl:t=true:=ht.2 ⟨rfl,fun _ _=>⟨rfl,rfl⟩⟩
 have hB2:=below_next hB1 hb2
 clear ht hb2
 go_wp2
 go_ret
 exact⟨rfl,hB2⟩
set_option maxRecDepth 20000 in
set_option maxHeartbeats 1000000 in
theorem eqSetS_same(v u:Value)(n lo hi lo' hi':Nat)(f:Nat→SetD)(w:World)(h1:SetsAt w lo hi v n f)(h2:SetsAt w lo' hi' u n f) :
  Calls Tryz.prog 37 #[v,u] w fun e w'=>e = .returned (.bool true)∧Below w.heap.size w w':=by
 have H1:=hideW h1
 have H2:=hideW h2
 obtain⟨m1,a,c,rfl,mc,-⟩:=id h1
 obtain⟨-,a',c',rfl,mc',-⟩:=id h2
 unfold maxLen at m1
 clear h1 h2
 have hne:((n:Int) != (n:Int))=false:=by simp
 go_enter Tryz.func37,Tryz.ntmps37
 go_wp2
 go_loopw [5] (fun i wr=>∃k:Nat,k≤n∧i = .int .i64 k∧Below w.heap.size w wr) (fun i _=>n - (intOf i).toNat)
 case atStart=>exact⟨0,Nat.zero_le _,rfl,Below.refl _ _⟩
 case round=>
  obtain⟨k,hk,rfl,hb⟩:=hrel
  by_cases hlt:k<n
  ·have hlt':(k:Int)<(n:Int):=by omega
   obtain⟨b,off,vd,rfl,hs'⟩:=(H1.out.below hb).cells hlt
   obtain⟨b',off',ve,rfl,ht'⟩:=(H2.out.below hb).cells hlt
   obtain⟨-,da,dc,rfl,-,-⟩:=id hs'.dead
   obtain⟨-,ea,ec,rfl,-,-⟩:=id ht'.dead
   have q0:=hs'.c0
   have r0:=ht'.c0
   have q1:=hs'.c1
   have r1:=ht'.c1
   have q2:=hs'.c2
   have r2:=ht'.c2
   have q3:=hs'.c3
   have r3:=ht'.c3
   have q4:=hs'.c4
   have r4:=ht'.c4
   have q5:=hs'.c5
   have r5:=ht'.c5
   have Hs:=hideW hs'
   have Ht:=hideW ht'
   clear hs' ht'
   go_wp2_with fail
   go_region_held3 (fun w'=>w'.cell? ⟨b,off+k*6,none⟩=some (.string (f k).name)∧w'.cell? ⟨b,off+k*6+1,none⟩=some (.int .i64 (f k).origin)∧w'.cell? ⟨b,off+k*6+2,none⟩=some (.int .i64 (f k).prev)∧w'.cell? ⟨b,off+k*6+3,none⟩=some (.int .i64 (f k).rs)∧w'.cell? ⟨b,off+k*6+4,none⟩=some (.int .i64 (f k).rb)∧w'.cell? ⟨b,off+k*6+5,none⟩=some (.slice da (f k).dn dc)∧w'.cell? ⟨b',off'+k*6,none⟩=some (.string (f k).name)∧w'.cell? ⟨b',off'+k*6+1,none⟩=some (.int .i64 (f k).origin)∧w'.cell? ⟨b',off'+k*6+2,none⟩=some (.int .i64 (f k).prev)∧w'.cell? ⟨b',off'+k*6+3,none⟩=some (.int .i64 (f k).rs)∧w'.cell? ⟨b',off'+k*6+4,none⟩=some (.int .i64 (f k).rb)∧w'.cell? ⟨b',off'+k*6+5,none⟩=some (.slice ea (f k).dn ec)) (go_keep)
    (first
     | (go_at_call 61; refine(eqSet_same _ _ lo hi lo' hi' (f k) _ (Hs.out.dead.below (Below.refl _ _).drew) (Ht.out.dead.below (Below.refl _ _).drew)).mono ?_; rintro e w1 ⟨rfl,hb1⟩; have hb1':=below_undrew hb1; have hs':=Hs.out; have ht':=Ht.out; have z0:=(hs'.below hb1').c0; have zz0:=(ht'.below hb1').c0; have z1:=(hs'.below hb1').c1; have zz1:=(ht'.below hb1').c1; have z2:=(hs'.below hb1').c2; have zz2:=(ht'.below hb1').c2; have z3:=(hs'.below hb1').c3; have zz3:=(ht'.below hb1').c3; have z4:=(hs'.below hb1').c4; have zz4:=(ht'.below hb1').c4; have z5:=(hs'.below hb1').c5; have zz5:=(ht'.below hb1').c5))
   have hb2:=below_next hb hb1'
   clear z0 zz0 q0 r0 z1 zz1 q1 r1 z2 zz2 q2 r2 z3 zz3 q3 r3 z4 zz4 q4 r4 z5 zz5 q5 r5 hs' ht' hb1 hb1'
   go_wp2
   go_roundw
   case rel=>exact⟨k+1,by omega,by go_num,hb2⟩
   case measure=>simp [intOf]; omega
  ·go_wp2
   go_ret
   exact⟨rfl,hb⟩
set_option maxRecDepth 20000 in
set_option maxHeartbeats 1000000 in
theorem eqSnapS_same(v u:Value)(n lo hi lo' hi':Nat)(f:Nat→SnapD)(w:World)(h1:SnapsAt w lo hi v n f)(h2:SnapsAt w lo' hi' u n f) :
  Calls Tryz.prog 38 #[v,u] w fun e w'=>e = .returned (.bool true)∧Below w.heap.size w w':=by
 have H1:=hideW h1
 have H2:=hideW h2
 obtain⟨m1,a,c,rfl,mc,-⟩:=id h1
 obtain⟨-,a',c',rfl,mc',-⟩:=id h2
 unfold maxLen at m1
 clear h1 h2
 have hne:((n:Int) != (n:Int))=false:=by simp
 go_enter Tryz.func38,Tryz.ntmps38
 go_wp2
 go_loopw [5] (fun i wr=>∃k:Nat,k≤n∧i = .int .i64 k∧Below w.heap.size w wr) (fun i _=>n - (intOf i).toNat)
 case atStart=>exact⟨0,Nat.zero_le _,rfl,Below.refl _ _⟩
 case round=>
  obtain⟨k,hk,rfl,hb⟩:=hrel
  by_cases hlt:k<n
  ·have hlt':(k:Int)<(n:Int):=by omega
   obtain⟨b,off,vd,rfl,hs'⟩:=(H1.out.below hb).cells hlt
   obtain⟨b',off',ve,rfl,ht'⟩:=(H2.out.below hb).cells hlt
   obtain⟨-,da,dc,rfl,-,-⟩:=id hs'.dead
   obtain⟨-,ea,ec,rfl,-,-⟩:=id ht'.dead
   have q0:=hs'.c0
   have r0:=ht'.c0
   have q1:=hs'.c1
   have r1:=ht'.c1
   have q2:=hs'.c2
   have r2:=ht'.c2
   have q3:=hs'.c3
   have r3:=ht'.c3
   have q4:=hs'.c4
   have r4:=ht'.c4
   have q5:=hs'.c5
   have r5:=ht'.c5
   have q6:=hs'.c6
   have r6:=ht'.c6
   have q7:=hs'.c7
   have r7:=ht'.c7
   have Hs:=hideW hs'
   have Ht:=hideW ht'
   clear hs' ht'
   go_wp2_with fail
   go_region_held3 (fun w'=>w'.cell? ⟨b,off+k*8,none⟩=some (.int .i64 (f k).id)∧w'.cell? ⟨b,off+k*8+1,none⟩=some (.string (f k).name)∧w'.cell? ⟨b,off+k*8+2,none⟩=some (.string (f k).set)∧w'.cell? ⟨b,off+k*8+3,none⟩=some (.int .i64 (f k).prev)∧w'.cell? ⟨b,off+k*8+4,none⟩=some (.int .i64 (f k).time)∧w'.cell? ⟨b,off+k*8+5,none⟩=some (.int .i64 (f k).rs)∧w'.cell? ⟨b,off+k*8+6,none⟩=some (.int .i64 (f k).rb)∧w'.cell? ⟨b,off+k*8+7,none⟩=some (.slice da (f k).dn dc)∧w'.cell? ⟨b',off'+k*8,none⟩=some (.int .i64 (f k).id)∧w'.cell? ⟨b',off'+k*8+1,none⟩=some (.string (f k).name)∧w'.cell? ⟨b',off'+k*8+2,none⟩=some (.string (f k).set)∧w'.cell? ⟨b',off'+k*8+3,none⟩=some (.int .i64 (f k).prev)∧w'.cell? ⟨b',off'+k*8+4,none⟩=some (.int .i64 (f k).time)∧w'.cell? ⟨b',off'+k*8+5,none⟩=some (.int .i64 (f k).rs)∧w'.cell? ⟨b',off'+k*8+6,none⟩=some (.int .i64 (f k).rb)∧w'.cell? ⟨b',off'+k*8+7,none⟩=some (.slice ea (f k).dn ec)) (go_keep)
    (first
     | (go_at_call 62; refine(eqSnap_same _ _ lo hi lo' hi' (f k) _ (Hs.out.dead.below (Below.refl _ _).drew) (Ht.out.dead.below (Below.refl _ _).drew)).mono ?_; rintro e w1 ⟨rfl,hb1⟩; have hb1':=below_undrew hb1; have hs':=Hs.out; have ht':=Ht.out; have z0:=(hs'.below hb1').c0; have zz0:=(ht'.below hb1').c0; have z1:=(hs'.below hb1').c1; have zz1:=(ht'.below hb1').c1; have z2:=(hs'.below hb1').c2; have zz2:=(ht'.below hb1').c2; have z3:=(hs'.below hb1').c3; have zz3:=(ht'.below hb1').c3; have z4:=(hs'.below hb1').c4; have zz4:=(ht'.below hb1').c4; have z5:=(hs'.below hb1').c5; have zz5:=(ht'.below hb1').c5; have z6:=(hs'.below hb1').c6; have zz6:=(ht'.below hb1').c6; have z7:=(hs'.below hb1').c7; have zz7:=(ht'.below hb1').c7))
   have hb2:=below_next hb hb1'
   clear z0 zz0 q0 r0 z1 zz1 q1 r1 z2 zz2 q2 r2 z3 zz3 q3 r3 z4 zz4 q4 r4 z5 zz5 q5 r5 z6 zz6 q6 r6 z7 zz7 q7 r7 hs' ht' hb1 hb1'
   go_wp2
   go_roundw
   case rel=>exact⟨k+1,by omega,by go_num,hb2⟩
   case measure=>simp [intOf]; omega
  ·go_wp2
   go_ret
   exact⟨rfl,hb⟩
end Go.Proofs.YtihplgckbhnohaaGreatDoor

namespace Go.Proofs.YtihplgckbhnohaaGreatDoor
open Go.RowKit Go.Maps
set_option linter.unusedVariables false
set_option maxRecDepth 20000 in
set_option maxHeartbeats 400000 in
theorem eqWorld_same(v0 v1 v2 v3 u0 u1 u2 u3:Value)(lo hi lo' hi':Nat)(W:WorldD)(w:World)(h1:WorldAt w lo hi v0 v1 v2 v3 W)(h2:WorldAt w lo' hi' u0 u1 u2 u3 W) :
  Calls Tryz.prog 21 #[worldV v0 v1 v2 v3 W,worldV u0 u1 u2 u3 W] w fun e w'=>e = .returned (.bool true)∧Below w.heap.size w w':=by
 have H1:=hideW h1
 have H2:=hideW h2
 clear h1 h2
 have ha:=below_alloc w (.cells #[v0,v1,.int .i64 W.time,.int .i64 W.next,v2,v3] 39)
 have ha2:=below_alloc (w.alloc (.cells #[v0,v1,.int .i64 W.time,.int .i64 W.next,v2,v3] 39)) (.cells #[u0,u1,.int .i64 W.time,.int .i64 W.next,u2,u3] 39)
 have hA:=below_next ha ha2
 have HX:=hideW ((Box6.new w v0 v1 (.int .i64 W.time) (.int .i64 W.next) v2 v3 39).below ha2)
 have hy:=Box6.new (w.alloc (.cells #[v0,v1,.int .i64 W.time,.int .i64 W.next,v2,v3] 39)) u0 u1 (.int .i64 W.time) (.int .i64 W.next) u2 u3 39
 rw [World.size_alloc] at hy
 have HY:=hideW hy
 clear ha ha2 hy
 go_enter Tryz.func21,Tryz.ntmps21
 go_wp2_with fail
 generalize (w.alloc (.cells #[v0,v1,.int .i64 W.time,.int .i64 W.next,v2,v3] 39)).alloc (.cells #[u0,u1,.int .i64 W.time,.int .i64 W.next,u2,u3] 39)=W0 at HX HY hA ⊢
 refine(eqPool_any _ _ _ _ lo hi lo' hi' W.pool W.pool _ (H1.out.below hA).pool (H2.out.below hA).pool).mono ?_
 rintro e w1 ⟨⟨t,rfl,ht⟩,hb1⟩
 obtain rfl:t=true:=ht.2 (PoolEq.refl W.pool)
 have HX1:=hideW (HX.out.below hb1)
 have HY1:=hideW (HY.out.below hb1)
 have hB1:=below_next hA hb1
 clear ht hb1 hA HX HY
 obtain⟨⟨x0,-⟩,⟨x1,-⟩,⟨x2,-⟩,⟨x3,-⟩,⟨x4,-⟩,⟨x5,-⟩⟩:=HX1.out
 obtain⟨⟨y0,-⟩,⟨y1,-⟩,⟨y2,-⟩,⟨y3,-⟩,⟨y4,-⟩,⟨y5,-⟩⟩:=HY1.out
 go_wp2_with fail
 refine(eqSetS_same _ _ W.sn lo hi lo' hi' W.sets _ (H1.out.below hB1).sets (H2.out.below hB1).sets).mono ?_
 rintro e w2 ⟨rfl,hb2⟩
 have HX2:=hideW (HX1.out.below hb2)
 have HY2:=hideW (HY1.out.below hb2)
 have hB2:=below_next hB1 hb2
 clear hb2 hB1 HX1 HY1 x0 x1 x2 x3 x4 x5 y0 y1 y2 y3 y4 y5
 obtain⟨⟨x0,-⟩,⟨x1,-⟩,⟨x2,-⟩,⟨x3,-⟩,⟨x4,-⟩,⟨x5,-⟩⟩:=HX2.out
 obtain⟨⟨y0,-⟩,⟨y1,-⟩,⟨y2,-⟩,⟨y3,-⟩,⟨y4,-⟩,⟨y5,-⟩⟩:=HY2.out
 go_wp2_with fail
 refine(eqSnapS_same _ _ W.pn lo hi lo' hi' W.snaps _ (H1.out.below hB2).snaps (H2.out.below hB2).snaps).mono ?_
 rintro e w3 ⟨rfl,hb3⟩
 have hB3:=below_next hB2 hb3
 clear hb3
 go_wp2
 go_ret
 exact⟨rfl,hB3⟩
end Go.Proofs.YtihplgckbhnohaaGreatDoor

namespace Go.Proofs.YtihplgckbhnohaaGreatDoor
open Go.RowKit Go.Deep Go.Joins
open Go.ChangeShapes Go.WideShapes Go.ChangeAt
set_option linter.unusedVariables false
set_option maxRecDepth 20000
section
variable {H : Type} {enc : TypeId × Value → H} {W : World} {spare : Nat → Bool} {held : Bool}
theorem addr_of_cell{w:World}{a:Addr}{v:Value}(h:w.cell? a=some v):∃b off,a=⟨b,off,none⟩:=by
 obtain⟨b,off,spot⟩:=a
 have hs:spot=none:=by simpa using World.cell?_spot h
 subst hs
 exact⟨b,off,rfl⟩
theorem slice_val{v:Value}{a:Option Addr}{n c:Nat}(h:[v] = [Value.slice a n c]):v = .slice a n c:=by simpa using h
theorem open_ints_at{fuel:Nat}{v:Value}{x:DataW H×List MemPlace}(h:DataW.trod enc Tryz.prog W 0 spare held fuel 23 [v]=some x):∃n f,IntsAt W 0 W.heap.size v n f:=by
 rcases open_slice1 (t:=23) (e:=2) (by kernel_rfl) (by kernel_rfl) h with⟨hv,_⟩ | ⟨a,len,cap,m,n,V,D,Pl,hv,_,hl,hm,hmm,_,hx⟩
 ·exact⟨0,fun _=>0,Nat.zero_le _,none,0,slice_val hv,Nat.le_refl _,fun h=>absurd h (Nat.lt_irrefl _)⟩
 ·have hlm:len≤m:=by rw [hmm]; split <;> omega
  have hV:∀i,i<len→∃z:Int,V i = .int .i64 z:=fun i hi=>by
   obtain⟨_,ht⟩:=hx i (by omega)
   obtain⟨z,hz,_⟩:=DataW.trod_int (show Tryz.prog.underlying 2=some (.int .i64)by kernel_rfl) ht
   exact⟨z,by simpa using hz⟩
  refine⟨len,fun i=>intOf (V i),by unfold maxLen at *; omega,some a,cap,slice_val hv,hl,fun h0=>?_⟩
  have hc0:=(hx 0 (by omega)).1
  rw [show a.add 0=a by simp [Addr.add]] at hc0
  obtain⟨b,off,rfl⟩:=addr_of_cell hc0
  refine⟨b,off,rfl,Nat.zero_le _,lt_of_cell hc0,fun i hi=>?_⟩
  have hc:=(hx i (by omega)).1
  rw [Addr.add_mid] at hc
  obtain⟨z,hz⟩:=hV i hi
  show _=some (Value.int .i64 (intOf (V i)))
  rw [hc,hz]
  rfl
theorem field_of{t T o c i:Nat}{fuel:Nat}{cs:List Value}{x:DataW H×List MemPlace}(hs:Tryz.prog.underlying t=some (.struct (Tryz.prog.fieldsOf t)))(hf:((Tryz.prog.fieldsOf t)[i]?).map (fun f=>(f.type,f.offset))=some (T,o))
  (hc:Tryz.prog.cellsOf T=c) (h:DataW.trod enc Tryz.prog W 0 spare held fuel t cs=some x):∃n y,DataW.trod enc Tryz.prog W 0 spare held n T ((cs.drop o).take c)=some y:=by
 obtain⟨f,hf1,hf2⟩:=Option.map_eq_some_iff.1 hf
 simp only [Prod.mk.injEq] at hf2
 obtain⟨rfl,rfl⟩:=hf2
 obtain⟨xs,n,_,_,_,hxl,hfs⟩:=DataW.trod_struct hs h
 have hi:i<(Tryz.prog.fieldsOf t).size:=(Array.getElem?_eq_some_iff.1 hf1).1
 have:=hfs i f hf1
 rw [hc,List.getElem?_eq_getElem (by omega)] at this
 exact⟨n,_,this⟩
theorem open_ptr_cells{fuel:Nat}{c0 c1:Value}{x:DataW H×List MemPlace}(h:DataW.trod enc Tryz.prog W 0 spare held fuel 110 [c0,c1]=some x):∃y z:Int,c0 = .int .i64 y∧c1 = .int .i64 z:=by
 obtain⟨n0,y0,h0⟩:=field_of (t:=110) (T:=2) (o:=0) (c:=1) (i:=0) (by kernel_rfl) (by kernel_rfl) (by kernel_rfl) h
 obtain⟨n1,y1,h1⟩:=field_of (t:=110) (T:=2) (o:=1) (c:=1) (i:=1) (by kernel_rfl) (by kernel_rfl) (by kernel_rfl) h
 obtain⟨y,hy,_⟩:=DataW.trod_int (show Tryz.prog.underlying 2=some (.int .i64)by kernel_rfl) h0
 obtain⟨z,hz,_⟩:=DataW.trod_int (show Tryz.prog.underlying 2=some (.int .i64)by kernel_rfl) h1
 exact⟨y,z,by simpa using hy,by simpa using hz⟩
theorem open_ptrs_at{fuel:Nat}{v:Value}{x:DataW H×List MemPlace}(h:DataW.trod enc Tryz.prog W 0 spare held fuel 111 [v]=some x):∃n f g,PtrsAt W 0 W.heap.size v n f g:=by
 rcases open_slice (t:=111) (e:=110) (by kernel_rfl) h with⟨hv,_⟩ | ⟨a,len,cap,m,n,D,Pl,hv,_,hl,hm,hmm,_,hx⟩
 ·exact⟨0,fun _=>0,fun _=>0,Nat.zero_le _,none,0,slice_val hv,Nat.le_refl _,fun h=>absurd h (Nat.lt_irrefl _)⟩
 ·have hlm:len≤m:=by rw [hmm]; split <;> omega
  have hc2:Tryz.prog.cellsOf 110=2:=by kernel_rfl
  rw [hc2] at hx
  have hV:∀i,i<len→∃y z:Int,W.cell? (a.add (i*2))=some (.int .i64 y)∧W.cell? ((a.add (i*2)).add 1)=some (.int .i64 z):=fun i hi=>by
   obtain⟨cs,hcs,ht⟩:=hx i (by omega)
   obtain⟨_,hlen,hcell⟩:=World.cells?_some hcs
   match cs,hlen with
   | [c0,c1],_=>
    obtain⟨y,z,rfl,rfl⟩:=open_ptr_cells ht
    have q0:=hcell 0 (by omega)
    have q1:=hcell 1 (by omega)
    rw [show(a.add (i*2)).add 0=a.add (i*2)by simp [Addr.add]] at q0
    exact⟨y,z,by simpa using q0,by simpa using q1⟩
  refine⟨len,fun i=>intOf ((W.cell? (a.add (i*2))).getD undef),fun i=>intOf ((W.cell? ((a.add (i*2)).add 1)).getD undef),by unfold maxLen at *; omega,some a,cap,slice_val hv,hl,fun h0=>?_⟩
  obtain⟨y,z,hc0,_⟩:=hV 0 h0
  rw [show a.add (0*2)=a by simp [Addr.add]] at hc0
  obtain⟨b,off,rfl⟩:=addr_of_cell hc0
  refine⟨b,off,rfl,Nat.zero_le _,lt_of_cell hc0,fun i hi=>?_⟩
  obtain⟨y,z,q0,q1⟩:=hV i hi
  show _=some (Value.int .i64 (intOf ((W.cell? _).getD undef)))∧_=some (Value.int .i64 (intOf ((W.cell? _).getD undef)))
  rw [q0,q1]
  rw [Addr.add_mid,Addr.add_mid] at q1
  rw [Addr.add_mid] at q0
  exact⟨q0,q1⟩
theorem open_slot_cells{fuel:Nat}{c0 c1 c2:Value}{x:DataW H×List MemPlace}(h:DataW.trod enc Tryz.prog W 0 spare held fuel 143 [c0,c1,c2]=some x):∃s,SlotAt W 0 W.heap.size c0 c1 c2 s:=by
 obtain⟨n0,y0,h0⟩:=field_of (t:=143) (T:=2) (o:=0) (c:=1) (i:=0) (by kernel_rfl) (by kernel_rfl) (by kernel_rfl) h
 obtain⟨n1,y1,h1⟩:=field_of (t:=143) (T:=111) (o:=1) (c:=1) (i:=1) (by kernel_rfl) (by kernel_rfl) (by kernel_rfl) h
 obtain⟨n2,y2,h2⟩:=field_of (t:=143) (T:=9) (o:=2) (c:=1) (i:=2) (by kernel_rfl) (by kernel_rfl) (by kernel_rfl) h
 obtain⟨y,hy,_⟩:=DataW.trod_int (show Tryz.prog.underlying 2=some (.int .i64)by kernel_rfl) h0
 obtain⟨n,f,g,hp⟩:=open_ptrs_at (v:=c1) (by simpa using h1)
 obtain⟨d,hd,_,hsz⟩:=DataW.trod_string (show Tryz.prog.underlying 9=some .string by kernel_rfl) h2
 exact⟨⟨y,n,f,g,d⟩,by simpa using hy,hp,by simpa using hd,hsz⟩
theorem open_slots_at{fuel:Nat}{v:Value}{x:DataW H×List MemPlace}(h:DataW.trod enc Tryz.prog W 0 spare held fuel 22 [v]=some x):∃n f,SlotsAt W 0 W.heap.size v n f:=by
 rcases open_slice (t:=22) (e:=143) (by kernel_rfl) h with⟨hv,_⟩ | ⟨a,len,cap,m,n,D,Pl,hv,_,hl,hm,hmm,_,hx⟩
 ·exact⟨0,fun _=>⟨0,0,fun _=>0,fun _=>0,ByteArray.empty⟩,Nat.zero_le _,none,0,slice_val hv,Nat.le_refl _,fun h=>absurd h (Nat.lt_irrefl _)⟩
 ·have hlm:len≤m:=by rw [hmm]; split <;> omega
  have hc3:Tryz.prog.cellsOf 143=3:=by kernel_rfl
  rw [hc3] at hx
  have hV:∀i,i<len→∃s:SlotD,∃c0 c1 c2,W.cell? (a.add (i*3))=some c0∧W.cell? ((a.add (i*3)).add 1)=some c1∧W.cell? ((a.add (i*3)).add 2)=some c2∧SlotAt W 0 W.heap.size c0 c1 c2 s:=fun i hi=>by
   obtain⟨cs,hcs,ht⟩:=hx i (by omega)
   obtain⟨_,hlen,hcell⟩:=World.cells?_some hcs
   match cs,hlen with
   | [c0,c1,c2],_=>
    obtain⟨s,hs⟩:=open_slot_cells ht
    have q0:=hcell 0 (by omega)
    have q1:=hcell 1 (by omega)
    have q2:=hcell 2 (by omega)
    rw [show(a.add (i*3)).add 0=a.add (i*3)by simp [Addr.add]] at q0
    exact⟨s,c0,c1,c2,by simpa using q0,by simpa using q1,by simpa using q2,hs⟩
  have hinh:Inhabited SlotD:=⟨⟨0,0,fun _=>0,fun _=>0,ByteArray.empty⟩⟩
  obtain⟨f,hf⟩:=choose_lt (α:=SlotD) (p:=fun i s=>∃c0 c1 c2,W.cell? (a.add (i*3))=some c0∧W.cell? ((a.add (i*3)).add 1)=some c1∧W.cell? ((a.add (i*3)).add 2)=some c2∧SlotAt W 0 W.heap.size c0 c1 c2 s) hV
  refine⟨len,f,by unfold maxLen at *; omega,some a,cap,slice_val hv,hl,fun h0=>?_⟩
  obtain⟨c0,c1,c2,hc0,_⟩:=hf 0 h0
  rw [show a.add (0*3)=a by simp [Addr.add]] at hc0
  obtain⟨b,off,rfl⟩:=addr_of_cell hc0
  refine⟨b,off,rfl,Nat.zero_le _,lt_of_cell hc0,fun i hi=>?_⟩
  obtain⟨c0,c1,c2,q0,q1,q2,hs⟩:=hf i hi
  rw [Addr.add_mid,Addr.add_mid] at q1 q2
  rw [Addr.add_mid] at q0
  exact⟨c0,c1,c2,q0,q1,q2,hs⟩
end
end Go.Proofs.YtihplgckbhnohaaGreatDoor

namespace Go.Proofs.YtihplgckbhnohaaGreatDoor
open Go.RowKit Go.Deep Go.Joins
open Go.ChangeShapes Go.WideShapes Go.ChangeAt
set_option linter.unusedVariables false
set_option maxRecDepth 20000
section
variable {H : Type} {enc : TypeId × Value → H} {W : World} {spare : Nat → Bool} {held : Bool}
def SetWf(s:SetD):Prop:=(Lit.int .i64 s.origin).wf=true∧(Lit.int .i64 s.prev).wf=true
theorem open_set_cells{fuel:Nat}{c0 c1 c2 c3 c4 c5:Value}{x:DataW H×List MemPlace}(h:DataW.trod enc Tryz.prog W 0 spare held fuel 113 [c0,c1,c2,c3,c4,c5]=some x):∃s:SetD,c0 = .string s.name∧c1 = .int .i64 s.origin∧c2 = .int .i64 s.prev∧c3 = .int .i64 s.rs∧c4 = .int .i64 s.rb∧PtrsAt W 0 W.heap.size c5 s.dn s.ds s.db∧s.name.size≤maxLen∧SetWf s:=by
 obtain⟨n0,y0,h0⟩:=field_of (t:=113) (T:=9) (o:=0) (c:=1) (i:=0) (by kernel_rfl) (by kernel_rfl) (by kernel_rfl) h
 obtain⟨z0,e0,-,w0⟩:=DataW.trod_string (show Tryz.prog.underlying 9=some .string by kernel_rfl) h0
 obtain⟨n1,y1,h1⟩:=field_of (t:=113) (T:=2) (o:=1) (c:=1) (i:=1) (by kernel_rfl) (by kernel_rfl) (by kernel_rfl) h
 obtain⟨z1,e1,-,w1⟩:=DataW.trod_int (show Tryz.prog.underlying 2=some (.int .i64)by kernel_rfl) h1
 obtain⟨n2,y2,h2⟩:=field_of (t:=113) (T:=2) (o:=2) (c:=1) (i:=2) (by kernel_rfl) (by kernel_rfl) (by kernel_rfl) h
 obtain⟨z2,e2,-,w2⟩:=DataW.trod_int (show Tryz.prog.underlying 2=some (.int .i64)by kernel_rfl) h2
 obtain⟨n3,y3,h3⟩:=field_of (t:=113) (T:=110) (o:=3) (c:=2) (i:=3) (by kernel_rfl) (by kernel_rfl) (by kernel_rfl) h
 obtain⟨z3,z3',e3,e3'⟩:=open_ptr_cells (c0:=c3) (c1:=c4) (by simpa using h3)
 obtain⟨n4,y4,h4⟩:=field_of (t:=113) (T:=111) (o:=5) (c:=1) (i:=4) (by kernel_rfl) (by kernel_rfl) (by kernel_rfl) h
 obtain⟨dn,ds,db,hp⟩:=open_ptrs_at (v:=c5) (by simpa using h4)
 exact⟨⟨z0,z1,z2,z3,z3',dn,ds,db⟩,by simpa using e0,by simpa using e1,by simpa using e2,e3,e3',hp,w0,w1,w2⟩
theorem open_sets_at{fuel:Nat}{v:Value}{x:DataW H×List MemPlace}(h:DataW.trod enc Tryz.prog W 0 spare held fuel 26 [v]=some x):∃n f,SetsAt W 0 W.heap.size v n f∧∀i,i<n→SetWf (f i):=by
 rcases open_slice (t:=26) (e:=113) (by kernel_rfl) h with⟨hv,_⟩ | ⟨a,len,cap,m,n,D,Pl,hv,_,hl,hm,hmm,_,hx⟩
 ·exact⟨0,fun _=>⟨ByteArray.empty,0,0,0,0,0,fun _=>0,fun _=>0⟩,⟨Nat.zero_le _,none,0,slice_val hv,Nat.le_refl _,fun h=>absurd h (Nat.lt_irrefl _)⟩,fun i hi=>absurd hi (Nat.not_lt_zero _)⟩
 ·have hlm:len≤m:=by rw [hmm]; split <;> omega
  have hc3:Tryz.prog.cellsOf 113=6:=by kernel_rfl
  rw [hc3] at hx
  have hV:∀i,i<len→∃s:SetD,(∃c0 c1 c2 c3 c4 c5,W.cell? (a.add (i*6))=some c0∧W.cell? ((a.add (i*6)).add 1)=some c1∧W.cell? ((a.add (i*6)).add 2)=some c2∧W.cell? ((a.add (i*6)).add 3)=some c3∧W.cell? ((a.add (i*6)).add 4)=some c4∧W.cell? ((a.add (i*6)).add 5)=some c5∧c0 = .string s.name∧c1 = .int .i64 s.origin∧c2 = .int .i64 s.prev∧c3 = .int .i64 s.rs∧c4 = .int .i64 s.rb∧PtrsAt W 0 W.heap.size c5 s.dn s.ds s.db∧s.name.size≤maxLen∧SetWf s):=fun i hi=>by
   obtain⟨cs,hcs,ht⟩:=hx i (by omega)
   obtain⟨_,hlen,hcell⟩:=World.cells?_some hcs
   match cs,hlen with
   | [c0,c1,c2,c3,c4,c5],_=>
    obtain⟨s,hs⟩:=open_set_cells ht
    have q0:=hcell 0 (by omega)
    have q1:=hcell 1 (by omega)
    have q2:=hcell 2 (by omega)
    have q3:=hcell 3 (by omega)
    have q4:=hcell 4 (by omega)
    have q5:=hcell 5 (by omega)
    rw [show(a.add (i*6)).add 0=a.add (i*6)by simp [Addr.add]] at q0
    exact⟨s,c0,c1,c2,c3,c4,c5,by simpa using q0,by simpa using q1,by simpa using q2,by simpa using q3,by simpa using q4,by simpa using q5,hs⟩
  have hinh:Inhabited SetD:=⟨⟨ByteArray.empty,0,0,0,0,0,fun _=>0,fun _=>0⟩⟩
  obtain⟨f,hf⟩:=choose_lt (α:=SetD) (p:=fun i s=>(∃c0 c1 c2 c3 c4 c5,W.cell? (a.add (i*6))=some c0∧W.cell? ((a.add (i*6)).add 1)=some c1∧W.cell? ((a.add (i*6)).add 2)=some c2∧W.cell? ((a.add (i*6)).add 3)=some c3∧W.cell? ((a.add (i*6)).add 4)=some c4∧W.cell? ((a.add (i*6)).add 5)=some c5∧c0 = .string s.name∧c1 = .int .i64 s.origin∧c2 = .int .i64 s.prev∧c3 = .int .i64 s.rs∧c4 = .int .i64 s.rb∧PtrsAt W 0 W.heap.size c5 s.dn s.ds s.db∧s.name.size≤maxLen∧SetWf s)) hV
  refine⟨len,f,⟨by unfold maxLen at *; omega,some a,cap,slice_val hv,hl,fun h0=>?_⟩,fun i hi=>?_⟩
  ·obtain⟨c0,c1,c2,c3,c4,c5,hc0,_⟩:=hf 0 h0
   rw [show a.add (0*6)=a by simp [Addr.add]] at hc0
   obtain⟨b,off,rfl⟩:=addr_of_cell hc0
   refine⟨b,off,rfl,Nat.zero_le _,lt_of_cell hc0,fun i hi=>?_⟩
   obtain⟨c0,c1,c2,c3,c4,c5,q0,q1,q2,q3,q4,q5,rfl,rfl,rfl,rfl,rfl,hp,hsm,hwf⟩:=hf i hi
   rw [Addr.add_mid,Addr.add_mid] at q1 q2 q3 q4 q5
   rw [Addr.add_mid] at q0
   exact⟨c5,q0,q1,q2,q3,q4,q5,hp,hsm⟩
  ·obtain⟨c0,c1,c2,c3,c4,c5,-,-,-,-,-,-,-,-,-,-,-,-,-,hwf⟩:=hf i hi
   exact hwf
def SnapWf(s:SnapD):Prop:=(Lit.int .i64 s.id).wf=true∧(Lit.int .i64 s.prev).wf=true∧(Lit.int .i64 s.time).wf=true
theorem open_snap_cells{fuel:Nat}{c0 c1 c2 c3 c4 c5 c6 c7:Value}{x:DataW H×List MemPlace}(h:DataW.trod enc Tryz.prog W 0 spare held fuel 116 [c0,c1,c2,c3,c4,c5,c6,c7]=some x):∃s:SnapD,c0 = .int .i64 s.id∧c1 = .string s.name∧c2 = .string s.set∧c3 = .int .i64 s.prev∧c4 = .int .i64 s.time∧c5 = .int .i64 s.rs∧c6 = .int .i64 s.rb∧PtrsAt W 0 W.heap.size c7 s.dn s.ds s.db∧(s.name.size≤maxLen∧s.set.size≤maxLen)∧SnapWf s:=by
 obtain⟨n0,y0,h0⟩:=field_of (t:=116) (T:=2) (o:=0) (c:=1) (i:=0) (by kernel_rfl) (by kernel_rfl) (by kernel_rfl) h
 obtain⟨z0,e0,-,w0⟩:=DataW.trod_int (show Tryz.prog.underlying 2=some (.int .i64)by kernel_rfl) h0
 obtain⟨n1,y1,h1⟩:=field_of (t:=116) (T:=9) (o:=1) (c:=1) (i:=1) (by kernel_rfl) (by kernel_rfl) (by kernel_rfl) h
 obtain⟨z1,e1,-,w1⟩:=DataW.trod_string (show Tryz.prog.underlying 9=some .string by kernel_rfl) h1
 obtain⟨n2,y2,h2⟩:=field_of (t:=116) (T:=9) (o:=2) (c:=1) (i:=2) (by kernel_rfl) (by kernel_rfl) (by kernel_rfl) h
 obtain⟨z2,e2,-,w2⟩:=DataW.trod_string (show Tryz.prog.underlying 9=some .string by kernel_rfl) h2
 obtain⟨n3,y3,h3⟩:=field_of (t:=116) (T:=2) (o:=3) (c:=1) (i:=3) (by kernel_rfl) (by kernel_rfl) (by kernel_rfl) h
 obtain⟨z3,e3,-,w3⟩:=DataW.trod_int (show Tryz.prog.underlying 2=some (.int .i64)by kernel_rfl) h3
 obtain⟨n4,y4,h4⟩:=field_of (t:=116) (T:=2) (o:=4) (c:=1) (i:=4) (by kernel_rfl) (by kernel_rfl) (by kernel_rfl) h
 obtain⟨z4,e4,-,w4⟩:=DataW.trod_int (show Tryz.prog.underlying 2=some (.int .i64)by kernel_rfl) h4
 obtain⟨n5,y5,h5⟩:=field_of (t:=116) (T:=110) (o:=5) (c:=2) (i:=5) (by kernel_rfl) (by kernel_rfl) (by kernel_rfl) h
 obtain⟨z5,z5',e5,e5'⟩:=open_ptr_cells (c0:=c5) (c1:=c6) (by simpa using h5)
 obtain⟨n6,y6,h6⟩:=field_of (t:=116) (T:=111) (o:=7) (c:=1) (i:=6) (by kernel_rfl) (by kernel_rfl) (by kernel_rfl) h
 obtain⟨dn,ds,db,hp⟩:=open_ptrs_at (v:=c7) (by simpa using h6)
 exact⟨⟨z0,z1,z2,z3,z4,z5,z5',dn,ds,db⟩,by simpa using e0,by simpa using e1,by simpa using e2,by simpa using e3,by simpa using e4,e5,e5',hp,⟨w1,w2⟩,w0,w3,w4⟩
theorem open_snaps_at{fuel:Nat}{v:Value}{x:DataW H×List MemPlace}(h:DataW.trod enc Tryz.prog W 0 spare held fuel 27 [v]=some x):∃n f,SnapsAt W 0 W.heap.size v n f∧∀i,i<n→SnapWf (f i):=by
 rcases open_slice (t:=27) (e:=116) (by kernel_rfl) h with⟨hv,_⟩ | ⟨a,len,cap,m,n,D,Pl,hv,_,hl,hm,hmm,_,hx⟩
 ·exact⟨0,fun _=>⟨0,ByteArray.empty,ByteArray.empty,0,0,0,0,0,fun _=>0,fun _=>0⟩,⟨Nat.zero_le _,none,0,slice_val hv,Nat.le_refl _,fun h=>absurd h (Nat.lt_irrefl _)⟩,fun i hi=>absurd hi (Nat.not_lt_zero _)⟩
 ·have hlm:len≤m:=by rw [hmm]; split <;> omega
  have hc3:Tryz.prog.cellsOf 116=8:=by kernel_rfl
  rw [hc3] at hx
  have hV:∀i,i<len→∃s:SnapD,(∃c0 c1 c2 c3 c4 c5 c6 c7,W.cell? (a.add (i*8))=some c0∧W.cell? ((a.add (i*8)).add 1)=some c1∧W.cell? ((a.add (i*8)).add 2)=some c2∧W.cell? ((a.add (i*8)).add 3)=some c3∧W.cell? ((a.add (i*8)).add 4)=some c4∧W.cell? ((a.add (i*8)).add 5)=some c5∧W.cell? ((a.add (i*8)).add 6)=some c6∧W.cell? ((a.add (i*8)).add 7)=some c7∧c0 = .int .i64 s.id∧c1 = .string s.name∧c2 = .string s.set∧c3 = .int .i64 s.prev∧c4 = .int .i64 s.time∧c5 = .int .i64 s.rs∧c6 = .int .i64 s.rb∧PtrsAt W 0 W.heap.size c7 s.dn s.ds s.db∧(s.name.size≤maxLen∧s.set.size≤maxLen)∧SnapWf s):=fun i hi=>by
   obtain⟨cs,hcs,ht⟩:=hx i (by omega)
   obtain⟨_,hlen,hcell⟩:=World.cells?_some hcs
   match cs,hlen with
   | [c0,c1,c2,c3,c4,c5,c6,c7],_=>
    obtain⟨s,hs⟩:=open_snap_cells ht
    have q0:=hcell 0 (by omega)
    have q1:=hcell 1 (by omega)
    have q2:=hcell 2 (by omega)
    have q3:=hcell 3 (by omega)
    have q4:=hcell 4 (by omega)
    have q5:=hcell 5 (by omega)
    have q6:=hcell 6 (by omega)
    have q7:=hcell 7 (by omega)
    rw [show(a.add (i*8)).add 0=a.add (i*8)by simp [Addr.add]] at q0
    exact⟨s,c0,c1,c2,c3,c4,c5,c6,c7,by simpa using q0,by simpa using q1,by simpa using q2,by simpa using q3,by simpa using q4,by simpa using q5,by simpa using q6,by simpa using q7,hs⟩
  have hinh:Inhabited SnapD:=⟨⟨0,ByteArray.empty,ByteArray.empty,0,0,0,0,0,fun _=>0,fun _=>0⟩⟩
  obtain⟨f,hf⟩:=choose_lt (α:=SnapD) (p:=fun i s=>(∃c0 c1 c2 c3 c4 c5 c6 c7,W.cell? (a.add (i*8))=some c0∧W.cell? ((a.add (i*8)).add 1)=some c1∧W.cell? ((a.add (i*8)).add 2)=some c2∧W.cell? ((a.add (i*8)).add 3)=some c3∧W.cell? ((a.add (i*8)).add 4)=some c4∧W.cell? ((a.add (i*8)).add 5)=some c5∧W.cell? ((a.add (i*8)).add 6)=some c6∧W.cell? ((a.add (i*8)).add 7)=some c7∧c0 = .int .i64 s.id∧c1 = .string s.name∧c2 = .string s.set∧c3 = .int .i64 s.prev∧c4 = .int .i64 s.time∧c5 = .int .i64 s.rs∧c6 = .int .i64 s.rb∧PtrsAt W 0 W.heap.size c7 s.dn s.ds s.db∧(s.name.size≤maxLen∧s.set.size≤maxLen)∧SnapWf s)) hV
  refine⟨len,f,⟨by unfold maxLen at *; omega,some a,cap,slice_val hv,hl,fun h0=>?_⟩,fun i hi=>?_⟩
  ·obtain⟨c0,c1,c2,c3,c4,c5,c6,c7,hc0,_⟩:=hf 0 h0
   rw [show a.add (0*8)=a by simp [Addr.add]] at hc0
   obtain⟨b,off,rfl⟩:=addr_of_cell hc0
   refine⟨b,off,rfl,Nat.zero_le _,lt_of_cell hc0,fun i hi=>?_⟩
   obtain⟨c0,c1,c2,c3,c4,c5,c6,c7,q0,q1,q2,q3,q4,q5,q6,q7,rfl,rfl,rfl,rfl,rfl,rfl,rfl,hp,hsm,hwf⟩:=hf i hi
   rw [Addr.add_mid,Addr.add_mid] at q1 q2 q3 q4 q5 q6 q7
   rw [Addr.add_mid] at q0
   exact⟨c7,q0,q1,q2,q3,q4,q5,q6,q7,hp,hsm⟩
  ·obtain⟨c0,c1,c2,c3,c4,c5,c6,c7,-,-,-,-,-,-,-,-,-,-,-,-,-,-,-,-,-,hwf⟩:=hf i hi
   exact hwf
structure WorldWf (W:WorldD):Prop where
 time:(Lit.int .i64 W.time).wf=true
 next:(Lit.int .i64 W.next).wf=true
 sets:∀i,i<W.sn→SetWf (W.sets i)
 snaps:∀i,i<W.pn→SnapWf (W.snaps i)
theorem WorldWf.prevs{W:WorldD}(h:WorldWf W):PrevsWf W:=fun i hi=>by
 unfold memN at hi
 by_cases e:i<W.pn
 ·rw [memOf_snap e]; exact(h.snaps i e).2.1
 ·obtain⟨j,rfl⟩:∃j,i=W.pn+j:=⟨i - W.pn,by omega⟩
  rw [memOf_set]; exact(h.sets j (by omega)).2
theorem array6w{α : Type}{cs:Array α}(h:cs.size=6):∃c0 c1 c2 c3 c4 c5,cs=#[c0,c1,c2,c3,c4,c5]:=by
 obtain⟨l⟩:=cs
 match l,h with
 | [c0,c1,c2,c3,c4,c5],_=>exact⟨c0,c1,c2,c3,c4,c5,rfl⟩
theorem open_pool_cells{fuel:Nat}{c0 c1:Value}{x:DataW H×List MemPlace}(h:DataW.trod enc Tryz.prog W 0 spare held fuel 25 [c0,c1]=some x):∃p,PoolAt W 0 W.heap.size c0 c1 p:=by
 obtain⟨n0,y0,h0⟩:=field_of (t:=25) (T:=22) (o:=0) (c:=1) (i:=0) (by kernel_rfl) (by kernel_rfl) (by kernel_rfl) h
 obtain⟨n1,y1,h1⟩:=field_of (t:=25) (T:=23) (o:=1) (c:=1) (i:=1) (by kernel_rfl) (by kernel_rfl) (by kernel_rfl) h
 obtain⟨n,f,hsl⟩:=open_slots_at (v:=c0) (by simpa using h0)
 obtain⟨hn,g,hin⟩:=open_ints_at (v:=c1) (by simpa using h1)
 exact⟨⟨n,f,hn,g⟩,hsl,hin⟩
theorem open_world{r:Reach}{b0:Nat}{v:Value}{d:DataW H}{ps:List MemPlace}(hv:Value.okWide Tryz.prog W r b0 29 v)(h:DataW.Trod enc Tryz.prog W 0 spare held 29 v d ps) :
  ∃v0 v1 v2 v3 D,v=worldV v0 v1 v2 v3 D∧WorldAt W 0 W.heap.size v0 v1 v2 v3 D∧WorldWf D:=by
 have hs:Tryz.prog.underlying 29=some (.struct (Tryz.prog.fieldsOf 29)):=by kernel_rfl
 obtain⟨cs,rfl,hsz⟩:=okWide_struct hs hv
 obtain⟨c0,c1,c2,c3,c4,c5,rfl⟩:=array6w (hsz.trans (by kernel_rfl))
 obtain⟨fuel,hf⟩:=h
 have hf':DataW.trod enc Tryz.prog W 0 spare held fuel 29 [c0,c1,c2,c3,c4,c5]=some (d,ps):=by simpa [Value.cells] using hf
 obtain⟨n0,y0,h0⟩:=field_of (t:=29) (T:=25) (o:=0) (c:=2) (i:=0) (by kernel_rfl) (by kernel_rfl) (by kernel_rfl) hf'
 obtain⟨n1,y1,h1⟩:=field_of (t:=29) (T:=2) (o:=2) (c:=1) (i:=1) (by kernel_rfl) (by kernel_rfl) (by kernel_rfl) hf'
 obtain⟨n2,y2,h2⟩:=field_of (t:=29) (T:=2) (o:=3) (c:=1) (i:=2) (by kernel_rfl) (by kernel_rfl) (by kernel_rfl) hf'
 obtain⟨n3,y3,h3⟩:=field_of (t:=29) (T:=26) (o:=4) (c:=1) (i:=3) (by kernel_rfl) (by kernel_rfl) (by kernel_rfl) hf'
 obtain⟨n4,y4,h4⟩:=field_of (t:=29) (T:=27) (o:=5) (c:=1) (i:=4) (by kernel_rfl) (by kernel_rfl) (by kernel_rfl) hf'
 obtain⟨p,hp⟩:=open_pool_cells (c0:=c0) (c1:=c1) (by simpa using h0)
 obtain⟨z1,e1,-,w1⟩:=DataW.trod_int (show Tryz.prog.underlying 2=some (.int .i64)by kernel_rfl) h1
 obtain⟨z2,e2,-,w2⟩:=DataW.trod_int (show Tryz.prog.underlying 2=some (.int .i64)by kernel_rfl) h2
 obtain⟨sn,f,hS,hSw⟩:=open_sets_at (v:=c4) (by simpa using h3)
 obtain⟨pn,g,hP,hPw⟩:=open_snaps_at (v:=c5) (by simpa using h4)
 obtain rfl:c2 = .int .i64 z1:=by simpa using e1
 obtain rfl:c3 = .int .i64 z2:=by simpa using e2
 exact⟨c0,c1,c4,c5,⟨p,z1,z2,sn,f,pn,g⟩,rfl,⟨hp,hS,hP⟩,⟨w1,w2,hSw,hPw⟩⟩
end
end Go.Proofs.YtihplgckbhnohaaGreatDoor
