/- What the laws' looking for marks in sets, snapshots and worlds answers where the marks are as they were laid (no law is proved here). -/
import Derived.Test.YtihplgckbhnohaaGreatDoorG31
import Derived.Test.YtihplgckbhnohaaGreatDoorG2
import Derived.Test.YtihplgckbhnohaaGreatDoorG3
import Derived.Test.YtihplgckbhnohaaGreatDoorG26
import Derived.Test.YtihplgckbhnohaaGreatDoorG30
import Derived.Test.YtihplgckbhnohaaGreatDoorG28
import Derived.Test.YtihplgckbhnohaaGreatDoorG4
import Derived.Test.YtihplgckbhnohaaGreatDoorG23
namespace Go.Proofs.YtihplgckbhnohaaGreatDoor
open Go.RowKit
set_option linter.unusedVariables false
set_option maxRecDepth 20000 in
set_option maxHeartbeats 1000000 in
theorem heldSetS_any(v:Value)(n lo hi:Nat)(f:Nat→SetD)(k0:Int)(w:World)(h1:SetsAt w lo hi v n (markSetD f k0))(hk0:0≤k0)(hk1:cntSet f k0 n≤1000000000000) :
  Calls Tryz.prog 83 #[v,.int .i64 k0] w fun e w'=>e = .returned (.int .i64 (cntSet f k0 n))∧Below w.heap.size w w':=by
 have H1:=hideM h1
 obtain⟨m1,a,c,rfl,mc,-⟩:=id h1
 unfold maxLen at m1
 have Hk1:=hideM hk1
 clear h1 hk1
 go_enter Tryz.func83,Tryz.ntmps83
 go_wp2
 go_loopw [1,5] (fun m i wr=>∃k:Nat,k≤n∧i = .int .i64 k∧m = .int .i64 (cntSet f k0 k)∧Below w.heap.size w wr) (fun _ i _=>n - (intOf i).toNat)
 case atStart=>exact⟨0,Nat.zero_le _,rfl,rfl,Below.refl _ _⟩
 case round=>
  obtain⟨k,hk,rfl,rfl,hb⟩:=hrel
  by_cases hlt:k<n
  ·have hlt':(k:Int)<(n:Int):=by omega
   have hc0:k0≤cntSet f k0 k:=cntSet_le f k0 (Nat.zero_le k)
   have hc1:cntSet f k0 k+5+2*((f k).dn:Int)≤1000000000000:=Int.le_trans (cntSet_le f k0 (show k+1≤n from hlt)) Hk1.out
   obtain⟨b,off,vd,rfl,hs2⟩:=(H1.out.below hb).cells hlt
   obtain⟨-,ad,cd,rfl,-,-⟩:=id hs2.dead
   have q0:wr.cell? ⟨b,off+k*6,none⟩=some (.string (mtF (cntSet f k0 k))):=hs2.c0
   have q1:wr.cell? ⟨b,off+k*6+1,none⟩=some (.int .i64 (cntSet f k0 k+1)):=hs2.c1
   have q2:wr.cell? ⟨b,off+k*6+2,none⟩=some (.int .i64 (cntSet f k0 k+1+1)):=hs2.c2
   have q3:wr.cell? ⟨b,off+k*6+3,none⟩=some (.int .i64 (cntSet f k0 k+1+1+1)):=hs2.c3
   have q4:wr.cell? ⟨b,off+k*6+4,none⟩=some (.int .i64 (cntSet f k0 k+1+1+1+1)):=hs2.c4
   have q5:=hs2.c5
   have Hd:=hideM (show PtrsAt wr lo hi (.slice ad (f k).dn cd) (f k).dn (fun i=>cntSet f k0 k+1+1+1+1+1+2*i) (fun i=>cntSet f k0 k+1+1+1+1+1+2*i+1)from hs2.dead)
   clear hs2
   go_wp2_with fail
   have hse1:=str_eq (rfl:mtF (cntSet f k0 k)=mtF (cntSet f k0 k))
   go_region_held3 (fun w'=>w'.cell? ⟨b,off+k*6,none⟩=some (.string (mtF (cntSet f k0 k)))) (go_keep)
    (first | (go_at_call 65; refine(markText_any _ _ (by omega)).mono ?_; rintro e w1 ⟨rfl,hm1⟩; have hm1':=below_undrew hm1; have z1:=(hm1'.cell (p:=⟨b,off+k*6,none⟩) (lt_of_cell q0)).trans q0))
   have hb1:=below_next hb hm1'
   replace q0:=(hm1'.cell (lt_of_cell q0)).trans q0
   replace q1:=(hm1'.cell (lt_of_cell q1)).trans q1
   replace q2:=(hm1'.cell (lt_of_cell q2)).trans q2
   replace q3:=(hm1'.cell (lt_of_cell q3)).trans q3
   replace q4:=(hm1'.cell (lt_of_cell q4)).trans q4
   replace q5:=(hm1'.cell (lt_of_cell q5)).trans q5
   have Hd1:=hideM (Hd.out.below hm1')
   clear hm1 hm1' z1 hse1
   go_wp2_with fail
   refine(heldPtrS_any _ (f k).dn lo hi _ _ _ _ Hd1.out (by omega) (by omega) (fun i hi=>⟨rfl,rfl⟩)).mono ?_
   rintro e wz ⟨rfl,hbz⟩
   have hB:=below_next hb1 hbz
   have hnn:¬cntSet f k0 k+1+1+1+1+1+2*((f k).dn:Int)<0:=by omega
   clear q0 q1 q2 q3 q4 q5 hbz
   go_wp2
   go_roundw
   case rel=>exact⟨k+1,by omega,by go_num,congrArg (Value.int .i64) (by show _=cntSet f k0 k+5+2*((f k).dn:Int); omega),hB⟩
   case measure=>simp [intOf]; omega
  ·obtain rfl:k=n:=by omega
   go_wp2
   go_ret
   exact⟨rfl,hb⟩
set_option maxRecDepth 20000 in
set_option maxHeartbeats 1000000 in
theorem heldSnapS_any(v:Value)(n lo hi:Nat)(f:Nat→SnapD)(k0:Int)(w:World)(h1:SnapsAt w lo hi v n (markSnapD f k0))(hk0:0≤k0)(hk1:cntSnap f k0 n≤1000000000000) :
  Calls Tryz.prog 84 #[v,.int .i64 k0] w fun e w'=>e = .returned (.int .i64 (cntSnap f k0 n))∧Below w.heap.size w w':=by
 have H1:=hideM h1
 obtain⟨m1,a,c,rfl,mc,-⟩:=id h1
 unfold maxLen at m1
 have Hk1:=hideM hk1
 clear h1 hk1
 go_enter Tryz.func84,Tryz.ntmps84
 go_wp2
 go_loopw [1,5] (fun m i wr=>∃k:Nat,k≤n∧i = .int .i64 k∧m = .int .i64 (cntSnap f k0 k)∧Below w.heap.size w wr) (fun _ i _=>n - (intOf i).toNat)
 case atStart=>exact⟨0,Nat.zero_le _,rfl,rfl,Below.refl _ _⟩
 case round=>
  obtain⟨k,hk,rfl,rfl,hb⟩:=hrel
  by_cases hlt:k<n
  ·have hlt':(k:Int)<(n:Int):=by omega
   have hc0:k0≤cntSnap f k0 k:=cntSnap_le f k0 (Nat.zero_le k)
   have hc1:cntSnap f k0 k+7+2*((f k).dn:Int)≤1000000000000:=Int.le_trans (cntSnap_le f k0 (show k+1≤n from hlt)) Hk1.out
   obtain⟨b,off,vd,rfl,hs2⟩:=(H1.out.below hb).cells hlt
   obtain⟨-,ad,cd,rfl,-,-⟩:=id hs2.dead
   have q0:wr.cell? ⟨b,off+k*8,none⟩=some (.int .i64 (cntSnap f k0 k)):=hs2.c0
   have q1:wr.cell? ⟨b,off+k*8+1,none⟩=some (.string (mtF (cntSnap f k0 k+1))):=hs2.c1
   have q2:wr.cell? ⟨b,off+k*8+2,none⟩=some (.string (mtF (cntSnap f k0 k+1+1))):=hs2.c2
   have q3:wr.cell? ⟨b,off+k*8+3,none⟩=some (.int .i64 (cntSnap f k0 k+1+1+1)):=hs2.c3
   have q4:wr.cell? ⟨b,off+k*8+4,none⟩=some (.int .i64 (cntSnap f k0 k+1+1+1+1)):=hs2.c4
   have q5:wr.cell? ⟨b,off+k*8+5,none⟩=some (.int .i64 (cntSnap f k0 k+1+1+1+1+1)):=hs2.c5
   have q6:wr.cell? ⟨b,off+k*8+6,none⟩=some (.int .i64 (cntSnap f k0 k+1+1+1+1+1+1)):=hs2.c6
   have q7:=hs2.c7
   have Hd:=hideM (show PtrsAt wr lo hi (.slice ad (f k).dn cd) (f k).dn (fun i=>cntSnap f k0 k+1+1+1+1+1+1+1+2*i) (fun i=>cntSnap f k0 k+1+1+1+1+1+1+1+2*i+1)from hs2.dead)
   clear hs2
   go_wp2_with fail
   have hse1:=str_eq (rfl:mtF (cntSnap f k0 k+1)=mtF (cntSnap f k0 k+1))
   go_region_held3 (fun w'=>w'.cell? ⟨b,off+k*8+1,none⟩=some (.string (mtF (cntSnap f k0 k+1)))) (go_keep)
    (first | (go_at_call 65; refine(markText_any _ _ (by omega)).mono ?_; rintro e w1 ⟨rfl,hm1⟩; have hm1':=below_undrew hm1; have z1:=(hm1'.cell (p:=⟨b,off+k*8+1,none⟩) (lt_of_cell q1)).trans q1))
   have hb1:=below_next hb hm1'
   replace q0:=(hm1'.cell (lt_of_cell q0)).trans q0
   replace q1:=(hm1'.cell (lt_of_cell q1)).trans q1
   replace q2:=(hm1'.cell (lt_of_cell q2)).trans q2
   replace q3:=(hm1'.cell (lt_of_cell q3)).trans q3
   replace q4:=(hm1'.cell (lt_of_cell q4)).trans q4
   replace q5:=(hm1'.cell (lt_of_cell q5)).trans q5
   replace q6:=(hm1'.cell (lt_of_cell q6)).trans q6
   replace q7:=(hm1'.cell (lt_of_cell q7)).trans q7
   have Hd1:=hideM (Hd.out.below hm1')
   clear hm1 hm1' z1 hse1
   go_wp2_with fail
   have hse2:=str_eq (rfl:mtF (cntSnap f k0 k+1+1)=mtF (cntSnap f k0 k+1+1))
   go_region_held3 (fun w'=>w'.cell? ⟨b,off+k*8+2,none⟩=some (.string (mtF (cntSnap f k0 k+1+1)))) (go_keep)
    (first | (go_at_call 65; refine(markText_any _ _ (by omega)).mono ?_; rintro e w2 ⟨rfl,hm2⟩; have hm2':=below_undrew hm2; have z2:=(hm2'.cell (p:=⟨b,off+k*8+2,none⟩) (lt_of_cell q2)).trans q2))
   have hb2:=below_next hb1 hm2'
   replace q0:=(hm2'.cell (lt_of_cell q0)).trans q0
   replace q1:=(hm2'.cell (lt_of_cell q1)).trans q1
   replace q2:=(hm2'.cell (lt_of_cell q2)).trans q2
   replace q3:=(hm2'.cell (lt_of_cell q3)).trans q3
   replace q4:=(hm2'.cell (lt_of_cell q4)).trans q4
   replace q5:=(hm2'.cell (lt_of_cell q5)).trans q5
   replace q6:=(hm2'.cell (lt_of_cell q6)).trans q6
   replace q7:=(hm2'.cell (lt_of_cell q7)).trans q7
   have Hd2:=hideM (Hd1.out.below hm2')
   clear hm2 hm2' z2 hse2
   go_wp2_with fail
   refine(heldPtrS_any _ (f k).dn lo hi _ _ _ _ Hd2.out (by omega) (by omega) (fun i hi=>⟨rfl,rfl⟩)).mono ?_
   rintro e wz ⟨rfl,hbz⟩
   have hB:=below_next hb2 hbz
   have hnn:¬cntSnap f k0 k+1+1+1+1+1+1+1+2*((f k).dn:Int)<0:=by omega
   clear q0 q1 q2 q3 q4 q5 q6 q7 hbz
   go_wp2
   go_roundw
   case rel=>exact⟨k+1,by omega,by go_num,congrArg (Value.int .i64) (by show _=cntSnap f k0 k+7+2*((f k).dn:Int); omega),hB⟩
   case measure=>simp [intOf]; omega
  ·obtain rfl:k=n:=by omega
   go_wp2
   go_ret
   exact⟨rfl,hb⟩
set_option maxRecDepth 20000 in
set_option maxHeartbeats 400000 in
theorem heldWorld_any(lo hi:Nat)(v0 v1 v2 v3:Value)(W:WorldD)(k0:Int)(w:World)(h:WorldAt w lo hi v0 v1 v2 v3 (markW W k0))(hk0:0≤k0)(hk1:endW W k0≤1000000000000) :
  Calls Tryz.prog 50 #[worldV v0 v1 v2 v3 W,.int .i64 k0] w fun e w'=>e = .returned (.int .i64 (endW W k0))∧Below w.heap.size w w':=by
 have H:=hideM h
 have HE:=hideM (endW_le W k0)
 have HK:=hideM hk1
 clear h hk1
 have ha:=below_alloc w (.cells #[v0,v1,.int .i64 W.time,.int .i64 W.next,v2,v3] 39)
 have HB:=hideM (Box6.new w v0 v1 (.int .i64 W.time) (.int .i64 W.next) v2 v3 39)
 obtain⟨⟨x0,-⟩,⟨x1,-⟩,⟨x2,-⟩,⟨x3,-⟩,⟨x4,-⟩,⟨x5,-⟩⟩:=HB.out
 go_enter Tryz.func50,Tryz.ntmps50
 go_wp2_with fail
 clear x0 x1 x2 x3 x4 x5
 generalize w.alloc (.cells #[v0,v1,.int .i64 W.time,.int .i64 W.next,v2,v3] 39)=W0 at ha HB ⊢
 refine(heldPool_own lo hi _ _ W.pool k0 W0 (H.out.pool.below ha) hk0 (by have:=HE.out; have:=HK.out; omega)).mono ?_
 rintro e w1 ⟨rfl,hb1⟩
 have hB1:=below_next ha hb1
 have HB1:=hideM (HB.out.below hb1)
 have n1:¬endP W.pool k0<0:=by have:=HE.out; omega
 clear hb1 ha HB
 obtain⟨⟨x0,-⟩,⟨x1,-⟩,⟨x2,-⟩,⟨x3,-⟩,⟨x4,-⟩,⟨x5,-⟩⟩:=HB1.out
 go_wp2_with fail
 clear x0 x1 x2 x3 x4 x5
 refine(heldSetS_any _ W.sn lo hi W.sets _ w1 (H.out.sets.below hB1) (by have:=HE.out; omega) (by have:=HE.out; have:=HK.out; omega)).mono ?_
 rintro e w2 ⟨rfl,hb2⟩
 have hB2:=below_next hB1 hb2
 have HB2:=hideM (HB1.out.below hb2)
 have n2:¬cntSet W.sets (endP W.pool k0) W.sn<0:=by have:=HE.out; omega
 clear hb2 hB1 HB1
 obtain⟨⟨x0,-⟩,⟨x1,-⟩,⟨x2,-⟩,⟨x3,-⟩,⟨x4,-⟩,⟨x5,-⟩⟩:=HB2.out
 go_wp2_with fail
 clear x0 x1 x2 x3 x4 x5
 refine(heldSnapS_any _ W.pn lo hi W.snaps _ w2 (H.out.snaps.below hB2) (by have:=HE.out; omega) (by have:=HE.out; have:=HK.out; unfold endW at *; omega)).mono ?_
 rintro e w3 ⟨rfl,hb3⟩
 have hB3:=below_next hB2 hb3
 have n3:¬cntSnap W.snaps (cntSet W.sets (endP W.pool k0) W.sn) W.pn<0:=by have:=HE.out; unfold endW at *; omega
 clear hb3 hB2 HB2
 go_wp2
 go_ret
 exact⟨rfl,hB3⟩
end Go.Proofs.YtihplgckbhnohaaGreatDoor

namespace Go.Proofs.YtihplgckbhnohaaGreatDoor
open Go.RowKit
set_option linter.unusedVariables false
def markSt(S:StoreD)(k0:Int):StoreD:=⟨markW S.live k0,markW S.safe (endW S.live k0)⟩
def endSt(S:StoreD)(k0:Int):Int:=endW S.safe (endW S.live k0)
theorem endW_mono(W:WorldD)(k0:Int):k0≤endW W k0:=by have:=endW_le W k0; omega
set_option maxRecDepth 20000 in
set_option maxHeartbeats 400000 in
theorem markStore_any(lo hi:Nat)(v0 v1 v2 v3 u0 u1 u2 u3:Value)(S:StoreD)(k0:Int)(w:World)(h:StoreOwn w lo hi v0 v1 v2 v3 u0 u1 u2 u3 S)(hh:hi≤w.heap.size)(hk0:0≤k0)(hk1:endSt S k0≤1000000000000) :
  Calls Tryz.prog 12 #[storeV v0 v1 v2 v3 u0 u1 u2 u3 S,.int .i64 k0] w fun e w'=>e = .returned (.int .i64 (endSt S k0))∧StoreOwn w' lo hi v0 v1 v2 v3 u0 u1 u2 u3 (markSt S k0)∧Turned (fun k=>lo≤k∧k<hi) w w':=by
 obtain⟨l1,h1,l2,h2,hL,hF,c1,c2,c3,c4,c5⟩:=h
 have HL:=hideM hL
 have HF:=hideM hF
 have HC:=hideM (And.intro c1 (And.intro c2 (And.intro c3 (And.intro c4 (And.intro c5 hh)))))
 have HE:=hideM (And.intro (endW_mono S.live k0) (endW_mono S.safe (endW S.live k0)))
 have HK:=hideM hk1
 clear hL hF c1 c2 c3 c4 c5 hk1
 have ha:=below_alloc w (.cells #[v0,v1,.int .i64 S.live.time,.int .i64 S.live.next,v2,v3,u0,u1,.int .i64 S.safe.time,.int .i64 S.safe.next,u2,u3] 41)
 have HB:=hideM (Box12.new w v0 v1 (.int .i64 S.live.time) (.int .i64 S.live.next) v2 v3 u0 u1 (.int .i64 S.safe.time) (.int .i64 S.safe.next) u2 u3 41)
 obtain⟨⟨x0,-⟩,⟨x1,-⟩,⟨x2,-⟩,⟨x3,-⟩,⟨x4,-⟩,⟨x5,-⟩,⟨x6,-⟩,⟨x7,-⟩,⟨x8,-⟩,⟨x9,-⟩,⟨x10,-⟩,⟨x11,-⟩⟩:=HB.out
 go_enter Tryz.func12,Tryz.ntmps12
 go_wp2_with fail
 clear x0 x1 x2 x3 x4 x5 x6 x7 x8 x9 x10 x11
 generalize w.alloc (.cells #[v0,v1,.int .i64 S.live.time,.int .i64 S.live.next,v2,v3,u0,u1,.int .i64 S.safe.time,.int .i64 S.safe.next,u2,u3] 41)=W0 at ha HB ⊢
 refine(markWorld_any l1 h1 v0 v1 v2 v3 S.live k0 W0 (HL.out.below ha) hk0 (by have h1:=HE.out; have h2:=HK.out; unfold endSt at h2; omega)).mono ?_
 rintro e w1 ⟨rfl,g1,ht1⟩
 have G1:=hideM g1
 have HT1:=hideM ht1
 have cc:=HC.out
 have HB1:=hideM (HB.out.turned ht1 (fun x=>by omega))
 have HF1:=hideM ((HF.out.below ha).turned ht1 (fun k hk=>by omega))
 clear g1 ht1 HB cc
 obtain⟨⟨x0,-⟩,⟨x1,-⟩,⟨x2,-⟩,⟨x3,-⟩,⟨x4,-⟩,⟨x5,-⟩,⟨x6,-⟩,⟨x7,-⟩,⟨x8,-⟩,⟨x9,-⟩,⟨x10,-⟩,⟨x11,-⟩⟩:=HB1.out
 go_wp2_with fail
 clear x0 x1 x2 x3 x4 x5 x6 x7 x8 x9 x10 x11
 refine(markWorld_any l2 h2 u0 u1 u2 u3 S.safe _ w1 HF1.out (by have:=HE.out; omega) HK.out).mono ?_
 rintro e w2 ⟨rfl,g2,ht2⟩
 have G2:=hideM g2
 have HT2:=hideM ht2
 clear g2 ht2
 go_wp2
 go_ret
 have cc:=HC.out
 refine⟨rfl,⟨l1,h1,l2,h2,G1.out.turned HT2.out (fun k hk=>by omega),G2.out,by omega,by omega,by omega,by omega,by omega⟩,?_⟩
 refine((Turned.of_below ha).trans (HT1.out.mono ?_)).trans (HT2.out.mono ?_)
 ·exact fun k hk=>by omega
 ·exact fun k hk=>by omega
set_option maxRecDepth 20000 in
set_option maxHeartbeats 400000 in
theorem heldStore_any(lo hi:Nat)(v0 v1 v2 v3 u0 u1 u2 u3:Value)(S:StoreD)(k0:Int)(w:World)(h:StoreAt w lo hi v0 v1 v2 v3 u0 u1 u2 u3 (markSt S k0))(hk0:0≤k0)(hk1:endSt S k0≤1000000000000) :
  Calls Tryz.prog 27 #[storeV v0 v1 v2 v3 u0 u1 u2 u3 S,.int .i64 k0] w fun e w'=>e = .returned (.int .i64 (endSt S k0))∧Below w.heap.size w w':=by
 have H:=hideM h
 have HE:=hideM (And.intro (endW_mono S.live k0) (endW_mono S.safe (endW S.live k0)))
 have HK:=hideM hk1
 clear h hk1
 have ha:=below_alloc w (.cells #[v0,v1,.int .i64 S.live.time,.int .i64 S.live.next,v2,v3,u0,u1,.int .i64 S.safe.time,.int .i64 S.safe.next,u2,u3] 41)
 have HB:=hideM (Box12.new w v0 v1 (.int .i64 S.live.time) (.int .i64 S.live.next) v2 v3 u0 u1 (.int .i64 S.safe.time) (.int .i64 S.safe.next) u2 u3 41)
 obtain⟨⟨x0,-⟩,⟨x1,-⟩,⟨x2,-⟩,⟨x3,-⟩,⟨x4,-⟩,⟨x5,-⟩,⟨x6,-⟩,⟨x7,-⟩,⟨x8,-⟩,⟨x9,-⟩,⟨x10,-⟩,⟨x11,-⟩⟩:=HB.out
 go_enter Tryz.func27,Tryz.ntmps27
 go_wp2_with fail
 clear x0 x1 x2 x3 x4 x5 x6 x7 x8 x9 x10 x11
 generalize w.alloc (.cells #[v0,v1,.int .i64 S.live.time,.int .i64 S.live.next,v2,v3,u0,u1,.int .i64 S.safe.time,.int .i64 S.safe.next,u2,u3] 41)=W0 at ha HB ⊢
 refine(heldWorld_any lo hi v0 v1 v2 v3 S.live k0 W0 (H.out.live.below ha) hk0 (by have h1:=HE.out; have h2:=HK.out; unfold endSt at h2; omega)).mono ?_
 rintro e w1 ⟨rfl,hb1⟩
 have hB1:=below_next ha hb1
 have HB1:=hideM (HB.out.below hb1)
 have n1:¬endW S.live k0<0:=by have:=HE.out; omega
 clear hb1 ha HB
 obtain⟨⟨x0,-⟩,⟨x1,-⟩,⟨x2,-⟩,⟨x3,-⟩,⟨x4,-⟩,⟨x5,-⟩,⟨x6,-⟩,⟨x7,-⟩,⟨x8,-⟩,⟨x9,-⟩,⟨x10,-⟩,⟨x11,-⟩⟩:=HB1.out
 go_wp2_with fail
 clear x0 x1 x2 x3 x4 x5 x6 x7 x8 x9 x10 x11
 refine(heldWorld_any lo hi u0 u1 u2 u3 S.safe _ w1 (H.out.safe.below hB1) (by have:=HE.out; omega) HK.out).mono ?_
 rintro e w2 ⟨rfl,hb2⟩
 have hB2:=below_next hB1 hb2
 have n2:¬endW S.safe (endW S.live k0)<0:=by have:=HE.out; omega
 clear hb2 hB1 HB1
 go_wp2
 go_ret
 exact⟨rfl,hB2⟩
end Go.Proofs.YtihplgckbhnohaaGreatDoor

namespace Go.Proofs.YtihplgckbhnohaaGreatDoor
open Go.RowKit
set_option linter.unusedVariables false
set_option maxRecDepth 20000 in
set_option maxHeartbeats 1000000 in
theorem eqSOut_same(v0 v1 v2 v3 u0 u1 u2 u3 x0 x1 x2 x3 y0 y1 y2 y3:Value)(lo hi lo' hi':Nat)(o:SOutD)(w:World)(h1:StoreAt w lo hi v0 v1 v2 v3 u0 u1 u2 u3 o.store)(h2:StoreAt w lo' hi' x0 x1 x2 x3 y0 y1 y2 y3 o.store) :
  Calls Tryz.prog 10 #[soutV v0 v1 v2 v3 u0 u1 u2 u3 o,soutV x0 x1 x2 x3 y0 y1 y2 y3 o] w fun e w'=>e = .returned (.bool true)∧Below w.heap.size w w':=by
 obtain⟨a0,ac0,a1,ac1,a2,ac2,a3,ac3,rfl,rfl,rfl,rfl⟩:=h1.live.form
 obtain⟨b0,bc0,b1,bc1,b2,bc2,b3,bc3,rfl,rfl,rfl,rfl⟩:=h1.safe.form
 obtain⟨c0,cc0,c1,cc1,c2,cc2,c3,cc3,rfl,rfl,rfl,rfl⟩:=h2.live.form
 obtain⟨d0,dc0,d1,dc1,d2,dc2,d3,dc3,rfl,rfl,rfl,rfl⟩:=h2.safe.form
 have H1:=hideW h1
 have H2:=hideW h2
 clear h1 h2
 have ha:=below_alloc w (.cells #[.slice a0 o.store.live.pool.n ac0,.slice a1 o.store.live.pool.hn ac1,.int .i64 o.store.live.time,.int .i64 o.store.live.next,.slice a2 o.store.live.sn ac2,.slice a3 o.store.live.pn ac3,.slice b0 o.store.safe.pool.n bc0,.slice b1 o.store.safe.pool.hn bc1,.int .i64 o.store.safe.time,.int .i64 o.store.safe.next,.slice b2 o.store.safe.sn bc2,.slice b3 o.store.safe.pn bc3,.int .i64 o.code] 43)
 have hb2:=below_alloc (w.alloc (.cells #[.slice a0 o.store.live.pool.n ac0,.slice a1 o.store.live.pool.hn ac1,.int .i64 o.store.live.time,.int .i64 o.store.live.next,.slice a2 o.store.live.sn ac2,.slice a3 o.store.live.pn ac3,.slice b0 o.store.safe.pool.n bc0,.slice b1 o.store.safe.pool.hn bc1,.int .i64 o.store.safe.time,.int .i64 o.store.safe.next,.slice b2 o.store.safe.sn bc2,.slice b3 o.store.safe.pn bc3,.int .i64 o.code] 43)) (.cells #[.slice c0 o.store.live.pool.n cc0,.slice c1 o.store.live.pool.hn cc1,.int .i64 o.store.live.time,.int .i64 o.store.live.next,.slice c2 o.store.live.sn cc2,.slice c3 o.store.live.pn cc3,.slice d0 o.store.safe.pool.n dc0,.slice d1 o.store.safe.pool.hn dc1,.int .i64 o.store.safe.time,.int .i64 o.store.safe.next,.slice d2 o.store.safe.sn dc2,.slice d3 o.store.safe.pn dc3,.int .i64 o.code] 43)
 have hb:=below_next ha hb2
 have HA:=(Box13.new w (.slice a0 o.store.live.pool.n ac0) (.slice a1 o.store.live.pool.hn ac1) (.int .i64 o.store.live.time) (.int .i64 o.store.live.next) (.slice a2 o.store.live.sn ac2) (.slice a3 o.store.live.pn ac3) (.slice b0 o.store.safe.pool.n bc0) (.slice b1 o.store.safe.pool.hn bc1) (.int .i64 o.store.safe.time) (.int .i64 o.store.safe.next) (.slice b2 o.store.safe.sn bc2) (.slice b3 o.store.safe.pn bc3) (.int .i64 o.code) 43).below hb2
 have HB:=Box13.new (w.alloc (.cells #[.slice a0 o.store.live.pool.n ac0,.slice a1 o.store.live.pool.hn ac1,.int .i64 o.store.live.time,.int .i64 o.store.live.next,.slice a2 o.store.live.sn ac2,.slice a3 o.store.live.pn ac3,.slice b0 o.store.safe.pool.n bc0,.slice b1 o.store.safe.pool.hn bc1,.int .i64 o.store.safe.time,.int .i64 o.store.safe.next,.slice b2 o.store.safe.sn bc2,.slice b3 o.store.safe.pn bc3,.int .i64 o.code] 43)) (.slice c0 o.store.live.pool.n cc0) (.slice c1 o.store.live.pool.hn cc1) (.int .i64 o.store.live.time) (.int .i64 o.store.live.next) (.slice c2 o.store.live.sn cc2) (.slice c3 o.store.live.pn cc3) (.slice d0 o.store.safe.pool.n dc0) (.slice d1 o.store.safe.pool.hn dc1) (.int .i64 o.store.safe.time) (.int .i64 o.store.safe.next) (.slice d2 o.store.safe.sn dc2) (.slice d3 o.store.safe.pn dc3) (.int .i64 o.code) 43
 rw [World.size_alloc] at HB
 obtain⟨⟨p0,-⟩,⟨p1,-⟩,⟨p2,-⟩,⟨p3,-⟩,⟨p4,-⟩,⟨p5,-⟩,⟨p6,-⟩,⟨p7,-⟩,⟨p8,-⟩,⟨p9,-⟩,⟨p10,-⟩,⟨p11,-⟩,⟨p12,-⟩⟩:=id HA
 obtain⟨⟨q0,-⟩,⟨q1,-⟩,⟨q2,-⟩,⟨q3,-⟩,⟨q4,-⟩,⟨q5,-⟩,⟨q6,-⟩,⟨q7,-⟩,⟨q8,-⟩,⟨q9,-⟩,⟨q10,-⟩,⟨q11,-⟩,⟨q12,-⟩⟩:=id HB
 go_enter Tryz.func10,Tryz.ntmps10
 go_wp2_with fail
 clear p0 p1 p2 p3 p4 p5 p6 p7 p8 p9 p10 p11 p12 q0 q1 q2 q3 q4 q5 q6 q7 q8 q9 q10 q11 q12
 generalize (w.alloc (.cells #[.slice a0 o.store.live.pool.n ac0,.slice a1 o.store.live.pool.hn ac1,.int .i64 o.store.live.time,.int .i64 o.store.live.next,.slice a2 o.store.live.sn ac2,.slice a3 o.store.live.pn ac3,.slice b0 o.store.safe.pool.n bc0,.slice b1 o.store.safe.pool.hn bc1,.int .i64 o.store.safe.time,.int .i64 o.store.safe.next,.slice b2 o.store.safe.sn bc2,.slice b3 o.store.safe.pn bc3,.int .i64 o.code] 43)).alloc (.cells #[.slice c0 o.store.live.pool.n cc0,.slice c1 o.store.live.pool.hn cc1,.int .i64 o.store.live.time,.int .i64 o.store.live.next,.slice c2 o.store.live.sn cc2,.slice c3 o.store.live.pn cc3,.slice d0 o.store.safe.pool.n dc0,.slice d1 o.store.safe.pool.hn dc1,.int .i64 o.store.safe.time,.int .i64 o.store.safe.next,.slice d2 o.store.safe.sn dc2,.slice d3 o.store.safe.pn dc3,.int .i64 o.code] 43)=W2 at hb HA HB ⊢
 clear ha hb2
 refine(eqStore_same _ _ _ _ _ _ _ _ _ _ _ _ _ _ _ _ _ _ _ _ o.store W2 (H1.out.below hb) (H2.out.below hb)).mono ?_
 rintro e w3 ⟨rfl,hb3⟩
 obtain⟨-,-,-,-,-,-,-,-,-,-,-,-,⟨p12,-⟩⟩:=HA.below hb3
 obtain⟨-,-,-,-,-,-,-,-,-,-,-,-,⟨q12,-⟩⟩:=HB.below hb3
 have hcc:(o.code != o.code)=false:=by simp
 go_wp2
 go_ret
 exact⟨rfl,below_next hb hb3⟩
set_option maxRecDepth 20000 in
set_option maxHeartbeats 1000000 in
theorem markSOut_any(lo hi:Nat)(v0 v1 v2 v3 u0 u1 u2 u3:Value)(o:SOutD)(k0:Int)(w:World)(h:StoreOwn w lo hi v0 v1 v2 v3 u0 u1 u2 u3 o.store)(hh:hi≤w.heap.size)(hk0:0≤k0)(hk1:endSt o.store k0≤1000000000000) :
  Calls Tryz.prog 13 #[soutV v0 v1 v2 v3 u0 u1 u2 u3 o,.int .i64 k0] w fun e w'=>e = .returned (.int .i64 (endSt o.store k0))∧StoreOwn w' lo hi v0 v1 v2 v3 u0 u1 u2 u3 (markSt o.store k0)∧Turned (fun k=>lo≤k∧k<hi) w w':=by
 have H:=hideW h
 obtain⟨a0,ac0,a1,ac1,a2,ac2,a3,ac3,rfl,rfl,rfl,rfl⟩:=h.at.live.form
 obtain⟨b0,bc0,b1,bc1,b2,bc2,b3,bc3,rfl,rfl,rfl,rfl⟩:=h.at.safe.form
 clear h
 have hk2:¬endSt o.store k0<0:=by have h1:=endW_mono o.store.live k0; have h2:=endW_mono o.store.safe (endW o.store.live k0); unfold endSt; omega
 have ha:=below_alloc w (.cells #[.slice a0 o.store.live.pool.n ac0,.slice a1 o.store.live.pool.hn ac1,.int .i64 o.store.live.time,.int .i64 o.store.live.next,.slice a2 o.store.live.sn ac2,.slice a3 o.store.live.pn ac3,.slice b0 o.store.safe.pool.n bc0,.slice b1 o.store.safe.pool.hn bc1,.int .i64 o.store.safe.time,.int .i64 o.store.safe.next,.slice b2 o.store.safe.sn bc2,.slice b3 o.store.safe.pn bc3,.int .i64 o.code] 43)
 obtain⟨⟨p0,-⟩,⟨p1,-⟩,⟨p2,-⟩,⟨p3,-⟩,⟨p4,-⟩,⟨p5,-⟩,⟨p6,-⟩,⟨p7,-⟩,⟨p8,-⟩,⟨p9,-⟩,⟨p10,-⟩,⟨p11,-⟩,⟨p12,-⟩⟩:=Box13.new w (.slice a0 o.store.live.pool.n ac0) (.slice a1 o.store.live.pool.hn ac1) (.int .i64 o.store.live.time) (.int .i64 o.store.live.next) (.slice a2 o.store.live.sn ac2) (.slice a3 o.store.live.pn ac3) (.slice b0 o.store.safe.pool.n bc0) (.slice b1 o.store.safe.pool.hn bc1) (.int .i64 o.store.safe.time) (.int .i64 o.store.safe.next) (.slice b2 o.store.safe.sn bc2) (.slice b3 o.store.safe.pn bc3) (.int .i64 o.code) 43
 have hz:(w.alloc (.cells #[.slice a0 o.store.live.pool.n ac0,.slice a1 o.store.live.pool.hn ac1,.int .i64 o.store.live.time,.int .i64 o.store.live.next,.slice a2 o.store.live.sn ac2,.slice a3 o.store.live.pn ac3,.slice b0 o.store.safe.pool.n bc0,.slice b1 o.store.safe.pool.hn bc1,.int .i64 o.store.safe.time,.int .i64 o.store.safe.next,.slice b2 o.store.safe.sn bc2,.slice b3 o.store.safe.pn bc3,.int .i64 o.code] 43)).heap.size=w.heap.size+1:=World.size_alloc _ _
 go_enter Tryz.func13,Tryz.ntmps13
 go_wp2_with fail
 clear p0 p1 p2 p3 p4 p5 p6 p7 p8 p9 p10 p11 p12
 generalize w.alloc (.cells #[.slice a0 o.store.live.pool.n ac0,.slice a1 o.store.live.pool.hn ac1,.int .i64 o.store.live.time,.int .i64 o.store.live.next,.slice a2 o.store.live.sn ac2,.slice a3 o.store.live.pn ac3,.slice b0 o.store.safe.pool.n bc0,.slice b1 o.store.safe.pool.hn bc1,.int .i64 o.store.safe.time,.int .i64 o.store.safe.next,.slice b2 o.store.safe.sn bc2,.slice b3 o.store.safe.pn bc3,.int .i64 o.code] 43)=W2 at ha hz ⊢
 refine(markStore_any lo hi _ _ _ _ _ _ _ _ o.store k0 W2 (H.out.below ha) (by omega) hk0 hk1).mono ?_
 rintro e w3 ⟨rfl,ho,hT⟩
 have Ho:=hideW ho
 clear ho
 go_wp2
 go_ret
 exact⟨rfl,Ho.out,(Turned.of_below ha).trans hT⟩
set_option maxRecDepth 20000 in
set_option maxHeartbeats 1000000 in
theorem heldSOut_any(lo hi:Nat)(v0 v1 v2 v3 u0 u1 u2 u3:Value)(o:SOutD)(k0:Int)(w:World)(h:StoreAt w lo hi v0 v1 v2 v3 u0 u1 u2 u3 (markSt o.store k0))(hk0:0≤k0)(hk1:endSt o.store k0≤1000000000000) :
  Calls Tryz.prog 14 #[soutV v0 v1 v2 v3 u0 u1 u2 u3 o,.int .i64 k0] w fun e w'=>e = .returned (.int .i64 (endSt o.store k0))∧Below w.heap.size w w':=by
 have H:=hideW h
 clear h
 have hk2:¬endSt o.store k0<0:=by have h1:=endW_mono o.store.live k0; have h2:=endW_mono o.store.safe (endW o.store.live k0); unfold endSt; omega
 have ha:=below_alloc w (.cells #[v0,v1,.int .i64 o.store.live.time,.int .i64 o.store.live.next,v2,v3,u0,u1,.int .i64 o.store.safe.time,.int .i64 o.store.safe.next,u2,u3,.int .i64 o.code] 43)
 obtain⟨⟨p0,-⟩,⟨p1,-⟩,⟨p2,-⟩,⟨p3,-⟩,⟨p4,-⟩,⟨p5,-⟩,⟨p6,-⟩,⟨p7,-⟩,⟨p8,-⟩,⟨p9,-⟩,⟨p10,-⟩,⟨p11,-⟩,⟨p12,-⟩⟩:=Box13.new w (v0) (v1) (.int .i64 o.store.live.time) (.int .i64 o.store.live.next) (v2) (v3) (u0) (u1) (.int .i64 o.store.safe.time) (.int .i64 o.store.safe.next) (u2) (u3) (.int .i64 o.code) 43
 have hz:(w.alloc (.cells #[v0,v1,.int .i64 o.store.live.time,.int .i64 o.store.live.next,v2,v3,u0,u1,.int .i64 o.store.safe.time,.int .i64 o.store.safe.next,u2,u3,.int .i64 o.code] 43)).heap.size=w.heap.size+1:=World.size_alloc _ _
 go_enter Tryz.func14,Tryz.ntmps14
 go_wp2_with fail
 clear p0 p1 p2 p3 p4 p5 p6 p7 p8 p9 p10 p11 p12
 generalize w.alloc (.cells #[v0,v1,.int .i64 o.store.live.time,.int .i64 o.store.live.next,v2,v3,u0,u1,.int .i64 o.store.safe.time,.int .i64 o.store.safe.next,u2,u3,.int .i64 o.code] 43)=W2 at ha hz ⊢
 refine(heldStore_any lo hi _ _ _ _ _ _ _ _ o.store k0 W2 (H.out.below ha) hk0 hk1).mono ?_
 rintro e w3 ⟨rfl,hb3⟩
 go_wp2
 go_ret
 exact⟨rfl,below_next ha hb3⟩
end Go.Proofs.YtihplgckbhnohaaGreatDoor

namespace Go.Proofs.YtihplgckbhnohaaGreatDoor
open Go.RowKit
set_option linter.unusedVariables false
theorem cntSl_big(f:Nat→SlotD)(k0:Int):∀n,cntSl f k0 n≤k0+2*(n:Int)+2*(slotsN f n:Int)
 | 0=>by show k0≤_; omega
 | n+1=>by
  have:=cntSl_big f k0 n
  show cntSl f k0 n+2+2*((f n).kn:Int)≤k0+2*((n+1:Nat):Int)+2*((slotsN f n+((f n).kn+(f n).data.size):Nat):Int)
  omega
theorem cntSet_big(f:Nat→SetD)(k0:Int):∀n,cntSet f k0 n≤k0+5*(n:Int)+2*(setsN f n:Int)
 | 0=>by show k0≤_; omega
 | n+1=>by
  have:=cntSet_big f k0 n
  show cntSet f k0 n+5+2*((f n).dn:Int)≤k0+5*((n+1:Nat):Int)+2*((setsN f n+((f n).name.size+(f n).dn):Nat):Int)
  omega
theorem cntSnap_big(f:Nat→SnapD)(k0:Int):∀n,cntSnap f k0 n≤k0+7*(n:Int)+2*(snapsN f n:Int)
 | 0=>by show k0≤_; omega
 | n+1=>by
  have:=cntSnap_big f k0 n
  show cntSnap f k0 n+7+2*((f n).dn:Int)≤k0+7*((n+1:Nat):Int)+2*((snapsN f n+((f n).name.size+(f n).set.size+(f n).dn):Nat):Int)
  omega
theorem endW_small{W:WorldD}(h:worldN W≤4000000):endW W 1≤1000000000000∧0≤endW W 1:=by
 have h1:=cntSl_big W.pool.s 1 W.pool.n
 have h2:=endW_le W 1
 have h3:=cntSet_big W.sets (endP W.pool 1) W.sn
 have h4:=cntSnap_big W.snaps (cntSet W.sets (endP W.pool 1) W.sn) W.pn
 unfold worldN poolN at h
 have h5:endP W.pool 1=cntSl W.pool.s 1 W.pool.n+W.pool.hn:=rfl
 have h6:endW W 1=cntSnap W.snaps (cntSet W.sets (endP W.pool 1) W.sn) W.pn:=rfl
 generalize endP W.pool 1=e at *
 generalize cntSet W.sets e W.sn=s at *
 omega
end Go.Proofs.YtihplgckbhnohaaGreatDoor

namespace Go.Proofs.YtihplgckbhnohaaGreatDoor
open Go.RowKit Go.Maps
set_option linter.unusedVariables false
def NamesDist(W:WorldD):Prop:=∀i,i<W.sn→∀j,j<i→(W.sets j).name≠(W.sets i).name
theorem SpecNames.rise{W:WorldD}(h:SpecNames W):∀i,i<W.sn→∀j,j<i→Rises (W.sets j).name (W.sets i).name
 | 0,_,j,hj=>absurd hj (Nat.not_lt_zero _)
 | i+1,hi,j,hj=>by
  have h1:Rises (W.sets i).name (W.sets (i+1)).name:=(h.2.2.2.2.1 (i+1) hi).2.1 (by omega)
  by_cases e:j=i
  ·subst e; exact h1
  ·exact bl_trans _ _ _ (SpecNames.rise h i (by omega) j (by omega)) h1
theorem SpecNames.dist{W:WorldD}(h:SpecNames W):NamesDist W:=fun i hi j hj e=>by
 have:=h.rise i hi j hj
 unfold Rises at this
 rw [e,bl_irrefl] at this
 exact absurd this (by simp)
theorem setN_one(f:Nat→SetD):∀{n i:Nat},i<n→setN (f i)≤setsN f n
 | n+1,i,h=>by
  show setN (f i)≤setsN f n+setN (f n)
  by_cases e:i=n
  ·subst e; omega
  ·have:=setN_one f (show i<n by omega); omega
theorem snapN_one(f:Nat→SnapD):∀{n i:Nat},i<n→snapN (f i)≤snapsN f n
 | n+1,i,h=>by
  show snapN (f i)≤snapsN f n+snapN (f n)
  by_cases e:i=n
  ·subst e; omega
  ·have:=snapN_one f (show i<n by omega); omega
theorem worldN_deads{W:WorldD}(h:worldN W≤1048576):DeadsN W:=by
 unfold worldN at h
 refine⟨fun i hi=>?_,fun i hi=>?_⟩
 ·have:=setN_one W.sets hi; unfold setN at this; omega
 ·have:=snapN_one W.snaps hi; unfold snapN at this; omega
end Go.Proofs.YtihplgckbhnohaaGreatDoor

namespace Go.Proofs.YtihplgckbhnohaaGreatDoor
open Go.RowKit
set_option linter.unusedVariables false
theorem endW_big(W:WorldD)(k0:Int):endW W k0≤k0+8*(worldN W:Int):=by
 have h1:=cntSl_big W.pool.s k0 W.pool.n
 have h2:=endW_le W k0
 have h3:=cntSet_big W.sets (endP W.pool k0) W.sn
 have h4:=cntSnap_big W.snaps (cntSet W.sets (endP W.pool k0) W.sn) W.pn
 have h7:worldN W=W.pool.n+slotsN W.pool.s W.pool.n+W.pool.hn+(W.sn+setsN W.sets W.sn)+(W.pn+snapsN W.snaps W.pn):=rfl
 have h5:endP W.pool k0=cntSl W.pool.s k0 W.pool.n+W.pool.hn:=rfl
 have h6:endW W k0=cntSnap W.snaps (cntSet W.sets (endP W.pool k0) W.sn) W.pn:=rfl
 generalize endP W.pool k0=e at *
 generalize cntSet W.sets e W.sn=s at *
 omega
theorem endW_within{W:WorldD}{k0:Int}(h:worldN W≤4000000)(h0:0≤k0)(h1:k0≤100000000):endW W k0≤1000000000000∧0≤endW W k0:=by
 have:=endW_big W k0
 have:=endW_mono W k0
 omega
theorem endSt_big(S:StoreD)(k0:Int):endSt S k0≤k0+8*(storeN S:Int)∧k0≤endSt S k0:=by
 have h1:=endW_big S.live k0
 have h2:=endW_big S.safe (endW S.live k0)
 have h3:=endW_mono S.live k0
 have h4:=endW_mono S.safe (endW S.live k0)
 unfold endSt storeN
 omega
theorem endSt_small{S:StoreD}(h:storeN S≤4000000):endSt S 1≤1000000000000∧0≤endSt S 1:=by
 have:=endSt_big S 1
 omega
theorem world_bounds{W:WorldD}(h:worldN W≤1048576):poolN W.pool≤1048576∧W.sn≤1048576∧W.pn≤1048576∧DeadsN W:=by
 refine⟨?_,?_,?_,worldN_deads h⟩
 all_goals
  unfold worldN at h
  omega
theorem store_bounds{S:StoreD}(h:storeN S≤1048576):(poolN S.live.pool≤1048576∧S.live.sn≤1048576∧S.live.pn≤1048576∧DeadsN S.live)∧poolN S.safe.pool≤1048576∧S.safe.sn≤1048576∧S.safe.pn≤1048576∧DeadsN S.safe:=by
 unfold storeN at h
 exact⟨world_bounds (by omega),world_bounds (by omega)⟩
end Go.Proofs.YtihplgckbhnohaaGreatDoor
