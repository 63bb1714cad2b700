/- What the laws' own function that looks for marks in pointers answers where the marks are as they were laid. -/
import Derived.Test.YtihdcanckbkgfaaGreatDoorProg
import GoSem.ClaimJoined
import GoSem.ClaimMapViews
import Derived.JoinedTies
import Derived.KernelRfl
import Derived.RowKit
import Derived.Test.YtihdcanckbkgfaaGreatDoorG1
import Derived.Test.YtihdcanckbkgfaaGreatDoorG34
import Derived.Test.YtihdcanckbkgfaaGreatDoorG24
import Derived.Test.YtihdcanckbkgfaaGreatDoorG29
import Derived.Test.YtihdcanckbkgfaaGreatDoorG20
import Derived.ProofKit
import Derived.Deep.Slices
import Derived.Deep.SlicePairs
import Derived.Deep.Strs
import Derived.Deep.MidRow
import Derived.Lib.SmallJoins
namespace Go.Proofs.YtihdcanckbkgfaaGreatDoor
open Go.RowKit
set_option linter.unusedVariables false
set_option maxRecDepth 20000 in
set_option maxHeartbeats 400000 in
theorem heldPtrS_any(v:Value)(n lo hi:Nat)(f g:Nat→Int)(k0:Int)(w:World)(h1:PtrsAt w lo hi v n f g)(hk0:0≤k0)(hk1:k0+2*n≤1000000000000)(hf:∀i,i<n→f i=k0+2*i∧g i=k0+2*i+1) :
  Calls Tryz.prog 142 #[v,.int .i64 k0] w fun e w'=>e = .returned (.int .i64 (k0+2*n))∧Below w.heap.size w w':=by
 obtain⟨m1,a,c,rfl,mc,g1⟩:=h1
 unfold maxLen at m1
 have Hf:Hid (∀i,i<n→f i=k0+2*i∧g i=k0+2*i+1):=hf
 clear hf
 go_enter Tryz.func142,Tryz.ntmps142
 go_wp2
 go_loopw [1,5] (fun m i wr=>∃k:Nat,k≤n∧i = .int .i64 k∧m = .int .i64 (k0+2*k)∧Below w.heap.size w wr) (fun _ i _=>n - (intOf i).toNat)
 case atStart=>exact⟨0,Nat.zero_le _,rfl,by simp,Below.refl _ _⟩
 case round=>
  obtain⟨k,hk,rfl,rfl,hb⟩:=hrel
  by_cases hlt:k<n
  ·have hlt':(k:Int)<(n:Int):=by omega
   obtain⟨b,off,rfl,_,_,k1⟩:=g1 (by omega)
   have hc1:wr.cell? ⟨b,off+k*2,none⟩=some (.int .i64 (k0+2*k)):=by rw [←(Hf.out k hlt).1]; exact(hb.cell (lt_of_cell (k1 k hlt).1)).trans (k1 k hlt).1
   have hc2:wr.cell? ⟨b,off+k*2+1,none⟩=some (.int .i64 (k0+2*k+1)):=by rw [←(Hf.out k hlt).2]; exact(hb.cell (lt_of_cell (k1 k hlt).2)).trans (k1 k hlt).2
   clear k1 g1
   go_wp2
   go_roundw
   case rel=>exact⟨k+1,by omega,by go_num,by go_num,hb⟩
   case measure=>simp [intOf]; omega
  ·obtain rfl:k=n:=by omega
   go_wp2
   go_ret
   exact⟨rfl,hb⟩
end Go.Proofs.YtihdcanckbkgfaaGreatDoor

namespace Go.Proofs.YtihdcanckbkgfaaGreatDoor
open Go.RowKit
set_option linter.unusedVariables false
set_option maxRecDepth 20000 in
set_option maxHeartbeats 400000 in
theorem heldSlotS_any(v:Value)(n lo hi:Nat)(f:Nat→SlotD)(k0:Int)(w:World)(h1:SlotsAt w lo hi v n (markS f k0))(hk0:0≤k0)(hk1:cntSl f k0 n≤1000000000000) :
  Calls Tryz.prog 140 #[v,.int .i64 k0] w fun e w'=>e = .returned (.int .i64 (cntSl f k0 n))∧Below w.heap.size w w':=by
 obtain⟨m1,a,c,rfl,mc,g1⟩:=h1
 unfold maxLen at m1
 have Hk1:Hid (cntSl f k0 n≤1000000000000):=hk1
 have G1:Hid (0<n→∃b off,a=some ⟨b,off,none⟩∧lo≤b∧b<hi∧∀i,i<n→∃v0 v1 v2,w.cell? ⟨b,off+i*3,none⟩=some v0∧w.cell? ⟨b,off+i*3+1,none⟩=some v1∧w.cell? ⟨b,off+i*3+2,none⟩=some v2∧SlotAt w lo hi v0 v1 v2 (markS f k0 i)):=g1
 clear g1 hk1
 go_enter Tryz.func140,Tryz.ntmps140
 go_wp2
 go_loopw [1,5] (fun m i wr=>∃k:Nat,k≤n∧i = .int .i64 k∧m = .int .i64 (cntSl f k0 k)∧Below w.heap.size w wr) (fun _ i _=>n - (intOf i).toNat)
 case atStart=>exact⟨0,Nat.zero_le _,rfl,rfl,Below.refl _ _⟩
 case round=>
  obtain⟨k,hk,rfl,rfl,hb⟩:=hrel
  by_cases hlt:k<n
  ·have hlt':(k:Int)<(n:Int):=by omega
   have hc0:k0≤cntSl f k0 k:=cntSl_le f k0 (Nat.zero_le k)
   have hc1:cntSl f k0 k+2+2*((f k).kn:Int)≤1000000000000:=Int.le_trans (cntSl_le f k0 (show k+1≤n from hlt)) Hk1.out
   obtain⟨b,off,rfl,_,_,k1⟩:=G1.out (by omega)
   obtain⟨x0,x1,x2,c0,c1,c2,hs⟩:=k1 k hlt
   have hd0:=(hb.cell (lt_of_cell c0)).trans c0
   have hd1:=(hb.cell (lt_of_cell c1)).trans c1
   have hd2:=(hb.cell (lt_of_cell c2)).trans c2
   have hs':=hs.below hb
   clear k1 G1 c0 c1 c2 hs
   obtain⟨rfl,hkids,rfl,_⟩:=hs'
   have Hkids:Hid (PtrsAt wr lo hi x1 (f k).kn (fun i=>cntSl f k0 k+1+2*i) (fun i=>cntSl f k0 k+1+2*i+1)):=hkids
   obtain⟨_,ka,kc,rfl,_⟩:=hkids
   have hd0':wr.cell? ⟨b,off+k*3,none⟩=some (.int .i64 (cntSl f k0 k)):=hd0
   have hd1':wr.cell? ⟨b,off+k*3+1,none⟩=some (.slice ka (f k).kn kc):=hd1
   have hd2':wr.cell? ⟨b,off+k*3+2,none⟩=some (.string (mtF (cntSl f k0 k+1+2*(f k).kn))):=hd2
   clear hd0 hd1 hd2
   go_wp2_with fail
   refine(heldPtrS_any _ (f k).kn lo hi _ _ _ _ Hkids.out (by omega) (by omega) (fun i hi=>⟨rfl,rfl⟩)).mono ?_
   rintro e w1 ⟨rfl,hb1⟩
   have hz:w1.cell? ⟨b,off+k*3+2,none⟩=some (.string (mtF (cntSl f k0 k+1+2*(f k).kn))):=(hb1.cell (lt_of_cell hd2')).trans hd2'
   have hbb:=below_next hb hb1
   clear hd0' hd1' hd2' Hkids hb1
   have hnn:¬cntSl f k0 k+1+2*((f k).kn:Int)<0:=by omega
   have hse:=str_eq (rfl:mtF (cntSl f k0 k+1+2*(f k).kn)=mtF (cntSl f k0 k+1+2*(f k).kn))
   go_wp2_with fail
   go_region_held3 (fun w'=>w'.cell? ⟨b,off+k*3+2,none⟩=some (.string (mtF (cntSl f k0 k+1+2*(f k).kn)))) (go_keep)
     (first | (go_at_call 93; refine(markText_any _ _ (by omega)).mono ?_; rintro e w2 ⟨rfl,hb2⟩; have z1:=(hb2.cell (p:=⟨b,off+k*3+2,none⟩) (lt_of_cell hz)).trans hz))
   have hbc:=below_call hbb hb2
   clear hb2 z1
   go_wp2
   go_roundw
   case rel=>exact⟨k+1,by omega,by go_num,congrArg (Value.int .i64) (by show _=cntSl f k0 k+2+2*((f k).kn:Int); omega),hbc⟩
   case measure=>simp [intOf]; omega
  ·obtain rfl:k=n:=by omega
   go_wp2
   go_ret
   exact⟨rfl,hb⟩
set_option maxRecDepth 20000 in
set_option maxHeartbeats 400000 in
theorem heldPool_any(v0 v1:Value)(lo hi:Nat)(p:PoolD)(k0:Int)(w:World)(h1:SlotsAt w lo hi v0 p.n (markS p.s k0))(h2:IntsAt w lo hi v1 p.hn (fun i=>cntSl p.s k0 p.n+i))
  (hk0:0≤k0) (hk1:cntSl p.s k0 p.n+p.hn≤1000000000000) :
  Calls Tryz.prog 95 #[.agg #[v0,v1],.int .i64 k0] w fun e w'=>e = .returned (.int .i64 (cntSl p.s k0 p.n+p.hn))∧Below w.heap.size w w':=by
 have q1:=h1
 have q2:=h2
 obtain⟨_,a,c,rfl,_⟩:=h1
 obtain⟨_,a',c',rfl,_⟩:=h2
 have hk00:k0≤cntSl p.s k0 p.n:=cntSl_le p.s k0 (Nat.zero_le p.n)
 have hge:¬cntSl p.s k0 p.n<0:=by omega
 have hge2:¬cntSl p.s k0 p.n+(p.hn:Int)<0:=by omega
 go_enter Tryz.func95,Tryz.ntmps95
 go_wp2_with fail
 have hbw:=(Below.refl w.heap.size w).alloc (Nat.le_refl _) (.cells #[.slice a p.n c,.slice a' p.hn c'] 33)
 refine(heldSlotS_any _ p.n lo hi p.s _ _ (q1.below hbw) hk0 (by omega)).mono ?_
 rintro e w1 ⟨rfl,hb1⟩
 have e1:=hb1.cell (p:=⟨w.heap.size,1,none⟩) (by simp)
 simp at e1
 have hb2:=below_next hbw hb1
 clear hb1
 go_wp2_with fail
 refine(heldInt64S_any _ p.hn lo hi _ _ _ (q2.below hb2) (by omega) hk1 (fun i hi=>rfl)).mono ?_
 rintro e w2 ⟨rfl,hb3⟩
 have hb4:=below_next hb2 hb3
 go_wp2
 go_ret
 exact⟨rfl,hb4⟩
end Go.Proofs.YtihdcanckbkgfaaGreatDoor

namespace Go.Proofs.YtihdcanckbkgfaaGreatDoor
open Go.RowKit
set_option linter.unusedVariables false
theorem heldPool_own(lo hi:Nat)(v0 v1:Value)(p:PoolD)(k0:Int)(w:World)(h:PoolAt w lo hi v0 v1 (markP p k0))(hk0:0≤k0)(hk1:endP p k0≤1000000000000) :
  Calls Tryz.prog 95 #[.agg #[v0,v1],.int .i64 k0] w fun e w'=>e = .returned (.int .i64 (endP p k0))∧Below w.heap.size w w':=
 heldPool_any v0 v1 lo hi p k0 w h.1 h.2 hk0 hk1
end Go.Proofs.YtihdcanckbkgfaaGreatDoor

namespace Go.Proofs.YtihdcanckbkgfaaGreatDoor
open Go.RowKit
set_option linter.unusedVariables false
set_option maxRecDepth 20000 in
set_option maxHeartbeats 1000000 in
theorem heldSetS_any(v:Value)(n lo hi:Nat)(f:Nat→SetD)(k0:Int)(w:World)(h1:SetsAt w lo hi v n (markSetD f k0))(hk0:0≤k0)(hk1:cntSet f k0 n≤1000000000000) :
  Calls Tryz.prog 96 #[v,.int .i64 k0] w fun e w'=>e = .returned (.int .i64 (cntSet f k0 n))∧Below w.heap.size w w':=by
 have H1:=hideM h1
 obtain⟨m1,a,c,rfl,mc,-⟩:=id h1
 unfold maxLen at m1
 have Hk1:=hideM hk1
 clear h1 hk1
 go_enter Tryz.func96,Tryz.ntmps96
 go_wp2
 go_loopw [1,5] (fun m i wr=>∃k:Nat,k≤n∧i = .int .i64 k∧m = .int .i64 (cntSet f k0 k)∧Below w.heap.size w wr) (fun _ i _=>n - (intOf i).toNat)
 case atStart=>exact⟨0,Nat.zero_le _,rfl,rfl,Below.refl _ _⟩
 case round=>
  obtain⟨k,hk,rfl,rfl,hb⟩:=hrel
  by_cases hlt:k<n
  ·have hlt':(k:Int)<(n:Int):=by omega
   have hc0:k0≤cntSet f k0 k:=cntSet_le f k0 (Nat.zero_le k)
   have hc1:cntSet f k0 k+5+2*((f k).dn:Int)≤1000000000000:=Int.le_trans (cntSet_le f k0 (show k+1≤n from hlt)) Hk1.out
   obtain⟨b,off,vd,rfl,hs2⟩:=(H1.out.below hb).cells hlt
   obtain⟨-,ad,cd,rfl,-,-⟩:=id hs2.dead
   have q0:wr.cell? ⟨b,off+k*6,none⟩=some (.string (mtF (cntSet f k0 k))):=hs2.c0
   have q1:wr.cell? ⟨b,off+k*6+1,none⟩=some (.int .i64 (cntSet f k0 k+1)):=hs2.c1
   have q2:wr.cell? ⟨b,off+k*6+2,none⟩=some (.int .i64 (cntSet f k0 k+1+1)):=hs2.c2
   have q3:wr.cell? ⟨b,off+k*6+3,none⟩=some (.int .i64 (cntSet f k0 k+1+1+1)):=hs2.c3
   have q4:wr.cell? ⟨b,off+k*6+4,none⟩=some (.int .i64 (cntSet f k0 k+1+1+1+1)):=hs2.c4
   have q5:=hs2.c5
   have Hd:=hideM (show PtrsAt wr lo hi (.slice ad (f k).dn cd) (f k).dn (fun i=>cntSet f k0 k+1+1+1+1+1+2*i) (fun i=>cntSet f k0 k+1+1+1+1+1+2*i+1)from hs2.dead)
   clear hs2
   go_wp2_with fail
   have hse1:=str_eq (rfl:mtF (cntSet f k0 k)=mtF (cntSet f k0 k))
   go_region_held3 (fun w'=>w'.cell? ⟨b,off+k*6,none⟩=some (.string (mtF (cntSet f k0 k)))) (go_keep)
    (first | (go_at_call 93; refine(markText_any _ _ (by omega)).mono ?_; rintro e w1 ⟨rfl,hm1⟩; have hm1':=below_undrew hm1; have z1:=(hm1'.cell (p:=⟨b,off+k*6,none⟩) (lt_of_cell q0)).trans q0))
   have hb1:=below_next hb hm1'
   replace q0:=(hm1'.cell (lt_of_cell q0)).trans q0
   replace q1:=(hm1'.cell (lt_of_cell q1)).trans q1
   replace q2:=(hm1'.cell (lt_of_cell q2)).trans q2
   replace q3:=(hm1'.cell (lt_of_cell q3)).trans q3
   replace q4:=(hm1'.cell (lt_of_cell q4)).trans q4
   replace q5:=(hm1'.cell (lt_of_cell q5)).trans q5
   have Hd1:=hideM (Hd.out.below hm1')
   clear hm1 hm1' z1 hse1
   go_wp2_with fail
   refine(heldPtrS_any _ (f k).dn lo hi _ _ _ _ Hd1.out (by omega) (by omega) (fun i hi=>⟨rfl,rfl⟩)).mono ?_
   rintro e wz ⟨rfl,hbz⟩
   have hB:=below_next hb1 hbz
   have hnn:¬cntSet f k0 k+1+1+1+1+1+2*((f k).dn:Int)<0:=by omega
   clear q0 q1 q2 q3 q4 q5 hbz
   go_wp2
   go_roundw
   case rel=>exact⟨k+1,by omega,by go_num,congrArg (Value.int .i64) (by show _=cntSet f k0 k+5+2*((f k).dn:Int); omega),hB⟩
   case measure=>simp [intOf]; omega
  ·obtain rfl:k=n:=by omega
   go_wp2
   go_ret
   exact⟨rfl,hb⟩
set_option maxRecDepth 20000 in
set_option maxHeartbeats 1000000 in
theorem heldSnapS_any(v:Value)(n lo hi:Nat)(f:Nat→SnapD)(k0:Int)(w:World)(h1:SnapsAt w lo hi v n (markSnapD f k0))(hk0:0≤k0)(hk1:cntSnap f k0 n≤1000000000000) :
  Calls Tryz.prog 97 #[v,.int .i64 k0] w fun e w'=>e = .returned (.int .i64 (cntSnap f k0 n))∧Below w.heap.size w w':=by
 have H1:=hideM h1
 obtain⟨m1,a,c,rfl,mc,-⟩:=id h1
 unfold maxLen at m1
 have Hk1:=hideM hk1
 clear h1 hk1
 go_enter Tryz.func97,Tryz.ntmps97
 go_wp2
 go_loopw [1,5] (fun m i wr=>∃k:Nat,k≤n∧i = .int .i64 k∧m = .int .i64 (cntSnap f k0 k)∧Below w.heap.size w wr) (fun _ i _=>n - (intOf i).toNat)
 case atStart=>exact⟨0,Nat.zero_le _,rfl,rfl,Below.refl _ _⟩
 case round=>
  obtain⟨k,hk,rfl,rfl,hb⟩:=hrel
  by_cases hlt:k<n
  ·have hlt':(k:Int)<(n:Int):=by omega
   have hc0:k0≤cntSnap f k0 k:=cntSnap_le f k0 (Nat.zero_le k)
   have hc1:cntSnap f k0 k+7+2*((f k).dn:Int)≤1000000000000:=Int.le_trans (cntSnap_le f k0 (show k+1≤n from hlt)) Hk1.out
   obtain⟨b,off,vd,rfl,hs2⟩:=(H1.out.below hb).cells hlt
   obtain⟨-,ad,cd,rfl,-,-⟩:=id hs2.dead
   have q0:wr.cell? ⟨b,off+k*8,none⟩=some (.int .i64 (cntSnap f k0 k)):=hs2.c0
   have q1:wr.cell? ⟨b,off+k*8+1,none⟩=some (.string (mtF (cntSnap f k0 k+1))):=hs2.c1
   have q2:wr.cell? ⟨b,off+k*8+2,none⟩=some (.string (mtF (cntSnap f k0 k+1+1))):=hs2.c2
   have q3:wr.cell? ⟨b,off+k*8+3,none⟩=some (.int .i64 (cntSnap f k0 k+1+1+1)):=hs2.c3
   have q4:wr.cell? ⟨b,off+k*8+4,none⟩=some (.int .i64 (cntSnap f k0 k+1+1+1+1)):=hs2.c4
   have q5:wr.cell? ⟨b,off+k*8+5,none⟩=some (.int .i64 (cntSnap f k0 k+1+1+1+1+1)):=hs2.c5
   have q6:wr.cell? ⟨b,off+k*8+6,none⟩=some (.int .i64 (cntSnap f k0 k+1+1+1+1+1+1)):=hs2.c6
   have q7:=hs2.c7
   have Hd:=hideM (show PtrsAt wr lo hi (.slice ad (f k).dn cd) (f k).dn (fun i=>cntSnap f k0 k+1+1+1+1+1+1+1+2*i) (fun i=>cntSnap f k0 k+1+1+1+1+1+1+1+2*i+1)from hs2.dead)
   clear hs2
   go_wp2_with fail
   have hse1:=str_eq (rfl:mtF (cntSnap f k0 k+1)=mtF (cntSnap f k0 k+1))
   go_region_held3 (fun w'=>w'.cell? ⟨b,off+k*8+1,none⟩=some (.string (mtF (cntSnap f k0 k+1)))) (go_keep)
    (first | (go_at_call 93; refine(markText_any _ _ (by omega)).mono ?_; rintro e w1 ⟨rfl,hm1⟩; have hm1':=below_undrew hm1; have z1:=(hm1'.cell (p:=⟨b,off+k*8+1,none⟩) (lt_of_cell q1)).trans q1))
   have hb1:=below_next hb hm1'
   replace q0:=(hm1'.cell (lt_of_cell q0)).trans q0
   replace q1:=(hm1'.cell (lt_of_cell q1)).trans q1
   replace q2:=(hm1'.cell (lt_of_cell q2)).trans q2
   replace q3:=(hm1'.cell (lt_of_cell q3)).trans q3
   replace q4:=(hm1'.cell (lt_of_cell q4)).trans q4
   replace q5:=(hm1'.cell (lt_of_cell q5)).trans q5
   replace q6:=(hm1'.cell (lt_of_cell q6)).trans q6
   replace q7:=(hm1'.cell (lt_of_cell q7)).trans q7
   have Hd1:=hideM (Hd.out.below hm1')
   clear hm1 hm1' z1 hse1
   go_wp2_with fail
   have hse2:=str_eq (rfl:mtF (cntSnap f k0 k+1+1)=mtF (cntSnap f k0 k+1+1))
   go_region_held3 (fun w'=>w'.cell? ⟨b,off+k*8+2,none⟩=some (.string (mtF (cntSnap f k0 k+1+1)))) (go_keep)
    (first | (go_at_call 93; refine(markText_any _ _ (by omega)).mono ?_; rintro e w2 ⟨rfl,hm2⟩; have hm2':=below_undrew hm2; have z2:=(hm2'.cell (p:=⟨b,off+k*8+2,none⟩) (lt_of_cell q2)).trans q2))
   have hb2:=below_next hb1 hm2'
   replace q0:=(hm2'.cell (lt_of_cell q0)).trans q0
   replace q1:=(hm2'.cell (lt_of_cell q1)).trans q1
   replace q2:=(hm2'.cell (lt_of_cell q2)).trans q2
   replace q3:=(hm2'.cell (lt_of_cell q3)).trans q3
   replace q4:=(hm2'.cell (lt_of_cell q4)).trans q4
   replace q5:=(hm2'.cell (lt_of_cell q5)).trans q5
   replace q6:=(hm2'.cell (lt_of_cell q6)).trans q6
   replace q7:=(hm2'.cell (lt_of_cell q7)).trans q7
   have Hd2:=hideM (Hd1.out.below hm2')
   clear hm2 hm2' z2 hse2
   go_wp2_with fail
   refine(heldPtrS_any _ (f k).dn lo hi _ _ _ _ Hd2.out (by omega) (by omega) (fun i hi=>⟨rfl,rfl⟩)).mono ?_
   rintro e wz ⟨rfl,hbz⟩
   have hB:=below_next hb2 hbz
   have hnn:¬cntSnap f k0 k+1+1+1+1+1+1+1+2*((f k).dn:Int)<0:=by omega
   clear q0 q1 q2 q3 q4 q5 q6 q7 hbz
   go_wp2
   go_roundw
   case rel=>exact⟨k+1,by omega,by go_num,congrArg (Value.int .i64) (by show _=cntSnap f k0 k+7+2*((f k).dn:Int); omega),hB⟩
   case measure=>simp [intOf]; omega
  ·obtain rfl:k=n:=by omega
   go_wp2
   go_ret
   exact⟨rfl,hb⟩
set_option maxRecDepth 20000 in
set_option maxHeartbeats 400000 in
theorem heldWorld_any(lo hi:Nat)(v0 v1 v2 v3:Value)(W:WorldD)(k0:Int)(w:World)(h:WorldAt w lo hi v0 v1 v2 v3 (markW W k0))(hk0:0≤k0)(hk1:endW W k0≤1000000000000) :
  Calls Tryz.prog 45 #[worldV v0 v1 v2 v3 W,.int .i64 k0] w fun e w'=>e = .returned (.int .i64 (endW W k0))∧Below w.heap.size w w':=by
 have H:=hideM h
 have HE:=hideM (endW_le W k0)
 have HK:=hideM hk1
 clear h hk1
 have ha:=below_alloc w (.cells #[v0,v1,.int .i64 W.time,.int .i64 W.next,v2,v3] 37)
 have HB:=hideM (Box6.new w v0 v1 (.int .i64 W.time) (.int .i64 W.next) v2 v3 37)
 obtain⟨⟨x0,-⟩,⟨x1,-⟩,⟨x2,-⟩,⟨x3,-⟩,⟨x4,-⟩,⟨x5,-⟩⟩:=HB.out
 go_enter Tryz.func45,Tryz.ntmps45
 go_wp2_with fail
 clear x0 x1 x2 x3 x4 x5
 generalize w.alloc (.cells #[v0,v1,.int .i64 W.time,.int .i64 W.next,v2,v3] 37)=W0 at ha HB ⊢
 refine(heldPool_own lo hi _ _ W.pool k0 W0 (H.out.pool.below ha) hk0 (by have:=HE.out; have:=HK.out; omega)).mono ?_
 rintro e w1 ⟨rfl,hb1⟩
 have hB1:=below_next ha hb1
 have HB1:=hideM (HB.out.below hb1)
 have n1:¬endP W.pool k0<0:=by have:=HE.out; omega
 clear hb1 ha HB
 obtain⟨⟨x0,-⟩,⟨x1,-⟩,⟨x2,-⟩,⟨x3,-⟩,⟨x4,-⟩,⟨x5,-⟩⟩:=HB1.out
 go_wp2_with fail
 clear x0 x1 x2 x3 x4 x5
 refine(heldSetS_any _ W.sn lo hi W.sets _ w1 (H.out.sets.below hB1) (by have:=HE.out; omega) (by have:=HE.out; have:=HK.out; omega)).mono ?_
 rintro e w2 ⟨rfl,hb2⟩
 have hB2:=below_next hB1 hb2
 have HB2:=hideM (HB1.out.below hb2)
 have n2:¬cntSet W.sets (endP W.pool k0) W.sn<0:=by have:=HE.out; omega
 clear hb2 hB1 HB1
 obtain⟨⟨x0,-⟩,⟨x1,-⟩,⟨x2,-⟩,⟨x3,-⟩,⟨x4,-⟩,⟨x5,-⟩⟩:=HB2.out
 go_wp2_with fail
 clear x0 x1 x2 x3 x4 x5
 refine(heldSnapS_any _ W.pn lo hi W.snaps _ w2 (H.out.snaps.below hB2) (by have:=HE.out; omega) (by have:=HE.out; have:=HK.out; unfold endW at *; omega)).mono ?_
 rintro e w3 ⟨rfl,hb3⟩
 have hB3:=below_next hB2 hb3
 have n3:¬cntSnap W.snaps (cntSet W.sets (endP W.pool k0) W.sn) W.pn<0:=by have:=HE.out; unfold endW at *; omega
 clear hb3 hB2 HB2
 go_wp2
 go_ret
 exact⟨rfl,hB3⟩
end Go.Proofs.YtihdcanckbkgfaaGreatDoor

namespace Go.Proofs.YtihdcanckbkgfaaGreatDoor
open Go.RowKit
set_option linter.unusedVariables false
set_option maxRecDepth 20000 in
set_option maxHeartbeats 2000000 in
theorem eqWOut_same(v0 v1 v2 v3 x0 x1 x2 x3:Value)(lo hi lo' hi':Nat)(o:WOutD)(w:World)(h1:WorldAt w lo hi v0 v1 v2 v3 o.world)(h2:WorldAt w lo' hi' x0 x1 x2 x3 o.world) :
  Calls Tryz.prog 10 #[woutV v0 v1 v2 v3 o,woutV x0 x1 x2 x3 o] w fun e w'=>e = .returned (.bool true)∧Below w.heap.size w w':=by
 obtain⟨a0,ac0,a1,ac1,a2,ac2,a3,ac3,rfl,rfl,rfl,rfl⟩:=h1.form
 obtain⟨c0,cc0,c1,cc1,c2,cc2,c3,cc3,rfl,rfl,rfl,rfl⟩:=h2.form
 have H1:=hideE h1
 have H2:=hideE h2
 clear h1 h2
 have ha:=below_alloc w (.cells #[.slice a0 o.world.pool.n ac0,.slice a1 o.world.pool.hn ac1,.int .i64 o.world.time,.int .i64 o.world.next,.slice a2 o.world.sn ac2,.slice a3 o.world.pn ac3,.int .i64 o.id,.int .i64 o.many,.int .i64 o.code] 39)
 have hb2:=below_alloc (w.alloc (.cells #[.slice a0 o.world.pool.n ac0,.slice a1 o.world.pool.hn ac1,.int .i64 o.world.time,.int .i64 o.world.next,.slice a2 o.world.sn ac2,.slice a3 o.world.pn ac3,.int .i64 o.id,.int .i64 o.many,.int .i64 o.code] 39)) (.cells #[.slice c0 o.world.pool.n cc0,.slice c1 o.world.pool.hn cc1,.int .i64 o.world.time,.int .i64 o.world.next,.slice c2 o.world.sn cc2,.slice c3 o.world.pn cc3,.int .i64 o.id,.int .i64 o.many,.int .i64 o.code] 39)
 have hb:=below_next ha hb2
 have HA:=(Box9.new w (.slice a0 o.world.pool.n ac0) (.slice a1 o.world.pool.hn ac1) (.int .i64 o.world.time) (.int .i64 o.world.next) (.slice a2 o.world.sn ac2) (.slice a3 o.world.pn ac3) (.int .i64 o.id) (.int .i64 o.many) (.int .i64 o.code) 39).below hb2
 have HB:=Box9.new (w.alloc (.cells #[.slice a0 o.world.pool.n ac0,.slice a1 o.world.pool.hn ac1,.int .i64 o.world.time,.int .i64 o.world.next,.slice a2 o.world.sn ac2,.slice a3 o.world.pn ac3,.int .i64 o.id,.int .i64 o.many,.int .i64 o.code] 39)) (.slice c0 o.world.pool.n cc0) (.slice c1 o.world.pool.hn cc1) (.int .i64 o.world.time) (.int .i64 o.world.next) (.slice c2 o.world.sn cc2) (.slice c3 o.world.pn cc3) (.int .i64 o.id) (.int .i64 o.many) (.int .i64 o.code) 39
 rw [World.size_alloc] at HB
 obtain⟨⟨p0,-⟩,⟨p1,-⟩,⟨p2,-⟩,⟨p3,-⟩,⟨p4,-⟩,⟨p5,-⟩,⟨p6,-⟩,⟨p7,-⟩,⟨p8,-⟩⟩:=id HA
 obtain⟨⟨q0,-⟩,⟨q1,-⟩,⟨q2,-⟩,⟨q3,-⟩,⟨q4,-⟩,⟨q5,-⟩,⟨q6,-⟩,⟨q7,-⟩,⟨q8,-⟩⟩:=id HB
 go_enter Tryz.func10,Tryz.ntmps10
 go_wp2_with fail
 clear p0 p1 p2 p3 p4 p5 p6 p7 p8 q0 q1 q2 q3 q4 q5 q6 q7 q8
 generalize ((w.alloc (.cells #[.slice a0 o.world.pool.n ac0,.slice a1 o.world.pool.hn ac1,.int .i64 o.world.time,.int .i64 o.world.next,.slice a2 o.world.sn ac2,.slice a3 o.world.pn ac3,.int .i64 o.id,.int .i64 o.many,.int .i64 o.code] 39)).alloc (.cells #[.slice c0 o.world.pool.n cc0,.slice c1 o.world.pool.hn cc1,.int .i64 o.world.time,.int .i64 o.world.next,.slice c2 o.world.sn cc2,.slice c3 o.world.pn cc3,.int .i64 o.id,.int .i64 o.many,.int .i64 o.code] 39))=W2 at hb HA HB ⊢
 clear ha hb2
 refine(eqWorld_same _ _ _ _ _ _ _ _ _ _ _ _ o.world W2 (H1.out.below hb) (H2.out.below hb)).mono ?_
 rintro e w3 ⟨rfl,hb3⟩
 obtain⟨-,-,-,-,-,-,⟨p6,-⟩,⟨p7,-⟩,⟨p8,-⟩⟩:=HA.below hb3
 obtain⟨-,-,-,-,-,-,⟨q6,-⟩,⟨q7,-⟩,⟨q8,-⟩⟩:=HB.below hb3
 have hid:(o.id != o.id)=false:=by simp
 have hmany:(o.many != o.many)=false:=by simp
 have hcode:(o.code != o.code)=false:=by simp
 go_wp2
 go_ret
 exact⟨rfl,below_next hb hb3⟩
set_option maxRecDepth 20000 in
set_option maxHeartbeats 2000000 in
theorem markWOut_any(lo hi:Nat)(v0 v1 v2 v3:Value)(o:WOutD)(k0:Int)(w:World)(h:WorldOwn w lo hi v0 v1 v2 v3 o.world)(hh:hi≤w.heap.size)(hk0:0≤k0)(hk1:endW o.world k0≤1000000000000) :
  Calls Tryz.prog 13 #[woutV v0 v1 v2 v3 o,.int .i64 k0] w fun e w'=>e = .returned (.int .i64 (endW o.world k0))∧WorldOwn w' lo hi v0 v1 v2 v3 (markW o.world k0)∧Turned (fun k=>lo≤k∧k<hi) w w':=by
 have H:=hideE h
 obtain⟨a0,ac0,a1,ac1,a2,ac2,a3,ac3,rfl,rfl,rfl,rfl⟩:=h.form
 clear h
 have ha:=below_alloc w (.cells #[.slice a0 o.world.pool.n ac0,.slice a1 o.world.pool.hn ac1,.int .i64 o.world.time,.int .i64 o.world.next,.slice a2 o.world.sn ac2,.slice a3 o.world.pn ac3,.int .i64 o.id,.int .i64 o.many,.int .i64 o.code] 39)
 obtain⟨⟨p0,-⟩,⟨p1,-⟩,⟨p2,-⟩,⟨p3,-⟩,⟨p4,-⟩,⟨p5,-⟩,⟨p6,-⟩,⟨p7,-⟩,⟨p8,-⟩⟩:=Box9.new w (.slice a0 o.world.pool.n ac0) (.slice a1 o.world.pool.hn ac1) (.int .i64 o.world.time) (.int .i64 o.world.next) (.slice a2 o.world.sn ac2) (.slice a3 o.world.pn ac3) (.int .i64 o.id) (.int .i64 o.many) (.int .i64 o.code) 39
 have hk2:¬endW o.world k0<0:=by have h1:=endW_le o.world k0; omega
 go_enter Tryz.func13,Tryz.ntmps13
 go_wp2_with fail
 clear p0 p1 p2 p3 p4 p5 p6 p7 p8
 generalize (w.alloc (.cells #[.slice a0 o.world.pool.n ac0,.slice a1 o.world.pool.hn ac1,.int .i64 o.world.time,.int .i64 o.world.next,.slice a2 o.world.sn ac2,.slice a3 o.world.pn ac3,.int .i64 o.id,.int .i64 o.many,.int .i64 o.code] 39))=W2 at ha ⊢
 refine(markWorld_any lo hi _ _ _ _ o.world k0 W2 (H.out.below ha) hk0 hk1).mono ?_
 rintro e w3 ⟨rfl,ho,hT⟩
 have Ho:=hideE ho
 clear ho
 go_wp2
 go_ret
 exact⟨rfl,Ho.out,(Turned.of_below ha).trans hT⟩
set_option maxRecDepth 20000 in
set_option maxHeartbeats 2000000 in
theorem heldWOut_any(lo hi:Nat)(v0 v1 v2 v3:Value)(o:WOutD)(k0:Int)(w:World)(h:WorldAt w lo hi v0 v1 v2 v3 (markW o.world k0))(hk0:0≤k0)(hk1:endW o.world k0≤1000000000000) :
  Calls Tryz.prog 14 #[woutV v0 v1 v2 v3 o,.int .i64 k0] w fun e w'=>e = .returned (.int .i64 (endW o.world k0))∧Below w.heap.size w w':=by
 have H:=hideE h
 clear h
 have hk2:¬endW o.world k0<0:=by have h1:=endW_le o.world k0; omega
 have ha:=below_alloc w (.cells #[v0,v1,.int .i64 o.world.time,.int .i64 o.world.next,v2,v3,.int .i64 o.id,.int .i64 o.many,.int .i64 o.code] 39)
 obtain⟨⟨p0,-⟩,⟨p1,-⟩,⟨p2,-⟩,⟨p3,-⟩,⟨p4,-⟩,⟨p5,-⟩,⟨p6,-⟩,⟨p7,-⟩,⟨p8,-⟩⟩:=Box9.new w (v0) (v1) (.int .i64 o.world.time) (.int .i64 o.world.next) (v2) (v3) (.int .i64 o.id) (.int .i64 o.many) (.int .i64 o.code) 39
 go_enter Tryz.func14,Tryz.ntmps14
 go_wp2_with fail
 clear p0 p1 p2 p3 p4 p5 p6 p7 p8
 generalize (w.alloc (.cells #[v0,v1,.int .i64 o.world.time,.int .i64 o.world.next,v2,v3,.int .i64 o.id,.int .i64 o.many,.int .i64 o.code] 39))=W2 at ha ⊢
 refine(heldWorld_any lo hi _ _ _ _ o.world k0 W2 (H.out.below ha) hk0 hk1).mono ?_
 rintro e w3 ⟨rfl,hb3⟩
 go_wp2
 go_ret
 exact⟨rfl,below_next ha hb3⟩
end Go.Proofs.YtihdcanckbkgfaaGreatDoor

namespace Go.Proofs.YtihdcanckbkgfaaGreatDoor
open Go.RowKit Go.Deep Go.Joins
open Go.ChangeShapes Go.WideShapes Go.ChangeAt
set_option linter.unusedVariables false
set_option maxRecDepth 20000
section
variable {H : Type} {enc : TypeId × Value → H} {W : World} {spare : Nat → Bool} {held : Bool}
theorem addr_of_cell{w:World}{a:Addr}{v:Value}(h:w.cell? a=some v):∃b off,a=⟨b,off,none⟩:=by
 obtain⟨b,off,spot⟩:=a
 have hs:spot=none:=by simpa using World.cell?_spot h
 subst hs
 exact⟨b,off,rfl⟩
theorem slice_val{v:Value}{a:Option Addr}{n c:Nat}(h:[v] = [Value.slice a n c]):v = .slice a n c:=by simpa using h
theorem open_ints_at{fuel:Nat}{v:Value}{x:DataW H×List MemPlace}(h:DataW.trod enc Tryz.prog W 0 spare held fuel 23 [v]=some x):∃n f,IntsAt W 0 W.heap.size v n f:=by
 rcases open_slice1 (t:=23) (e:=2) (by kernel_rfl) (by kernel_rfl) h with⟨hv,_⟩ | ⟨a,len,cap,m,n,V,D,Pl,hv,_,hl,hm,hmm,_,hx⟩
 ·exact⟨0,fun _=>0,Nat.zero_le _,none,0,slice_val hv,Nat.le_refl _,fun h=>absurd h (Nat.lt_irrefl _)⟩
 ·have hlm:len≤m:=by rw [hmm]; split <;> omega
  have hV:∀i,i<len→∃z:Int,V i = .int .i64 z:=fun i hi=>by
   obtain⟨_,ht⟩:=hx i (by omega)
   obtain⟨z,hz,_⟩:=DataW.trod_int (show Tryz.prog.underlying 2=some (.int .i64)by kernel_rfl) ht
   exact⟨z,by simpa using hz⟩
  refine⟨len,fun i=>intOf (V i),by unfold maxLen at *; omega,some a,cap,slice_val hv,hl,fun h0=>?_⟩
  have hc0:=(hx 0 (by omega)).1
  rw [show a.add 0=a by simp [Addr.add]] at hc0
  obtain⟨b,off,rfl⟩:=addr_of_cell hc0
  refine⟨b,off,rfl,Nat.zero_le _,lt_of_cell hc0,fun i hi=>?_⟩
  have hc:=(hx i (by omega)).1
  rw [Addr.add_mid] at hc
  obtain⟨z,hz⟩:=hV i hi
  show _=some (Value.int .i64 (intOf (V i)))
  rw [hc,hz]
  rfl
theorem field_of{t T o c i:Nat}{fuel:Nat}{cs:List Value}{x:DataW H×List MemPlace}(hs:Tryz.prog.underlying t=some (.struct (Tryz.prog.fieldsOf t)))(hf:((Tryz.prog.fieldsOf t)[i]?).map (fun f=>(f.type,f.offset))=some (T,o))
  (hc:Tryz.prog.cellsOf T=c) (h:DataW.trod enc Tryz.prog W 0 spare held fuel t cs=some x):∃n y,DataW.trod enc Tryz.prog W 0 spare held n T ((cs.drop o).take c)=some y:=by
 obtain⟨f,hf1,hf2⟩:=Option.map_eq_some_iff.1 hf
 simp only [Prod.mk.injEq] at hf2
 obtain⟨rfl,rfl⟩:=hf2
 obtain⟨xs,n,_,_,_,hxl,hfs⟩:=DataW.trod_struct hs h
 have hi:i<(Tryz.prog.fieldsOf t).size:=(Array.getElem?_eq_some_iff.1 hf1).1
 have:=hfs i f hf1
 rw [hc,List.getElem?_eq_getElem (by omega)] at this
 exact⟨n,_,this⟩
theorem open_ptr_cells{fuel:Nat}{c0 c1:Value}{x:DataW H×List MemPlace}(h:DataW.trod enc Tryz.prog W 0 spare held fuel 96 [c0,c1]=some x):∃y z:Int,c0 = .int .i64 y∧c1 = .int .i64 z:=by
 obtain⟨n0,y0,h0⟩:=field_of (t:=96) (T:=2) (o:=0) (c:=1) (i:=0) (by kernel_rfl) (by kernel_rfl) (by kernel_rfl) h
 obtain⟨n1,y1,h1⟩:=field_of (t:=96) (T:=2) (o:=1) (c:=1) (i:=1) (by kernel_rfl) (by kernel_rfl) (by kernel_rfl) h
 obtain⟨y,hy,_⟩:=DataW.trod_int (show Tryz.prog.underlying 2=some (.int .i64)by kernel_rfl) h0
 obtain⟨z,hz,_⟩:=DataW.trod_int (show Tryz.prog.underlying 2=some (.int .i64)by kernel_rfl) h1
 exact⟨y,z,by simpa using hy,by simpa using hz⟩
theorem open_ptrs_at{fuel:Nat}{v:Value}{x:DataW H×List MemPlace}(h:DataW.trod enc Tryz.prog W 0 spare held fuel 97 [v]=some x):∃n f g,PtrsAt W 0 W.heap.size v n f g:=by
 rcases open_slice (t:=97) (e:=96) (by kernel_rfl) h with⟨hv,_⟩ | ⟨a,len,cap,m,n,D,Pl,hv,_,hl,hm,hmm,_,hx⟩
 ·exact⟨0,fun _=>0,fun _=>0,Nat.zero_le _,none,0,slice_val hv,Nat.le_refl _,fun h=>absurd h (Nat.lt_irrefl _)⟩
 ·have hlm:len≤m:=by rw [hmm]; split <;> omega
  have hc2:Tryz.prog.cellsOf 96=2:=by kernel_rfl
  rw [hc2] at hx
  have hV:∀i,i<len→∃y z:Int,W.cell? (a.add (i*2))=some (.int .i64 y)∧W.cell? ((a.add (i*2)).add 1)=some (.int .i64 z):=fun i hi=>by
   obtain⟨cs,hcs,ht⟩:=hx i (by omega)
   obtain⟨_,hlen,hcell⟩:=World.cells?_some hcs
   match cs,hlen with
   | [c0,c1],_=>
    obtain⟨y,z,rfl,rfl⟩:=open_ptr_cells ht
    have q0:=hcell 0 (by omega)
    have q1:=hcell 1 (by omega)
    rw [show(a.add (i*2)).add 0=a.add (i*2)by simp [Addr.add]] at q0
    exact⟨y,z,by simpa using q0,by simpa using q1⟩
  refine⟨len,fun i=>intOf ((W.cell? (a.add (i*2))).getD undef),fun i=>intOf ((W.cell? ((a.add (i*2)).add 1)).getD undef),by unfold maxLen at *; omega,some a,cap,slice_val hv,hl,fun h0=>?_⟩
  obtain⟨y,z,hc0,_⟩:=hV 0 h0
  rw [show a.add (0*2)=a by simp [Addr.add]] at hc0
  obtain⟨b,off,rfl⟩:=addr_of_cell hc0
  refine⟨b,off,rfl,Nat.zero_le _,lt_of_cell hc0,fun i hi=>?_⟩
  obtain⟨y,z,q0,q1⟩:=hV i hi
  show _=some (Value.int .i64 (intOf ((W.cell? _).getD undef)))∧_=some (Value.int .i64 (intOf ((W.cell? _).getD undef)))
  rw [q0,q1]
  rw [Addr.add_mid,Addr.add_mid] at q1
  rw [Addr.add_mid] at q0
  exact⟨q0,q1⟩
theorem open_slot_cells{fuel:Nat}{c0 c1 c2:Value}{x:DataW H×List MemPlace}(h:DataW.trod enc Tryz.prog W 0 spare held fuel 143 [c0,c1,c2]=some x):∃s,SlotAt W 0 W.heap.size c0 c1 c2 s:=by
 obtain⟨n0,y0,h0⟩:=field_of (t:=143) (T:=2) (o:=0) (c:=1) (i:=0) (by kernel_rfl) (by kernel_rfl) (by kernel_rfl) h
 obtain⟨n1,y1,h1⟩:=field_of (t:=143) (T:=97) (o:=1) (c:=1) (i:=1) (by kernel_rfl) (by kernel_rfl) (by kernel_rfl) h
 obtain⟨n2,y2,h2⟩:=field_of (t:=143) (T:=9) (o:=2) (c:=1) (i:=2) (by kernel_rfl) (by kernel_rfl) (by kernel_rfl) h
 obtain⟨y,hy,_⟩:=DataW.trod_int (show Tryz.prog.underlying 2=some (.int .i64)by kernel_rfl) h0
 obtain⟨n,f,g,hp⟩:=open_ptrs_at (v:=c1) (by simpa using h1)
 obtain⟨d,hd,_,hsz⟩:=DataW.trod_string (show Tryz.prog.underlying 9=some .string by kernel_rfl) h2
 exact⟨⟨y,n,f,g,d⟩,by simpa using hy,hp,by simpa using hd,hsz⟩
theorem open_slots_at{fuel:Nat}{v:Value}{x:DataW H×List MemPlace}(h:DataW.trod enc Tryz.prog W 0 spare held fuel 22 [v]=some x):∃n f,SlotsAt W 0 W.heap.size v n f:=by
 rcases open_slice (t:=22) (e:=143) (by kernel_rfl) h with⟨hv,_⟩ | ⟨a,len,cap,m,n,D,Pl,hv,_,hl,hm,hmm,_,hx⟩
 ·exact⟨0,fun _=>⟨0,0,fun _=>0,fun _=>0,ByteArray.empty⟩,Nat.zero_le _,none,0,slice_val hv,Nat.le_refl _,fun h=>absurd h (Nat.lt_irrefl _)⟩
 ·have hlm:len≤m:=by rw [hmm]; split <;> omega
  have hc3:Tryz.prog.cellsOf 143=3:=by kernel_rfl
  rw [hc3] at hx
  have hV:∀i,i<len→∃s:SlotD,∃c0 c1 c2,W.cell? (a.add (i*3))=some c0∧W.cell? ((a.add (i*3)).add 1)=some c1∧W.cell? ((a.add (i*3)).add 2)=some c2∧SlotAt W 0 W.heap.size c0 c1 c2 s:=fun i hi=>by
   obtain⟨cs,hcs,ht⟩:=hx i (by omega)
   obtain⟨_,hlen,hcell⟩:=World.cells?_some hcs
   match cs,hlen with
   | [c0,c1,c2],_=>
    obtain⟨s,hs⟩:=open_slot_cells ht
    have q0:=hcell 0 (by omega)
    have q1:=hcell 1 (by omega)
    have q2:=hcell 2 (by omega)
    rw [show(a.add (i*3)).add 0=a.add (i*3)by simp [Addr.add]] at q0
    exact⟨s,c0,c1,c2,by simpa using q0,by simpa using q1,by simpa using q2,hs⟩
  have hinh:Inhabited SlotD:=⟨⟨0,0,fun _=>0,fun _=>0,ByteArray.empty⟩⟩
  obtain⟨f,hf⟩:=choose_lt (α:=SlotD) (p:=fun i s=>∃c0 c1 c2,W.cell? (a.add (i*3))=some c0∧W.cell? ((a.add (i*3)).add 1)=some c1∧W.cell? ((a.add (i*3)).add 2)=some c2∧SlotAt W 0 W.heap.size c0 c1 c2 s) hV
  refine⟨len,f,by unfold maxLen at *; omega,some a,cap,slice_val hv,hl,fun h0=>?_⟩
  obtain⟨c0,c1,c2,hc0,_⟩:=hf 0 h0
  rw [show a.add (0*3)=a by simp [Addr.add]] at hc0
  obtain⟨b,off,rfl⟩:=addr_of_cell hc0
  refine⟨b,off,rfl,Nat.zero_le _,lt_of_cell hc0,fun i hi=>?_⟩
  obtain⟨c0,c1,c2,q0,q1,q2,hs⟩:=hf i hi
  rw [Addr.add_mid,Addr.add_mid] at q1 q2
  rw [Addr.add_mid] at q0
  exact⟨c0,c1,c2,q0,q1,q2,hs⟩
end
end Go.Proofs.YtihdcanckbkgfaaGreatDoor
