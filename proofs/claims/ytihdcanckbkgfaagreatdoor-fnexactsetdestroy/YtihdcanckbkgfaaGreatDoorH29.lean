/- What the laws' marking of sets and snapshots leaves (no law is proved here). -/
import Derived.Test.YtihdcanckbkgfaaGreatDoorH28
import Derived.Test.YtihdcanckbkgfaaGreatDoorH18
import Derived.Test.YtihdcanckbkgfaaGreatDoorH3
import Derived.Test.YtihdcanckbkgfaaGreatDoorH26
import Derived.Test.YtihdcanckbkgfaaGreatDoorH27
import Derived.Test.YtihdcanckbkgfaaGreatDoorH22
import Derived.Test.YtihdcanckbkgfaaGreatDoorH24
import Derived.Test.YtihdcanckbkgfaaGreatDoorH20
namespace Go.Proofs.YtihdcanckbkgfaaGreatDoor
open Go.RowKit
set_option linter.unusedVariables false
def cntSet(f:Nat→SetD)(k0:Int):Nat→Int
 | 0=>k0
 | j+1=>cntSet f k0 j+5+2*(f j).dn
def markedSet(s:SetD)(c:Int):SetD:={name:=mtF (c),origin:=c+1,prev:=c+1+1,rs:=c+1+1+1,rb:=c+1+1+1+1,dn:=s.dn,ds:=fun i=>c+1+1+1+1+1+2*i,db:=fun i=>c+1+1+1+1+1+2*i+1}
theorem cntSet_mono(f:Nat→SetD)(k0:Int)(j:Nat):∀m,cntSet f k0 j≤cntSet f k0 (j+m)
 | 0=>Int.le_refl _
 | m+1=>by
  have:=cntSet_mono f k0 j m
  show _≤cntSet f k0 (j+m)+5+2*((f (j+m)).dn:Int)
  omega
theorem cntSet_le(f:Nat→SetD)(k0:Int){j n:Nat}(h:j≤n):cntSet f k0 j≤cntSet f k0 n:=by
 obtain⟨m,rfl⟩:=Nat.exists_eq_add_of_le h
 exact cntSet_mono f k0 j m
def markSetD(f:Nat→SetD)(k0:Int)(j:Nat):SetD:=markedSet (f j) (cntSet f k0 j)
theorem stSet_start(f:Nat→SetD)(k0:Int)(j:Nat):(if j<0 then markSetD f k0 j else f j)=f j:=if_neg (by omega)
theorem stSet_dn(f:Nat→SetD)(k0:Int)(k j:Nat):(if j<k then markSetD f k0 j else f j).dn=(f j).dn:=by split <;> rfl
set_option maxRecDepth 20000 in
set_option maxHeartbeats 1000000 in
theorem markSetS_any(bs:Nat)(kb:Nat→Nat)(kv:Nat→Value)(v:Value)(n:Nat)(f:Nat→SetD)(k0:Int)(w:World)(h1:SetsOwn w bs kb kv v n f)(hap:SetsApart kb n f)(hk0:0≤k0)(hk1:cntSet f k0 n≤1000000000000) :
  Calls Tryz.prog 43 #[v,.int .i64 k0] w fun e w'=>e = .returned (.int .i64 (cntSet f k0 n))∧SetsOwn w' bs kb kv v n (markSetD f k0)∧Turned (SetsB bs kb n f) w w':=by
 obtain⟨m1,a,c,rfl,mc,g1⟩:=h1
 by_cases hn0:n=0
 ·subst hn0
  go_enter Tryz.func43,Tryz.ntmps43
  go_wp2
  refine wp_loop_rounds 1 ?_
  rw [rounds_succ]
  go_wp2
  go_ret
  exact⟨by simp [cntSet],⟨m1,a,c,rfl,mc,fun h=>absurd h (by omega)⟩,Turned.refl _ _⟩
 ·obtain⟨off,rfl,g2⟩:=g1 (by omega)
  clear g1
  have hm1:=m1
  unfold maxLen at m1
  have G2:=hideM g2
  have Hap:=hideM hap
  have Hk1:=hideM hk1
  clear g2 hap hk1
  go_enter Tryz.func43,Tryz.ntmps43
  go_wp2
  go_loopw [1,5] (fun m i wr=>∃k:Nat,k≤n∧i = .int .i64 k∧m = .int .i64 (cntSet f k0 k)∧(∀j,j<n→SetOwn wr bs (off+j*6) (kb j) (kv j) (if j<k then markSetD f k0 j else f j))∧Turned (SetsB bs kb n f) w wr) (fun _ i _=>n - (intOf i).toNat)
  case atStart=>exact⟨0,Nat.zero_le _,rfl,rfl,fun j hj=>by rw [stSet_start]; exact G2.out j hj,Turned.refl _ _⟩
  case round=>
   obtain⟨k,hk,rfl,rfl,hall,ht⟩:=hrel
   have Hall:=hideM hall
   clear hall
   by_cases hlt:k<n
   ·have hlt':(k:Int)<(n:Int):=by omega
    have hs:=Hall.out k hlt
    rw [if_neg (by omega)] at hs
    have hc0:k0≤cntSet f k0 k:=cntSet_le f k0 (Nat.zero_le k)
    have hc1:cntSet f k0 k+5+2*((f k).dn:Int)≤1000000000000:=Int.le_trans (cntSet_le f k0 (show k+1≤n from hlt)) Hk1.out
    have Hs:=hideM hs
    obtain⟨-,ka,kc,hkv,-⟩:=hs.dead
    clear hs
    generalize hx:kv k=kvk at *
    have Hx:=hideM hx
    clear hx
    subst hkv
    obtain⟨⟨p0,p0'⟩,⟨p1,p1'⟩,⟨p2,p2'⟩,⟨p3,p3'⟩,⟨p4,p4'⟩,⟨p5,p5'⟩⟩:=And.intro Hs.out.c0 (And.intro Hs.out.c1 (And.intro Hs.out.c2 (And.intro Hs.out.c3 (And.intro Hs.out.c4 Hs.out.c5))))
    have HR:=hideM (RowTurned.refl bs (off+k*6) 6 wr)
    go_wp2_with fail
    clear p0 p0' p1 p1' p2 p2' p3 p3' p4 p4' p5 p5'
    have C1a:=hideM Hs.out.c0
    have C1b:=hideM Hs.out.c1
    have C1c:=hideM Hs.out.c2
    have C1d:=hideM Hs.out.c3
    have C1e:=hideM Hs.out.c4
    have C1f:=hideM Hs.out.c5
    have HR1:=hideM HR.out
    refine(markText_any _ wr (by omega)).mono ?_
    rintro e w1 ⟨rfl,hb1⟩
    have D1a:=hideM (C1a.out.below hb1)
    have D1b:=hideM (C1b.out.below hb1)
    have D1c:=hideM (C1c.out.below hb1)
    have D1d:=hideM (C1d.out.below hb1)
    have D1e:=hideM (C1e.out.below hb1)
    have D1f:=hideM (C1f.out.below hb1)
    have HS1:=hideM (HR1.out.below hb1)
    clear hb1 HR1 C1a C1b C1c C1d C1e C1f
    obtain⟨p0,p0'⟩:=D1a.out
    obtain⟨p1,p1'⟩:=D1b.out
    obtain⟨p2,p2'⟩:=D1c.out
    obtain⟨p3,p3'⟩:=D1d.out
    obtain⟨p4,p4'⟩:=D1e.out
    obtain⟨p5,p5'⟩:=D1f.out
    go_wp2_with fail
    clear p0 p0' p1 p1' p2 p2' p3 p3' p4 p4' p5 p5'
    have Ea:=hideM (((((D1a.out.set (.string (mtF (cntSet f k0 k)))).other (b':=bs) (o':=off+k*6+1) (.int .i64 (cntSet f k0 k+1)) (Or.inr (by omega))).other (b':=bs) (o':=off+k*6+2) (.int .i64 (cntSet f k0 k+1+1)) (Or.inr (by omega))).other (b':=bs) (o':=off+k*6+3) (.int .i64 (cntSet f k0 k+1+1+1)) (Or.inr (by omega))).other (b':=bs) (o':=off+k*6+3+1) (.int .i64 (cntSet f k0 k+1+1+1+1)) (Or.inr (by omega)))
    have Eb:=hideM (((((D1b.out.other (b':=bs) (o':=off+k*6) (.string (mtF (cntSet f k0 k))) (Or.inr (by omega))).set (.int .i64 (cntSet f k0 k+1))).other (b':=bs) (o':=off+k*6+2) (.int .i64 (cntSet f k0 k+1+1)) (Or.inr (by omega))).other (b':=bs) (o':=off+k*6+3) (.int .i64 (cntSet f k0 k+1+1+1)) (Or.inr (by omega))).other (b':=bs) (o':=off+k*6+3+1) (.int .i64 (cntSet f k0 k+1+1+1+1)) (Or.inr (by omega)))
    have Ec:=hideM (((((D1c.out.other (b':=bs) (o':=off+k*6) (.string (mtF (cntSet f k0 k))) (Or.inr (by omega))).other (b':=bs) (o':=off+k*6+1) (.int .i64 (cntSet f k0 k+1)) (Or.inr (by omega))).set (.int .i64 (cntSet f k0 k+1+1))).other (b':=bs) (o':=off+k*6+3) (.int .i64 (cntSet f k0 k+1+1+1)) (Or.inr (by omega))).other (b':=bs) (o':=off+k*6+3+1) (.int .i64 (cntSet f k0 k+1+1+1+1)) (Or.inr (by omega)))
    have Ed:=hideM (((((D1d.out.other (b':=bs) (o':=off+k*6) (.string (mtF (cntSet f k0 k))) (Or.inr (by omega))).other (b':=bs) (o':=off+k*6+1) (.int .i64 (cntSet f k0 k+1)) (Or.inr (by omega))).other (b':=bs) (o':=off+k*6+2) (.int .i64 (cntSet f k0 k+1+1)) (Or.inr (by omega))).set (.int .i64 (cntSet f k0 k+1+1+1))).other (b':=bs) (o':=off+k*6+3+1) (.int .i64 (cntSet f k0 k+1+1+1+1)) (Or.inr (by omega)))
    have Ee:=hideM (((((D1e.out.other (b':=bs) (o':=off+k*6) (.string (mtF (cntSet f k0 k))) (Or.inr (by omega))).other (b':=bs) (o':=off+k*6+1) (.int .i64 (cntSet f k0 k+1)) (Or.inr (by omega))).other (b':=bs) (o':=off+k*6+2) (.int .i64 (cntSet f k0 k+1+1)) (Or.inr (by omega))).other (b':=bs) (o':=off+k*6+3) (.int .i64 (cntSet f k0 k+1+1+1)) (Or.inr (by omega))).set (.int .i64 (cntSet f k0 k+1+1+1+1)))
    have Ef:=hideM (((((D1f.out.other (b':=bs) (o':=off+k*6) (.string (mtF (cntSet f k0 k))) (Or.inr (by omega))).other (b':=bs) (o':=off+k*6+1) (.int .i64 (cntSet f k0 k+1)) (Or.inr (by omega))).other (b':=bs) (o':=off+k*6+2) (.int .i64 (cntSet f k0 k+1+1)) (Or.inr (by omega))).other (b':=bs) (o':=off+k*6+3) (.int .i64 (cntSet f k0 k+1+1+1)) (Or.inr (by omega))).other (b':=bs) (o':=off+k*6+3+1) (.int .i64 (cntSet f k0 k+1+1+1+1)) (Or.inr (by omega)))
    have HRE:=hideM (((((HS1.out.set (off+k*6) (.string (mtF (cntSet f k0 k))) (by omega) (by omega)).set (off+k*6+1) (.int .i64 (cntSet f k0 k+1)) (by omega) (by omega)).set (off+k*6+2) (.int .i64 (cntSet f k0 k+1+1)) (by omega) (by omega)).set (off+k*6+3) (.int .i64 (cntSet f k0 k+1+1+1)) (by omega) (by omega)).set (off+k*6+3+1) (.int .i64 (cntSet f k0 k+1+1+1+1)) (by omega) (by omega))
    generalize (((((w1.setCell ⟨bs,off+k*6,none⟩ (.string (mtF (cntSet f k0 k)))).setCell ⟨bs,off+k*6+1,none⟩ (.int .i64 (cntSet f k0 k+1))).setCell ⟨bs,off+k*6+2,none⟩ (.int .i64 (cntSet f k0 k+1+1))).setCell ⟨bs,off+k*6+3,none⟩ (.int .i64 (cntSet f k0 k+1+1+1))).setCell ⟨bs,off+k*6+3+1,none⟩ (.int .i64 (cntSet f k0 k+1+1+1+1)))=Y at Ea Eb Ec Ed Ee Ef HRE ⊢
    refine(markPtrS_any (kb k) _ (f k).dn (f k).ds (f k).db _ Y (Hs.out.dead.turned HRE.out.turned (fun h0 hx=>Hs.out.apart h0 hx)) (by omega) (by omega)).mono ?_
    rintro e wz ⟨rfl,hpz,htz⟩
    have Hpz:=hideM hpz
    have Htz:=hideM htz
    clear hpz htz
    go_wp2
    go_roundw
    case rel=>
     refine⟨k+1,by omega,by go_num,congrArg (Value.int .i64) (by show _=cntSet f k0 k+5+2*((f k).dn:Int); omega),fun j hj=>?_,?_⟩
     ·have st:=Set_step (s:=markSetD f k0 k) Hall.out (by
        intro i j hi hj hij h1 h2
        rw [stSet_dn] at h1 h2
        exact Hap.out i j hi hj hij h1 h2) hlt HRE.out (by rw [if_neg (Nat.lt_irrefl k)]; exact Htz.out) Ea.out Eb.out Ec.out Ed.out Ee.out (by rw [Hx.out]; exact Ef.out) (by rw [if_neg (Nat.lt_irrefl k)]; rfl) (by rw [Hx.out]; exact Hpz.out) (mtF_size (by omega)) j hj
      by_cases e:j=k
      ·subst e
       rw [if_pos rfl] at st
       rw [if_pos (by omega)]
       exact st
      ·rw [if_neg e] at st
       by_cases e2:j<k
       ·rw [if_pos e2] at st; rw [if_pos (by omega)]; exact st
       ·rw [if_neg e2] at st; rw [if_neg (by omega)]; exact st
     ·refine(ht.trans (HRE.out.turned.mono ?_)).trans (Htz.out.mono ?_)
      ·rintro b rfl
       exact Or.inl ⟨by omega,rfl⟩
      ·rintro b ⟨hb,rfl⟩
       exact Or.inr ⟨k,hlt,hb,rfl⟩
    case measure=>simp [intOf]; omega
   ·obtain rfl:k=n:=by omega
    go_wp2
    go_ret
    refine⟨rfl,⟨hm1,_,c,rfl,mc,fun _=>⟨off,rfl,fun i hi=>?_⟩⟩,ht⟩
    have:=Hall.out i hi
    rw [if_pos hi] at this
    exact this
def cntSnap(f:Nat→SnapD)(k0:Int):Nat→Int
 | 0=>k0
 | j+1=>cntSnap f k0 j+7+2*(f j).dn
def markedSnap(s:SnapD)(c:Int):SnapD:={id:=c,name:=mtF (c+1),set:=mtF (c+1+1),prev:=c+1+1+1,time:=c+1+1+1+1,rs:=c+1+1+1+1+1,rb:=c+1+1+1+1+1+1,dn:=s.dn,ds:=fun i=>c+1+1+1+1+1+1+1+2*i,db:=fun i=>c+1+1+1+1+1+1+1+2*i+1}
theorem cntSnap_mono(f:Nat→SnapD)(k0:Int)(j:Nat):∀m,cntSnap f k0 j≤cntSnap f k0 (j+m)
 | 0=>Int.le_refl _
 | m+1=>by
  have:=cntSnap_mono f k0 j m
  show _≤cntSnap f k0 (j+m)+7+2*((f (j+m)).dn:Int)
  omega
theorem cntSnap_le(f:Nat→SnapD)(k0:Int){j n:Nat}(h:j≤n):cntSnap f k0 j≤cntSnap f k0 n:=by
 obtain⟨m,rfl⟩:=Nat.exists_eq_add_of_le h
 exact cntSnap_mono f k0 j m
def markSnapD(f:Nat→SnapD)(k0:Int)(j:Nat):SnapD:=markedSnap (f j) (cntSnap f k0 j)
theorem stSnap_start(f:Nat→SnapD)(k0:Int)(j:Nat):(if j<0 then markSnapD f k0 j else f j)=f j:=if_neg (by omega)
theorem stSnap_dn(f:Nat→SnapD)(k0:Int)(k j:Nat):(if j<k then markSnapD f k0 j else f j).dn=(f j).dn:=by split <;> rfl
set_option maxRecDepth 20000 in
set_option maxHeartbeats 1000000 in
theorem markSnapS_any(bs:Nat)(kb:Nat→Nat)(kv:Nat→Value)(v:Value)(n:Nat)(f:Nat→SnapD)(k0:Int)(w:World)(h1:SnapsOwn w bs kb kv v n f)(hap:SnapsApart kb n f)(hk0:0≤k0)(hk1:cntSnap f k0 n≤1000000000000) :
  Calls Tryz.prog 44 #[v,.int .i64 k0] w fun e w'=>e = .returned (.int .i64 (cntSnap f k0 n))∧SnapsOwn w' bs kb kv v n (markSnapD f k0)∧Turned (SnapsB bs kb n f) w w':=by
 obtain⟨m1,a,c,rfl,mc,g1⟩:=h1
 by_cases hn0:n=0
 ·subst hn0
  go_enter Tryz.func44,Tryz.ntmps44
  go_wp2
  refine wp_loop_rounds 1 ?_
  rw [rounds_succ]
  go_wp2
  go_ret
  exact⟨by simp [cntSnap],⟨m1,a,c,rfl,mc,fun h=>absurd h (by omega)⟩,Turned.refl _ _⟩
 ·obtain⟨off,rfl,g2⟩:=g1 (by omega)
  clear g1
  have hm1:=m1
  unfold maxLen at m1
  have G2:=hideM g2
  have Hap:=hideM hap
  have Hk1:=hideM hk1
  clear g2 hap hk1
  go_enter Tryz.func44,Tryz.ntmps44
  go_wp2
  go_loopw [1,5] (fun m i wr=>∃k:Nat,k≤n∧i = .int .i64 k∧m = .int .i64 (cntSnap f k0 k)∧(∀j,j<n→SnapOwn wr bs (off+j*8) (kb j) (kv j) (if j<k then markSnapD f k0 j else f j))∧Turned (SnapsB bs kb n f) w wr) (fun _ i _=>n - (intOf i).toNat)
  case atStart=>exact⟨0,Nat.zero_le _,rfl,rfl,fun j hj=>by rw [stSnap_start]; exact G2.out j hj,Turned.refl _ _⟩
  case round=>
   obtain⟨k,hk,rfl,rfl,hall,ht⟩:=hrel
   have Hall:=hideM hall
   clear hall
   by_cases hlt:k<n
   ·have hlt':(k:Int)<(n:Int):=by omega
    have hs:=Hall.out k hlt
    rw [if_neg (by omega)] at hs
    have hc0:k0≤cntSnap f k0 k:=cntSnap_le f k0 (Nat.zero_le k)
    have hc1:cntSnap f k0 k+7+2*((f k).dn:Int)≤1000000000000:=Int.le_trans (cntSnap_le f k0 (show k+1≤n from hlt)) Hk1.out
    have Hs:=hideM hs
    obtain⟨-,ka,kc,hkv,-⟩:=hs.dead
    clear hs
    generalize hx:kv k=kvk at *
    have Hx:=hideM hx
    clear hx
    subst hkv
    obtain⟨⟨p0,p0'⟩,⟨p1,p1'⟩,⟨p2,p2'⟩,⟨p3,p3'⟩,⟨p4,p4'⟩,⟨p5,p5'⟩,⟨p6,p6'⟩,⟨p7,p7'⟩⟩:=And.intro Hs.out.c0 (And.intro Hs.out.c1 (And.intro Hs.out.c2 (And.intro Hs.out.c3 (And.intro Hs.out.c4 (And.intro Hs.out.c5 (And.intro Hs.out.c6 Hs.out.c7))))))
    have HR:=hideM (RowTurned.refl bs (off+k*8) 8 wr)
    go_wp2_with fail
    clear p0 p0' p1 p1' p2 p2' p3 p3' p4 p4' p5 p5' p6 p6' p7 p7'
    have C1a:=hideM (Hs.out.c0.set (.int .i64 (cntSnap f k0 k)))
    have C1b:=hideM (Hs.out.c1.other (b':=bs) (o':=off+k*8) (.int .i64 (cntSnap f k0 k)) (Or.inr (by omega)))
    have C1c:=hideM (Hs.out.c2.other (b':=bs) (o':=off+k*8) (.int .i64 (cntSnap f k0 k)) (Or.inr (by omega)))
    have C1d:=hideM (Hs.out.c3.other (b':=bs) (o':=off+k*8) (.int .i64 (cntSnap f k0 k)) (Or.inr (by omega)))
    have C1e:=hideM (Hs.out.c4.other (b':=bs) (o':=off+k*8) (.int .i64 (cntSnap f k0 k)) (Or.inr (by omega)))
    have C1f:=hideM (Hs.out.c5.other (b':=bs) (o':=off+k*8) (.int .i64 (cntSnap f k0 k)) (Or.inr (by omega)))
    have C1g:=hideM (Hs.out.c6.other (b':=bs) (o':=off+k*8) (.int .i64 (cntSnap f k0 k)) (Or.inr (by omega)))
    have C1h:=hideM (Hs.out.c7.other (b':=bs) (o':=off+k*8) (.int .i64 (cntSnap f k0 k)) (Or.inr (by omega)))
    have HR1:=hideM (HR.out.set (off+k*8) (.int .i64 (cntSnap f k0 k)) (by omega) (by omega))
    generalize (wr.setCell ⟨bs,off+k*8,none⟩ (.int .i64 (cntSnap f k0 k)))=Y1 at C1a C1b C1c C1d C1e C1f C1g C1h HR1 ⊢
    refine(markText_any _ Y1 (by omega)).mono ?_
    rintro e w1 ⟨rfl,hb1⟩
    have D1a:=hideM (C1a.out.below hb1)
    have D1b:=hideM (C1b.out.below hb1)
    have D1c:=hideM (C1c.out.below hb1)
    have D1d:=hideM (C1d.out.below hb1)
    have D1e:=hideM (C1e.out.below hb1)
    have D1f:=hideM (C1f.out.below hb1)
    have D1g:=hideM (C1g.out.below hb1)
    have D1h:=hideM (C1h.out.below hb1)
    have HS1:=hideM (HR1.out.below hb1)
    clear hb1 HR1 C1a C1b C1c C1d C1e C1f C1g C1h
    obtain⟨p0,p0'⟩:=D1a.out
    obtain⟨p1,p1'⟩:=D1b.out
    obtain⟨p2,p2'⟩:=D1c.out
    obtain⟨p3,p3'⟩:=D1d.out
    obtain⟨p4,p4'⟩:=D1e.out
    obtain⟨p5,p5'⟩:=D1f.out
    obtain⟨p6,p6'⟩:=D1g.out
    obtain⟨p7,p7'⟩:=D1h.out
    go_wp2_with fail
    clear p0 p0' p1 p1' p2 p2' p3 p3' p4 p4' p5 p5' p6 p6' p7 p7'
    have C2a:=hideM (D1a.out.other (b':=bs) (o':=off+k*8+1) (.string (mtF (cntSnap f k0 k+1))) (Or.inr (by omega)))
    have C2b:=hideM (D1b.out.set (.string (mtF (cntSnap f k0 k+1))))
    have C2c:=hideM (D1c.out.other (b':=bs) (o':=off+k*8+1) (.string (mtF (cntSnap f k0 k+1))) (Or.inr (by omega)))
    have C2d:=hideM (D1d.out.other (b':=bs) (o':=off+k*8+1) (.string (mtF (cntSnap f k0 k+1))) (Or.inr (by omega)))
    have C2e:=hideM (D1e.out.other (b':=bs) (o':=off+k*8+1) (.string (mtF (cntSnap f k0 k+1))) (Or.inr (by omega)))
    have C2f:=hideM (D1f.out.other (b':=bs) (o':=off+k*8+1) (.string (mtF (cntSnap f k0 k+1))) (Or.inr (by omega)))
    have C2g:=hideM (D1g.out.other (b':=bs) (o':=off+k*8+1) (.string (mtF (cntSnap f k0 k+1))) (Or.inr (by omega)))
    have C2h:=hideM (D1h.out.other (b':=bs) (o':=off+k*8+1) (.string (mtF (cntSnap f k0 k+1))) (Or.inr (by omega)))
    have HR2:=hideM (HS1.out.set (off+k*8+1) (.string (mtF (cntSnap f k0 k+1))) (by omega) (by omega))
    generalize (w1.setCell ⟨bs,off+k*8+1,none⟩ (.string (mtF (cntSnap f k0 k+1))))=Y2 at C2a C2b C2c C2d C2e C2f C2g C2h HR2 ⊢
    refine(markText_any _ Y2 (by omega)).mono ?_
    rintro e w2 ⟨rfl,hb2⟩
    have D2a:=hideM (C2a.out.below hb2)
    have D2b:=hideM (C2b.out.below hb2)
    have D2c:=hideM (C2c.out.below hb2)
    have D2d:=hideM (C2d.out.below hb2)
    have D2e:=hideM (C2e.out.below hb2)
    have D2f:=hideM (C2f.out.below hb2)
    have D2g:=hideM (C2g.out.below hb2)
    have D2h:=hideM (C2h.out.below hb2)
    have HS2:=hideM (HR2.out.below hb2)
    clear hb2 HR2 C2a C2b C2c C2d C2e C2f C2g C2h
    obtain⟨p0,p0'⟩:=D2a.out
    obtain⟨p1,p1'⟩:=D2b.out
    obtain⟨p2,p2'⟩:=D2c.out
    obtain⟨p3,p3'⟩:=D2d.out
    obtain⟨p4,p4'⟩:=D2e.out
    obtain⟨p5,p5'⟩:=D2f.out
    obtain⟨p6,p6'⟩:=D2g.out
    obtain⟨p7,p7'⟩:=D2h.out
    go_wp2_with fail
    clear p0 p0' p1 p1' p2 p2' p3 p3' p4 p4' p5 p5' p6 p6' p7 p7'
    have Ea:=hideM (((((D2a.out.other (b':=bs) (o':=off+k*8+2) (.string (mtF (cntSnap f k0 k+1+1))) (Or.inr (by omega))).other (b':=bs) (o':=off+k*8+3) (.int .i64 (cntSnap f k0 k+1+1+1)) (Or.inr (by omega))).other (b':=bs) (o':=off+k*8+4) (.int .i64 (cntSnap f k0 k+1+1+1+1)) (Or.inr (by omega))).other (b':=bs) (o':=off+k*8+5) (.int .i64 (cntSnap f k0 k+1+1+1+1+1)) (Or.inr (by omega))).other (b':=bs) (o':=off+k*8+5+1) (.int .i64 (cntSnap f k0 k+1+1+1+1+1+1)) (Or.inr (by omega)))
    have Eb:=hideM (((((D2b.out.other (b':=bs) (o':=off+k*8+2) (.string (mtF (cntSnap f k0 k+1+1))) (Or.inr (by omega))).other (b':=bs) (o':=off+k*8+3) (.int .i64 (cntSnap f k0 k+1+1+1)) (Or.inr (by omega))).other (b':=bs) (o':=off+k*8+4) (.int .i64 (cntSnap f k0 k+1+1+1+1)) (Or.inr (by omega))).other (b':=bs) (o':=off+k*8+5) (.int .i64 (cntSnap f k0 k+1+1+1+1+1)) (Or.inr (by omega))).other (b':=bs) (o':=off+k*8+5+1) (.int .i64 (cntSnap f k0 k+1+1+1+1+1+1)) (Or.inr (by omega)))
    have Ec:=hideM (((((D2c.out.set (.string (mtF (cntSnap f k0 k+1+1)))).other (b':=bs) (o':=off+k*8+3) (.int .i64 (cntSnap f k0 k+1+1+1)) (Or.inr (by omega))).other (b':=bs) (o':=off+k*8+4) (.int .i64 (cntSnap f k0 k+1+1+1+1)) (Or.inr (by omega))).other (b':=bs) (o':=off+k*8+5) (.int .i64 (cntSnap f k0 k+1+1+1+1+1)) (Or.inr (by omega))).other (b':=bs) (o':=off+k*8+5+1) (.int .i64 (cntSnap f k0 k+1+1+1+1+1+1)) (Or.inr (by omega)))
    have Ed:=hideM (((((D2d.out.other (b':=bs) (o':=off+k*8+2) (.string (mtF (cntSnap f k0 k+1+1))) (Or.inr (by omega))).set (.int .i64 (cntSnap f k0 k+1+1+1))).other (b':=bs) (o':=off+k*8+4) (.int .i64 (cntSnap f k0 k+1+1+1+1)) (Or.inr (by omega))).other (b':=bs) (o':=off+k*8+5) (.int .i64 (cntSnap f k0 k+1+1+1+1+1)) (Or.inr (by omega))).other (b':=bs) (o':=off+k*8+5+1) (.int .i64 (cntSnap f k0 k+1+1+1+1+1+1)) (Or.inr (by omega)))
    have Ee:=hideM (((((D2e.out.other (b':=bs) (o':=off+k*8+2) (.string (mtF (cntSnap f k0 k+1+1))) (Or.inr (by omega))).other (b':=bs) (o':=off+k*8+3) (.int .i64 (cntSnap f k0 k+1+1+1)) (Or.inr (by omega))).set (.int .i64 (cntSnap f k0 k+1+1+1+1))).other (b':=bs) (o':=off+k*8+5) (.int .i64 (cntSnap f k0 k+1+1+1+1+1)) (Or.inr (by omega))).other (b':=bs) (o':=off+k*8+5+1) (.int .i64 (cntSnap f k0 k+1+1+1+1+1+1)) (Or.inr (by omega)))
    have Ef:=hideM (((((D2f.out.other (b':=bs) (o':=off+k*8+2) (.string (mtF (cntSnap f k0 k+1+1))) (Or.inr (by omega))).other (b':=bs) (o':=off+k*8+3) (.int .i64 (cntSnap f k0 k+1+1+1)) (Or.inr (by omega))).other (b':=bs) (o':=off+k*8+4) (.int .i64 (cntSnap f k0 k+1+1+1+1)) (Or.inr (by omega))).set (.int .i64 (cntSnap f k0 k+1+1+1+1+1))).other (b':=bs) (o':=off+k*8+5+1) (.int .i64 (cntSnap f k0 k+1+1+1+1+1+1)) (Or.inr (by omega)))
    have Eg:=hideM (((((D2g.out.other (b':=bs) (o':=off+k*8+2) (.string (mtF (cntSnap f k0 k+1+1))) (Or.inr (by omega))).other (b':=bs) (o':=off+k*8+3) (.int .i64 (cntSnap f k0 k+1+1+1)) (Or.inr (by omega))).other (b':=bs) (o':=off+k*8+4) (.int .i64 (cntSnap f k0 k+1+1+1+1)) (Or.inr (by omega))).other (b':=bs) (o':=off+k*8+5) (.int .i64 (cntSnap f k0 k+1+1+1+1+1)) (Or.inr (by omega))).set (.int .i64 (cntSnap f k0 k+1+1+1+1+1+1)))
    have Eh:=hideM (((((D2h.out.other (b':=bs) (o':=off+k*8+2) (.string (mtF (cntSnap f k0 k+1+1))) (Or.inr (by omega))).other (b':=bs) (o':=off+k*8+3) (.int .i64 (cntSnap f k0 k+1+1+1)) (Or.inr (by omega))).other (b':=bs) (o':=off+k*8+4) (.int .i64 (cntSnap f k0 k+1+1+1+1)) (Or.inr (by omega))).other (b':=bs) (o':=off+k*8+5) (.int .i64 (cntSnap f k0 k+1+1+1+1+1)) (Or.inr (by omega))).other (b':=bs) (o':=off+k*8+5+1) (.int .i64 (cntSnap f k0 k+1+1+1+1+1+1)) (Or.inr (by omega)))
    have HRE:=hideM (((((HS2.out.set (off+k*8+2) (.string (mtF (cntSnap f k0 k+1+1))) (by omega) (by omega)).set (off+k*8+3) (.int .i64 (cntSnap f k0 k+1+1+1)) (by omega) (by omega)).set (off+k*8+4) (.int .i64 (cntSnap f k0 k+1+1+1+1)) (by omega) (by omega)).set (off+k*8+5) (.int .i64 (cntSnap f k0 k+1+1+1+1+1)) (by omega) (by omega)).set (off+k*8+5+1) (.int .i64 (cntSnap f k0 k+1+1+1+1+1+1)) (by omega) (by omega))
    generalize (((((w2.setCell ⟨bs,off+k*8+2,none⟩ (.string (mtF (cntSnap f k0 k+1+1)))).setCell ⟨bs,off+k*8+3,none⟩ (.int .i64 (cntSnap f k0 k+1+1+1))).setCell ⟨bs,off+k*8+4,none⟩ (.int .i64 (cntSnap f k0 k+1+1+1+1))).setCell ⟨bs,off+k*8+5,none⟩ (.int .i64 (cntSnap f k0 k+1+1+1+1+1))).setCell ⟨bs,off+k*8+5+1,none⟩ (.int .i64 (cntSnap f k0 k+1+1+1+1+1+1)))=Y at Ea Eb Ec Ed Ee Ef Eg Eh HRE ⊢
    refine(markPtrS_any (kb k) _ (f k).dn (f k).ds (f k).db _ Y (Hs.out.dead.turned HRE.out.turned (fun h0 hx=>Hs.out.apart h0 hx)) (by omega) (by omega)).mono ?_
    rintro e wz ⟨rfl,hpz,htz⟩
    have Hpz:=hideM hpz
    have Htz:=hideM htz
    clear hpz htz
    go_wp2
    go_roundw
    case rel=>
     refine⟨k+1,by omega,by go_num,congrArg (Value.int .i64) (by show _=cntSnap f k0 k+7+2*((f k).dn:Int); omega),fun j hj=>?_,?_⟩
     ·have st:=Snap_step (s:=markSnapD f k0 k) Hall.out (by
        intro i j hi hj hij h1 h2
        rw [stSnap_dn] at h1 h2
        exact Hap.out i j hi hj hij h1 h2) hlt HRE.out (by rw [if_neg (Nat.lt_irrefl k)]; exact Htz.out) Ea.out Eb.out Ec.out Ed.out Ee.out Ef.out Eg.out (by rw [Hx.out]; exact Eh.out) (by rw [if_neg (Nat.lt_irrefl k)]; rfl) (by rw [Hx.out]; exact Hpz.out) ⟨mtF_size (by omega),mtF_size (by omega)⟩ j hj
      by_cases e:j=k
      ·subst e
       rw [if_pos rfl] at st
       rw [if_pos (by omega)]
       exact st
      ·rw [if_neg e] at st
       by_cases e2:j<k
       ·rw [if_pos e2] at st; rw [if_pos (by omega)]; exact st
       ·rw [if_neg e2] at st; rw [if_neg (by omega)]; exact st
     ·refine(ht.trans (HRE.out.turned.mono ?_)).trans (Htz.out.mono ?_)
      ·rintro b rfl
       exact Or.inl ⟨by omega,rfl⟩
      ·rintro b ⟨hb,rfl⟩
       exact Or.inr ⟨k,hlt,hb,rfl⟩
    case measure=>simp [intOf]; omega
   ·obtain rfl:k=n:=by omega
    go_wp2
    go_ret
    refine⟨rfl,⟨hm1,_,c,rfl,mc,fun _=>⟨off,rfl,fun i hi=>?_⟩⟩,ht⟩
    have:=Hall.out i hi
    rw [if_pos hi] at this
    exact this
def markW(W:WorldD)(k0:Int):WorldD:={pool:=markP W.pool k0,time:=W.time,next:=W.next,sn:=W.sn,sets:=markSetD W.sets (endP W.pool k0),pn:=W.pn,snaps:=markSnapD W.snaps (cntSet W.sets (endP W.pool k0) W.sn)}
def endW(W:WorldD)(k0:Int):Int:=cntSnap W.snaps (cntSet W.sets (endP W.pool k0) W.sn) W.pn
theorem endP_le(p:PoolD)(k0:Int):k0≤endP p k0:=by
 unfold endP
 have:=cntSl_le p.s k0 (Nat.zero_le p.n)
 have h0:cntSl p.s k0 0=k0:=rfl
 omega
theorem endW_le(W:WorldD)(k0:Int):k0≤endP W.pool k0∧endP W.pool k0≤cntSet W.sets (endP W.pool k0) W.sn∧cntSet W.sets (endP W.pool k0) W.sn≤endW W k0:=
 ⟨endP_le _ _,cntSet_le W.sets (endP W.pool k0) (Nat.zero_le _),cntSnap_le W.snaps (cntSet W.sets (endP W.pool k0) W.sn) (Nat.zero_le _)⟩
set_option maxRecDepth 20000 in
set_option maxHeartbeats 400000 in
theorem markWorld_any(lo hi:Nat)(v0 v1 v2 v3:Value)(W:WorldD)(k0:Int)(w:World)(h:WorldOwn w lo hi v0 v1 v2 v3 W)(hk0:0≤k0)(hk1:endW W k0≤1000000000000) :
  Calls Tryz.prog 12 #[worldV v0 v1 v2 v3 W,.int .i64 k0] w fun e w'=>e = .returned (.int .i64 (endW W k0))∧WorldOwn w' lo hi v0 v1 v2 v3 (markW W k0)∧Turned (fun k=>lo≤k∧k<hi) w w':=by
 obtain⟨a0,c0,a1,c1,a2,c2,a3,c3,rfl,rfl,rfl,rfl⟩:=h.form
 obtain⟨P,Q,R,⟨⟨bs,hb,kb,kv,s1,s2,s3,s4,s5⟩,⟨bt,kt,vt,t1,t2,t3⟩,⟨bp,kp,vp,p1,p2,p3⟩,pq,pr,qr⟩,hl⟩:=h
 have S1:=hideM s1
 have S2:=hideM s2
 have S3:=hideM s3
 have S4:=hideM s4
 have S5:=hideM s5
 have T1:=hideM t1
 have T2:=hideM t2
 have T3:=hideM t3
 have P1:=hideM p1
 have P2:=hideM p2
 have P3:=hideM p3
 have HPQ:=hideM (And.intro pq (And.intro pr (And.intro qr hl)))
 have HE:=hideM (endW_le W k0)
 have HK:=hideM hk1
 have HB:=hideM (Box6.new w (.slice a0 W.pool.n c0) (.slice a1 W.pool.hn c1) (.int .i64 W.time) (.int .i64 W.next) (.slice a2 W.sn c2) (.slice a3 W.pn c3) 37)
 have ha:=below_alloc w (.cells #[.slice a0 W.pool.n c0,.slice a1 W.pool.hn c1,.int .i64 W.time,.int .i64 W.next,.slice a2 W.sn c2,.slice a3 W.pn c3] 37)
 have NA:=hideM (show ∀k,SlotsB bs kb W.pool.n W.pool.s k∨(0<W.pool.hn∧k=hb)→k<w.heap.size from fun k hk=>by
  rcases hk with hk | ⟨h0,rfl⟩
  ·exact s1.lt hk
  ·obtain⟨_,_,_,_,_,h3,_⟩:=s3
   obtain⟨o,_,h4⟩:=h3 h0
   exact(h4 0 h0).lt)
 have NB:=hideM (show ∀k,SetsB bt kt W.sn W.sets k→k<w.heap.size from fun k hk=>t1.lt hk)
 have NC:=hideM (show ∀k,SnapsB bp kp W.pn W.snaps k→k<w.heap.size from fun k hk=>p1.lt hk)
 clear s1 s2 s3 s4 s5 t1 t2 t3 p1 p2 p3 pq pr qr hl hk1
 obtain⟨⟨x0,-⟩,⟨x1,-⟩,⟨x2,-⟩,⟨x3,-⟩,⟨x4,-⟩,⟨x5,-⟩⟩:=HB.out
 go_enter Tryz.func12,Tryz.ntmps12
 go_wp2_with fail
 clear x0 x1 x2 x3 x4 x5
 have hsz:(w.alloc (.cells #[.slice a0 W.pool.n c0,.slice a1 W.pool.hn c1,.int .i64 W.time,.int .i64 W.next,.slice a2 W.sn c2,.slice a3 W.pn c3] 37)).heap.size=w.heap.size+1:=World.size_alloc _ _
 have HS0:=hideM hsz
 clear hsz
 generalize w.alloc (.cells #[.slice a0 W.pool.n c0,.slice a1 W.pool.hn c1,.int .i64 W.time,.int .i64 W.next,.slice a2 W.sn c2,.slice a3 W.pn c3] 37)=W0 at ha HB HS0 ⊢
 refine(markPool_any bs hb kb kv _ _ W.pool k0 W0 (S1.out.below ha) S2.out (S3.out.below ha) S4.out hk0 (by have h1:=HE.out; have h2:=HK.out; unfold endP at h1; omega)).mono ?_
 rintro e w1 ⟨rfl,g1,g2,ht1⟩
 have G1:=hideM g1
 have G2:=hideM g2
 have HT1:=hideM ht1
 have HB1:=hideM (HB.out.turned ht1 (fun x=>absurd (NA.out _ x) (by omega)))
 have TT1:=hideM ((T1.out.below ha).turned ht1 (fun k hk x=>HPQ.out.1 k (S5.out k x) (T3.out k hk)))
 have PP1:=hideM ((P1.out.below ha).turned ht1 (fun k hk x=>HPQ.out.2.1 k (S5.out k x) (P3.out k hk)))
 clear g1 g2 ht1 HB
 obtain⟨⟨x0,-⟩,⟨x1,-⟩,⟨x2,-⟩,⟨x3,-⟩,⟨x4,-⟩,⟨x5,-⟩⟩:=HB1.out
 go_wp2_with fail
 clear x0 x1 x2 x3 x4 x5
 refine(markSetS_any bt kt vt _ W.sn W.sets _ w1 TT1.out T2.out (by have h1:=HE.out; unfold endP at h1; omega) (by have h1:=HE.out; have h2:=HK.out; unfold endP at h1; omega)).mono ?_
 rintro e w2 ⟨rfl,g3,ht2⟩
 have G3:=hideM g3
 have HT2:=hideM ht2
 have hn1:¬SetsB bt kt W.sn W.sets w.heap.size:=fun x=>absurd (NB.out _ x) (by omega)
 have HB2:=hideM (HB1.out.turned ht2 hn1)
 have PP2:=hideM (PP1.out.turned ht2 (fun k hk x=>HPQ.out.2.2.1 k (T3.out k x) (P3.out k hk)))
 clear g3 ht2 HB1 hn1
 obtain⟨⟨x0,-⟩,⟨x1,-⟩,⟨x2,-⟩,⟨x3,-⟩,⟨x4,-⟩,⟨x5,-⟩⟩:=HB2.out
 go_wp2_with fail
 clear x0 x1 x2 x3 x4 x5
 refine(markSnapS_any bp kp vp _ W.pn W.snaps _ w2 PP2.out P2.out (by have h1:=HE.out; unfold endP at h1; omega) (by have h1:=HE.out; have h2:=HK.out; unfold endW endP at *; omega)).mono ?_
 rintro e w3 ⟨rfl,g4,ht3⟩
 have G4:=hideM g4
 have HT3:=hideM ht3
 clear g4 ht3
 go_wp2
 go_ret
 refine⟨rfl,⟨P,Q,R,⟨⟨bs,hb,kb,kv,?_,S2.out,?_,S4.out,S5.out⟩,⟨bt,kt,vt,?_,T2.out,T3.out⟩,⟨bp,kp,vp,G4.out,P2.out,P3.out⟩,HPQ.out.1,HPQ.out.2.1,HPQ.out.2.2.1⟩,HPQ.out.2.2.2⟩,?_⟩
 ·refine(G1.out.turned HT2.out (fun h0 x=>?_) (fun i hi h0 x=>?_)).turned HT3.out (fun h0 x=>?_) (fun i hi h0 x=>?_)
  ·exact HPQ.out.1 _ (S5.out _ (Or.inl (Or.inl ⟨h0,rfl⟩))) (T3.out _ x)
  ·exact HPQ.out.1 _ (S5.out _ (Or.inl (Or.inr ⟨i,hi,h0,rfl⟩))) (T3.out _ x)
  ·exact HPQ.out.2.1 _ (S5.out _ (Or.inl (Or.inl ⟨h0,rfl⟩))) (P3.out _ x)
  ·exact HPQ.out.2.1 _ (S5.out _ (Or.inl (Or.inr ⟨i,hi,h0,rfl⟩))) (P3.out _ x)
 ·refine(G2.out.turned HT2.out (fun h0 x=>?_)).turned HT3.out (fun h0 x=>?_)
  ·exact HPQ.out.1 _ (S5.out _ (Or.inr ⟨h0,rfl⟩)) (T3.out _ x)
  ·exact HPQ.out.2.1 _ (S5.out _ (Or.inr ⟨h0,rfl⟩)) (P3.out _ x)
 ·exact G3.out.turned HT3.out (fun k hk x=>HPQ.out.2.2.1 k (T3.out k hk) (P3.out k x))
 ·refine(((Turned.of_below ha).trans (HT1.out.mono ?_)).trans (HT2.out.mono ?_)).trans (HT3.out.mono ?_)
  ·exact fun k hk=>HPQ.out.2.2.2 k (Or.inl (S5.out k hk))
  ·exact fun k hk=>HPQ.out.2.2.2 k (Or.inr (Or.inl (T3.out k hk)))
  ·exact fun k hk=>HPQ.out.2.2.2 k (Or.inr (Or.inr (P3.out k hk)))
theorem cntSl_big(f:Nat→SlotD)(k0:Int):∀n,cntSl f k0 n≤k0+2*(n:Int)+2*(slotsN f n:Int)
 | 0=>by show k0≤_; omega
 | n+1=>by
  have:=cntSl_big f k0 n
  show cntSl f k0 n+2+2*((f n).kn:Int)≤k0+2*((n+1:Nat):Int)+2*((slotsN f n+((f n).kn+(f n).data.size):Nat):Int)
  omega
theorem cntSet_big(f:Nat→SetD)(k0:Int):∀n,cntSet f k0 n≤k0+5*(n:Int)+2*(setsN f n:Int)
 | 0=>by show k0≤_; omega
 | n+1=>by
  have:=cntSet_big f k0 n
  show cntSet f k0 n+5+2*((f n).dn:Int)≤k0+5*((n+1:Nat):Int)+2*((setsN f n+((f n).name.size+(f n).dn):Nat):Int)
  omega
theorem cntSnap_big(f:Nat→SnapD)(k0:Int):∀n,cntSnap f k0 n≤k0+7*(n:Int)+2*(snapsN f n:Int)
 | 0=>by show k0≤_; omega
 | n+1=>by
  have:=cntSnap_big f k0 n
  show cntSnap f k0 n+7+2*((f n).dn:Int)≤k0+7*((n+1:Nat):Int)+2*((snapsN f n+((f n).name.size+(f n).set.size+(f n).dn):Nat):Int)
  omega
theorem endW_small{W:WorldD}(h:worldN W≤4000000):endW W 1≤1000000000000∧0≤endW W 1:=by
 have h1:=cntSl_big W.pool.s 1 W.pool.n
 have h2:=endW_le W 1
 have h3:=cntSet_big W.sets (endP W.pool 1) W.sn
 have h4:=cntSnap_big W.snaps (cntSet W.sets (endP W.pool 1) W.sn) W.pn
 unfold worldN poolN at h
 have h5:endP W.pool 1=cntSl W.pool.s 1 W.pool.n+W.pool.hn:=rfl
 have h6:endW W 1=cntSnap W.snaps (cntSet W.sets (endP W.pool 1) W.sn) W.pn:=rfl
 generalize endP W.pool 1=e at *
 generalize cntSet W.sets e W.sn=s at *
 omega
theorem endW_big(W:WorldD)(k0:Int):endW W k0≤k0+8*(worldN W:Int):=by
 have h1:=cntSl_big W.pool.s k0 W.pool.n
 have h2:=endW_le W k0
 have h3:=cntSet_big W.sets (endP W.pool k0) W.sn
 have h4:=cntSnap_big W.snaps (cntSet W.sets (endP W.pool k0) W.sn) W.pn
 have h7:worldN W=W.pool.n+slotsN W.pool.s W.pool.n+W.pool.hn+(W.sn+setsN W.sets W.sn)+(W.pn+snapsN W.snaps W.pn):=rfl
 have h5:endP W.pool k0=cntSl W.pool.s k0 W.pool.n+W.pool.hn:=rfl
 have h6:endW W k0=cntSnap W.snaps (cntSet W.sets (endP W.pool k0) W.sn) W.pn:=rfl
 generalize endP W.pool k0=e at *
 generalize cntSet W.sets e W.sn=s at *
 omega
theorem endW_within{W:WorldD}{k0:Int}(h:worldN W≤4000000)(h0:0≤k0)(h1:k0≤100000000):endW W k0≤1000000000000∧0≤endW W k0:=by
 have:=endW_big W k0
 have:=endW_le W k0
 omega
theorem world_bounds{W:WorldD}(h:worldN W≤1048576):poolN W.pool≤1048576∧W.sn≤1048576∧W.pn≤1048576∧DeadsN W:=by
 refine⟨?_,?_,?_,worldN_deads h⟩
 all_goals
  unfold worldN at h
  omega

theorem poolN_holdAll:∀(l:List (Int×Int)) (p:PoolD),poolN (holdAll p l)=poolN p+l.length
 | [],_=>rfl
 | x :: l,p=>by
  have h:=poolN_holdAll l (holdD p x.1)
  have e:poolN (holdD p x.1)=poolN p+1:=rfl
  show poolN (holdAll (holdD p x.1) l)=_
  rw [h,e,List.length_cons]
  omega
theorem shed_len(W:WorldD)(s:SetD):(shedL W s).length≤73:=by
 have h1:=young_len (fstL (treeL W.pool s.rs s.rb)) (sndL (treeL W.pool s.rs s.rb)) (aheadOf W s.prev).time (treeL W.pool s.rs s.rb).length
 have h2:=treeL_len W.pool s.rs s.rb
 unfold shedL
 omega
def SetDestroyIs(W:WorldD)(name:ByteArray)(oo:WOutD):Prop:=∃r o,RefI W (∃i,i<1∧8000<((fun (_:Nat)=>name) i).size) (∃i,i<0∧¬NameP ((fun _=>⟨#[]⟩) i)) 2 (fun i=>match i with | 0=>HasSet W name | _=>¬∃i,i<W.pn∧(W.snaps i).set=name) (fun i=>match i with | 0=>2 | _=>5) r∧(r=none→∃k,SetNo W name k∧o=⟨dropW W k,0,((shedL W (W.sets k)).length:Int),0⟩)∧oo=outW r o
theorem SetDestroyIs.uniq{W:WorldD}{name:ByteArray}{o o':WOutD}(h:SetDestroyIs W name o)(h':SetDestroyIs W name o'):o=o':=by
 obtain⟨r,a,h1,h2,rfl⟩:=h
 obtain⟨r',b,g1,g2,rfl⟩:=h'
 obtain rfl:=h1.uniq g1
 cases r with
 | some i=>rfl
 | none=>
  obtain⟨k,hk,rfl⟩:=h2 rfl
  obtain⟨k',hk',rfl⟩:=g2 rfl
  obtain rfl:=hk.uniq hk'
  rfl
open Classical in
noncomputable def setDestroyAns(W:WorldD)(name:ByteArray):WOutD:=if h:∃o,SetDestroyIs W name o then h.choose else refuseW 0
theorem setDestroyAns_of{W:WorldD}{name:ByteArray}{w w':World}{e:Ending}(h:AnsSetDestroy W name w e w'):NewWOut (setDestroyAns W name) w e w':=by
 obtain⟨r,o,h1,h2,h3⟩:=h
 have hi:SetDestroyIs W name (outW r o):=⟨r,o,h1,h2,rfl⟩
 have hx:∃o,SetDestroyIs W name o:=⟨_,hi⟩
 have he:setDestroyAns W name=outW r o:=by
  unfold setDestroyAns
  rw [dif_pos hx]
  exact hx.choose_spec.uniq hi
 rw [he]
 exact h3
theorem setsN_del(f:Nat→SetD)(k:Nat):∀n,(n≤k→setsN (del f k) n=setsN f n)∧(k≤n→setsN (del f k) n≤setsN f (n+1))
 | 0=>⟨fun _=>rfl,fun _=>Nat.zero_le _⟩
 | n+1=>by
  obtain⟨h1,h2⟩:=setsN_del f k n
  have a1:setsN (del f k) (n+1)=setsN (del f k) n+setN (del f k n):=rfl
  have a2:setsN f (n+1+1)=setsN f (n+1)+setN (f (n+1)):=rfl
  have a3:setsN f (n+1)=setsN f n+setN (f n):=rfl
  refine⟨fun h=>?_,fun h=>?_⟩
  ·rw [a1,h1 (by omega),del_lo (by omega)]; exact a3.symm
  ·by_cases e:n<k
   ·have:=h1 (by omega)
    rw [a1,this,del_lo e]
    omega
   ·have:=h2 (by omega)
    rw [a1,del_hi e]
    omega
theorem worldN_drop(W:WorldD){k:Nat}(hk:k<W.sn):worldN (dropW W k)≤worldN W+73:=by
 have h1:=(setsN_del W.sets k (W.sn - 1)).2 (by omega)
 rw [show W.sn - 1+1=W.sn by omega] at h1
 have h2:=poolN_holdAll (shedL W (W.sets k)) W.pool
 have h3:=shed_len W (W.sets k)
 have h7:worldN (dropW W k)=poolN (holdAll W.pool (shedL W (W.sets k)))+(W.sn - 1+setsN (del W.sets k) (W.sn - 1))+(W.pn+snapsN W.snaps W.pn):=rfl
 have h8:worldN W=poolN W.pool+(W.sn+setsN W.sets W.sn)+(W.pn+snapsN W.snaps W.pn):=rfl
 omega
theorem setDestroyAns_small{W:WorldD}{name:ByteArray}(hN:worldN W≤1048576):endW (setDestroyAns W name).world 1≤1000000000000∧0≤endW (setDestroyAns W name).world 1:=by
 have hz:∀c,endW (refuseW c).world 1≤1000000000000∧0≤endW (refuseW c).world 1:=fun c=>endW_within (W:=noW) (by decide) (by decide) (by decide)
 unfold setDestroyAns
 split
 ·rename_i h
  obtain⟨r,o,h1,h2,h3⟩:=h.choose_spec
  rw [h3]
  cases r with
  | some i=>exact hz _
  | none=>
   obtain⟨k,hk,rfl⟩:=h2 rfl
   have hb:=worldN_drop W hk.1
   exact endW_within (W:=dropW W k) (by omega) (by decide) (by decide)
 ·exact hz _
theorem setT:Tryz.prog.underlying 34=some (.slice 61):=by kernel_rfl
theorem run_more6(w:World)(base:Nat)(v:Value)(n:Nat)(xs:List Value)(hown:w.ownsRow base 61 6 v n xs)(hb:base≤w.heap.size)(ad:Option Addr)(b off i m c:Nat)(G:Nat→Value)(had:0<m→ad=some ⟨b,off+i,none⟩)(hG:∀j,j<m*6→w.cell? ⟨b,off+(i+j),none⟩=some (G (i+j))∧(G (i+j)).oneCell'=true)(hn:n+m≤1000)(ty:TypeId) :
  ∃v' w',(Builtin.append_ #[34,34] ty #[v,.slice ad m c]).run Tryz.prog w = .ok v' w'∧w'.ownsRow base 61 6 v' (n+m) (xs ++ rowG G i (m*6))∧w.grownBy w' v.ownBlock∧(m=0→v'=v∧w'=w):=by
 obtain⟨i0,hi0,hzz⟩:=Option.map_eq_some_iff.1 infoSetT
 simp only [Prod.mk.injEq] at hzz
 obtain⟨hz,hs,hby⟩:=hzz
 by_cases h0:0<m
 ·obtain rfl:=had h0
  have hadd:∀j,(⟨b,off+i,none⟩:Addr).add j=⟨b,off+(i+j),none⟩:=fun j=>by
   unfold Addr.add
   split
   ·simp_all
   ·simp [Nat.add_assoc]
  obtain⟨v',w1,hr,r1,r2,_⟩:=run_append_own (P:=Tryz.prog) w base 34 ty 61 i0 _ 6 72 setT hi0 hz hs hby rfl (by decide) v n xs hown ⟨b,off+i,none⟩ m c (rowG G i (m*6)) (rowG_len _ _ _) (fun j u hj=>by
    have hlt:j<m*6:=by
     have:=(List.getElem?_eq_some_iff.1 hj).1
     rwa [rowG_len] at this
    rw [rowG_at hlt] at hj
    cases hj
    rw [hadd]
    exact(hG j hlt).1) (fun u hu=>by
    unfold rowG at hu
    obtain⟨j,hj,rfl⟩:=List.mem_map.1 hu
    exact(hG j (List.mem_range.1 hj)).2) (by unfold maxLen; omega) (by omega) hb
  exact⟨v',w1,hr,r1,r2,fun h=>by omega⟩
 ·obtain rfl:m=0:=by omega
  exact⟨v,w,run_append_zero (P:=Tryz.prog) (w:=w) base 34 ty 61 i0 6 c ad setT hi0 v n xs hown,by simpa [rowG] using hown,World.grownBy.refl _ _,fun _=>⟨rfl,rfl⟩⟩
theorem run_drop6(w:World)(b off n k c1 c2:Nat)(A1 A2:Option Addr)(G:Nat→Value)(hG:∀j,j<n*6→w.cell? ⟨b,off+j,none⟩=some (G j)∧(G j).oneCell'=true)(hk:k<n)(hn:n≤100)(h1:0<k→A1=some ⟨b,off,none⟩)(h2:0<n - (k+1)→A2=some ⟨b,off+(k+1)*6,none⟩) :
  ∃a1 cap1 w1 a2 cap2 w2,(Builtin.append_ #[34,34] 34 #[.slice (some ⟨w.heap.size,0,none⟩) 0 0,.slice A1 k c1]).run Tryz.prog (w.alloc (.cells #[] 61)) = .ok (.slice a1 k cap1) w1∧(Builtin.append_ #[34,34] 34 #[.slice a1 k cap1,.slice A2 (n - (k+1)) c2]).run Tryz.prog w1 = .ok (.slice a2 (n - 1) cap2) w2∧Below w.heap.size w w1∧Below w.heap.size w w2∧n - 1≤cap2∧(0<n - 1→∃g,a2=some ⟨g,0,none⟩∧w.heap.size≤g∧g<w2.heap.size∧∀j,j<(n - 1)*6→Cell w2 g j (if j<k*6 then G j else G (j+6))):=by
 have hba:=below_alloc w (.cells #[] 61)
 have hown0:(w.alloc (.cells #[] 61)).ownsRow w.heap.size 61 6 (.slice (some ⟨w.heap.size,0,none⟩) 0 0) 0 []:=World.ownsRow_made w #[] 0 (Nat.le_refl _) (Nat.zero_le _) (by simp)
 obtain⟨v1,w1,hr1,ho1,hg1,-⟩:=run_more6 (w.alloc (.cells #[] 61)) w.heap.size _ 0 [] hown0 hba.size A1 b off 0 k c1 G (fun h=>by rw [h1 h]; rfl) (fun j hj=>by
  have:=hG j (by omega)
  rw [Nat.zero_add]
  exact⟨(hba.cell (lt_of_cell this.1)).trans this.1,this.2⟩) (by omega) 34
 have hb1:Below w.heap.size w w1:=hba.grown hg1 hba.size (fun q hq=>by have:=hown0.lt q hq; omega)
 obtain⟨v2,w2,hr2,ho2,hg2,-⟩:=run_more6 w1 w.heap.size v1 (0+k) _ ho1 hb1.size A2 b off ((k+1)*6) (n - (k+1)) c2 G h2 (fun j hj=>by
  have:=hG ((k+1)*6+j) (by omega)
  exact⟨(hb1.cell (lt_of_cell this.1)).trans this.1,this.2⟩) (by omega) 34
 have hb2:Below w.heap.size w w2:=hb1.grown hg2 hb1.size (fun q hq=>by have:=ho1.lt q hq; omega)
 obtain⟨a1,cap1,rfl,-⟩:=owns_form ho1
 have e:0+k+(n - (k+1))=n - 1:=by omega
 rw [e] at ho2
 rw [Nat.zero_add] at hr1 hr2
 obtain⟨a2,cap2,rfl,hc2⟩:=owns_form ho2
 refine⟨a1,cap1,w1,a2,cap2,w2,hr1,hr2,hb1,hb2,hc2,fun h0=>?_⟩
 obtain⟨g,cap,e2,hc,hbg,hlt,hcell⟩:=owns_cell ho2 h0
 simp only [Value.slice.injEq,true_and] at e2
 refine⟨g,e2.1,hbg,hlt,fun j hj=>hcell j _ ?_⟩
 rw [List.nil_append]
 by_cases hj1:j<k*6
 ·rw [if_pos hj1,List.getElem?_append_left (by rw [rowG_len]; exact hj1),rowG_at hj1,Nat.zero_add]
 ·rw [if_neg hj1,List.getElem?_append_right (by rw [rowG_len]; omega),rowG_len,rowG_at (by omega),show(k+1)*6+(j - k*6)=j+6 by omega]
set_option maxRecDepth 20000 in
set_option maxHeartbeats 1000000 in
theorem l05Ill_any(c:Int)(w:World):Calls Tryz.prog 22 #[.int .i64 c] w fun e w'=>e = .returned (.agg #[.slice none 0 0,.slice none 0 0,.int .i64 0,.int .i64 0,.slice none 0 0,.slice none 0 0,.int .i64 0,.int .i64 0,.int .i64 c])∧Below w.heap.size w w':=by
 have ha:=below_alloc w (.cells #[.slice none 0 0,.slice none 0 0,.int .i64 0,.int .i64 0,.slice none 0 0,.slice none 0 0,.int .i64 0,.int .i64 0,.int .i64 c] 39)
 have HRz:=Box9.new w (.slice none 0 0) (.slice none 0 0) (.int .i64 0) (.int .i64 0) (.slice none 0 0) (.slice none 0 0) (.int .i64 0) (.int .i64 0) (.int .i64 c) 39
 go_enter Tryz.func22,Tryz.ntmps22
 go_wp2_with fail
 refine bodyPost_ret (v:=.agg #[.slice none 0 0,.slice none 0 0,.int .i64 0,.int .i64 0,.slice none 0 0,.slice none 0 0,.int .i64 0,.int .i64 0,.int .i64 c]) (by simp [results,Tryz.results22,go_sem,HRz.1.1,HRz.2.1.1,HRz.2.2.1.1,HRz.2.2.2.1.1,HRz.2.2.2.2.1.1,HRz.2.2.2.2.2.1.1,HRz.2.2.2.2.2.2.1.1,HRz.2.2.2.2.2.2.2.1.1,HRz.2.2.2.2.2.2.2.2.1]) rfl ?_
 exact⟨rfl,ha⟩
end Go.Proofs.YtihdcanckbkgfaaGreatDoor
