/- What the laws' marking of sets and snapshots leaves (no law is proved here). -/
import Derived.Test.YtihdcanckbkgfaaGreatDoorG28
import Derived.Test.YtihdcanckbkgfaaGreatDoorG18
import Derived.Test.YtihdcanckbkgfaaGreatDoorG3
import Derived.Test.YtihdcanckbkgfaaGreatDoorG24
import Derived.Test.YtihdcanckbkgfaaGreatDoorG25
import Derived.Test.YtihdcanckbkgfaaGreatDoorG26
import Derived.Test.YtihdcanckbkgfaaGreatDoorG6
import Derived.Test.YtihdcanckbkgfaaGreatDoorG21
import Derived.ArgAppend
namespace Go.Proofs.YtihdcanckbkgfaaGreatDoor
open Go.RowKit
set_option linter.unusedVariables false
def cntSet(f:Nat→SetD)(k0:Int):Nat→Int
 | 0=>k0
 | j+1=>cntSet f k0 j+5+2*(f j).dn
def markedSet(s:SetD)(c:Int):SetD:={name:=mtF (c),origin:=c+1,prev:=c+1+1,rs:=c+1+1+1,rb:=c+1+1+1+1,dn:=s.dn,ds:=fun i=>c+1+1+1+1+1+2*i,db:=fun i=>c+1+1+1+1+1+2*i+1}
theorem cntSet_mono(f:Nat→SetD)(k0:Int)(j:Nat):∀m,cntSet f k0 j≤cntSet f k0 (j+m)
 | 0=>Int.le_refl _
 | m+1=>by
  have:=cntSet_mono f k0 j m
  show _≤cntSet f k0 (j+m)+5+2*((f (j+m)).dn:Int)
  omega
theorem cntSet_le(f:Nat→SetD)(k0:Int){j n:Nat}(h:j≤n):cntSet f k0 j≤cntSet f k0 n:=by
 obtain⟨m,rfl⟩:=Nat.exists_eq_add_of_le h
 exact cntSet_mono f k0 j m
def markSetD(f:Nat→SetD)(k0:Int)(j:Nat):SetD:=markedSet (f j) (cntSet f k0 j)
theorem stSet_start(f:Nat→SetD)(k0:Int)(j:Nat):(if j<0 then markSetD f k0 j else f j)=f j:=if_neg (by omega)
theorem stSet_dn(f:Nat→SetD)(k0:Int)(k j:Nat):(if j<k then markSetD f k0 j else f j).dn=(f j).dn:=by split <;> rfl
set_option maxRecDepth 20000 in
set_option maxHeartbeats 1000000 in
theorem markSetS_any(bs:Nat)(kb:Nat→Nat)(kv:Nat→Value)(v:Value)(n:Nat)(f:Nat→SetD)(k0:Int)(w:World)(h1:SetsOwn w bs kb kv v n f)(hap:SetsApart kb n f)(hk0:0≤k0)(hk1:cntSet f k0 n≤1000000000000) :
  Calls Tryz.prog 43 #[v,.int .i64 k0] w fun e w'=>e = .returned (.int .i64 (cntSet f k0 n))∧SetsOwn w' bs kb kv v n (markSetD f k0)∧Turned (SetsB bs kb n f) w w':=by
 obtain⟨m1,a,c,rfl,mc,g1⟩:=h1
 by_cases hn0:n=0
 ·subst hn0
  go_enter Tryz.func43,Tryz.ntmps43
  go_wp2
  refine wp_loop_rounds 1 ?_
  rw [rounds_succ]
  go_wp2
  go_ret
  exact⟨by simp [cntSet],⟨m1,a,c,rfl,mc,fun h=>absurd h (by omega)⟩,Turned.refl _ _⟩
 ·obtain⟨off,rfl,g2⟩:=g1 (by omega)
  clear g1
  have hm1:=m1
  unfold maxLen at m1
  have G2:=hideM g2
  have Hap:=hideM hap
  have Hk1:=hideM hk1
  clear g2 hap hk1
  go_enter Tryz.func43,Tryz.ntmps43
  go_wp2
  go_loopw [1,5] (fun m i wr=>∃k:Nat,k≤n∧i = .int .i64 k∧m = .int .i64 (cntSet f k0 k)∧(∀j,j<n→SetOwn wr bs (off+j*6) (kb j) (kv j) (if j<k then markSetD f k0 j else f j))∧Turned (SetsB bs kb n f) w wr) (fun _ i _=>n - (intOf i).toNat)
  case atStart=>exact⟨0,Nat.zero_le _,rfl,rfl,fun j hj=>by rw [stSet_start]; exact G2.out j hj,Turned.refl _ _⟩
  case round=>
   obtain⟨k,hk,rfl,rfl,hall,ht⟩:=hrel
   have Hall:=hideM hall
   clear hall
   by_cases hlt:k<n
   ·have hlt':(k:Int)<(n:Int):=by omega
    have hs:=Hall.out k hlt
    rw [if_neg (by omega)] at hs
    have hc0:k0≤cntSet f k0 k:=cntSet_le f k0 (Nat.zero_le k)
    have hc1:cntSet f k0 k+5+2*((f k).dn:Int)≤1000000000000:=Int.le_trans (cntSet_le f k0 (show k+1≤n from hlt)) Hk1.out
    have Hs:=hideM hs
    obtain⟨-,ka,kc,hkv,-⟩:=hs.dead
    clear hs
    generalize hx:kv k=kvk at *
    have Hx:=hideM hx
    clear hx
    subst hkv
    obtain⟨⟨p0,p0'⟩,⟨p1,p1'⟩,⟨p2,p2'⟩,⟨p3,p3'⟩,⟨p4,p4'⟩,⟨p5,p5'⟩⟩:=And.intro Hs.out.c0 (And.intro Hs.out.c1 (And.intro Hs.out.c2 (And.intro Hs.out.c3 (And.intro Hs.out.c4 Hs.out.c5))))
    have HR:=hideM (RowTurned.refl bs (off+k*6) 6 wr)
    go_wp2_with fail
    clear p0 p0' p1 p1' p2 p2' p3 p3' p4 p4' p5 p5'
    have C1a:=hideM Hs.out.c0
    have C1b:=hideM Hs.out.c1
    have C1c:=hideM Hs.out.c2
    have C1d:=hideM Hs.out.c3
    have C1e:=hideM Hs.out.c4
    have C1f:=hideM Hs.out.c5
    have HR1:=hideM HR.out
    refine(markText_any _ wr (by omega)).mono ?_
    rintro e w1 ⟨rfl,hb1⟩
    have D1a:=hideM (C1a.out.below hb1)
    have D1b:=hideM (C1b.out.below hb1)
    have D1c:=hideM (C1c.out.below hb1)
    have D1d:=hideM (C1d.out.below hb1)
    have D1e:=hideM (C1e.out.below hb1)
    have D1f:=hideM (C1f.out.below hb1)
    have HS1:=hideM (HR1.out.below hb1)
    clear hb1 HR1 C1a C1b C1c C1d C1e C1f
    obtain⟨p0,p0'⟩:=D1a.out
    obtain⟨p1,p1'⟩:=D1b.out
    obtain⟨p2,p2'⟩:=D1c.out
    obtain⟨p3,p3'⟩:=D1d.out
    obtain⟨p4,p4'⟩:=D1e.out
    obtain⟨p5,p5'⟩:=D1f.out
    go_wp2_with fail
    clear p0 p0' p1 p1' p2 p2' p3 p3' p4 p4' p5 p5'
    have Ea:=hideM (((((D1a.out.set (.string (mtF (cntSet f k0 k)))).other (b':=bs) (o':=off+k*6+1) (.int .i64 (cntSet f k0 k+1)) (Or.inr (by omega))).other (b':=bs) (o':=off+k*6+2) (.int .i64 (cntSet f k0 k+1+1)) (Or.inr (by omega))).other (b':=bs) (o':=off+k*6+3) (.int .i64 (cntSet f k0 k+1+1+1)) (Or.inr (by omega))).other (b':=bs) (o':=off+k*6+3+1) (.int .i64 (cntSet f k0 k+1+1+1+1)) (Or.inr (by omega)))
    have Eb:=hideM (((((D1b.out.other (b':=bs) (o':=off+k*6) (.string (mtF (cntSet f k0 k))) (Or.inr (by omega))).set (.int .i64 (cntSet f k0 k+1))).other (b':=bs) (o':=off+k*6+2) (.int .i64 (cntSet f k0 k+1+1)) (Or.inr (by omega))).other (b':=bs) (o':=off+k*6+3) (.int .i64 (cntSet f k0 k+1+1+1)) (Or.inr (by omega))).other (b':=bs) (o':=off+k*6+3+1) (.int .i64 (cntSet f k0 k+1+1+1+1)) (Or.inr (by omega)))
    have Ec:=hideM (((((D1c.out.other (b':=bs) (o':=off+k*6) (.string (mtF (cntSet f k0 k))) (Or.inr (by omega))).other (b':=bs) (o':=off+k*6+1) (.int .i64 (cntSet f k0 k+1)) (Or.inr (by omega))).set (.int .i64 (cntSet f k0 k+1+1))).other (b':=bs) (o':=off+k*6+3) (.int .i64 (cntSet f k0 k+1+1+1)) (Or.inr (by omega))).other (b':=bs) (o':=off+k*6+3+1) (.int .i64 (cntSet f k0 k+1+1+1+1)) (Or.inr (by omega)))
    have Ed:=hideM (((((D1d.out.other (b':=bs) (o':=off+k*6) (.string (mtF (cntSet f k0 k))) (Or.inr (by omega))).other (b':=bs) (o':=off+k*6+1) (.int .i64 (cntSet f k0 k+1)) (Or.inr (by omega))).other (b':=bs) (o':=off+k*6+2) (.int .i64 (cntSet f k0 k+1+1)) (Or.inr (by omega))).set (.int .i64 (cntSet f k0 k+1+1+1))).other (b':=bs) (o':=off+k*6+3+1) (.int .i64 (cntSet f k0 k+1+1+1+1)) (Or.inr (by omega)))
    have Ee:=hideM (((((D1e.out.other (b':=bs) (o':=off+k*6) (.string (mtF (cntSet f k0 k))) (Or.inr (by omega))).other (b':=bs) (o':=off+k*6+1) (.int .i64 (cntSet f k0 k+1)) (Or.inr (by omega))).other (b':=bs) (o':=off+k*6+2) (.int .i64 (cntSet f k0 k+1+1)) (Or.inr (by omega))).other (b':=bs) (o':=off+k*6+3) (.int .i64 (cntSet f k0 k+1+1+1)) (Or.inr (by omega))).set (.int .i64 (cntSet f k0 k+1+1+1+1)))
    have Ef:=hideM (((((D1f.out.other (b':=bs) (o':=off+k*6) (.string (mtF (cntSet f k0 k))) (Or.inr (by omega))).other (b':=bs) (o':=off+k*6+1) (.int .i64 (cntSet f k0 k+1)) (Or.inr (by omega))).other (b':=bs) (o':=off+k*6+2) (.int .i64 (cntSet f k0 k+1+1)) (Or.inr (by omega))).other (b':=bs) (o':=off+k*6+3) (.int .i64 (cntSet f k0 k+1+1+1)) (Or.inr (by omega))).other (b':=bs) (o':=off+k*6+3+1) (.int .i64 (cntSet f k0 k+1+1+1+1)) (Or.inr (by omega)))
    have HRE:=hideM (((((HS1.out.set (off+k*6) (.string (mtF (cntSet f k0 k))) (by omega) (by omega)).set (off+k*6+1) (.int .i64 (cntSet f k0 k+1)) (by omega) (by omega)).set (off+k*6+2) (.int .i64 (cntSet f k0 k+1+1)) (by omega) (by omega)).set (off+k*6+3) (.int .i64 (cntSet f k0 k+1+1+1)) (by omega) (by omega)).set (off+k*6+3+1) (.int .i64 (cntSet f k0 k+1+1+1+1)) (by omega) (by omega))
    generalize (((((w1.setCell ⟨bs,off+k*6,none⟩ (.string (mtF (cntSet f k0 k)))).setCell ⟨bs,off+k*6+1,none⟩ (.int .i64 (cntSet f k0 k+1))).setCell ⟨bs,off+k*6+2,none⟩ (.int .i64 (cntSet f k0 k+1+1))).setCell ⟨bs,off+k*6+3,none⟩ (.int .i64 (cntSet f k0 k+1+1+1))).setCell ⟨bs,off+k*6+3+1,none⟩ (.int .i64 (cntSet f k0 k+1+1+1+1)))=Y at Ea Eb Ec Ed Ee Ef HRE ⊢
    refine(markPtrS_any (kb k) _ (f k).dn (f k).ds (f k).db _ Y (Hs.out.dead.turned HRE.out.turned (fun h0 hx=>Hs.out.apart h0 hx)) (by omega) (by omega)).mono ?_
    rintro e wz ⟨rfl,hpz,htz⟩
    have Hpz:=hideM hpz
    have Htz:=hideM htz
    clear hpz htz
    go_wp2
    go_roundw
    case rel=>
     refine⟨k+1,by omega,by go_num,congrArg (Value.int .i64) (by show _=cntSet f k0 k+5+2*((f k).dn:Int); omega),fun j hj=>?_,?_⟩
     ·have st:=Set_step (s:=markSetD f k0 k) Hall.out (by
        intro i j hi hj hij h1 h2
        rw [stSet_dn] at h1 h2
        exact Hap.out i j hi hj hij h1 h2) hlt HRE.out (by rw [if_neg (Nat.lt_irrefl k)]; exact Htz.out) Ea.out Eb.out Ec.out Ed.out Ee.out (by rw [Hx.out]; exact Ef.out) (by rw [if_neg (Nat.lt_irrefl k)]; rfl) (by rw [Hx.out]; exact Hpz.out) (mtF_size (by omega)) j hj
      by_cases e:j=k
      ·subst e
       rw [if_pos rfl] at st
       rw [if_pos (by omega)]
       exact st
      ·rw [if_neg e] at st
       by_cases e2:j<k
       ·rw [if_pos e2] at st; rw [if_pos (by omega)]; exact st
       ·rw [if_neg e2] at st; rw [if_neg (by omega)]; exact st
     ·refine(ht.trans (HRE.out.turned.mono ?_)).trans (Htz.out.mono ?_)
      ·rintro b rfl
       exact Or.inl ⟨by omega,rfl⟩
      ·rintro b ⟨hb,rfl⟩
       exact Or.inr ⟨k,hlt,hb,rfl⟩
    case measure=>simp [intOf]; omega
   ·obtain rfl:k=n:=by omega
    go_wp2
    go_ret
    refine⟨rfl,⟨hm1,_,c,rfl,mc,fun _=>⟨off,rfl,fun i hi=>?_⟩⟩,ht⟩
    have:=Hall.out i hi
    rw [if_pos hi] at this
    exact this
def cntSnap(f:Nat→SnapD)(k0:Int):Nat→Int
 | 0=>k0
 | j+1=>cntSnap f k0 j+7+2*(f j).dn
def markedSnap(s:SnapD)(c:Int):SnapD:={id:=c,name:=mtF (c+1),set:=mtF (c+1+1),prev:=c+1+1+1,time:=c+1+1+1+1,rs:=c+1+1+1+1+1,rb:=c+1+1+1+1+1+1,dn:=s.dn,ds:=fun i=>c+1+1+1+1+1+1+1+2*i,db:=fun i=>c+1+1+1+1+1+1+1+2*i+1}
theorem cntSnap_mono(f:Nat→SnapD)(k0:Int)(j:Nat):∀m,cntSnap f k0 j≤cntSnap f k0 (j+m)
 | 0=>Int.le_refl _
 | m+1=>by
  have:=cntSnap_mono f k0 j m
  show _≤cntSnap f k0 (j+m)+7+2*((f (j+m)).dn:Int)
  omega
theorem cntSnap_le(f:Nat→SnapD)(k0:Int){j n:Nat}(h:j≤n):cntSnap f k0 j≤cntSnap f k0 n:=by
 obtain⟨m,rfl⟩:=Nat.exists_eq_add_of_le h
 exact cntSnap_mono f k0 j m
def markSnapD(f:Nat→SnapD)(k0:Int)(j:Nat):SnapD:=markedSnap (f j) (cntSnap f k0 j)
theorem stSnap_start(f:Nat→SnapD)(k0:Int)(j:Nat):(if j<0 then markSnapD f k0 j else f j)=f j:=if_neg (by omega)
theorem stSnap_dn(f:Nat→SnapD)(k0:Int)(k j:Nat):(if j<k then markSnapD f k0 j else f j).dn=(f j).dn:=by split <;> rfl
set_option maxRecDepth 20000 in
set_option maxHeartbeats 1000000 in
theorem markSnapS_any(bs:Nat)(kb:Nat→Nat)(kv:Nat→Value)(v:Value)(n:Nat)(f:Nat→SnapD)(k0:Int)(w:World)(h1:SnapsOwn w bs kb kv v n f)(hap:SnapsApart kb n f)(hk0:0≤k0)(hk1:cntSnap f k0 n≤1000000000000) :
  Calls Tryz.prog 44 #[v,.int .i64 k0] w fun e w'=>e = .returned (.int .i64 (cntSnap f k0 n))∧SnapsOwn w' bs kb kv v n (markSnapD f k0)∧Turned (SnapsB bs kb n f) w w':=by
 obtain⟨m1,a,c,rfl,mc,g1⟩:=h1
 by_cases hn0:n=0
 ·subst hn0
  go_enter Tryz.func44,Tryz.ntmps44
  go_wp2
  refine wp_loop_rounds 1 ?_
  rw [rounds_succ]
  go_wp2
  go_ret
  exact⟨by simp [cntSnap],⟨m1,a,c,rfl,mc,fun h=>absurd h (by omega)⟩,Turned.refl _ _⟩
 ·obtain⟨off,rfl,g2⟩:=g1 (by omega)
  clear g1
  have hm1:=m1
  unfold maxLen at m1
  have G2:=hideM g2
  have Hap:=hideM hap
  have Hk1:=hideM hk1
  clear g2 hap hk1
  go_enter Tryz.func44,Tryz.ntmps44
  go_wp2
  go_loopw [1,5] (fun m i wr=>∃k:Nat,k≤n∧i = .int .i64 k∧m = .int .i64 (cntSnap f k0 k)∧(∀j,j<n→SnapOwn wr bs (off+j*8) (kb j) (kv j) (if j<k then markSnapD f k0 j else f j))∧Turned (SnapsB bs kb n f) w wr) (fun _ i _=>n - (intOf i).toNat)
  case atStart=>exact⟨0,Nat.zero_le _,rfl,rfl,fun j hj=>by rw [stSnap_start]; exact G2.out j hj,Turned.refl _ _⟩
  case round=>
   obtain⟨k,hk,rfl,rfl,hall,ht⟩:=hrel
   have Hall:=hideM hall
   clear hall
   by_cases hlt:k<n
   ·have hlt':(k:Int)<(n:Int):=by omega
    have hs:=Hall.out k hlt
    rw [if_neg (by omega)] at hs
    have hc0:k0≤cntSnap f k0 k:=cntSnap_le f k0 (Nat.zero_le k)
    have hc1:cntSnap f k0 k+7+2*((f k).dn:Int)≤1000000000000:=Int.le_trans (cntSnap_le f k0 (show k+1≤n from hlt)) Hk1.out
    have Hs:=hideM hs
    obtain⟨-,ka,kc,hkv,-⟩:=hs.dead
    clear hs
    generalize hx:kv k=kvk at *
    have Hx:=hideM hx
    clear hx
    subst hkv
    obtain⟨⟨p0,p0'⟩,⟨p1,p1'⟩,⟨p2,p2'⟩,⟨p3,p3'⟩,⟨p4,p4'⟩,⟨p5,p5'⟩,⟨p6,p6'⟩,⟨p7,p7'⟩⟩:=And.intro Hs.out.c0 (And.intro Hs.out.c1 (And.intro Hs.out.c2 (And.intro Hs.out.c3 (And.intro Hs.out.c4 (And.intro Hs.out.c5 (And.intro Hs.out.c6 Hs.out.c7))))))
    have HR:=hideM (RowTurned.refl bs (off+k*8) 8 wr)
    go_wp2_with fail
    clear p0 p0' p1 p1' p2 p2' p3 p3' p4 p4' p5 p5' p6 p6' p7 p7'
    have C1a:=hideM (Hs.out.c0.set (.int .i64 (cntSnap f k0 k)))
    have C1b:=hideM (Hs.out.c1.other (b':=bs) (o':=off+k*8) (.int .i64 (cntSnap f k0 k)) (Or.inr (by omega)))
    have C1c:=hideM (Hs.out.c2.other (b':=bs) (o':=off+k*8) (.int .i64 (cntSnap f k0 k)) (Or.inr (by omega)))
    have C1d:=hideM (Hs.out.c3.other (b':=bs) (o':=off+k*8) (.int .i64 (cntSnap f k0 k)) (Or.inr (by omega)))
    have C1e:=hideM (Hs.out.c4.other (b':=bs) (o':=off+k*8) (.int .i64 (cntSnap f k0 k)) (Or.inr (by omega)))
    have C1f:=hideM (Hs.out.c5.other (b':=bs) (o':=off+k*8) (.int .i64 (cntSnap f k0 k)) (Or.inr (by omega)))
    have C1g:=hideM (Hs.out.c6.other (b':=bs) (o':=off+k*8) (.int .i64 (cntSnap f k0 k)) (Or.inr (by omega)))
    have C1h:=hideM (Hs.out.c7.other (b':=bs) (o':=off+k*8) (.int .i64 (cntSnap f k0 k)) (Or.inr (by omega)))
    have HR1:=hideM (HR.out.set (off+k*8) (.int .i64 (cntSnap f k0 k)) (by omega) (by omega))
    generalize (wr.setCell ⟨bs,off+k*8,none⟩ (.int .i64 (cntSnap f k0 k)))=Y1 at C1a C1b C1c C1d C1e C1f C1g C1h HR1 ⊢
    refine(markText_any _ Y1 (by omega)).mono ?_
    rintro e w1 ⟨rfl,hb1⟩
    have D1a:=hideM (C1a.out.below hb1)
    have D1b:=hideM (C1b.out.below hb1)
    have D1c:=hideM (C1c.out.below hb1)
    have D1d:=hideM (C1d.out.below hb1)
    have D1e:=hideM (C1e.out.below hb1)
    have D1f:=hideM (C1f.out.below hb1)
    have D1g:=hideM (C1g.out.below hb1)
    have D1h:=hideM (C1h.out.below hb1)
    have HS1:=hideM (HR1.out.below hb1)
    clear hb1 HR1 C1a C1b C1c C1d C1e C1f C1g C1h
    obtain⟨p0,p0'⟩:=D1a.out
    obtain⟨p1,p1'⟩:=D1b.out
    obtain⟨p2,p2'⟩:=D1c.out
    obtain⟨p3,p3'⟩:=D1d.out
    obtain⟨p4,p4'⟩:=D1e.out
    obtain⟨p5,p5'⟩:=D1f.out
    obtain⟨p6,p6'⟩:=D1g.out
    obtain⟨p7,p7'⟩:=D1h.out
    go_wp2_with fail
    clear p0 p0' p1 p1' p2 p2' p3 p3' p4 p4' p5 p5' p6 p6' p7 p7'
    have C2a:=hideM (D1a.out.other (b':=bs) (o':=off+k*8+1) (.string (mtF (cntSnap f k0 k+1))) (Or.inr (by omega)))
    have C2b:=hideM (D1b.out.set (.string (mtF (cntSnap f k0 k+1))))
    have C2c:=hideM (D1c.out.other (b':=bs) (o':=off+k*8+1) (.string (mtF (cntSnap f k0 k+1))) (Or.inr (by omega)))
    have C2d:=hideM (D1d.out.other (b':=bs) (o':=off+k*8+1) (.string (mtF (cntSnap f k0 k+1))) (Or.inr (by omega)))
    have C2e:=hideM (D1e.out.other (b':=bs) (o':=off+k*8+1) (.string (mtF (cntSnap f k0 k+1))) (Or.inr (by omega)))
    have C2f:=hideM (D1f.out.other (b':=bs) (o':=off+k*8+1) (.string (mtF (cntSnap f k0 k+1))) (Or.inr (by omega)))
    have C2g:=hideM (D1g.out.other (b':=bs) (o':=off+k*8+1) (.string (mtF (cntSnap f k0 k+1))) (Or.inr (by omega)))
    have C2h:=hideM (D1h.out.other (b':=bs) (o':=off+k*8+1) (.string (mtF (cntSnap f k0 k+1))) (Or.inr (by omega)))
    have HR2:=hideM (HS1.out.set (off+k*8+1) (.string (mtF (cntSnap f k0 k+1))) (by omega) (by omega))
    generalize (w1.setCell ⟨bs,off+k*8+1,none⟩ (.string (mtF (cntSnap f k0 k+1))))=Y2 at C2a C2b C2c C2d C2e C2f C2g C2h HR2 ⊢
    refine(markText_any _ Y2 (by omega)).mono ?_
    rintro e w2 ⟨rfl,hb2⟩
    have D2a:=hideM (C2a.out.below hb2)
    have D2b:=hideM (C2b.out.below hb2)
    have D2c:=hideM (C2c.out.below hb2)
    have D2d:=hideM (C2d.out.below hb2)
    have D2e:=hideM (C2e.out.below hb2)
    have D2f:=hideM (C2f.out.below hb2)
    have D2g:=hideM (C2g.out.below hb2)
    have D2h:=hideM (C2h.out.below hb2)
    have HS2:=hideM (HR2.out.below hb2)
    clear hb2 HR2 C2a C2b C2c C2d C2e C2f C2g C2h
    obtain⟨p0,p0'⟩:=D2a.out
    obtain⟨p1,p1'⟩:=D2b.out
    obtain⟨p2,p2'⟩:=D2c.out
    obtain⟨p3,p3'⟩:=D2d.out
    obtain⟨p4,p4'⟩:=D2e.out
    obtain⟨p5,p5'⟩:=D2f.out
    obtain⟨p6,p6'⟩:=D2g.out
    obtain⟨p7,p7'⟩:=D2h.out
    go_wp2_with fail
    clear p0 p0' p1 p1' p2 p2' p3 p3' p4 p4' p5 p5' p6 p6' p7 p7'
    have Ea:=hideM (((((D2a.out.other (b':=bs) (o':=off+k*8+2) (.string (mtF (cntSnap f k0 k+1+1))) (Or.inr (by omega))).other (b':=bs) (o':=off+k*8+3) (.int .i64 (cntSnap f k0 k+1+1+1)) (Or.inr (by omega))).other (b':=bs) (o':=off+k*8+4) (.int .i64 (cntSnap f k0 k+1+1+1+1)) (Or.inr (by omega))).other (b':=bs) (o':=off+k*8+5) (.int .i64 (cntSnap f k0 k+1+1+1+1+1)) (Or.inr (by omega))).other (b':=bs) (o':=off+k*8+5+1) (.int .i64 (cntSnap f k0 k+1+1+1+1+1+1)) (Or.inr (by omega)))
    have Eb:=hideM (((((D2b.out.other (b':=bs) (o':=off+k*8+2) (.string (mtF (cntSnap f k0 k+1+1))) (Or.inr (by omega))).other (b':=bs) (o':=off+k*8+3) (.int .i64 (cntSnap f k0 k+1+1+1)) (Or.inr (by omega))).other (b':=bs) (o':=off+k*8+4) (.int .i64 (cntSnap f k0 k+1+1+1+1)) (Or.inr (by omega))).other (b':=bs) (o':=off+k*8+5) (.int .i64 (cntSnap f k0 k+1+1+1+1+1)) (Or.inr (by omega))).other (b':=bs) (o':=off+k*8+5+1) (.int .i64 (cntSnap f k0 k+1+1+1+1+1+1)) (Or.inr (by omega)))
    have Ec:=hideM (((((D2c.out.set (.string (mtF (cntSnap f k0 k+1+1)))).other (b':=bs) (o':=off+k*8+3) (.int .i64 (cntSnap f k0 k+1+1+1)) (Or.inr (by omega))).other (b':=bs) (o':=off+k*8+4) (.int .i64 (cntSnap f k0 k+1+1+1+1)) (Or.inr (by omega))).other (b':=bs) (o':=off+k*8+5) (.int .i64 (cntSnap f k0 k+1+1+1+1+1)) (Or.inr (by omega))).other (b':=bs) (o':=off+k*8+5+1) (.int .i64 (cntSnap f k0 k+1+1+1+1+1+1)) (Or.inr (by omega)))
    have Ed:=hideM (((((D2d.out.other (b':=bs) (o':=off+k*8+2) (.string (mtF (cntSnap f k0 k+1+1))) (Or.inr (by omega))).set (.int .i64 (cntSnap f k0 k+1+1+1))).other (b':=bs) (o':=off+k*8+4) (.int .i64 (cntSnap f k0 k+1+1+1+1)) (Or.inr (by omega))).other (b':=bs) (o':=off+k*8+5) (.int .i64 (cntSnap f k0 k+1+1+1+1+1)) (Or.inr (by omega))).other (b':=bs) (o':=off+k*8+5+1) (.int .i64 (cntSnap f k0 k+1+1+1+1+1+1)) (Or.inr (by omega)))
    have Ee:=hideM (((((D2e.out.other (b':=bs) (o':=off+k*8+2) (.string (mtF (cntSnap f k0 k+1+1))) (Or.inr (by omega))).other (b':=bs) (o':=off+k*8+3) (.int .i64 (cntSnap f k0 k+1+1+1)) (Or.inr (by omega))).set (.int .i64 (cntSnap f k0 k+1+1+1+1))).other (b':=bs) (o':=off+k*8+5) (.int .i64 (cntSnap f k0 k+1+1+1+1+1)) (Or.inr (by omega))).other (b':=bs) (o':=off+k*8+5+1) (.int .i64 (cntSnap f k0 k+1+1+1+1+1+1)) (Or.inr (by omega)))
    have Ef:=hideM (((((D2f.out.other (b':=bs) (o':=off+k*8+2) (.string (mtF (cntSnap f k0 k+1+1))) (Or.inr (by omega))).other (b':=bs) (o':=off+k*8+3) (.int .i64 (cntSnap f k0 k+1+1+1)) (Or.inr (by omega))).other (b':=bs) (o':=off+k*8+4) (.int .i64 (cntSnap f k0 k+1+1+1+1)) (Or.inr (by omega))).set (.int .i64 (cntSnap f k0 k+1+1+1+1+1))).other (b':=bs) (o':=off+k*8+5+1) (.int .i64 (cntSnap f k0 k+1+1+1+1+1+1)) (Or.inr (by omega)))
    have Eg:=hideM (((((D2g.out.other (b':=bs) (o':=off+k*8+2) (.string (mtF (cntSnap f k0 k+1+1))) (Or.inr (by omega))).other (b':=bs) (o':=off+k*8+3) (.int .i64 (cntSnap f k0 k+1+1+1)) (Or.inr (by omega))).other (b':=bs) (o':=off+k*8+4) (.int .i64 (cntSnap f k0 k+1+1+1+1)) (Or.inr (by omega))).other (b':=bs) (o':=off+k*8+5) (.int .i64 (cntSnap f k0 k+1+1+1+1+1)) (Or.inr (by omega))).set (.int .i64 (cntSnap f k0 k+1+1+1+1+1+1)))
    have Eh:=hideM (((((D2h.out.other (b':=bs) (o':=off+k*8+2) (.string (mtF (cntSnap f k0 k+1+1))) (Or.inr (by omega))).other (b':=bs) (o':=off+k*8+3) (.int .i64 (cntSnap f k0 k+1+1+1)) (Or.inr (by omega))).other (b':=bs) (o':=off+k*8+4) (.int .i64 (cntSnap f k0 k+1+1+1+1)) (Or.inr (by omega))).other (b':=bs) (o':=off+k*8+5) (.int .i64 (cntSnap f k0 k+1+1+1+1+1)) (Or.inr (by omega))).other (b':=bs) (o':=off+k*8+5+1) (.int .i64 (cntSnap f k0 k+1+1+1+1+1+1)) (Or.inr (by omega)))
    have HRE:=hideM (((((HS2.out.set (off+k*8+2) (.string (mtF (cntSnap f k0 k+1+1))) (by omega) (by omega)).set (off+k*8+3) (.int .i64 (cntSnap f k0 k+1+1+1)) (by omega) (by omega)).set (off+k*8+4) (.int .i64 (cntSnap f k0 k+1+1+1+1)) (by omega) (by omega)).set (off+k*8+5) (.int .i64 (cntSnap f k0 k+1+1+1+1+1)) (by omega) (by omega)).set (off+k*8+5+1) (.int .i64 (cntSnap f k0 k+1+1+1+1+1+1)) (by omega) (by omega))
    generalize (((((w2.setCell ⟨bs,off+k*8+2,none⟩ (.string (mtF (cntSnap f k0 k+1+1)))).setCell ⟨bs,off+k*8+3,none⟩ (.int .i64 (cntSnap f k0 k+1+1+1))).setCell ⟨bs,off+k*8+4,none⟩ (.int .i64 (cntSnap f k0 k+1+1+1+1))).setCell ⟨bs,off+k*8+5,none⟩ (.int .i64 (cntSnap f k0 k+1+1+1+1+1))).setCell ⟨bs,off+k*8+5+1,none⟩ (.int .i64 (cntSnap f k0 k+1+1+1+1+1+1)))=Y at Ea Eb Ec Ed Ee Ef Eg Eh HRE ⊢
    refine(markPtrS_any (kb k) _ (f k).dn (f k).ds (f k).db _ Y (Hs.out.dead.turned HRE.out.turned (fun h0 hx=>Hs.out.apart h0 hx)) (by omega) (by omega)).mono ?_
    rintro e wz ⟨rfl,hpz,htz⟩
    have Hpz:=hideM hpz
    have Htz:=hideM htz
    clear hpz htz
    go_wp2
    go_roundw
    case rel=>
     refine⟨k+1,by omega,by go_num,congrArg (Value.int .i64) (by show _=cntSnap f k0 k+7+2*((f k).dn:Int); omega),fun j hj=>?_,?_⟩
     ·have st:=Snap_step (s:=markSnapD f k0 k) Hall.out (by
        intro i j hi hj hij h1 h2
        rw [stSnap_dn] at h1 h2
        exact Hap.out i j hi hj hij h1 h2) hlt HRE.out (by rw [if_neg (Nat.lt_irrefl k)]; exact Htz.out) Ea.out Eb.out Ec.out Ed.out Ee.out Ef.out Eg.out (by rw [Hx.out]; exact Eh.out) (by rw [if_neg (Nat.lt_irrefl k)]; rfl) (by rw [Hx.out]; exact Hpz.out) ⟨mtF_size (by omega),mtF_size (by omega)⟩ j hj
      by_cases e:j=k
      ·subst e
       rw [if_pos rfl] at st
       rw [if_pos (by omega)]
       exact st
      ·rw [if_neg e] at st
       by_cases e2:j<k
       ·rw [if_pos e2] at st; rw [if_pos (by omega)]; exact st
       ·rw [if_neg e2] at st; rw [if_neg (by omega)]; exact st
     ·refine(ht.trans (HRE.out.turned.mono ?_)).trans (Htz.out.mono ?_)
      ·rintro b rfl
       exact Or.inl ⟨by omega,rfl⟩
      ·rintro b ⟨hb,rfl⟩
       exact Or.inr ⟨k,hlt,hb,rfl⟩
    case measure=>simp [intOf]; omega
   ·obtain rfl:k=n:=by omega
    go_wp2
    go_ret
    refine⟨rfl,⟨hm1,_,c,rfl,mc,fun _=>⟨off,rfl,fun i hi=>?_⟩⟩,ht⟩
    have:=Hall.out i hi
    rw [if_pos hi] at this
    exact this
end Go.Proofs.YtihdcanckbkgfaaGreatDoor

namespace Go.Proofs.YtihdcanckbkgfaaGreatDoor
open Go.RowKit
set_option linter.unusedVariables false
def markW(W:WorldD)(k0:Int):WorldD:={pool:=markP W.pool k0,time:=W.time,next:=W.next,sn:=W.sn,sets:=markSetD W.sets (endP W.pool k0),pn:=W.pn,snaps:=markSnapD W.snaps (cntSet W.sets (endP W.pool k0) W.sn)}
def endW(W:WorldD)(k0:Int):Int:=cntSnap W.snaps (cntSet W.sets (endP W.pool k0) W.sn) W.pn
theorem endP_le(p:PoolD)(k0:Int):k0≤endP p k0:=by
 unfold endP
 have:=cntSl_le p.s k0 (Nat.zero_le p.n)
 have h0:cntSl p.s k0 0=k0:=rfl
 omega
theorem endW_le(W:WorldD)(k0:Int):k0≤endP W.pool k0∧endP W.pool k0≤cntSet W.sets (endP W.pool k0) W.sn∧cntSet W.sets (endP W.pool k0) W.sn≤endW W k0:=
 ⟨endP_le _ _,cntSet_le W.sets (endP W.pool k0) (Nat.zero_le _),cntSnap_le W.snaps (cntSet W.sets (endP W.pool k0) W.sn) (Nat.zero_le _)⟩
set_option maxRecDepth 20000 in
set_option maxHeartbeats 400000 in
theorem markWorld_any(lo hi:Nat)(v0 v1 v2 v3:Value)(W:WorldD)(k0:Int)(w:World)(h:WorldOwn w lo hi v0 v1 v2 v3 W)(hk0:0≤k0)(hk1:endW W k0≤1000000000000) :
  Calls Tryz.prog 12 #[worldV v0 v1 v2 v3 W,.int .i64 k0] w fun e w'=>e = .returned (.int .i64 (endW W k0))∧WorldOwn w' lo hi v0 v1 v2 v3 (markW W k0)∧Turned (fun k=>lo≤k∧k<hi) w w':=by
 obtain⟨a0,c0,a1,c1,a2,c2,a3,c3,rfl,rfl,rfl,rfl⟩:=h.form
 obtain⟨P,Q,R,⟨⟨bs,hb,kb,kv,s1,s2,s3,s4,s5⟩,⟨bt,kt,vt,t1,t2,t3⟩,⟨bp,kp,vp,p1,p2,p3⟩,pq,pr,qr⟩,hl⟩:=h
 have S1:=hideM s1
 have S2:=hideM s2
 have S3:=hideM s3
 have S4:=hideM s4
 have S5:=hideM s5
 have T1:=hideM t1
 have T2:=hideM t2
 have T3:=hideM t3
 have P1:=hideM p1
 have P2:=hideM p2
 have P3:=hideM p3
 have HPQ:=hideM (And.intro pq (And.intro pr (And.intro qr hl)))
 have HE:=hideM (endW_le W k0)
 have HK:=hideM hk1
 have HB:=hideM (Box6.new w (.slice a0 W.pool.n c0) (.slice a1 W.pool.hn c1) (.int .i64 W.time) (.int .i64 W.next) (.slice a2 W.sn c2) (.slice a3 W.pn c3) 37)
 have ha:=below_alloc w (.cells #[.slice a0 W.pool.n c0,.slice a1 W.pool.hn c1,.int .i64 W.time,.int .i64 W.next,.slice a2 W.sn c2,.slice a3 W.pn c3] 37)
 have NA:=hideM (show ∀k,SlotsB bs kb W.pool.n W.pool.s k∨(0<W.pool.hn∧k=hb)→k<w.heap.size from fun k hk=>by
  rcases hk with hk | ⟨h0,rfl⟩
  ·exact s1.lt hk
  ·obtain⟨_,_,_,_,_,h3,_⟩:=s3
   obtain⟨o,_,h4⟩:=h3 h0
   exact(h4 0 h0).lt)
 have NB:=hideM (show ∀k,SetsB bt kt W.sn W.sets k→k<w.heap.size from fun k hk=>t1.lt hk)
 have NC:=hideM (show ∀k,SnapsB bp kp W.pn W.snaps k→k<w.heap.size from fun k hk=>p1.lt hk)
 clear s1 s2 s3 s4 s5 t1 t2 t3 p1 p2 p3 pq pr qr hl hk1
 obtain⟨⟨x0,-⟩,⟨x1,-⟩,⟨x2,-⟩,⟨x3,-⟩,⟨x4,-⟩,⟨x5,-⟩⟩:=HB.out
 go_enter Tryz.func12,Tryz.ntmps12
 go_wp2_with fail
 clear x0 x1 x2 x3 x4 x5
 have hsz:(w.alloc (.cells #[.slice a0 W.pool.n c0,.slice a1 W.pool.hn c1,.int .i64 W.time,.int .i64 W.next,.slice a2 W.sn c2,.slice a3 W.pn c3] 37)).heap.size=w.heap.size+1:=World.size_alloc _ _
 have HS0:=hideM hsz
 clear hsz
 generalize w.alloc (.cells #[.slice a0 W.pool.n c0,.slice a1 W.pool.hn c1,.int .i64 W.time,.int .i64 W.next,.slice a2 W.sn c2,.slice a3 W.pn c3] 37)=W0 at ha HB HS0 ⊢
 refine(markPool_any bs hb kb kv _ _ W.pool k0 W0 (S1.out.below ha) S2.out (S3.out.below ha) S4.out hk0 (by have h1:=HE.out; have h2:=HK.out; unfold endP at h1; omega)).mono ?_
 rintro e w1 ⟨rfl,g1,g2,ht1⟩
 have G1:=hideM g1
 have G2:=hideM g2
 have HT1:=hideM ht1
 have HB1:=hideM (HB.out.turned ht1 (fun x=>absurd (NA.out _ x) (by omega)))
 have TT1:=hideM ((T1.out.below ha).turned ht1 (fun k hk x=>HPQ.out.1 k (S5.out k x) (T3.out k hk)))
 have PP1:=hideM ((P1.out.below ha).turned ht1 (fun k hk x=>HPQ.out.2.1 k (S5.out k x) (P3.out k hk)))
 clear g1 g2 ht1 HB
 obtain⟨⟨x0,-⟩,⟨x1,-⟩,⟨x2,-⟩,⟨x3,-⟩,⟨x4,-⟩,⟨x5,-⟩⟩:=HB1.out
 go_wp2_with fail
 clear x0 x1 x2 x3 x4 x5
 refine(markSetS_any bt kt vt _ W.sn W.sets _ w1 TT1.out T2.out (by have h1:=HE.out; unfold endP at h1; omega) (by have h1:=HE.out; have h2:=HK.out; unfold endP at h1; omega)).mono ?_
 rintro e w2 ⟨rfl,g3,ht2⟩
 have G3:=hideM g3
 have HT2:=hideM ht2
 have hn1:¬SetsB bt kt W.sn W.sets w.heap.size:=fun x=>absurd (NB.out _ x) (by omega)
 have HB2:=hideM (HB1.out.turned ht2 hn1)
 have PP2:=hideM (PP1.out.turned ht2 (fun k hk x=>HPQ.out.2.2.1 k (T3.out k x) (P3.out k hk)))
 clear g3 ht2 HB1 hn1
 obtain⟨⟨x0,-⟩,⟨x1,-⟩,⟨x2,-⟩,⟨x3,-⟩,⟨x4,-⟩,⟨x5,-⟩⟩:=HB2.out
 go_wp2_with fail
 clear x0 x1 x2 x3 x4 x5
 refine(markSnapS_any bp kp vp _ W.pn W.snaps _ w2 PP2.out P2.out (by have h1:=HE.out; unfold endP at h1; omega) (by have h1:=HE.out; have h2:=HK.out; unfold endW endP at *; omega)).mono ?_
 rintro e w3 ⟨rfl,g4,ht3⟩
 have G4:=hideM g4
 have HT3:=hideM ht3
 clear g4 ht3
 go_wp2
 go_ret
 refine⟨rfl,⟨P,Q,R,⟨⟨bs,hb,kb,kv,?_,S2.out,?_,S4.out,S5.out⟩,⟨bt,kt,vt,?_,T2.out,T3.out⟩,⟨bp,kp,vp,G4.out,P2.out,P3.out⟩,HPQ.out.1,HPQ.out.2.1,HPQ.out.2.2.1⟩,HPQ.out.2.2.2⟩,?_⟩
 ·refine(G1.out.turned HT2.out (fun h0 x=>?_) (fun i hi h0 x=>?_)).turned HT3.out (fun h0 x=>?_) (fun i hi h0 x=>?_)
  ·exact HPQ.out.1 _ (S5.out _ (Or.inl (Or.inl ⟨h0,rfl⟩))) (T3.out _ x)
  ·exact HPQ.out.1 _ (S5.out _ (Or.inl (Or.inr ⟨i,hi,h0,rfl⟩))) (T3.out _ x)
  ·exact HPQ.out.2.1 _ (S5.out _ (Or.inl (Or.inl ⟨h0,rfl⟩))) (P3.out _ x)
  ·exact HPQ.out.2.1 _ (S5.out _ (Or.inl (Or.inr ⟨i,hi,h0,rfl⟩))) (P3.out _ x)
 ·refine(G2.out.turned HT2.out (fun h0 x=>?_)).turned HT3.out (fun h0 x=>?_)
  ·exact HPQ.out.1 _ (S5.out _ (Or.inr ⟨h0,rfl⟩)) (T3.out _ x)
  ·exact HPQ.out.2.1 _ (S5.out _ (Or.inr ⟨h0,rfl⟩)) (P3.out _ x)
 ·exact G3.out.turned HT3.out (fun k hk x=>HPQ.out.2.2.1 k (T3.out k hk) (P3.out k x))
 ·refine(((Turned.of_below ha).trans (HT1.out.mono ?_)).trans (HT2.out.mono ?_)).trans (HT3.out.mono ?_)
  ·exact fun k hk=>HPQ.out.2.2.2 k (Or.inl (S5.out k hk))
  ·exact fun k hk=>HPQ.out.2.2.2 k (Or.inr (Or.inl (T3.out k hk)))
  ·exact fun k hk=>HPQ.out.2.2.2 k (Or.inr (Or.inr (P3.out k hk)))
end Go.Proofs.YtihdcanckbkgfaaGreatDoor

namespace Go.Proofs.YtihdcanckbkgfaaGreatDoor
open Go.RowKit
set_option linter.unusedVariables false
theorem cntSl_big(f:Nat→SlotD)(k0:Int):∀n,cntSl f k0 n≤k0+2*(n:Int)+2*(slotsN f n:Int)
 | 0=>by show k0≤_; omega
 | n+1=>by
  have:=cntSl_big f k0 n
  show cntSl f k0 n+2+2*((f n).kn:Int)≤k0+2*((n+1:Nat):Int)+2*((slotsN f n+((f n).kn+(f n).data.size):Nat):Int)
  omega
theorem cntSet_big(f:Nat→SetD)(k0:Int):∀n,cntSet f k0 n≤k0+5*(n:Int)+2*(setsN f n:Int)
 | 0=>by show k0≤_; omega
 | n+1=>by
  have:=cntSet_big f k0 n
  show cntSet f k0 n+5+2*((f n).dn:Int)≤k0+5*((n+1:Nat):Int)+2*((setsN f n+((f n).name.size+(f n).dn):Nat):Int)
  omega
theorem cntSnap_big(f:Nat→SnapD)(k0:Int):∀n,cntSnap f k0 n≤k0+7*(n:Int)+2*(snapsN f n:Int)
 | 0=>by show k0≤_; omega
 | n+1=>by
  have:=cntSnap_big f k0 n
  show cntSnap f k0 n+7+2*((f n).dn:Int)≤k0+7*((n+1:Nat):Int)+2*((snapsN f n+((f n).name.size+(f n).set.size+(f n).dn):Nat):Int)
  omega
theorem endW_small{W:WorldD}(h:worldN W≤4000000):endW W 1≤1000000000000∧0≤endW W 1:=by
 have h1:=cntSl_big W.pool.s 1 W.pool.n
 have h2:=endW_le W 1
 have h3:=cntSet_big W.sets (endP W.pool 1) W.sn
 have h4:=cntSnap_big W.snaps (cntSet W.sets (endP W.pool 1) W.sn) W.pn
 unfold worldN poolN at h
 have h5:endP W.pool 1=cntSl W.pool.s 1 W.pool.n+W.pool.hn:=rfl
 have h6:endW W 1=cntSnap W.snaps (cntSet W.sets (endP W.pool 1) W.sn) W.pn:=rfl
 generalize endP W.pool 1=e at *
 generalize cntSet W.sets e W.sn=s at *
 omega
end Go.Proofs.YtihdcanckbkgfaaGreatDoor

namespace Go.Proofs.YtihdcanckbkgfaaGreatDoor
open Go.RowKit
set_option linter.unusedVariables false
theorem endW_big(W:WorldD)(k0:Int):endW W k0≤k0+8*(worldN W:Int):=by
 have h1:=cntSl_big W.pool.s k0 W.pool.n
 have h2:=endW_le W k0
 have h3:=cntSet_big W.sets (endP W.pool k0) W.sn
 have h4:=cntSnap_big W.snaps (cntSet W.sets (endP W.pool k0) W.sn) W.pn
 have h7:worldN W=W.pool.n+slotsN W.pool.s W.pool.n+W.pool.hn+(W.sn+setsN W.sets W.sn)+(W.pn+snapsN W.snaps W.pn):=rfl
 have h5:endP W.pool k0=cntSl W.pool.s k0 W.pool.n+W.pool.hn:=rfl
 have h6:endW W k0=cntSnap W.snaps (cntSet W.sets (endP W.pool k0) W.sn) W.pn:=rfl
 generalize endP W.pool k0=e at *
 generalize cntSet W.sets e W.sn=s at *
 omega
theorem endW_within{W:WorldD}{k0:Int}(h:worldN W≤4000000)(h0:0≤k0)(h1:k0≤100000000):endW W k0≤1000000000000∧0≤endW W k0:=by
 have:=endW_big W k0
 have:=endW_le W k0
 omega
theorem world_bounds{W:WorldD}(h:worldN W≤1048576):poolN W.pool≤1048576∧W.sn≤1048576∧W.pn≤1048576∧DeadsN W:=by
 refine⟨?_,?_,?_,worldN_deads h⟩
 all_goals
  unfold worldN at h
  omega
end Go.Proofs.YtihdcanckbkgfaaGreatDoor

namespace Go.Proofs.YtihdcanckbkgfaaGreatDoor
open Go.RowKit
set_option linter.unusedVariables false
theorem setsN_edit(f:Nat→SetD)(k:Nat)(s:SetD)(hs:setN s≤setN (f k)):∀n,setsN (fun j=>if j=k then s else f j) n≤setsN f n
 | 0=>Nat.le_refl _
 | n+1=>by
  have ih:=setsN_edit f k s hs n
  show setsN _ n+setN (if n=k then s else f n)≤setsN f n+setN (f n)
  by_cases e:n=k
  ·subst e; rw [if_pos rfl]; omega
  ·rw [if_neg e]; omega
end Go.Proofs.YtihdcanckbkgfaaGreatDoor

namespace Go.Proofs.YtihdcanckbkgfaaGreatDoor
open Go.RowKit
set_option linter.unusedVariables false
def RollbackIs(W:WorldD)(name:ByteArray)(oo:WOutD):Prop:=∃r o,RefI W (∃i,i<1∧8000<((fun (_:Nat)=>name) i).size) (∃i,i<0∧¬NameP ((fun _=>⟨#[]⟩) i)) 2 (fun i=>match i with | 0=>HasSet W name | _=>(aheadOf W (setAt W name).prev).set=name) (fun i=>match i with | 0=>2 | _=>2) r∧(r=none→∃k,SetNo W name k∧o=⟨rollW W k,0,((shedL W (W.sets k)).length:Int),0⟩)∧oo=outW r o
theorem RollbackIs.uniq{W:WorldD}{name:ByteArray}{o o':WOutD}(h:RollbackIs W name o)(h':RollbackIs W name o'):o=o':=by
 obtain⟨r,a,h1,h2,rfl⟩:=h
 obtain⟨r',b,g1,g2,rfl⟩:=h'
 obtain rfl:=h1.uniq g1
 cases r with
 | some i=>rfl
 | none=>
  obtain⟨k,hk,rfl⟩:=h2 rfl
  obtain⟨k',hk',rfl⟩:=g2 rfl
  obtain rfl:=hk.uniq hk'
  rfl
open Classical in
noncomputable def rollbackAns(W:WorldD)(name:ByteArray):WOutD:=if h:∃o,RollbackIs W name o then h.choose else refuseW 0
theorem rollbackAns_of{W:WorldD}{name:ByteArray}{w w':World}{e:Ending}(h:AnsRollback W name w e w'):NewWOut (rollbackAns W name) w e w':=by
 obtain⟨r,o,h1,h2,h3⟩:=h
 have hi:RollbackIs W name (outW r o):=⟨r,o,h1,h2,rfl⟩
 have hx:∃o,RollbackIs W name o:=⟨_,hi⟩
 have he:rollbackAns W name=outW r o:=by
  unfold rollbackAns
  rw [dif_pos hx]
  exact hx.choose_spec.uniq hi
 rw [he]
 exact h3
theorem poolN_holdAll:∀(l:List (Int×Int)) (p:PoolD),poolN (holdAll p l)=poolN p+l.length
 | [],_=>rfl
 | x :: l,p=>by
  have h:=poolN_holdAll l (holdD p x.1)
  have e:poolN (holdD p x.1)=poolN p+1:=rfl
  show poolN (holdAll (holdD p x.1) l)=_
  rw [h,e,List.length_cons]
  omega
theorem shed_len(W:WorldD)(s:SetD):(shedL W s).length≤73:=by
 have h1:=young_len (fstL (treeL W.pool s.rs s.rb)) (sndL (treeL W.pool s.rs s.rb)) (aheadOf W s.prev).time (treeL W.pool s.rs s.rb).length
 have h2:=treeL_len W.pool s.rs s.rb
 unfold shedL
 omega
theorem worldN_roll(W:WorldD)(k:Nat):worldN (rollW W k)≤worldN W+73:=by
 have h1:=setsN_edit W.sets k (rollS W (W.sets k)) (by unfold setN rollS; dsimp only; omega) W.sn
 have h2:=poolN_holdAll (shedL W (W.sets k)) W.pool
 have h3:=shed_len W (W.sets k)
 have h7:worldN (rollW W k)=poolN (holdAll W.pool (shedL W (W.sets k)))+(W.sn+setsN (fun j=>if j=k then rollS W (W.sets k)else W.sets j) W.sn)+(W.pn+snapsN W.snaps W.pn):=rfl
 have h8:worldN W=poolN W.pool+(W.sn+setsN W.sets W.sn)+(W.pn+snapsN W.snaps W.pn):=rfl
 omega
theorem rollbackAns_small{W:WorldD}{name:ByteArray}(hN:worldN W≤1048576):endW (rollbackAns W name).world 1≤1000000000000∧0≤endW (rollbackAns W name).world 1:=by
 have hz:∀c,endW (refuseW c).world 1≤1000000000000∧0≤endW (refuseW c).world 1:=fun c=>endW_within (W:=noW) (by decide) (by decide) (by decide)
 unfold rollbackAns
 split
 ·rename_i h
  obtain⟨r,o,h1,h2,h3⟩:=h.choose_spec
  rw [h3]
  cases r with
  | some i=>exact hz _
  | none=>
   obtain⟨k,hk,rfl⟩:=h2 rfl
   have hb:=worldN_roll W k
   exact endW_within (W:=rollW W k) (by omega) (by decide) (by decide)
 ·exact hz _
end Go.Proofs.YtihdcanckbkgfaaGreatDoor

namespace Go.Proofs.YtihdcanckbkgfaaGreatDoor
open Go.RowKit
set_option linter.unusedVariables false
theorem IntsOwn.row{w:World}{b n c:Nat}{a:Option Addr}{f:Nat→Int}(h:IntsOwn w b (.slice a n c) n f)(hlt:n<c):w.ownsRow b 2 1 (.slice a n c) n (ic f n)∧a=some ⟨b,0,none⟩∧0<n:=by
 obtain⟨hm,a0,c0,hv,hcc,hc,hr⟩:=h
 simp only [Value.slice.injEq,true_and] at hv
 obtain⟨rfl,rfl⟩:=hv
 obtain⟨h0,rfl,hcm,cur,hcur,hsz⟩:=hr hlt
 obtain⟨off,ha,hcell⟩:=hc h0
 simp only [Option.some.injEq,Addr.mk.injEq,true_and,and_true] at ha
 subst ha
 refine⟨⟨ic_len _ _,.inr ⟨b,c,cur,rfl,Nat.le_refl _,hcur,hcc,hcm,by simpa using hsz,?_⟩⟩,rfl,h0⟩
 apply List.ext_getElem?
 intro j
 by_cases hj:j<n
 ·have e:=(hcell j hj).1
  rw [Nat.zero_add,cell_of_row w b j cur _ (0,0) hcur] at e
  rw [List.getElem?_take,if_pos (by omega),ic_at f n j hj]
  simpa using e
 ·rw [List.getElem?_eq_none (by simp; omega),List.getElem?_eq_none (by rw [ic_len]; omega)]
theorem IntsOwn.block{w:World}{b n:Nat}{v:Value}{f:Nat→Int}(h:IntsOwn w b v n f)(h0:0<n):v.ownBlock=some b:=by
 obtain⟨_,a,c,rfl,_,hc,_⟩:=h
 obtain⟨off,rfl,_⟩:=hc h0
 rfl
theorem intsTy:Tryz.prog.underlying 23=some (.slice 2):=by kernel_rfl
set_option maxRecDepth 20000 in
theorem run_hold1{w:World}{b n B:Nat}{v:Value}{f:Nat→Int}{x:Int}(h:IntsOwn w b v n f)(hn:n≤1000)(hnew:w.cell? ⟨B,0,none⟩=some (.int .i64 x))(ty:TypeId) :
  ∃base g cap w',(Builtin.append_ #[23,23] ty #[v,.slice (some ⟨B,0,none⟩) 1 1]).run Tryz.prog w = .ok (.slice (some ⟨g,0,none⟩) (n+1) cap) w'∧w'.ownsRow base 2 1 (.slice (some ⟨g,0,none⟩) (n+1) cap) (n+1) (ic f n ++ [.int .i64 x])∧Turned (fun k=>0<n∧v.ownBlock=some k) w w'∧((0<n∧v.ownBlock=some g)∨w.heap.size≤g)∧g<w'.heap.size:=by
 obtain⟨i0,hi0,hzz⟩:=Option.map_eq_some_iff.1 infoInt64
 simp only [Prod.mk.injEq] at hzz
 obtain⟨hz,hs,hby⟩:=hzz
 obtain⟨a,c,rfl⟩:∃a c,v = .slice a n c:=by obtain⟨_,a,c,e,_⟩:=h; exact⟨a,c,e⟩
 by_cases hlt:n<c
 ·obtain⟨hown,rfl,h0⟩:=h.row hlt
  obtain⟨g,cap,w',hr,h2,h3,h4,h5⟩:=run_append_lies (P:=Tryz.prog) w 23 ty b 2 i0 _ 1 8 intsTy hi0 hz hs hby rfl (by decide) _ n (ic f n) hown ⟨B,0,none⟩ 1 1 [.int .i64 x] rfl (news1_of hnew) (one1 x) (by omega) (by unfold maxLen; omega) (by omega) (by have:=hown.lt b rfl; omega) w.heap.size rfl
  refine⟨b,g,cap,w',hr,h2,?_,?_,h5⟩
  ·refine⟨h3.os,h3.tape,h3.output,h3.size,fun k hk hne=>h3.block k hk (fun e=>hne ⟨h0,e.symm⟩)⟩
  ·exact h4.imp (fun h=>⟨h0,h⟩) (fun h=>by omega)
 ·obtain⟨hm,a0,c0,hv,hcc,hcell,-⟩:=h
  simp only [Value.slice.injEq,true_and] at hv
  obtain⟨rfl,rfl⟩:=hv
  obtain rfl:c=n:=by omega
  by_cases h0:0<c
  ·obtain⟨off,rfl,hcs⟩:=hcell h0
   obtain⟨v',w',hr,h1,h2⟩:=run_append_arg_grows (P:=Tryz.prog) w 23 ty 2 i0 _ 1 8 intsTy hi0 hz hs hby rfl (by decide) ⟨b,off,none⟩ c c (ic f c) (by rw [ic_len]) (fun j u hj=>by
     have hjl:j<c:=by
      have:=(List.getElem?_eq_some_iff.1 hj).1
      rw [ic_len] at this
      omega
     have hj':=ic_at f c j hjl
     rw [hj] at hj'
     injection hj' with hj'
     subst hj'
     have e:(⟨b,off,none⟩:Addr).add j=⟨b,off+j,none⟩:=by
      unfold Addr.add
      split
      ·simp_all
      ·simp
     rw [e]
     exact(hcs j hjl).1) ⟨B,0,none⟩ 1 1 [.int .i64 x] rfl (news1_of hnew) (by omega) (by unfold maxLen; omega) (by omega)
   obtain⟨g,cap,rfl,hcap,hbg,hgl,-⟩:=owns_cell h1 (by omega)
   exact⟨_,g,cap,w',hr,h1,⟨h2.os,h2.tape,h2.output,h2.size,fun k hk _=>h2.block k hk (by simp)⟩,Or.inr hbg,hgl⟩
  ·obtain rfl:c=0:=by omega
   obtain⟨g,cap,w',hr,h2,h3,h4,h5⟩:=run_append_lies (P:=Tryz.prog) w 23 ty w.heap.size 2 i0 _ 1 8 intsTy hi0 hz hs hby rfl (by decide) (.slice none 0 0) 0 [] ⟨by simp,Or.inl ⟨rfl,rfl⟩⟩ ⟨B,0,none⟩ 1 1 [.int .i64 x] rfl (news1_of hnew) (one1 x) (by omega) (by unfold maxLen; omega) (by omega) (Nat.le_refl _) w.heap.size rfl
   refine⟨_,g,cap,w',?_,h2,⟨h3.os,h3.tape,h3.output,h3.size,fun k hk _=>h3.block k hk (by simp [Value.ownBlock])⟩,Or.inr ?_,h5⟩
   ·rw [run_append_cap0 23 ty 2 i0 a ⟨B,0,none⟩ 1 1 intsTy hi0 (by omega) (by rw [hby]; omega)]; exact hr
   ·rcases h4 with h4 | h4
    ·cases h4
    ·omega
end Go.Proofs.YtihdcanckbkgfaaGreatDoor
