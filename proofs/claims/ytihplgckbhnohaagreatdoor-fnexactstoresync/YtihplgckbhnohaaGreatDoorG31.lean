/- What the laws' marking of sets and snapshots leaves (no law is proved here). -/
import Derived.Test.YtihplgckbhnohaaGreatDoorG30
import Derived.Test.YtihplgckbhnohaaGreatDoorG2
import Derived.Test.YtihplgckbhnohaaGreatDoorG3
import Derived.Test.YtihplgckbhnohaaGreatDoorProg
import GoSem.ClaimJoined
import GoSem.ClaimMapViews
import Derived.JoinedTies
import Derived.KernelRfl
import Derived.RowKit
import Derived.Test.YtihplgckbhnohaaGreatDoorG1
import Derived.Test.YtihplgckbhnohaaGreatDoorG27
namespace Go.Proofs.YtihplgckbhnohaaGreatDoor
open Go.RowKit
set_option linter.unusedVariables false
def cntSet(f:Nat→SetD)(k0:Int):Nat→Int
 | 0=>k0
 | j+1=>cntSet f k0 j+5+2*(f j).dn
def markedSet(s:SetD)(c:Int):SetD:={name:=mtF (c),origin:=c+1,prev:=c+1+1,rs:=c+1+1+1,rb:=c+1+1+1+1,dn:=s.dn,ds:=fun i=>c+1+1+1+1+1+2*i,db:=fun i=>c+1+1+1+1+1+2*i+1}
theorem cntSet_mono(f:Nat→SetD)(k0:Int)(j:Nat):∀m,cntSet f k0 j≤cntSet f k0 (j+m)
 | 0=>Int.le_refl _
 | m+1=>by
  have:=cntSet_mono f k0 j m
  show _≤cntSet f k0 (j+m)+5+2*((f (j+m)).dn:Int)
  omega
theorem cntSet_le(f:Nat→SetD)(k0:Int){j n:Nat}(h:j≤n):cntSet f k0 j≤cntSet f k0 n:=by
 obtain⟨m,rfl⟩:=Nat.exists_eq_add_of_le h
 exact cntSet_mono f k0 j m
def markSetD(f:Nat→SetD)(k0:Int)(j:Nat):SetD:=markedSet (f j) (cntSet f k0 j)
theorem stSet_start(f:Nat→SetD)(k0:Int)(j:Nat):(if j<0 then markSetD f k0 j else f j)=f j:=if_neg (by omega)
theorem stSet_dn(f:Nat→SetD)(k0:Int)(k j:Nat):(if j<k then markSetD f k0 j else f j).dn=(f j).dn:=by split <;> rfl
set_option maxRecDepth 20000 in
set_option maxHeartbeats 1000000 in
theorem markSetS_any(bs:Nat)(kb:Nat→Nat)(kv:Nat→Value)(v:Value)(n:Nat)(f:Nat→SetD)(k0:Int)(w:World)(h1:SetsOwn w bs kb kv v n f)(hap:SetsApart kb n f)(hk0:0≤k0)(hk1:cntSet f k0 n≤1000000000000) :
  Calls Tryz.prog 40 #[v,.int .i64 k0] w fun e w'=>e = .returned (.int .i64 (cntSet f k0 n))∧SetsOwn w' bs kb kv v n (markSetD f k0)∧Turned (SetsB bs kb n f) w w':=by
 obtain⟨m1,a,c,rfl,mc,g1⟩:=h1
 by_cases hn0:n=0
 ·subst hn0
  go_enter Tryz.func40,Tryz.ntmps40
  go_wp2
  refine wp_loop_rounds 1 ?_
  rw [rounds_succ]
  go_wp2
  go_ret
  exact⟨by simp [cntSet],⟨m1,a,c,rfl,mc,fun h=>absurd h (by omega)⟩,Turned.refl _ _⟩
 ·obtain⟨off,rfl,g2⟩:=g1 (by omega)
  clear g1
  have hm1:=m1
  unfold maxLen at m1
  have G2:=hideM g2
  have Hap:=hideM hap
  have Hk1:=hideM hk1
  clear g2 hap hk1
  go_enter Tryz.func40,Tryz.ntmps40
  go_wp2
  go_loopw [1,5] (fun m i wr=>∃k:Nat,k≤n∧i = .int .i64 k∧m = .int .i64 (cntSet f k0 k)∧(∀j,j<n→SetOwn wr bs (off+j*6) (kb j) (kv j) (if j<k then markSetD f k0 j else f j))∧Turned (SetsB bs kb n f) w wr) (fun _ i _=>n - (intOf i).toNat)
  case atStart=>exact⟨0,Nat.zero_le _,rfl,rfl,fun j hj=>by rw [stSet_start]; exact G2.out j hj,Turned.refl _ _⟩
  case round=>
   obtain⟨k,hk,rfl,rfl,hall,ht⟩:=hrel
   have Hall:=hideM hall
   clear hall
   by_cases hlt:k<n
   ·have hlt':(k:Int)<(n:Int):=by omega
    have hs:=Hall.out k hlt
    rw [if_neg (by omega)] at hs
    have hc0:k0≤cntSet f k0 k:=cntSet_le f k0 (Nat.zero_le k)
    have hc1:cntSet f k0 k+5+2*((f k).dn:Int)≤1000000000000:=Int.le_trans (cntSet_le f k0 (show k+1≤n from hlt)) Hk1.out
    have Hs:=hideM hs
    obtain⟨-,ka,kc,hkv,-⟩:=hs.dead
    clear hs
    generalize hx:kv k=kvk at *
    have Hx:=hideM hx
    clear hx
    subst hkv
    obtain⟨⟨p0,p0'⟩,⟨p1,p1'⟩,⟨p2,p2'⟩,⟨p3,p3'⟩,⟨p4,p4'⟩,⟨p5,p5'⟩⟩:=And.intro Hs.out.c0 (And.intro Hs.out.c1 (And.intro Hs.out.c2 (And.intro Hs.out.c3 (And.intro Hs.out.c4 Hs.out.c5))))
    have HR:=hideM (RowTurned.refl bs (off+k*6) 6 wr)
    go_wp2_with fail
    clear p0 p0' p1 p1' p2 p2' p3 p3' p4 p4' p5 p5'
    have C1a:=hideM Hs.out.c0
    have C1b:=hideM Hs.out.c1
    have C1c:=hideM Hs.out.c2
    have C1d:=hideM Hs.out.c3
    have C1e:=hideM Hs.out.c4
    have C1f:=hideM Hs.out.c5
    have HR1:=hideM HR.out
    refine(markText_any _ wr (by omega)).mono ?_
    rintro e w1 ⟨rfl,hb1⟩
    have D1a:=hideM (C1a.out.below hb1)
    have D1b:=hideM (C1b.out.below hb1)
    have D1c:=hideM (C1c.out.below hb1)
    have D1d:=hideM (C1d.out.below hb1)
    have D1e:=hideM (C1e.out.below hb1)
    have D1f:=hideM (C1f.out.below hb1)
    have HS1:=hideM (HR1.out.below hb1)
    clear hb1 HR1 C1a C1b C1c C1d C1e C1f
    obtain⟨p0,p0'⟩:=D1a.out
    obtain⟨p1,p1'⟩:=D1b.out
    obtain⟨p2,p2'⟩:=D1c.out
    obtain⟨p3,p3'⟩:=D1d.out
    obtain⟨p4,p4'⟩:=D1e.out
    obtain⟨p5,p5'⟩:=D1f.out
    go_wp2_with fail
    clear p0 p0' p1 p1' p2 p2' p3 p3' p4 p4' p5 p5'
    have Ea:=hideM (((((D1a.out.set (.string (mtF (cntSet f k0 k)))).other (b':=bs) (o':=off+k*6+1) (.int .i64 (cntSet f k0 k+1)) (Or.inr (by omega))).other (b':=bs) (o':=off+k*6+2) (.int .i64 (cntSet f k0 k+1+1)) (Or.inr (by omega))).other (b':=bs) (o':=off+k*6+3) (.int .i64 (cntSet f k0 k+1+1+1)) (Or.inr (by omega))).other (b':=bs) (o':=off+k*6+3+1) (.int .i64 (cntSet f k0 k+1+1+1+1)) (Or.inr (by omega)))
    have Eb:=hideM (((((D1b.out.other (b':=bs) (o':=off+k*6) (.string (mtF (cntSet f k0 k))) (Or.inr (by omega))).set (.int .i64 (cntSet f k0 k+1))).other (b':=bs) (o':=off+k*6+2) (.int .i64 (cntSet f k0 k+1+1)) (Or.inr (by omega))).other (b':=bs) (o':=off+k*6+3) (.int .i64 (cntSet f k0 k+1+1+1)) (Or.inr (by omega))).other (b':=bs) (o':=off+k*6+3+1) (.int .i64 (cntSet f k0 k+1+1+1+1)) (Or.inr (by omega)))
    have Ec:=hideM (((((D1c.out.other (b':=bs) (o':=off+k*6) (.string (mtF (cntSet f k0 k))) (Or.inr (by omega))).other (b':=bs) (o':=off+k*6+1) (.int .i64 (cntSet f k0 k+1)) (Or.inr (by omega))).set (.int .i64 (cntSet f k0 k+1+1))).other (b':=bs) (o':=off+k*6+3) (.int .i64 (cntSet f k0 k+1+1+1)) (Or.inr (by omega))).other (b':=bs) (o':=off+k*6+3+1) (.int .i64 (cntSet f k0 k+1+1+1+1)) (Or.inr (by omega)))
    have Ed:=hideM (((((D1d.out.other (b':=bs) (o':=off+k*6) (.string (mtF (cntSet f k0 k))) (Or.inr (by omega))).other (b':=bs) (o':=off+k*6+1) (.int .i64 (cntSet f k0 k+1)) (Or.inr (by omega))).other (b':=bs) (o':=off+k*6+2) (.int .i64 (cntSet f k0 k+1+1)) (Or.inr (by omega))).set (.int .i64 (cntSet f k0 k+1+1+1))).other (b':=bs) (o':=off+k*6+3+1) (.int .i64 (cntSet f k0 k+1+1+1+1)) (Or.inr (by omega)))
    have Ee:=hideM (((((D1e.out.other (b':=bs) (o':=off+k*6) (.string (mtF (cntSet f k0 k))) (Or.inr (by omega))).other (b':=bs) (o':=off+k*6+1) (.int .i64 (cntSet f k0 k+1)) (Or.inr (by omega))).other (b':=bs) (o':=off+k*6+2) (.int .i64 (cntSet f k0 k+1+1)) (Or.inr (by omega))).other (b':=bs) (o':=off+k*6+3) (.int .i64 (cntSet f k0 k+1+1+1)) (Or.inr (by omega))).set (.int .i64 (cntSet f k0 k+1+1+1+1)))
    have Ef:=hideM (((((D1f.out.other (b':=bs) (o':=off+k*6) (.string (mtF (cntSet f k0 k))) (Or.inr (by omega))).other (b':=bs) (o':=off+k*6+1) (.int .i64 (cntSet f k0 k+1)) (Or.inr (by omega))).other (b':=bs) (o':=off+k*6+2) (.int .i64 (cntSet f k0 k+1+1)) (Or.inr (by omega))).other (b':=bs) (o':=off+k*6+3) (.int .i64 (cntSet f k0 k+1+1+1)) (Or.inr (by omega))).other (b':=bs) (o':=off+k*6+3+1) (.int .i64 (cntSet f k0 k+1+1+1+1)) (Or.inr (by omega)))
    have HRE:=hideM (((((HS1.out.set (off+k*6) (.string (mtF (cntSet f k0 k))) (by omega) (by omega)).set (off+k*6+1) (.int .i64 (cntSet f k0 k+1)) (by omega) (by omega)).set (off+k*6+2) (.int .i64 (cntSet f k0 k+1+1)) (by omega) (by omega)).set (off+k*6+3) (.int .i64 (cntSet f k0 k+1+1+1)) (by omega) (by omega)).set (off+k*6+3+1) (.int .i64 (cntSet f k0 k+1+1+1+1)) (by omega) (by omega))
    generalize (((((w1.setCell ⟨bs,off+k*6,none⟩ (.string (mtF (cntSet f k0 k)))).setCell ⟨bs,off+k*6+1,none⟩ (.int .i64 (cntSet f k0 k+1))).setCell ⟨bs,off+k*6+2,none⟩ (.int .i64 (cntSet f k0 k+1+1))).setCell ⟨bs,off+k*6+3,none⟩ (.int .i64 (cntSet f k0 k+1+1+1))).setCell ⟨bs,off+k*6+3+1,none⟩ (.int .i64 (cntSet f k0 k+1+1+1+1)))=Y at Ea Eb Ec Ed Ee Ef HRE ⊢
    refine(markPtrS_any (kb k) _ (f k).dn (f k).ds (f k).db _ Y (Hs.out.dead.turned HRE.out.turned (fun h0 hx=>Hs.out.apart h0 hx)) (by omega) (by omega)).mono ?_
    rintro e wz ⟨rfl,hpz,htz⟩
    have Hpz:=hideM hpz
    have Htz:=hideM htz
    clear hpz htz
    go_wp2
    go_roundw
    case rel=>
     refine⟨k+1,by omega,by go_num,congrArg (Value.int .i64) (by show _=cntSet f k0 k+5+2*((f k).dn:Int); omega),fun j hj=>?_,?_⟩
     ·have st:=Set_step (s:=markSetD f k0 k) Hall.out (by
        intro i j hi hj hij h1 h2
        rw [stSet_dn] at h1 h2
        exact Hap.out i j hi hj hij h1 h2) hlt HRE.out (by rw [if_neg (Nat.lt_irrefl k)]; exact Htz.out) Ea.out Eb.out Ec.out Ed.out Ee.out (by rw [Hx.out]; exact Ef.out) (by rw [if_neg (Nat.lt_irrefl k)]; rfl) (by rw [Hx.out]; exact Hpz.out) (mtF_size (by omega)) j hj
      by_cases e:j=k
      ·subst e
       rw [if_pos rfl] at st
       rw [if_pos (by omega)]
       exact st
      ·rw [if_neg e] at st
       by_cases e2:j<k
       ·rw [if_pos e2] at st; rw [if_pos (by omega)]; exact st
       ·rw [if_neg e2] at st; rw [if_neg (by omega)]; exact st
     ·refine(ht.trans (HRE.out.turned.mono ?_)).trans (Htz.out.mono ?_)
      ·rintro b rfl
       exact Or.inl ⟨by omega,rfl⟩
      ·rintro b ⟨hb,rfl⟩
       exact Or.inr ⟨k,hlt,hb,rfl⟩
    case measure=>simp [intOf]; omega
   ·obtain rfl:k=n:=by omega
    go_wp2
    go_ret
    refine⟨rfl,⟨hm1,_,c,rfl,mc,fun _=>⟨off,rfl,fun i hi=>?_⟩⟩,ht⟩
    have:=Hall.out i hi
    rw [if_pos hi] at this
    exact this
def cntSnap(f:Nat→SnapD)(k0:Int):Nat→Int
 | 0=>k0
 | j+1=>cntSnap f k0 j+7+2*(f j).dn
def markedSnap(s:SnapD)(c:Int):SnapD:={id:=c,name:=mtF (c+1),set:=mtF (c+1+1),prev:=c+1+1+1,time:=c+1+1+1+1,rs:=c+1+1+1+1+1,rb:=c+1+1+1+1+1+1,dn:=s.dn,ds:=fun i=>c+1+1+1+1+1+1+1+2*i,db:=fun i=>c+1+1+1+1+1+1+1+2*i+1}
theorem cntSnap_mono(f:Nat→SnapD)(k0:Int)(j:Nat):∀m,cntSnap f k0 j≤cntSnap f k0 (j+m)
 | 0=>Int.le_refl _
 | m+1=>by
  have:=cntSnap_mono f k0 j m
  show _≤cntSnap f k0 (j+m)+7+2*((f (j+m)).dn:Int)
  omega
theorem cntSnap_le(f:Nat→SnapD)(k0:Int){j n:Nat}(h:j≤n):cntSnap f k0 j≤cntSnap f k0 n:=by
 obtain⟨m,rfl⟩:=Nat.exists_eq_add_of_le h
 exact cntSnap_mono f k0 j m
def markSnapD(f:Nat→SnapD)(k0:Int)(j:Nat):SnapD:=markedSnap (f j) (cntSnap f k0 j)
theorem stSnap_start(f:Nat→SnapD)(k0:Int)(j:Nat):(if j<0 then markSnapD f k0 j else f j)=f j:=if_neg (by omega)
theorem stSnap_dn(f:Nat→SnapD)(k0:Int)(k j:Nat):(if j<k then markSnapD f k0 j else f j).dn=(f j).dn:=by split <;> rfl
set_option maxRecDepth 20000 in
set_option maxHeartbeats 1000000 in
theorem markSnapS_any(bs:Nat)(kb:Nat→Nat)(kv:Nat→Value)(v:Value)(n:Nat)(f:Nat→SnapD)(k0:Int)(w:World)(h1:SnapsOwn w bs kb kv v n f)(hap:SnapsApart kb n f)(hk0:0≤k0)(hk1:cntSnap f k0 n≤1000000000000) :
  Calls Tryz.prog 41 #[v,.int .i64 k0] w fun e w'=>e = .returned (.int .i64 (cntSnap f k0 n))∧SnapsOwn w' bs kb kv v n (markSnapD f k0)∧Turned (SnapsB bs kb n f) w w':=by
 obtain⟨m1,a,c,rfl,mc,g1⟩:=h1
 by_cases hn0:n=0
 ·subst hn0
  go_enter Tryz.func41,Tryz.ntmps41
  go_wp2
  refine wp_loop_rounds 1 ?_
  rw [rounds_succ]
  go_wp2
  go_ret
  exact⟨by simp [cntSnap],⟨m1,a,c,rfl,mc,fun h=>absurd h (by omega)⟩,Turned.refl _ _⟩
 ·obtain⟨off,rfl,g2⟩:=g1 (by omega)
  clear g1
  have hm1:=m1
  unfold maxLen at m1
  have G2:=hideM g2
  have Hap:=hideM hap
  have Hk1:=hideM hk1
  clear g2 hap hk1
  go_enter Tryz.func41,Tryz.ntmps41
  go_wp2
  go_loopw [1,5] (fun m i wr=>∃k:Nat,k≤n∧i = .int .i64 k∧m = .int .i64 (cntSnap f k0 k)∧(∀j,j<n→SnapOwn wr bs (off+j*8) (kb j) (kv j) (if j<k then markSnapD f k0 j else f j))∧Turned (SnapsB bs kb n f) w wr) (fun _ i _=>n - (intOf i).toNat)
  case atStart=>exact⟨0,Nat.zero_le _,rfl,rfl,fun j hj=>by rw [stSnap_start]; exact G2.out j hj,Turned.refl _ _⟩
  case round=>
   obtain⟨k,hk,rfl,rfl,hall,ht⟩:=hrel
   have Hall:=hideM hall
   clear hall
   by_cases hlt:k<n
   ·have hlt':(k:Int)<(n:Int):=by omega
    have hs:=Hall.out k hlt
    rw [if_neg (by omega)] at hs
    have hc0:k0≤cntSnap f k0 k:=cntSnap_le f k0 (Nat.zero_le k)
    have hc1:cntSnap f k0 k+7+2*((f k).dn:Int)≤1000000000000:=Int.le_trans (cntSnap_le f k0 (show k+1≤n from hlt)) Hk1.out
    have Hs:=hideM hs
    obtain⟨-,ka,kc,hkv,-⟩:=hs.dead
    clear hs
    generalize hx:kv k=kvk at *
    have Hx:=hideM hx
    clear hx
    subst hkv
    obtain⟨⟨p0,p0'⟩,⟨p1,p1'⟩,⟨p2,p2'⟩,⟨p3,p3'⟩,⟨p4,p4'⟩,⟨p5,p5'⟩,⟨p6,p6'⟩,⟨p7,p7'⟩⟩:=And.intro Hs.out.c0 (And.intro Hs.out.c1 (And.intro Hs.out.c2 (And.intro Hs.out.c3 (And.intro Hs.out.c4 (And.intro Hs.out.c5 (And.intro Hs.out.c6 Hs.out.c7))))))
    have HR:=hideM (RowTurned.refl bs (off+k*8) 8 wr)
    go_wp2_with fail
    clear p0 p0' p1 p1' p2 p2' p3 p3' p4 p4' p5 p5' p6 p6' p7 p7'
    have C1a:=hideM (Hs.out.c0.set (.int .i64 (cntSnap f k0 k)))
    have C1b:=hideM (Hs.out.c1.other (b':=bs) (o':=off+k*8) (.int .i64 (cntSnap f k0 k)) (Or.inr (by omega)))
    have C1c:=hideM (Hs.out.c2.other (b':=bs) (o':=off+k*8) (.int .i64 (cntSnap f k0 k)) (Or.inr (by omega)))
    have C1d:=hideM (Hs.out.c3.other (b':=bs) (o':=off+k*8) (.int .i64 (cntSnap f k0 k)) (Or.inr (by omega)))
    have C1e:=hideM (Hs.out.c4.other (b':=bs) (o':=off+k*8) (.int .i64 (cntSnap f k0 k)) (Or.inr (by omega)))
    have C1f:=hideM (Hs.out.c5.other (b':=bs) (o':=off+k*8) (.int .i64 (cntSnap f k0 k)) (Or.inr (by omega)))
    have C1g:=hideM (Hs.out.c6.other (b':=bs) (o':=off+k*8) (.int .i64 (cntSnap f k0 k)) (Or.inr (by omega)))
    have C1h:=hideM (Hs.out.c7.other (b':=bs) (o':=off+k*8) (.int .i64 (cntSnap f k0 k)) (Or.inr (by omega)))
    have HR1:=hideM (HR.out.set (off+k*8) (.int .i64 (cntSnap f k0 k)) (by omega) (by omega))
    generalize (wr.setCell ⟨bs,off+k*8,none⟩ (.int .i64 (cntSnap f k0 k)))=Y1 at C1a C1b C1c C1d C1e C1f C1g C1h HR1 ⊢
    refine(markText_any _ Y1 (by omega)).mono ?_
    rintro e w1 ⟨rfl,hb1⟩
    have D1a:=hideM (C1a.out.below hb1)
    have D1b:=hideM (C1b.out.below hb1)
    have D1c:=hideM (C1c.out.below hb1)
    have D1d:=hideM (C1d.out.below hb1)
    have D1e:=hideM (C1e.out.below hb1)
    have D1f:=hideM (C1f.out.below hb1)
    have D1g:=hideM (C1g.out.below hb1)
    have D1h:=hideM (C1h.out.below hb1)
    have HS1:=hideM (HR1.out.below hb1)
    clear hb1 HR1 C1a C1b C1c C1d C1e C1f C1g C1h
    obtain⟨p0,p0'⟩:=D1a.out
    obtain⟨p1,p1'⟩:=D1b.out
    obtain⟨p2,p2'⟩:=D1c.out
    obtain⟨p3,p3'⟩:=D1d.out
    obtain⟨p4,p4'⟩:=D1e.out
    obtain⟨p5,p5'⟩:=D1f.out
    obtain⟨p6,p6'⟩:=D1g.out
    obtain⟨p7,p7'⟩:=D1h.out
    go_wp2_with fail
    clear p0 p0' p1 p1' p2 p2' p3 p3' p4 p4' p5 p5' p6 p6' p7 p7'
    have C2a:=hideM (D1a.out.other (b':=bs) (o':=off+k*8+1) (.string (mtF (cntSnap f k0 k+1))) (Or.inr (by omega)))
    have C2b:=hideM (D1b.out.set (.string (mtF (cntSnap f k0 k+1))))
    have C2c:=hideM (D1c.out.other (b':=bs) (o':=off+k*8+1) (.string (mtF (cntSnap f k0 k+1))) (Or.inr (by omega)))
    have C2d:=hideM (D1d.out.other (b':=bs) (o':=off+k*8+1) (.string (mtF (cntSnap f k0 k+1))) (Or.inr (by omega)))
    have C2e:=hideM (D1e.out.other (b':=bs) (o':=off+k*8+1) (.string (mtF (cntSnap f k0 k+1))) (Or.inr (by omega)))
    have C2f:=hideM (D1f.out.other (b':=bs) (o':=off+k*8+1) (.string (mtF (cntSnap f k0 k+1))) (Or.inr (by omega)))
    have C2g:=hideM (D1g.out.other (b':=bs) (o':=off+k*8+1) (.string (mtF (cntSnap f k0 k+1))) (Or.inr (by omega)))
    have C2h:=hideM (D1h.out.other (b':=bs) (o':=off+k*8+1) (.string (mtF (cntSnap f k0 k+1))) (Or.inr (by omega)))
    have HR2:=hideM (HS1.out.set (off+k*8+1) (.string (mtF (cntSnap f k0 k+1))) (by omega) (by omega))
    generalize (w1.setCell ⟨bs,off+k*8+1,none⟩ (.string (mtF (cntSnap f k0 k+1))))=Y2 at C2a C2b C2c C2d C2e C2f C2g C2h HR2 ⊢
    refine(markText_any _ Y2 (by omega)).mono ?_
    rintro e w2 ⟨rfl,hb2⟩
    have D2a:=hideM (C2a.out.below hb2)
    have D2b:=hideM (C2b.out.below hb2)
    have D2c:=hideM (C2c.out.below hb2)
    have D2d:=hideM (C2d.out.below hb2)
    have D2e:=hideM (C2e.out.below hb2)
    have D2f:=hideM (C2f.out.below hb2)
    have D2g:=hideM (C2g.out.below hb2)
    have D2h:=hideM (C2h.out.below hb2)
    have HS2:=hideM (HR2.out.below hb2)
    clear hb2 HR2 C2a C2b C2c C2d C2e C2f C2g C2h
    obtain⟨p0,p0'⟩:=D2a.out
    obtain⟨p1,p1'⟩:=D2b.out
    obtain⟨p2,p2'⟩:=D2c.out
    obtain⟨p3,p3'⟩:=D2d.out
    obtain⟨p4,p4'⟩:=D2e.out
    obtain⟨p5,p5'⟩:=D2f.out
    obtain⟨p6,p6'⟩:=D2g.out
    obtain⟨p7,p7'⟩:=D2h.out
    go_wp2_with fail
    clear p0 p0' p1 p1' p2 p2' p3 p3' p4 p4' p5 p5' p6 p6' p7 p7'
    have Ea:=hideM (((((D2a.out.other (b':=bs) (o':=off+k*8+2) (.string (mtF (cntSnap f k0 k+1+1))) (Or.inr (by omega))).other (b':=bs) (o':=off+k*8+3) (.int .i64 (cntSnap f k0 k+1+1+1)) (Or.inr (by omega))).other (b':=bs) (o':=off+k*8+4) (.int .i64 (cntSnap f k0 k+1+1+1+1)) (Or.inr (by omega))).other (b':=bs) (o':=off+k*8+5) (.int .i64 (cntSnap f k0 k+1+1+1+1+1)) (Or.inr (by omega))).other (b':=bs) (o':=off+k*8+5+1) (.int .i64 (cntSnap f k0 k+1+1+1+1+1+1)) (Or.inr (by omega)))
    have Eb:=hideM (((((D2b.out.other (b':=bs) (o':=off+k*8+2) (.string (mtF (cntSnap f k0 k+1+1))) (Or.inr (by omega))).other (b':=bs) (o':=off+k*8+3) (.int .i64 (cntSnap f k0 k+1+1+1)) (Or.inr (by omega))).other (b':=bs) (o':=off+k*8+4) (.int .i64 (cntSnap f k0 k+1+1+1+1)) (Or.inr (by omega))).other (b':=bs) (o':=off+k*8+5) (.int .i64 (cntSnap f k0 k+1+1+1+1+1)) (Or.inr (by omega))).other (b':=bs) (o':=off+k*8+5+1) (.int .i64 (cntSnap f k0 k+1+1+1+1+1+1)) (Or.inr (by omega)))
    have Ec:=hideM (((((D2c.out.set (.string (mtF (cntSnap f k0 k+1+1)))).other (b':=bs) (o':=off+k*8+3) (.int .i64 (cntSnap f k0 k+1+1+1)) (Or.inr (by omega))).other (b':=bs) (o':=off+k*8+4) (.int .i64 (cntSnap f k0 k+1+1+1+1)) (Or.inr (by omega))).other (b':=bs) (o':=off+k*8+5) (.int .i64 (cntSnap f k0 k+1+1+1+1+1)) (Or.inr (by omega))).other (b':=bs) (o':=off+k*8+5+1) (.int .i64 (cntSnap f k0 k+1+1+1+1+1+1)) (Or.inr (by omega)))
    have Ed:=hideM (((((D2d.out.other (b':=bs) (o':=off+k*8+2) (.string (mtF (cntSnap f k0 k+1+1))) (Or.inr (by omega))).set (.int .i64 (cntSnap f k0 k+1+1+1))).other (b':=bs) (o':=off+k*8+4) (.int .i64 (cntSnap f k0 k+1+1+1+1)) (Or.inr (by omega))).other (b':=bs) (o':=off+k*8+5) (.int .i64 (cntSnap f k0 k+1+1+1+1+1)) (Or.inr (by omega))).other (b':=bs) (o':=off+k*8+5+1) (.int .i64 (cntSnap f k0 k+1+1+1+1+1+1)) (Or.inr (by omega)))
    have Ee:=hideM (((((D2e.out.other (b':=bs) (o':=off+k*8+2) (.string (mtF (cntSnap f k0 k+1+1))) (Or.inr (by omega))).other (b':=bs) (o':=off+k*8+3) (.int .i64 (cntSnap f k0 k+1+1+1)) (Or.inr (by omega))).set (.int .i64 (cntSnap f k0 k+1+1+1+1))).other (b':=bs) (o':=off+k*8+5) (.int .i64 (cntSnap f k0 k+1+1+1+1+1)) (Or.inr (by omega))).other (b':=bs) (o':=off+k*8+5+1) (.int .i64 (cntSnap f k0 k+1+1+1+1+1+1)) (Or.inr (by omega)))
    have Ef:=hideM (((((D2f.out.other (b':=bs) (o':=off+k*8+2) (.string (mtF (cntSnap f k0 k+1+1))) (Or.inr (by omega))).other (b':=bs) (o':=off+k*8+3) (.int .i64 (cntSnap f k0 k+1+1+1)) (Or.inr (by omega))).other (b':=bs) (o':=off+k*8+4) (.int .i64 (cntSnap f k0 k+1+1+1+1)) (Or.inr (by omega))).set (.int .i64 (cntSnap f k0 k+1+1+1+1+1))).other (b':=bs) (o':=off+k*8+5+1) (.int .i64 (cntSnap f k0 k+1+1+1+1+1+1)) (Or.inr (by omega)))
    have Eg:=hideM (((((D2g.out.other (b':=bs) (o':=off+k*8+2) (.string (mtF (cntSnap f k0 k+1+1))) (Or.inr (by omega))).other (b':=bs) (o':=off+k*8+3) (.int .i64 (cntSnap f k0 k+1+1+1)) (Or.inr (by omega))).other (b':=bs) (o':=off+k*8+4) (.int .i64 (cntSnap f k0 k+1+1+1+1)) (Or.inr (by omega))).other (b':=bs) (o':=off+k*8+5) (.int .i64 (cntSnap f k0 k+1+1+1+1+1)) (Or.inr (by omega))).set (.int .i64 (cntSnap f k0 k+1+1+1+1+1+1)))
    have Eh:=hideM (((((D2h.out.other (b':=bs) (o':=off+k*8+2) (.string (mtF (cntSnap f k0 k+1+1))) (Or.inr (by omega))).other (b':=bs) (o':=off+k*8+3) (.int .i64 (cntSnap f k0 k+1+1+1)) (Or.inr (by omega))).other (b':=bs) (o':=off+k*8+4) (.int .i64 (cntSnap f k0 k+1+1+1+1)) (Or.inr (by omega))).other (b':=bs) (o':=off+k*8+5) (.int .i64 (cntSnap f k0 k+1+1+1+1+1)) (Or.inr (by omega))).other (b':=bs) (o':=off+k*8+5+1) (.int .i64 (cntSnap f k0 k+1+1+1+1+1+1)) (Or.inr (by omega)))
    have HRE:=hideM (((((HS2.out.set (off+k*8+2) (.string (mtF (cntSnap f k0 k+1+1))) (by omega) (by omega)).set (off+k*8+3) (.int .i64 (cntSnap f k0 k+1+1+1)) (by omega) (by omega)).set (off+k*8+4) (.int .i64 (cntSnap f k0 k+1+1+1+1)) (by omega) (by omega)).set (off+k*8+5) (.int .i64 (cntSnap f k0 k+1+1+1+1+1)) (by omega) (by omega)).set (off+k*8+5+1) (.int .i64 (cntSnap f k0 k+1+1+1+1+1+1)) (by omega) (by omega))
    generalize (((((w2.setCell ⟨bs,off+k*8+2,none⟩ (.string (mtF (cntSnap f k0 k+1+1)))).setCell ⟨bs,off+k*8+3,none⟩ (.int .i64 (cntSnap f k0 k+1+1+1))).setCell ⟨bs,off+k*8+4,none⟩ (.int .i64 (cntSnap f k0 k+1+1+1+1))).setCell ⟨bs,off+k*8+5,none⟩ (.int .i64 (cntSnap f k0 k+1+1+1+1+1))).setCell ⟨bs,off+k*8+5+1,none⟩ (.int .i64 (cntSnap f k0 k+1+1+1+1+1+1)))=Y at Ea Eb Ec Ed Ee Ef Eg Eh HRE ⊢
    refine(markPtrS_any (kb k) _ (f k).dn (f k).ds (f k).db _ Y (Hs.out.dead.turned HRE.out.turned (fun h0 hx=>Hs.out.apart h0 hx)) (by omega) (by omega)).mono ?_
    rintro e wz ⟨rfl,hpz,htz⟩
    have Hpz:=hideM hpz
    have Htz:=hideM htz
    clear hpz htz
    go_wp2
    go_roundw
    case rel=>
     refine⟨k+1,by omega,by go_num,congrArg (Value.int .i64) (by show _=cntSnap f k0 k+7+2*((f k).dn:Int); omega),fun j hj=>?_,?_⟩
     ·have st:=Snap_step (s:=markSnapD f k0 k) Hall.out (by
        intro i j hi hj hij h1 h2
        rw [stSnap_dn] at h1 h2
        exact Hap.out i j hi hj hij h1 h2) hlt HRE.out (by rw [if_neg (Nat.lt_irrefl k)]; exact Htz.out) Ea.out Eb.out Ec.out Ed.out Ee.out Ef.out Eg.out (by rw [Hx.out]; exact Eh.out) (by rw [if_neg (Nat.lt_irrefl k)]; rfl) (by rw [Hx.out]; exact Hpz.out) ⟨mtF_size (by omega),mtF_size (by omega)⟩ j hj
      by_cases e:j=k
      ·subst e
       rw [if_pos rfl] at st
       rw [if_pos (by omega)]
       exact st
      ·rw [if_neg e] at st
       by_cases e2:j<k
       ·rw [if_pos e2] at st; rw [if_pos (by omega)]; exact st
       ·rw [if_neg e2] at st; rw [if_neg (by omega)]; exact st
     ·refine(ht.trans (HRE.out.turned.mono ?_)).trans (Htz.out.mono ?_)
      ·rintro b rfl
       exact Or.inl ⟨by omega,rfl⟩
      ·rintro b ⟨hb,rfl⟩
       exact Or.inr ⟨k,hlt,hb,rfl⟩
    case measure=>simp [intOf]; omega
   ·obtain rfl:k=n:=by omega
    go_wp2
    go_ret
    refine⟨rfl,⟨hm1,_,c,rfl,mc,fun _=>⟨off,rfl,fun i hi=>?_⟩⟩,ht⟩
    have:=Hall.out i hi
    rw [if_pos hi] at this
    exact this
end Go.Proofs.YtihplgckbhnohaaGreatDoor

namespace Go.Proofs.YtihplgckbhnohaaGreatDoor
open Go.RowKit
set_option linter.unusedVariables false
def markW(W:WorldD)(k0:Int):WorldD:={pool:=markP W.pool k0,time:=W.time,next:=W.next,sn:=W.sn,sets:=markSetD W.sets (endP W.pool k0),pn:=W.pn,snaps:=markSnapD W.snaps (cntSet W.sets (endP W.pool k0) W.sn)}
def endW(W:WorldD)(k0:Int):Int:=cntSnap W.snaps (cntSet W.sets (endP W.pool k0) W.sn) W.pn
theorem endP_le(p:PoolD)(k0:Int):k0≤endP p k0:=by
 unfold endP
 have:=cntSl_le p.s k0 (Nat.zero_le p.n)
 have h0:cntSl p.s k0 0=k0:=rfl
 omega
theorem endW_le(W:WorldD)(k0:Int):k0≤endP W.pool k0∧endP W.pool k0≤cntSet W.sets (endP W.pool k0) W.sn∧cntSet W.sets (endP W.pool k0) W.sn≤endW W k0:=
 ⟨endP_le _ _,cntSet_le W.sets (endP W.pool k0) (Nat.zero_le _),cntSnap_le W.snaps (cntSet W.sets (endP W.pool k0) W.sn) (Nat.zero_le _)⟩
set_option maxRecDepth 20000 in
set_option maxHeartbeats 400000 in
theorem markWorld_any(lo hi:Nat)(v0 v1 v2 v3:Value)(W:WorldD)(k0:Int)(w:World)(h:WorldOwn w lo hi v0 v1 v2 v3 W)(hk0:0≤k0)(hk1:endW W k0≤1000000000000) :
  Calls Tryz.prog 22 #[worldV v0 v1 v2 v3 W,.int .i64 k0] w fun e w'=>e = .returned (.int .i64 (endW W k0))∧WorldOwn w' lo hi v0 v1 v2 v3 (markW W k0)∧Turned (fun k=>lo≤k∧k<hi) w w':=by
 obtain⟨a0,c0,a1,c1,a2,c2,a3,c3,rfl,rfl,rfl,rfl⟩:=h.form
 obtain⟨P,Q,R,⟨⟨bs,hb,kb,kv,s1,s2,s3,s4,s5⟩,⟨bt,kt,vt,t1,t2,t3⟩,⟨bp,kp,vp,p1,p2,p3⟩,pq,pr,qr⟩,hl⟩:=h
 have S1:=hideM s1
 have S2:=hideM s2
 have S3:=hideM s3
 have S4:=hideM s4
 have S5:=hideM s5
 have T1:=hideM t1
 have T2:=hideM t2
 have T3:=hideM t3
 have P1:=hideM p1
 have P2:=hideM p2
 have P3:=hideM p3
 have HPQ:=hideM (And.intro pq (And.intro pr (And.intro qr hl)))
 have HE:=hideM (endW_le W k0)
 have HK:=hideM hk1
 have HB:=hideM (Box6.new w (.slice a0 W.pool.n c0) (.slice a1 W.pool.hn c1) (.int .i64 W.time) (.int .i64 W.next) (.slice a2 W.sn c2) (.slice a3 W.pn c3) 39)
 have ha:=below_alloc w (.cells #[.slice a0 W.pool.n c0,.slice a1 W.pool.hn c1,.int .i64 W.time,.int .i64 W.next,.slice a2 W.sn c2,.slice a3 W.pn c3] 39)
 have NA:=hideM (show ∀k,SlotsB bs kb W.pool.n W.pool.s k∨(0<W.pool.hn∧k=hb)→k<w.heap.size from fun k hk=>by
  rcases hk with hk | ⟨h0,rfl⟩
  ·exact s1.lt hk
  ·obtain⟨_,_,_,_,_,h3,_⟩:=s3
   obtain⟨o,_,h4⟩:=h3 h0
   exact(h4 0 h0).lt)
 have NB:=hideM (show ∀k,SetsB bt kt W.sn W.sets k→k<w.heap.size from fun k hk=>t1.lt hk)
 have NC:=hideM (show ∀k,SnapsB bp kp W.pn W.snaps k→k<w.heap.size from fun k hk=>p1.lt hk)
 clear s1 s2 s3 s4 s5 t1 t2 t3 p1 p2 p3 pq pr qr hl hk1
 obtain⟨⟨x0,-⟩,⟨x1,-⟩,⟨x2,-⟩,⟨x3,-⟩,⟨x4,-⟩,⟨x5,-⟩⟩:=HB.out
 go_enter Tryz.func22,Tryz.ntmps22
 go_wp2_with fail
 clear x0 x1 x2 x3 x4 x5
 have hsz:(w.alloc (.cells #[.slice a0 W.pool.n c0,.slice a1 W.pool.hn c1,.int .i64 W.time,.int .i64 W.next,.slice a2 W.sn c2,.slice a3 W.pn c3] 39)).heap.size=w.heap.size+1:=World.size_alloc _ _
 have HS0:=hideM hsz
 clear hsz
 generalize w.alloc (.cells #[.slice a0 W.pool.n c0,.slice a1 W.pool.hn c1,.int .i64 W.time,.int .i64 W.next,.slice a2 W.sn c2,.slice a3 W.pn c3] 39)=W0 at ha HB HS0 ⊢
 refine(markPool_any bs hb kb kv _ _ W.pool k0 W0 (S1.out.below ha) S2.out (S3.out.below ha) S4.out hk0 (by have h1:=HE.out; have h2:=HK.out; unfold endP at h1; omega)).mono ?_
 rintro e w1 ⟨rfl,g1,g2,ht1⟩
 have G1:=hideM g1
 have G2:=hideM g2
 have HT1:=hideM ht1
 have HB1:=hideM (HB.out.turned ht1 (fun x=>absurd (NA.out _ x) (by omega)))
 have TT1:=hideM ((T1.out.below ha).turned ht1 (fun k hk x=>HPQ.out.1 k (S5.out k x) (T3.out k hk)))
 have PP1:=hideM ((P1.out.below ha).turned ht1 (fun k hk x=>HPQ.out.2.1 k (S5.out k x) (P3.out k hk)))
 clear g1 g2 ht1 HB
 obtain⟨⟨x0,-⟩,⟨x1,-⟩,⟨x2,-⟩,⟨x3,-⟩,⟨x4,-⟩,⟨x5,-⟩⟩:=HB1.out
 go_wp2_with fail
 clear x0 x1 x2 x3 x4 x5
 refine(markSetS_any bt kt vt _ W.sn W.sets _ w1 TT1.out T2.out (by have h1:=HE.out; unfold endP at h1; omega) (by have h1:=HE.out; have h2:=HK.out; unfold endP at h1; omega)).mono ?_
 rintro e w2 ⟨rfl,g3,ht2⟩
 have G3:=hideM g3
 have HT2:=hideM ht2
 have hn1:¬SetsB bt kt W.sn W.sets w.heap.size:=fun x=>absurd (NB.out _ x) (by omega)
 have HB2:=hideM (HB1.out.turned ht2 hn1)
 have PP2:=hideM (PP1.out.turned ht2 (fun k hk x=>HPQ.out.2.2.1 k (T3.out k x) (P3.out k hk)))
 clear g3 ht2 HB1 hn1
 obtain⟨⟨x0,-⟩,⟨x1,-⟩,⟨x2,-⟩,⟨x3,-⟩,⟨x4,-⟩,⟨x5,-⟩⟩:=HB2.out
 go_wp2_with fail
 clear x0 x1 x2 x3 x4 x5
 refine(markSnapS_any bp kp vp _ W.pn W.snaps _ w2 PP2.out P2.out (by have h1:=HE.out; unfold endP at h1; omega) (by have h1:=HE.out; have h2:=HK.out; unfold endW endP at *; omega)).mono ?_
 rintro e w3 ⟨rfl,g4,ht3⟩
 have G4:=hideM g4
 have HT3:=hideM ht3
 clear g4 ht3
 go_wp2
 go_ret
 refine⟨rfl,⟨P,Q,R,⟨⟨bs,hb,kb,kv,?_,S2.out,?_,S4.out,S5.out⟩,⟨bt,kt,vt,?_,T2.out,T3.out⟩,⟨bp,kp,vp,G4.out,P2.out,P3.out⟩,HPQ.out.1,HPQ.out.2.1,HPQ.out.2.2.1⟩,HPQ.out.2.2.2⟩,?_⟩
 ·refine(G1.out.turned HT2.out (fun h0 x=>?_) (fun i hi h0 x=>?_)).turned HT3.out (fun h0 x=>?_) (fun i hi h0 x=>?_)
  ·exact HPQ.out.1 _ (S5.out _ (Or.inl (Or.inl ⟨h0,rfl⟩))) (T3.out _ x)
  ·exact HPQ.out.1 _ (S5.out _ (Or.inl (Or.inr ⟨i,hi,h0,rfl⟩))) (T3.out _ x)
  ·exact HPQ.out.2.1 _ (S5.out _ (Or.inl (Or.inl ⟨h0,rfl⟩))) (P3.out _ x)
  ·exact HPQ.out.2.1 _ (S5.out _ (Or.inl (Or.inr ⟨i,hi,h0,rfl⟩))) (P3.out _ x)
 ·refine(G2.out.turned HT2.out (fun h0 x=>?_)).turned HT3.out (fun h0 x=>?_)
  ·exact HPQ.out.1 _ (S5.out _ (Or.inr ⟨h0,rfl⟩)) (T3.out _ x)
  ·exact HPQ.out.2.1 _ (S5.out _ (Or.inr ⟨h0,rfl⟩)) (P3.out _ x)
 ·exact G3.out.turned HT3.out (fun k hk x=>HPQ.out.2.2.1 k (T3.out k hk) (P3.out k x))
 ·refine(((Turned.of_below ha).trans (HT1.out.mono ?_)).trans (HT2.out.mono ?_)).trans (HT3.out.mono ?_)
  ·exact fun k hk=>HPQ.out.2.2.2 k (Or.inl (S5.out k hk))
  ·exact fun k hk=>HPQ.out.2.2.2 k (Or.inr (Or.inl (T3.out k hk)))
  ·exact fun k hk=>HPQ.out.2.2.2 k (Or.inr (Or.inr (P3.out k hk)))
end Go.Proofs.YtihplgckbhnohaaGreatDoor

namespace Go.Proofs.YtihplgckbhnohaaGreatDoor
open Go.RowKit
set_option linter.unusedVariables false
set_option maxRecDepth 20000 in
set_option maxHeartbeats 400000 in
theorem heldInt64S_any(v:Value)(n lo hi:Nat)(f:Nat→Int)(k0:Int)(w:World)(h1:IntsAt w lo hi v n f)(hk0:0≤k0)(hk1:k0+n≤1000000000000)(hf:∀i,i<n→f i=k0+i) :
  Calls Tryz.prog 114 #[v,.int .i64 k0] w fun e w'=>e = .returned (.int .i64 (k0+n))∧Below w.heap.size w w':=by
 obtain⟨m1,a,c,rfl,mc,g1⟩:=h1
 unfold maxLen at m1
 have Hf:Hid (∀i,i<n→f i=k0+i):=hf
 clear hf
 go_enter Tryz.func114,Tryz.ntmps114
 go_wp2
 go_loopw [1,5] (fun m i wr=>∃k:Nat,k≤n∧i = .int .i64 k∧m = .int .i64 (k0+k)∧Below w.heap.size w wr) (fun _ i _=>n - (intOf i).toNat)
 case atStart=>exact⟨0,Nat.zero_le _,rfl,by simp,Below.refl _ _⟩
 case round=>
  obtain⟨k,hk,rfl,rfl,hb⟩:=hrel
  by_cases hlt:k<n
  ·have hlt':(k:Int)<(n:Int):=by omega
   obtain⟨b,off,rfl,_,_,k1⟩:=g1 (by omega)
   have hc1:wr.cell? ⟨b,off+k,none⟩=some (.int .i64 (k0+k)):=by rw [←Hf.out k hlt]; exact(hb.cell (lt_of_cell (k1 k hlt))).trans (k1 k hlt)
   clear k1 g1
   go_wp2
   go_roundw
   case rel=>exact⟨k+1,by omega,by go_num,by go_num,hb⟩
   case measure=>simp [intOf]; omega
  ·obtain rfl:k=n:=by omega
   go_wp2
   go_ret
   exact⟨rfl,hb⟩
end Go.Proofs.YtihplgckbhnohaaGreatDoor

namespace Go.Proofs.YtihplgckbhnohaaGreatDoor
open Go.RowKit
set_option linter.unusedVariables false
set_option maxRecDepth 20000 in
set_option maxHeartbeats 400000 in
theorem heldPtrS_any(v:Value)(n lo hi:Nat)(f g:Nat→Int)(k0:Int)(w:World)(h1:PtrsAt w lo hi v n f g)(hk0:0≤k0)(hk1:k0+2*n≤1000000000000)(hf:∀i,i<n→f i=k0+2*i∧g i=k0+2*i+1) :
  Calls Tryz.prog 115 #[v,.int .i64 k0] w fun e w'=>e = .returned (.int .i64 (k0+2*n))∧Below w.heap.size w w':=by
 obtain⟨m1,a,c,rfl,mc,g1⟩:=h1
 unfold maxLen at m1
 have Hf:Hid (∀i,i<n→f i=k0+2*i∧g i=k0+2*i+1):=hf
 clear hf
 go_enter Tryz.func115,Tryz.ntmps115
 go_wp2
 go_loopw [1,5] (fun m i wr=>∃k:Nat,k≤n∧i = .int .i64 k∧m = .int .i64 (k0+2*k)∧Below w.heap.size w wr) (fun _ i _=>n - (intOf i).toNat)
 case atStart=>exact⟨0,Nat.zero_le _,rfl,by simp,Below.refl _ _⟩
 case round=>
  obtain⟨k,hk,rfl,rfl,hb⟩:=hrel
  by_cases hlt:k<n
  ·have hlt':(k:Int)<(n:Int):=by omega
   obtain⟨b,off,rfl,_,_,k1⟩:=g1 (by omega)
   have hc1:wr.cell? ⟨b,off+k*2,none⟩=some (.int .i64 (k0+2*k)):=by rw [←(Hf.out k hlt).1]; exact(hb.cell (lt_of_cell (k1 k hlt).1)).trans (k1 k hlt).1
   have hc2:wr.cell? ⟨b,off+k*2+1,none⟩=some (.int .i64 (k0+2*k+1)):=by rw [←(Hf.out k hlt).2]; exact(hb.cell (lt_of_cell (k1 k hlt).2)).trans (k1 k hlt).2
   clear k1 g1
   go_wp2
   go_roundw
   case rel=>exact⟨k+1,by omega,by go_num,by go_num,hb⟩
   case measure=>simp [intOf]; omega
  ·obtain rfl:k=n:=by omega
   go_wp2
   go_ret
   exact⟨rfl,hb⟩
end Go.Proofs.YtihplgckbhnohaaGreatDoor

namespace Go.Proofs.YtihplgckbhnohaaGreatDoor
open Go.RowKit
set_option linter.unusedVariables false
set_option maxRecDepth 20000 in
set_option maxHeartbeats 400000 in
theorem heldSlotS_any(v:Value)(n lo hi:Nat)(f:Nat→SlotD)(k0:Int)(w:World)(h1:SlotsAt w lo hi v n (markS f k0))(hk0:0≤k0)(hk1:cntSl f k0 n≤1000000000000) :
  Calls Tryz.prog 113 #[v,.int .i64 k0] w fun e w'=>e = .returned (.int .i64 (cntSl f k0 n))∧Below w.heap.size w w':=by
 obtain⟨m1,a,c,rfl,mc,g1⟩:=h1
 unfold maxLen at m1
 have Hk1:Hid (cntSl f k0 n≤1000000000000):=hk1
 have G1:Hid (0<n→∃b off,a=some ⟨b,off,none⟩∧lo≤b∧b<hi∧∀i,i<n→∃v0 v1 v2,w.cell? ⟨b,off+i*3,none⟩=some v0∧w.cell? ⟨b,off+i*3+1,none⟩=some v1∧w.cell? ⟨b,off+i*3+2,none⟩=some v2∧SlotAt w lo hi v0 v1 v2 (markS f k0 i)):=g1
 clear g1 hk1
 go_enter Tryz.func113,Tryz.ntmps113
 go_wp2
 go_loopw [1,5] (fun m i wr=>∃k:Nat,k≤n∧i = .int .i64 k∧m = .int .i64 (cntSl f k0 k)∧Below w.heap.size w wr) (fun _ i _=>n - (intOf i).toNat)
 case atStart=>exact⟨0,Nat.zero_le _,rfl,rfl,Below.refl _ _⟩
 case round=>
  obtain⟨k,hk,rfl,rfl,hb⟩:=hrel
  by_cases hlt:k<n
  ·have hlt':(k:Int)<(n:Int):=by omega
   have hc0:k0≤cntSl f k0 k:=cntSl_le f k0 (Nat.zero_le k)
   have hc1:cntSl f k0 k+2+2*((f k).kn:Int)≤1000000000000:=Int.le_trans (cntSl_le f k0 (show k+1≤n from hlt)) Hk1.out
   obtain⟨b,off,rfl,_,_,k1⟩:=G1.out (by omega)
   obtain⟨x0,x1,x2,c0,c1,c2,hs⟩:=k1 k hlt
   have hd0:=(hb.cell (lt_of_cell c0)).trans c0
   have hd1:=(hb.cell (lt_of_cell c1)).trans c1
   have hd2:=(hb.cell (lt_of_cell c2)).trans c2
   have hs':=hs.below hb
   clear k1 G1 c0 c1 c2 hs
   obtain⟨rfl,hkids,rfl,_⟩:=hs'
   have Hkids:Hid (PtrsAt wr lo hi x1 (f k).kn (fun i=>cntSl f k0 k+1+2*i) (fun i=>cntSl f k0 k+1+2*i+1)):=hkids
   obtain⟨_,ka,kc,rfl,_⟩:=hkids
   have hd0':wr.cell? ⟨b,off+k*3,none⟩=some (.int .i64 (cntSl f k0 k)):=hd0
   have hd1':wr.cell? ⟨b,off+k*3+1,none⟩=some (.slice ka (f k).kn kc):=hd1
   have hd2':wr.cell? ⟨b,off+k*3+2,none⟩=some (.string (mtF (cntSl f k0 k+1+2*(f k).kn))):=hd2
   clear hd0 hd1 hd2
   go_wp2_with fail
   refine(heldPtrS_any _ (f k).kn lo hi _ _ _ _ Hkids.out (by omega) (by omega) (fun i hi=>⟨rfl,rfl⟩)).mono ?_
   rintro e w1 ⟨rfl,hb1⟩
   have hz:w1.cell? ⟨b,off+k*3+2,none⟩=some (.string (mtF (cntSl f k0 k+1+2*(f k).kn))):=(hb1.cell (lt_of_cell hd2')).trans hd2'
   have hbb:=below_next hb hb1
   clear hd0' hd1' hd2' Hkids hb1
   have hnn:¬cntSl f k0 k+1+2*((f k).kn:Int)<0:=by omega
   have hse:=str_eq (rfl:mtF (cntSl f k0 k+1+2*(f k).kn)=mtF (cntSl f k0 k+1+2*(f k).kn))
   go_wp2_with fail
   go_region_held3 (fun w'=>w'.cell? ⟨b,off+k*3+2,none⟩=some (.string (mtF (cntSl f k0 k+1+2*(f k).kn)))) (go_keep)
     (first | (go_at_call 65; refine(markText_any _ _ (by omega)).mono ?_; rintro e w2 ⟨rfl,hb2⟩; have z1:=(hb2.cell (p:=⟨b,off+k*3+2,none⟩) (lt_of_cell hz)).trans hz))
   have hbc:=below_call hbb hb2
   clear hb2 z1
   go_wp2
   go_roundw
   case rel=>exact⟨k+1,by omega,by go_num,congrArg (Value.int .i64) (by show _=cntSl f k0 k+2+2*((f k).kn:Int); omega),hbc⟩
   case measure=>simp [intOf]; omega
  ·obtain rfl:k=n:=by omega
   go_wp2
   go_ret
   exact⟨rfl,hb⟩
set_option maxRecDepth 20000 in
set_option maxHeartbeats 400000 in
theorem heldPool_any(v0 v1:Value)(lo hi:Nat)(p:PoolD)(k0:Int)(w:World)(h1:SlotsAt w lo hi v0 p.n (markS p.s k0))(h2:IntsAt w lo hi v1 p.hn (fun i=>cntSl p.s k0 p.n+i))
  (hk0:0≤k0) (hk1:cntSl p.s k0 p.n+p.hn≤1000000000000) :
  Calls Tryz.prog 82 #[.agg #[v0,v1],.int .i64 k0] w fun e w'=>e = .returned (.int .i64 (cntSl p.s k0 p.n+p.hn))∧Below w.heap.size w w':=by
 have q1:=h1
 have q2:=h2
 obtain⟨_,a,c,rfl,_⟩:=h1
 obtain⟨_,a',c',rfl,_⟩:=h2
 have hk00:k0≤cntSl p.s k0 p.n:=cntSl_le p.s k0 (Nat.zero_le p.n)
 have hge:¬cntSl p.s k0 p.n<0:=by omega
 have hge2:¬cntSl p.s k0 p.n+(p.hn:Int)<0:=by omega
 go_enter Tryz.func82,Tryz.ntmps82
 go_wp2_with fail
 have hbw:=(Below.refl w.heap.size w).alloc (Nat.le_refl _) (.cells #[.slice a p.n c,.slice a' p.hn c'] 35)
 refine(heldSlotS_any _ p.n lo hi p.s _ _ (q1.below hbw) hk0 (by omega)).mono ?_
 rintro e w1 ⟨rfl,hb1⟩
 have e1:=hb1.cell (p:=⟨w.heap.size,1,none⟩) (by simp)
 simp at e1
 have hb2:=below_next hbw hb1
 clear hb1
 go_wp2_with fail
 refine(heldInt64S_any _ p.hn lo hi _ _ _ (q2.below hb2) (by omega) hk1 (fun i hi=>rfl)).mono ?_
 rintro e w2 ⟨rfl,hb3⟩
 have hb4:=below_next hb2 hb3
 go_wp2
 go_ret
 exact⟨rfl,hb4⟩
end Go.Proofs.YtihplgckbhnohaaGreatDoor

namespace Go.Proofs.YtihplgckbhnohaaGreatDoor
open Go.RowKit
set_option linter.unusedVariables false
theorem heldPool_own(lo hi:Nat)(v0 v1:Value)(p:PoolD)(k0:Int)(w:World)(h:PoolAt w lo hi v0 v1 (markP p k0))(hk0:0≤k0)(hk1:endP p k0≤1000000000000) :
  Calls Tryz.prog 82 #[.agg #[v0,v1],.int .i64 k0] w fun e w'=>e = .returned (.int .i64 (endP p k0))∧Below w.heap.size w w':=
 heldPool_any v0 v1 lo hi p k0 w h.1 h.2 hk0 hk1
end Go.Proofs.YtihplgckbhnohaaGreatDoor
