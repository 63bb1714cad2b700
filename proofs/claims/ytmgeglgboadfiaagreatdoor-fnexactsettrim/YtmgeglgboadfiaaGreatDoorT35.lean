/- What the laws' marking of sets and snapshots leaves (no law is proved here). -/
import Derived.Test.YtmgeglgboadfiaaGreatDoorT34
import Derived.Test.YtmgeglgboadfiaaGreatDoorT33
set_option linter.unusedVariables false
set_option maxRecDepth 20000
set_option maxHeartbeats 4000000
namespace Go.Proofs.YtmgeglgboadfiaaGreatDoor
open Go.RowKit
def ze(f:Nat->qC)(k0:Int):Nat->Int
 |0=>k0
 |j+1=>ze f k0 j+5+2*(f j).dn
def zN6(s:qC)(c:Int):qC:={name:=mtF(c),origin:=c+1,zRT:=c+1+1,rs:=c+1+1+1,rb:=c+1+1+1+1,dn:=s.dn,ds:=fun i=>c+1+1+1+1+1+2*i,db:=fun i=>c+1+1+1+1+1+2*i+1}
theorem zGp(f:Nat->qC)(k0:Int)(j:Nat):∀m,ze f k0 j<=ze f k0(j+m)
 |0=>Int.le_refl _
 |m+1=>by
  have:=zGp f k0 j m;show _<=ze f k0(j+m)+5+2*((f(j+m)).dn:Int);omega
theorem zDN(f:Nat->qC)(k0:Int){j n:Nat}(h:j<=n):ze f k0 j<=ze f k0 n:=by
 obtain⟨m,rfl⟩:=Nat.exists_eq_add_of_le h;exact zGp f k0 j m
def zCW(f:Nat->qC)(k0:Int)(j:Nat):qC:=zN6(f j)(ze f k0 j)
theorem zLT(f:Nat->qC)(k0:Int)(j:Nat):(if j<0 then zCW f k0 j else f j)=f j:=if_neg(by omega)
theorem zO1(f:Nat->qC)(k0:Int)(k j:Nat):(if j<k then zCW f k0 j else f j).dn=(f j).dn:=by split<;>rfl
theorem zKE(bs:Nat)(kb:Nat->Nat)(kv:Nat->Value)(v:Value)(n:Nat)(f:Nat->qC)(k0:Int)(w:World)(h1:yN w bs kb kv v n f)(fA:zBJ kb n f)(jB:0<=k0)(lA:ze f k0 n<=1000000000000) :
  Calls Tryz.prog 43 #[v,.int .i64 k0] w fun e w'=>e = .returned(.int .i64(ze f k0 n))/\yN w' bs kb kv v n(zCW f k0)/\zF(zCA bs kb n f) w w':=by
 obtain⟨m1,a,c,rfl,mc,g1⟩:=h1;by_cases iB:n=0
 ·subst iB;go_enter Tryz.func43,Tryz.ntmps43;go_wp2;refine wp_loop_rounds 1 ?_;rw [rounds_succ];go_wp2;go_ret;exact⟨by simp [ze],⟨m1,a,c,rfl,mc,fun h=>absurd h(by omega)⟩,zF.refl _ _⟩
 ·obtain⟨off,rfl,g2⟩:=g1(by omega);clear g1;have eB:=m1;unfold maxLen at m1;have G2:=za g2;have aB:=za fA;have fB:=za lA;clear g2 fA lA;go_enter Tryz.func43,Tryz.ntmps43;go_wp2
  go_loopw [1,5](fun m i wr=>∃k:Nat,k<=n/\i = .int .i64 k/\m = .int .i64(ze f k0 k)/\(∀j,j<n->zAE wr bs(off+j*6)(kb j)(kv j)(if j<k then zCW f k0 j else f j))/\zF(zCA bs kb n f) w wr)(fun _ i _=>n - (intOf i).toNat)
  case atStart=>exact⟨0,Nat.zero_le _,rfl,rfl,fun j hj=>by rw [zLT];exact G2.out j hj,zF.refl _ _⟩
  case round=>
   obtain⟨k,hk,rfl,rfl,hall,ht⟩:=hrel;have aA:=za hall;clear hall;by_cases bA:k<n
   ·have gB:(k:Int)<(n:Int):=(by omega);have hs:=aA.out k bA;rw [if_neg(by omega)] at hs;have lB:k0<=ze f k0 k:=zDN f k0(Nat.zero_le k);have kB:ze f k0 k+5+2*((f k).dn:Int)<=1000000000000:=Int.le_trans(zDN f k0(show k+1<=n from bA)) fB.out;have Hs:=za hs;obtain⟨-,ka,kc,hkv,-⟩:=hs.zRX;clear hs;generalize hx:kv k=kvk at *;have Hx:=za hx;clear hx;subst hkv;obtain⟨⟨p0,p0'⟩,⟨p1,p1'⟩,⟨p2,p2'⟩,⟨p3,p3'⟩,⟨p4,p4'⟩,⟨p5,p5'⟩⟩:=And.intro Hs.out.c0(And.intro Hs.out.c1(And.intro Hs.out.c2(And.intro Hs.out.c3(And.intro Hs.out.c4 Hs.out.c5))));have HR:=za(yw.refl bs(off+k*6) 6 wr);go_wp2_with fail;clear p0 p0' p1 p1' p2 p2' p3 p3' p4 p4' p5 p5';have mA:=za Hs.out.c0;have dA:=za Hs.out.c1;have sA:=za Hs.out.c2;have jA:=za Hs.out.c3;have kA:=za Hs.out.c4;have oA:=za Hs.out.c5;have vA:=za HR.out;refine(zAB _ wr(by omega)).mono ?_;rintro e w1 ⟨rfl,hb1⟩;have gA:=za(mA.out.zRJ hb1);have tA:=za(dA.out.zRJ hb1);have eA:=za(sA.out.zRJ hb1);have pA:=za(jA.out.zRJ hb1);have nA:=za(kA.out.zRJ hb1);have rA:=za(oA.out.zRJ hb1);have dB:=za(vA.out.zRJ hb1);clear hb1 vA mA dA sA jA kA oA;obtain⟨p0,p0'⟩:=gA.out;obtain⟨p1,p1'⟩:=tA.out;obtain⟨p2,p2'⟩:=eA.out;obtain⟨p3,p3'⟩:=pA.out;obtain⟨p4,p4'⟩:=nA.out;obtain⟨p5,p5'⟩:=rA.out;go_wp2_with fail;clear p0 p0' p1 p1' p2 p2' p3 p3' p4 p4' p5 p5';have Ea:=za(((((gA.out.set(.string(mtF(ze f k0 k)))).zRK(b':=bs)(o':=off+k*6+1)(.int .i64(ze f k0 k+1))(Or.inr(by omega))).zRK(b':=bs)(o':=off+k*6+2)(.int .i64(ze f k0 k+1+1))(Or.inr(by omega))).zRK(b':=bs)(o':=off+k*6+3)(.int .i64(ze f k0 k+1+1+1))(Or.inr(by omega))).zRK(b':=bs)(o':=off+k*6+3+1)(.int .i64(ze f k0 k+1+1+1+1))(Or.inr(by omega)));have Eb:=za(((((tA.out.zRK(b':=bs)(o':=off+k*6)(.string(mtF(ze f k0 k)))(Or.inr(by omega))).set(.int .i64(ze f k0 k+1))).zRK(b':=bs)(o':=off+k*6+2)(.int .i64(ze f k0 k+1+1))(Or.inr(by omega))).zRK(b':=bs)(o':=off+k*6+3)(.int .i64(ze f k0 k+1+1+1))(Or.inr(by omega))).zRK(b':=bs)(o':=off+k*6+3+1)(.int .i64(ze f k0 k+1+1+1+1))(Or.inr(by omega)));have Ec:=za(((((eA.out.zRK(b':=bs)(o':=off+k*6)(.string(mtF(ze f k0 k)))(Or.inr(by omega))).zRK(b':=bs)(o':=off+k*6+1)(.int .i64(ze f k0 k+1))(Or.inr(by omega))).set(.int .i64(ze f k0 k+1+1))).zRK(b':=bs)(o':=off+k*6+3)(.int .i64(ze f k0 k+1+1+1))(Or.inr(by omega))).zRK(b':=bs)(o':=off+k*6+3+1)(.int .i64(ze f k0 k+1+1+1+1))(Or.inr(by omega)));have Ed:=za(((((pA.out.zRK(b':=bs)(o':=off+k*6)(.string(mtF(ze f k0 k)))(Or.inr(by omega))).zRK(b':=bs)(o':=off+k*6+1)(.int .i64(ze f k0 k+1))(Or.inr(by omega))).zRK(b':=bs)(o':=off+k*6+2)(.int .i64(ze f k0 k+1+1))(Or.inr(by omega))).set(.int .i64(ze f k0 k+1+1+1))).zRK(b':=bs)(o':=off+k*6+3+1)(.int .i64(ze f k0 k+1+1+1+1))(Or.inr(by omega)));have Ee:=za(((((nA.out.zRK(b':=bs)(o':=off+k*6)(.string(mtF(ze f k0 k)))(Or.inr(by omega))).zRK(b':=bs)(o':=off+k*6+1)(.int .i64(ze f k0 k+1))(Or.inr(by omega))).zRK(b':=bs)(o':=off+k*6+2)(.int .i64(ze f k0 k+1+1))(Or.inr(by omega))).zRK(b':=bs)(o':=off+k*6+3)(.int .i64(ze f k0 k+1+1+1))(Or.inr(by omega))).set(.int .i64(ze f k0 k+1+1+1+1)));have Ef:=za(((((rA.out.zRK(b':=bs)(o':=off+k*6)(.string(mtF(ze f k0 k)))(Or.inr(by omega))).zRK(b':=bs)(o':=off+k*6+1)(.int .i64(ze f k0 k+1))(Or.inr(by omega))).zRK(b':=bs)(o':=off+k*6+2)(.int .i64(ze f k0 k+1+1))(Or.inr(by omega))).zRK(b':=bs)(o':=off+k*6+3)(.int .i64(ze f k0 k+1+1+1))(Or.inr(by omega))).zRK(b':=bs)(o':=off+k*6+3+1)(.int .i64(ze f k0 k+1+1+1+1))(Or.inr(by omega)));have cA:=za(((((dB.out.set(off+k*6)(.string(mtF(ze f k0 k)))(by omega)(by omega)).set(off+k*6+1)(.int .i64(ze f k0 k+1))(by omega)(by omega)).set(off+k*6+2)(.int .i64(ze f k0 k+1+1))(by omega)(by omega)).set(off+k*6+3)(.int .i64(ze f k0 k+1+1+1))(by omega)(by omega)).set(off+k*6+3+1)(.int .i64(ze f k0 k+1+1+1+1))(by omega)(by omega));generalize(((((w1.setCell ⟨bs,off+k*6,none⟩(.string(mtF(ze f k0 k)))).setCell ⟨bs,off+k*6+1,none⟩(.int .i64(ze f k0 k+1))).setCell ⟨bs,off+k*6+2,none⟩(.int .i64(ze f k0 k+1+1))).setCell ⟨bs,off+k*6+3,none⟩(.int .i64(ze f k0 k+1+1+1))).setCell ⟨bs,off+k*6+3+1,none⟩(.int .i64(ze f k0 k+1+1+1+1)))=Y at Ea Eb Ec Ed Ee Ef cA ⊢;refine(zDo(kb k) _(f k).dn(f k).ds(f k).db _ Y(Hs.out.zRX.zRR cA.out.zRR(fun h0 hx=>Hs.out.zRW h0 hx))(by omega)(by omega)).mono ?_;rintro e wz ⟨rfl,hpz,htz⟩;have bB:=za hpz;have iA:=za htz;clear hpz htz;go_wp2;go_roundw
    case rel=>
     refine⟨k+1,by omega,by go_num,congrArg(Value.int .i64)(by show _=ze f k0 k+5+2*((f k).dn:Int);omega),fun j hj=>?_,?_⟩
     ·have st:=zPn(s:=zCW f k0 k) aA.out(by
        intro i j hi hj cB h1 h2;rw [zO1] at h1 h2;exact aB.out i j hi hj cB h1 h2) bA cA.out(by rw [if_neg(Nat.lt_irrefl k)];exact iA.out) Ea.out Eb.out Ec.out Ed.out Ee.out(by rw [Hx.out];exact Ef.out)(by rw [if_neg(Nat.lt_irrefl k)];rfl)(by rw [Hx.out];exact bB.out)(zFn(by omega)) j hj
      by_cases e:j=k
      ·subst e;rw [if_pos rfl] at st;rw [if_pos(by omega)];exact st
      ·rw [if_neg e] at st;by_cases e2:j<k
       ·rw [if_pos e2] at st;rw [if_pos(by omega)];exact st
       ·rw [if_neg e2] at st;rw [if_neg(by omega)];exact st
     ·refine(ht.trans(cA.out.zRR.mono ?_)).trans(iA.out.mono ?_)
      ·rintro b rfl;exact Or.inl ⟨by omega,rfl⟩
      ·rintro b ⟨hb,rfl⟩;exact Or.inr ⟨k,bA,hb,rfl⟩
    case measure=>simp [intOf];omega
   ·obtain rfl:k=n:=(by omega);go_wp2;go_ret;refine⟨rfl,⟨eB,_,c,rfl,mc,fun _=>⟨off,rfl,fun i hi=>?_⟩⟩,ht⟩;have:=aA.out i hi;rw [if_pos hi] at this;exact this
def zM(f:Nat->zm)(k0:Int):Nat->Int
 |0=>k0
 |j+1=>zM f k0 j+7+2*(f j).dn
def zMe(s:zm)(c:Int):zm:={id:=c,name:=mtF(c+1),set:=mtF(c+1+1),zRT:=c+1+1+1,time:=c+1+1+1+1,rs:=c+1+1+1+1+1,rb:=c+1+1+1+1+1+1,dn:=s.dn,ds:=fun i=>c+1+1+1+1+1+1+1+2*i,db:=fun i=>c+1+1+1+1+1+1+1+2*i+1}
theorem zFk(f:Nat->zm)(k0:Int)(j:Nat):∀m,zM f k0 j<=zM f k0(j+m)
 |0=>Int.le_refl _
 |m+1=>by
  have:=zFk f k0 j m;show _<=zM f k0(j+m)+7+2*((f(j+m)).dn:Int);omega
theorem zCZ(f:Nat->zm)(k0:Int){j n:Nat}(h:j<=n):zM f k0 j<=zM f k0 n:=by
 obtain⟨m,rfl⟩:=Nat.exists_eq_add_of_le h;exact zFk f k0 j m
def zBl(f:Nat->zm)(k0:Int)(j:Nat):zm:=zMe(f j)(zM f k0 j)
theorem zKu(f:Nat->zm)(k0:Int)(j:Nat):(if j<0 then zBl f k0 j else f j)=f j:=if_neg(by omega)
theorem zN2(f:Nat->zm)(k0:Int)(k j:Nat):(if j<k then zBl f k0 j else f j).dn=(f j).dn:=by split<;>rfl
theorem zI6(bs:Nat)(kb:Nat->Nat)(kv:Nat->Value)(v:Value)(n:Nat)(f:Nat->zm)(k0:Int)(w:World)(h1:yU w bs kb kv v n f)(jB:zA6 kb n f)(mC:0<=k0)(nB:zM f k0 n<=1000000000000) :
  Calls Tryz.prog 44 #[v,.int .i64 k0] w fun e w'=>e = .returned(.int .i64(zM f k0 n))/\yU w' bs kb kv v n(zBl f k0)/\zF(zB6 bs kb n f) w w':=by
 obtain⟨m1,a,c,rfl,mc,g1⟩:=h1;by_cases lC:n=0
 ·subst lC;go_enter Tryz.func44,Tryz.ntmps44;go_wp2;refine wp_loop_rounds 1 ?_;rw [rounds_succ];go_wp2;go_ret;exact⟨by simp [zM],⟨m1,a,c,rfl,mc,fun h=>absurd h(by omega)⟩,zF.refl _ _⟩
 ·obtain⟨off,rfl,g2⟩:=g1(by omega);clear g1;have gC:=m1;unfold maxLen at m1;have G2:=za g2;have cC:=za jB;have iC:=za nB;clear g2 jB nB;go_enter Tryz.func44,Tryz.ntmps44;go_wp2
  go_loopw [1,5](fun m i wr=>∃k:Nat,k<=n/\i = .int .i64 k/\m = .int .i64(zM f k0 k)/\(∀j,j<n->zAG wr bs(off+j*8)(kb j)(kv j)(if j<k then zBl f k0 j else f j))/\zF(zB6 bs kb n f) w wr)(fun _ i _=>n - (intOf i).toNat)
  case atStart=>exact⟨0,Nat.zero_le _,rfl,rfl,fun j hj=>by rw [zKu];exact G2.out j hj,zF.refl _ _⟩
  case round=>
   obtain⟨k,hk,rfl,rfl,hall,ht⟩:=hrel;have aA:=za hall;clear hall;by_cases bA:k<n
   ·have kC:(k:Int)<(n:Int):=(by omega);have hs:=aA.out k bA;rw [if_neg(by omega)] at hs;have oC:k0<=zM f k0 k:=zCZ f k0(Nat.zero_le k);have nC:zM f k0 k+7+2*((f k).dn:Int)<=1000000000000:=Int.le_trans(zCZ f k0(show k+1<=n from bA)) iC.out;have Hs:=za hs;obtain⟨-,ka,kc,hkv,-⟩:=hs.zRX;clear hs;generalize hx:kv k=kvk at *;have Hx:=za hx;clear hx;subst hkv;obtain⟨⟨p0,p0'⟩,⟨p1,p1'⟩,⟨p2,p2'⟩,⟨p3,p3'⟩,⟨p4,p4'⟩,⟨p5,p5'⟩,⟨p6,p6'⟩,⟨p7,p7'⟩⟩:=And.intro Hs.out.c0(And.intro Hs.out.c1(And.intro Hs.out.c2(And.intro Hs.out.c3(And.intro Hs.out.c4(And.intro Hs.out.c5(And.intro Hs.out.c6 Hs.out.c7))))));have HR:=za(yw.refl bs(off+k*8) 8 wr);go_wp2_with fail;clear p0 p0' p1 p1' p2 p2' p3 p3' p4 p4' p5 p5' p6 p6' p7 p7';have pA:=za(Hs.out.c0.set(.int .i64(zM f k0 k)));have gA:=za(Hs.out.c1.zRK(b':=bs)(o':=off+k*8)(.int .i64(zM f k0 k))(Or.inr(by omega)));have vA:=za(Hs.out.c2.zRK(b':=bs)(o':=off+k*8)(.int .i64(zM f k0 k))(Or.inr(by omega)));have mA:=za(Hs.out.c3.zRK(b':=bs)(o':=off+k*8)(.int .i64(zM f k0 k))(Or.inr(by omega)));have oA:=za(Hs.out.c4.zRK(b':=bs)(o':=off+k*8)(.int .i64(zM f k0 k))(Or.inr(by omega)));have sA:=za(Hs.out.c5.zRK(b':=bs)(o':=off+k*8)(.int .i64(zM f k0 k))(Or.inr(by omega)));have dA:=za(Hs.out.c6.zRK(b':=bs)(o':=off+k*8)(.int .i64(zM f k0 k))(Or.inr(by omega)));have eA:=za(Hs.out.c7.zRK(b':=bs)(o':=off+k*8)(.int .i64(zM f k0 k))(Or.inr(by omega)));have rA:=za(HR.out.set(off+k*8)(.int .i64(zM f k0 k))(by omega)(by omega));generalize(wr.setCell ⟨bs,off+k*8,none⟩(.int .i64(zM f k0 k)))=Y1 at pA gA vA mA oA sA dA eA rA ⊢;refine(zAB _ Y1(by omega)).mono ?_;rintro e w1 ⟨rfl,hb1⟩;have kB:=za(pA.out.zRJ hb1);have bC:=za(gA.out.zRJ hb1);have iB:=za(vA.out.zRJ hb1);have rB:=za(mA.out.zRJ hb1);have oB:=za(oA.out.zRJ hb1);have vB:=za(sA.out.zRJ hb1);have aC:=za(dA.out.zRJ hb1);have eB:=za(eA.out.zRJ hb1);have fC:=za(rA.out.zRJ hb1);clear hb1 rA pA gA vA mA oA sA dA eA;obtain⟨p0,p0'⟩:=kB.out;obtain⟨p1,p1'⟩:=bC.out;obtain⟨p2,p2'⟩:=iB.out;obtain⟨p3,p3'⟩:=rB.out;obtain⟨p4,p4'⟩:=oB.out;obtain⟨p5,p5'⟩:=vB.out;obtain⟨p6,p6'⟩:=aC.out;obtain⟨p7,p7'⟩:=eB.out;go_wp2_with fail;clear p0 p0' p1 p1' p2 p2' p3 p3' p4 p4' p5 p5' p6 p6' p7 p7';have nA:=za(kB.out.zRK(b':=bs)(o':=off+k*8+1)(.string(mtF(zM f k0 k+1)))(Or.inr(by omega)));have fA:=za(bC.out.set(.string(mtF(zM f k0 k+1))));have aB:=za(iB.out.zRK(b':=bs)(o':=off+k*8+1)(.string(mtF(zM f k0 k+1)))(Or.inr(by omega)));have bB:=za(rB.out.zRK(b':=bs)(o':=off+k*8+1)(.string(mtF(zM f k0 k+1)))(Or.inr(by omega)));have iA:=za(oB.out.zRK(b':=bs)(o':=off+k*8+1)(.string(mtF(zM f k0 k+1)))(Or.inr(by omega)));have kA:=za(vB.out.zRK(b':=bs)(o':=off+k*8+1)(.string(mtF(zM f k0 k+1)))(Or.inr(by omega)));have lA:=za(aC.out.zRK(b':=bs)(o':=off+k*8+1)(.string(mtF(zM f k0 k+1)))(Or.inr(by omega)));have tA:=za(eB.out.zRK(b':=bs)(o':=off+k*8+1)(.string(mtF(zM f k0 k+1)))(Or.inr(by omega)));have jA:=za(fC.out.set(off+k*8+1)(.string(mtF(zM f k0 k+1)))(by omega)(by omega));generalize(w1.setCell ⟨bs,off+k*8+1,none⟩(.string(mtF(zM f k0 k+1))))=Y2 at nA fA aB bB iA kA lA tA jA ⊢;refine(zAB _ Y2(by omega)).mono ?_;rintro e w2 ⟨rfl,hb2⟩;have fB:=za(nA.out.zRJ hb2);have dB:=za(fA.out.zRJ hb2);have gB:=za(aB.out.zRJ hb2);have lB:=za(bB.out.zRJ hb2);have cB:=za(iA.out.zRJ hb2);have pB:=za(kA.out.zRJ hb2);have sB:=za(lA.out.zRJ hb2);have tB:=za(tA.out.zRJ hb2);have jC:=za(jA.out.zRJ hb2);clear hb2 jA nA fA aB bB iA kA lA tA;obtain⟨p0,p0'⟩:=fB.out;obtain⟨p1,p1'⟩:=dB.out;obtain⟨p2,p2'⟩:=gB.out;obtain⟨p3,p3'⟩:=lB.out;obtain⟨p4,p4'⟩:=cB.out;obtain⟨p5,p5'⟩:=pB.out;obtain⟨p6,p6'⟩:=sB.out;obtain⟨p7,p7'⟩:=tB.out;go_wp2_with fail;clear p0 p0' p1 p1' p2 p2' p3 p3' p4 p4' p5 p5' p6 p6' p7 p7';have Ea:=za(((((fB.out.zRK(b':=bs)(o':=off+k*8+2)(.string(mtF(zM f k0 k+1+1)))(Or.inr(by omega))).zRK(b':=bs)(o':=off+k*8+3)(.int .i64(zM f k0 k+1+1+1))(Or.inr(by omega))).zRK(b':=bs)(o':=off+k*8+4)(.int .i64(zM f k0 k+1+1+1+1))(Or.inr(by omega))).zRK(b':=bs)(o':=off+k*8+5)(.int .i64(zM f k0 k+1+1+1+1+1))(Or.inr(by omega))).zRK(b':=bs)(o':=off+k*8+5+1)(.int .i64(zM f k0 k+1+1+1+1+1+1))(Or.inr(by omega)));have Eb:=za(((((dB.out.zRK(b':=bs)(o':=off+k*8+2)(.string(mtF(zM f k0 k+1+1)))(Or.inr(by omega))).zRK(b':=bs)(o':=off+k*8+3)(.int .i64(zM f k0 k+1+1+1))(Or.inr(by omega))).zRK(b':=bs)(o':=off+k*8+4)(.int .i64(zM f k0 k+1+1+1+1))(Or.inr(by omega))).zRK(b':=bs)(o':=off+k*8+5)(.int .i64(zM f k0 k+1+1+1+1+1))(Or.inr(by omega))).zRK(b':=bs)(o':=off+k*8+5+1)(.int .i64(zM f k0 k+1+1+1+1+1+1))(Or.inr(by omega)));have Ec:=za(((((gB.out.set(.string(mtF(zM f k0 k+1+1)))).zRK(b':=bs)(o':=off+k*8+3)(.int .i64(zM f k0 k+1+1+1))(Or.inr(by omega))).zRK(b':=bs)(o':=off+k*8+4)(.int .i64(zM f k0 k+1+1+1+1))(Or.inr(by omega))).zRK(b':=bs)(o':=off+k*8+5)(.int .i64(zM f k0 k+1+1+1+1+1))(Or.inr(by omega))).zRK(b':=bs)(o':=off+k*8+5+1)(.int .i64(zM f k0 k+1+1+1+1+1+1))(Or.inr(by omega)));have Ed:=za(((((lB.out.zRK(b':=bs)(o':=off+k*8+2)(.string(mtF(zM f k0 k+1+1)))(Or.inr(by omega))).set(.int .i64(zM f k0 k+1+1+1))).zRK(b':=bs)(o':=off+k*8+4)(.int .i64(zM f k0 k+1+1+1+1))(Or.inr(by omega))).zRK(b':=bs)(o':=off+k*8+5)(.int .i64(zM f k0 k+1+1+1+1+1))(Or.inr(by omega))).zRK(b':=bs)(o':=off+k*8+5+1)(.int .i64(zM f k0 k+1+1+1+1+1+1))(Or.inr(by omega)));have Ee:=za(((((cB.out.zRK(b':=bs)(o':=off+k*8+2)(.string(mtF(zM f k0 k+1+1)))(Or.inr(by omega))).zRK(b':=bs)(o':=off+k*8+3)(.int .i64(zM f k0 k+1+1+1))(Or.inr(by omega))).set(.int .i64(zM f k0 k+1+1+1+1))).zRK(b':=bs)(o':=off+k*8+5)(.int .i64(zM f k0 k+1+1+1+1+1))(Or.inr(by omega))).zRK(b':=bs)(o':=off+k*8+5+1)(.int .i64(zM f k0 k+1+1+1+1+1+1))(Or.inr(by omega)));have Ef:=za(((((pB.out.zRK(b':=bs)(o':=off+k*8+2)(.string(mtF(zM f k0 k+1+1)))(Or.inr(by omega))).zRK(b':=bs)(o':=off+k*8+3)(.int .i64(zM f k0 k+1+1+1))(Or.inr(by omega))).zRK(b':=bs)(o':=off+k*8+4)(.int .i64(zM f k0 k+1+1+1+1))(Or.inr(by omega))).set(.int .i64(zM f k0 k+1+1+1+1+1))).zRK(b':=bs)(o':=off+k*8+5+1)(.int .i64(zM f k0 k+1+1+1+1+1+1))(Or.inr(by omega)));have Eg:=za(((((sB.out.zRK(b':=bs)(o':=off+k*8+2)(.string(mtF(zM f k0 k+1+1)))(Or.inr(by omega))).zRK(b':=bs)(o':=off+k*8+3)(.int .i64(zM f k0 k+1+1+1))(Or.inr(by omega))).zRK(b':=bs)(o':=off+k*8+4)(.int .i64(zM f k0 k+1+1+1+1))(Or.inr(by omega))).zRK(b':=bs)(o':=off+k*8+5)(.int .i64(zM f k0 k+1+1+1+1+1))(Or.inr(by omega))).set(.int .i64(zM f k0 k+1+1+1+1+1+1)));have Eh:=za(((((tB.out.zRK(b':=bs)(o':=off+k*8+2)(.string(mtF(zM f k0 k+1+1)))(Or.inr(by omega))).zRK(b':=bs)(o':=off+k*8+3)(.int .i64(zM f k0 k+1+1+1))(Or.inr(by omega))).zRK(b':=bs)(o':=off+k*8+4)(.int .i64(zM f k0 k+1+1+1+1))(Or.inr(by omega))).zRK(b':=bs)(o':=off+k*8+5)(.int .i64(zM f k0 k+1+1+1+1+1))(Or.inr(by omega))).zRK(b':=bs)(o':=off+k*8+5+1)(.int .i64(zM f k0 k+1+1+1+1+1+1))(Or.inr(by omega)));have cA:=za(((((jC.out.set(off+k*8+2)(.string(mtF(zM f k0 k+1+1)))(by omega)(by omega)).set(off+k*8+3)(.int .i64(zM f k0 k+1+1+1))(by omega)(by omega)).set(off+k*8+4)(.int .i64(zM f k0 k+1+1+1+1))(by omega)(by omega)).set(off+k*8+5)(.int .i64(zM f k0 k+1+1+1+1+1))(by omega)(by omega)).set(off+k*8+5+1)(.int .i64(zM f k0 k+1+1+1+1+1+1))(by omega)(by omega));generalize(((((w2.setCell ⟨bs,off+k*8+2,none⟩(.string(mtF(zM f k0 k+1+1)))).setCell ⟨bs,off+k*8+3,none⟩(.int .i64(zM f k0 k+1+1+1))).setCell ⟨bs,off+k*8+4,none⟩(.int .i64(zM f k0 k+1+1+1+1))).setCell ⟨bs,off+k*8+5,none⟩(.int .i64(zM f k0 k+1+1+1+1+1))).setCell ⟨bs,off+k*8+5+1,none⟩(.int .i64(zM f k0 k+1+1+1+1+1+1)))=Y at Ea Eb Ec Ed Ee Ef Eg Eh cA ⊢;refine(zDo(kb k) _(f k).dn(f k).ds(f k).db _ Y(Hs.out.zRX.zRR cA.out.zRR(fun h0 hx=>Hs.out.zRW h0 hx))(by omega)(by omega)).mono ?_;rintro e wz ⟨rfl,hpz,htz⟩;have dC:=za hpz;have mB:=za htz;clear hpz htz;go_wp2;go_roundw
    case rel=>
     refine⟨k+1,by omega,by go_num,congrArg(Value.int .i64)(by show _=zM f k0 k+7+2*((f k).dn:Int);omega),fun j hj=>?_,?_⟩
     ·have st:=zOa(s:=zBl f k0 k) aA.out(by
        intro i j hi hj eC h1 h2;rw [zN2] at h1 h2;exact cC.out i j hi hj eC h1 h2) bA cA.out(by rw [if_neg(Nat.lt_irrefl k)];exact mB.out) Ea.out Eb.out Ec.out Ed.out Ee.out Ef.out Eg.out(by rw [Hx.out];exact Eh.out)(by rw [if_neg(Nat.lt_irrefl k)];rfl)(by rw [Hx.out];exact dC.out) ⟨zFn(by omega),zFn(by omega)⟩ j hj
      by_cases e:j=k
      ·subst e;rw [if_pos rfl] at st;rw [if_pos(by omega)];exact st
      ·rw [if_neg e] at st;by_cases e2:j<k
       ·rw [if_pos e2] at st;rw [if_pos(by omega)];exact st
       ·rw [if_neg e2] at st;rw [if_neg(by omega)];exact st
     ·refine(ht.trans(cA.out.zRR.mono ?_)).trans(mB.out.mono ?_)
      ·rintro b rfl;exact Or.inl ⟨by omega,rfl⟩
      ·rintro b ⟨hb,rfl⟩;exact Or.inr ⟨k,bA,hb,rfl⟩
    case measure=>simp [intOf];omega
   ·obtain rfl:k=n:=(by omega);go_wp2;go_ret;refine⟨rfl,⟨gC,_,c,rfl,mc,fun _=>⟨off,rfl,fun i hi=>?_⟩⟩,ht⟩;have:=aA.out i hi;rw [if_pos hi] at this;exact this
def zNL(W:zH)(k0:Int):zH:={zRQ:=zQV W.zRQ k0,time:=W.time,next:=W.next,sn:=W.sn,zRS:=zCW W.zRS(zBA W.zRQ k0),pn:=W.pn,zRP:=zBl W.zRP(ze W.zRS(zBA W.zRQ k0) W.sn)}
def zAm(W:zH)(k0:Int):Int:=zM W.zRP(ze W.zRS(zBA W.zRQ k0) W.sn) W.pn
theorem zQC(p:zJ)(k0:Int):k0<=zBA p k0:=by
 unfold zBA;have:=zCX p.s k0(Nat.zero_le p.n);have h0:qU p.s k0 0=k0:=rfl;omega
theorem zDd(W:zH)(k0:Int):k0<=zBA W.zRQ k0/\zBA W.zRQ k0<=ze W.zRS(zBA W.zRQ k0) W.sn/\ze W.zRS(zBA W.zRQ k0) W.sn<=zAm W k0:=
 ⟨zQC _ _,zDN W.zRS(zBA W.zRQ k0)(Nat.zero_le _),zCZ W.zRP(ze W.zRS(zBA W.zRQ k0) W.sn)(Nat.zero_le _)⟩
theorem zEx(lo hi:Nat)(v0 v1 v2 v3:Value)(W:zH)(k0:Int)(w:World)(h:qO w lo hi v0 v1 v2 v3 W)(jA:0<=k0)(gA:zAm W k0<=1000000000000) :
  Calls Tryz.prog 13 #[zz v0 v1 v2 v3 W,.int .i64 k0] w fun e w'=>e = .returned(.int .i64(zAm W k0))/\qO w' lo hi v0 v1 v2 v3(zNL W k0)/\zF(fun k=>lo<=k/\k<hi) w w':=by
 obtain⟨a0,c0,a1,c1,a2,c2,a3,c3,rfl,rfl,rfl,rfl⟩:=h.form;obtain⟨P,Q,R,⟨⟨bs,hb,kb,kv,s1,s2,s3,s4,s5⟩,⟨bt,kt,vt,t1,t2,t3⟩,⟨bp,kp,vp,p1,p2,p3⟩,pq,pr,qr⟩,hl⟩:=h;have S1:=za s1;have S2:=za s2;have S3:=za s3;have S4:=za s4;have S5:=za s5;have T1:=za t1;have T2:=za t2;have T3:=za t3;have P1:=za p1;have P2:=za p2;have P3:=za p3;have aA:=za(And.intro pq(And.intro pr(And.intro qr hl)));have HE:=za(zDd W k0);have HK:=za gA;have HB:=za(zi.zRL w(.slice a0 W.zRQ.n c0)(.slice a1 W.zRQ.hn c1)(.int .i64 W.time)(.int .i64 W.next)(.slice a2 W.sn c2)(.slice a3 W.pn c3) 37);have ha:=zC w(.cells #[.slice a0 W.zRQ.n c0,.slice a1 W.zRQ.hn c1,.int .i64 W.time,.int .i64 W.next,.slice a2 W.sn c2,.slice a3 W.pn c3] 37);have NA:=za(show ∀k,yk bs kb W.zRQ.n W.zRQ.s k\/(0<W.zRQ.hn/\k=hb)->k<w.heap.size from fun k hk=>by
  rcases hk with hk | ⟨h0,rfl⟩
  ·exact s1.lt hk
  ·obtain⟨_,_,_,_,_,h3,_⟩:=s3;obtain⟨o,_,h4⟩:=h3 h0;exact(h4 0 h0).lt)
 have NB:=za(show ∀k,zCA bt kt W.sn W.zRS k->k<w.heap.size from fun k hk=>t1.lt hk);have NC:=za(show ∀k,zB6 bp kp W.pn W.zRP k->k<w.heap.size from fun k hk=>p1.lt hk);clear s1 s2 s3 s4 s5 t1 t2 t3 p1 p2 p3 pq pr qr hl gA;obtain⟨⟨x0,-⟩,⟨x1,-⟩,⟨x2,-⟩,⟨x3,-⟩,⟨x4,-⟩,⟨x5,-⟩⟩:=HB.out;go_enter Tryz.func13,Tryz.ntmps13;go_wp2_with fail;clear x0 x1 x2 x3 x4 x5;have eA:(w.alloc(.cells #[.slice a0 W.zRQ.n c0,.slice a1 W.zRQ.hn c1,.int .i64 W.time,.int .i64 W.next,.slice a2 W.sn c2,.slice a3 W.pn c3] 37)).heap.size=w.heap.size+1:=World.size_alloc _ _;have kA:=za eA;clear eA;generalize w.alloc(.cells #[.slice a0 W.zRQ.n c0,.slice a1 W.zRQ.hn c1,.int .i64 W.time,.int .i64 W.next,.slice a2 W.sn c2,.slice a3 W.pn c3] 37)=W0 at ha HB kA ⊢;refine(zKU bs hb kb kv _ _ W.zRQ k0 W0(S1.out.zRJ ha) S2.out(S3.out.zRJ ha) S4.out jA(by have h1:=HE.out;have h2:=HK.out;unfold zBA at h1;omega)).mono ?_;rintro e w1 ⟨rfl,g1,g2,ht1⟩;have G1:=za g1;have G2:=za g2;have oA:=za ht1;have cA:=za(HB.out.zRR ht1(fun x=>absurd(NA.out _ x)(by omega)));have nA:=za((T1.out.zRJ ha).zRR ht1(fun k hk x=>aA.out.1 k(S5.out k x)(T3.out k hk)));have lA:=za((P1.out.zRJ ha).zRR ht1(fun k hk x=>aA.out.2.1 k(S5.out k x)(P3.out k hk)));clear g1 g2 ht1 HB;obtain⟨⟨x0,-⟩,⟨x1,-⟩,⟨x2,-⟩,⟨x3,-⟩,⟨x4,-⟩,⟨x5,-⟩⟩:=cA.out;go_wp2_with fail;clear x0 x1 x2 x3 x4 x5;refine(zKE bt kt vt _ W.sn W.zRS _ w1 nA.out T2.out(by have h1:=HE.out;unfold zBA at h1;omega)(by have h1:=HE.out;have h2:=HK.out;unfold zBA at h1;omega)).mono ?_;rintro e w2 ⟨rfl,g3,ht2⟩;have G3:=za g3;have dA:=za ht2;have fA:¬zCA bt kt W.sn W.zRS w.heap.size:=fun x=>absurd(NB.out _ x)(by omega)
 have mA:=za(cA.out.zRR ht2 fA);have iA:=za(lA.out.zRR ht2(fun k hk x=>aA.out.2.2.1 k(T3.out k x)(P3.out k hk)));clear g3 ht2 cA fA;obtain⟨⟨x0,-⟩,⟨x1,-⟩,⟨x2,-⟩,⟨x3,-⟩,⟨x4,-⟩,⟨x5,-⟩⟩:=mA.out;go_wp2_with fail;clear x0 x1 x2 x3 x4 x5;refine(zI6 bp kp vp _ W.pn W.zRP _ w2 iA.out P2.out(by have h1:=HE.out;unfold zBA at h1;omega)(by have h1:=HE.out;have h2:=HK.out;unfold zAm zBA at *;omega)).mono ?_;rintro e w3 ⟨rfl,g4,ht3⟩;have G4:=za g4;have bA:=za ht3;clear g4 ht3;go_wp2;go_ret;refine⟨rfl,⟨P,Q,R,⟨⟨bs,hb,kb,kv,?_,S2.out,?_,S4.out,S5.out⟩,⟨bt,kt,vt,?_,T2.out,T3.out⟩,⟨bp,kp,vp,G4.out,P2.out,P3.out⟩,aA.out.1,aA.out.2.1,aA.out.2.2.1⟩,aA.out.2.2.2⟩,?_⟩
 ·refine(G1.out.zRR dA.out(fun h0 x=>?_)(fun i hi h0 x=>?_)).zRR bA.out(fun h0 x=>?_)(fun i hi h0 x=>?_)
  ·exact aA.out.1 _(S5.out _(Or.inl(Or.inl ⟨h0,rfl⟩)))(T3.out _ x)
  ·exact aA.out.1 _(S5.out _(Or.inl(Or.inr ⟨i,hi,h0,rfl⟩)))(T3.out _ x)
  ·exact aA.out.2.1 _(S5.out _(Or.inl(Or.inl ⟨h0,rfl⟩)))(P3.out _ x)
  ·exact aA.out.2.1 _(S5.out _(Or.inl(Or.inr ⟨i,hi,h0,rfl⟩)))(P3.out _ x)
 ·refine(G2.out.zRR dA.out(fun h0 x=>?_)).zRR bA.out(fun h0 x=>?_)
  ·exact aA.out.1 _(S5.out _(Or.inr ⟨h0,rfl⟩))(T3.out _ x)
  ·exact aA.out.2.1 _(S5.out _(Or.inr ⟨h0,rfl⟩))(P3.out _ x)
 ·exact G3.out.zRR bA.out(fun k hk x=>aA.out.2.2.1 k(T3.out k hk)(P3.out k x))
 ·refine(((zF.zRM ha).trans(oA.out.mono ?_)).trans(dA.out.mono ?_)).trans(bA.out.mono ?_)
  ·exact fun k hk=>aA.out.2.2.2 k(Or.inl(S5.out k hk))
  ·exact fun k hk=>aA.out.2.2.2 k(Or.inr(Or.inl(T3.out k hk)))
  ·exact fun k hk=>aA.out.2.2.2 k(Or.inr(Or.inr(P3.out k hk)))
theorem zGK(f:Nat->zL)(k0:Int):∀n,qU f k0 n<=k0+2*(n:Int)+2*(yr f n:Int)
 |0=>by show k0<=_;omega
 |n+1=>by
  have:=zGK f k0 n;show qU f k0 n+2+2*((f n).kn:Int)<=k0+2*((n+1:Nat):Int)+2*((yr f n+((f n).kn+(f n).data.size):Nat):Int);omega
theorem zFC(f:Nat->qC)(k0:Int):∀n,ze f k0 n<=k0+5*(n:Int)+2*(zBM f n:Int)
 |0=>by show k0<=_;omega
 |n+1=>by
  have:=zFC f k0 n;show ze f k0 n+5+2*((f n).dn:Int)<=k0+5*((n+1:Nat):Int)+2*((zBM f n+((f n).name.size+(f n).dn):Nat):Int);omega
theorem zEF(f:Nat->zm)(k0:Int):∀n,zM f k0 n<=k0+7*(n:Int)+2*(zAx f n:Int)
 |0=>by show k0<=_;omega
 |n+1=>by
  have:=zEF f k0 n;show zM f k0 n+7+2*((f n).dn:Int)<=k0+7*((n+1:Nat):Int)+2*((zAx f n+((f n).name.size+(f n).set.size+(f n).dn):Nat):Int);omega
theorem zM5{W:zH}(h:yd W<=4000000):zAm W 1<=1000000000000/\0<=zAm W 1:=by
 have h1:=zGK W.zRQ.s 1 W.zRQ.n;have h2:=zDd W 1;have h3:=zFC W.zRS(zBA W.zRQ 1) W.sn;have h4:=zEF W.zRP(ze W.zRS(zBA W.zRQ 1) W.sn) W.pn;unfold yd qE at h;have h5:zBA W.zRQ 1=qU W.zRQ.s 1 W.zRQ.n+W.zRQ.hn:=rfl;have h6:zAm W 1=zM W.zRP(ze W.zRS(zBA W.zRQ 1) W.sn) W.pn:=rfl;generalize zBA W.zRQ 1=e at *;generalize ze W.zRS e W.sn=s at *;omega
theorem zGo(a b c d:Int)(w:World) :
  Calls Tryz.prog 174 #[.agg #[.int .i64 a,.int .i64 b],.agg #[.int .i64 c,.int .i64 d]] w fun e w'=>zG(zCC a b c d) e/\Below w.heap.size w w':=by
 by_cases h1:a=c
 ·by_cases h2:b=d
  ·subst h1 h2;go_enter Tryz.func174,Tryz.ntmps174;go_wp2;go_ret;exact⟨zG.yes ⟨rfl,rfl⟩,((Below.refl _ _).alloc(Nat.le_refl _) _).alloc(by simp) _⟩
  ·subst h1;have hb:(b != d)=true:=(by simp [h2]);have H2:Hid(¬zCC a b a d):=fun h=>h2 h.2
   clear h2;go_enter Tryz.func174,Tryz.ntmps174;go_wp2;go_ret;exact⟨zG.no H2.out,((Below.refl _ _).alloc(Nat.le_refl _) _).alloc(by simp) _⟩
 ·have hb:(a != c)=true:=(by simp [h1]);have H2:Hid(¬zCC a b c d):=fun h=>h1 h.1
  clear h1;go_enter Tryz.func174,Tryz.ntmps174;go_wp2;go_ret;exact⟨zG.no H2.out,((Below.refl _ _).alloc(Nat.le_refl _) _).alloc(by simp) _⟩
theorem zJz(v v':Value)(n n' lo hi lo' hi':Nat)(f f':Nat->Int)(w:World)(h1:qT w lo hi v n f)(h2:qT w lo' hi' v' n' f') :
  Calls Tryz.prog 109 #[v,v'] w fun e w'=>zG(zMY n n' f f') e/\Below w.heap.size w w':=by
 obtain⟨m1,a,c,rfl,mc,g1⟩:=h1;obtain⟨m2,a',c',rfl,mc',g2⟩:=h2;unfold maxLen at m1 m2;by_cases hn:n=n'
 ·subst hn;have cA:((n:Int) != (n:Int))=false:=(by simp);go_enter Tryz.func109,Tryz.ntmps109;go_wp2
  go_loopw [5](fun i wr=>∃k:Nat,k<=n/\i = .int .i64 k/\(∀j,j<k->f j=f' j)/\Below w.heap.size w wr)(fun i _=>n - (intOf i).toNat)
  case atStart=>exact⟨0,Nat.zero_le _,rfl,fun j h=>absurd h(Nat.not_lt_zero _),Below.refl _ _⟩
  case round=>
   obtain⟨k,hk,rfl,hall,hb⟩:=hrel;have bA:Hid(∀j,j<k->f j=f' j):=hall;clear hall;by_cases aA:k<n
   ·have eA:(k:Int)<(n:Int):=(by omega);obtain⟨b,off,rfl,_,_,k1⟩:=g1(by omega);obtain⟨b',off',rfl,_,_,k2⟩:=g2(by omega);have fA:wr.cell? ⟨b,off+k,none⟩=some(.int .i64(f k)):=(hb.cell(zD(k1 k aA))).trans(k1 k aA);have gA:wr.cell? ⟨b',off'+k,none⟩=some(.int .i64(f' k)):=(hb.cell(zD(k2 k aA))).trans(k2 k aA);clear k1 k2 g1 g2;by_cases he:f k=f' k
    ·have dA:(f k != f' k)=false:=(by simp [he]);have He:Hid(f k=f' k):=he;clear he;go_wp2_with fail
     go_quiet(fail)
     go_wp2;go_roundw
     case rel=>exact⟨k+1,by omega,by go_num,zo aA bA.out He.out,zg hb _⟩
     case measure=>simp [intOf];omega
    ·have dA:(f k != f' k)=true:=(by simp [he]);have He:Hid(¬f k=f' k):=he;clear he;go_wp2_with fail
     go_quiet(fail)
     go_wp2;go_ret;exact⟨zG.no fun h=>He.out(h.2 k aA),zg hb _⟩
   ·go_wp2;go_ret;exact⟨zG.yes ⟨rfl,fun i hi=>bA.out i(by omega)⟩,hb⟩
 ·have cA:((n:Int) != (n':Int))=true:=(by simp;omega);have Hn:Hid(¬n=n'):=hn;clear hn;go_enter Tryz.func109,Tryz.ntmps109;go_wp2;go_ret;exact⟨zG.no fun h=>Hn.out h.1,Below.refl _ _⟩
theorem zFU(v v':Value)(n n' lo hi lo' hi':Nat)(f g f' g':Nat->Int)(w:World)(h1:zR w lo hi v n f g)(h2:zR w lo' hi' v' n' f' g') :
  Calls Tryz.prog 175 #[v,v'] w fun e w'=>zG(zMI n n' f g f' g') e/\Below w.heap.size w w':=by
 obtain⟨m1,a,c,rfl,mc,g1⟩:=h1;obtain⟨m2,a',c',rfl,mc',g2⟩:=h2;unfold maxLen at m1 m2;by_cases hn:n=n'
 ·subst hn;have iA:((n:Int) != (n:Int))=false:=(by simp);go_enter Tryz.func175,Tryz.ntmps175;go_wp2
  go_loopw [5](fun i wr=>∃k:Nat,k<=n/\i = .int .i64 k/\(∀j,j<k->f j=f' j/\g j=g' j)/\Below w.heap.size w wr)(fun i _=>n - (intOf i).toNat)
  case atStart=>exact⟨0,Nat.zero_le _,rfl,fun j h=>absurd h(Nat.not_lt_zero _),Below.refl _ _⟩
  case round=>
   obtain⟨k,hk,rfl,hall,hb⟩:=hrel;have bA:Hid(∀j,j<k->f j=f' j/\g j=g' j):=hall;clear hall;by_cases aA:k<n
   ·have jA:(k:Int)<(n:Int):=(by omega);obtain⟨b,off,rfl,_,_,k1⟩:=g1(by omega);obtain⟨b',off',rfl,_,_,k2⟩:=g2(by omega);have cA:wr.cell? ⟨b,off+k*2,none⟩=some(.int .i64(f k)):=(hb.cell(zD(k1 k aA).1)).trans(k1 k aA).1;have fA:wr.cell? ⟨b,off+k*2+1,none⟩=some(.int .i64(g k)):=(hb.cell(zD(k1 k aA).2)).trans(k1 k aA).2;have eA:wr.cell? ⟨b',off'+k*2,none⟩=some(.int .i64(f' k)):=(hb.cell(zD(k2 k aA).1)).trans(k2 k aA).1;have dA:wr.cell? ⟨b',off'+k*2+1,none⟩=some(.int .i64(g' k)):=(hb.cell(zD(k2 k aA).2)).trans(k2 k aA).2;clear k1 k2 g1 g2;go_wp2_with fail;go_region_held3(fun w'=>w'.cell? ⟨b,off+k*2,none⟩=some(.int .i64(f k))/\w'.cell? ⟨b,off+k*2+1,none⟩=some(.int .i64(g k))/\w'.cell? ⟨b',off'+k*2,none⟩=some(.int .i64(f' k))/\w'.cell? ⟨b',off'+k*2+1,none⟩=some(.int .i64(g' k)))(go_keep)
     (first | (go_at_call 174;refine(zGo _ _ _ _ _).mono ?_;rintro e w1 ⟨⟨t,rfl,ht⟩,hb1⟩;have z1:=(hb1.cell(p:=⟨b,off+k*2,none⟩)(zD cA)).trans cA;have z2:=(hb1.cell(p:=⟨b,off+k*2+1,none⟩)(zD fA)).trans fA;have z3:=(hb1.cell(p:=⟨b',off'+k*2,none⟩)(zD eA)).trans eA;have z4:=(hb1.cell(p:=⟨b',off'+k*2+1,none⟩)(zD dA)).trans dA))
    have Ht:Hid(t=true↔zCC(f k)(g k)(f' k)(g' k)):=ht;have gA:=qh hb hb1;clear ht z1 z2 z3 z4 cA fA eA dA hb1;cases t
    ·go_wp2;go_ret;exact⟨zG.no fun h=>absurd(Ht.out.2(h.2 k aA))(by simp),gA⟩
    ·go_wp2;go_roundw
     case rel=>exact⟨k+1,by omega,by go_num,zo aA bA.out(Ht.out.1 rfl),gA⟩
     case measure=>simp [intOf];omega
   ·go_wp2;go_ret;exact⟨zG.yes ⟨rfl,fun i hi=>bA.out i(by omega)⟩,hb⟩
 ·have iA:((n:Int) != (n':Int))=true:=(by simp;omega);have Hn:Hid(¬n=n'):=hn;clear hn;go_enter Tryz.func175,Tryz.ntmps175;go_wp2;go_ret;exact⟨zG.no fun h=>Hn.out h.1,Below.refl _ _⟩
theorem zM9(v0 v1 v2 u0 u1 u2:Value)(lo hi lo' hi':Nat)(s t:zL)(w:World)(h1:qI w lo hi v0 v1 v2 s)(h2:qI w lo' hi' u0 u1 u2 t) :
  Calls Tryz.prog 173 #[.agg #[v0,v1,v2],.agg #[u0,u1,u2]] w fun e w'=>zG(zDz s t) e/\Below w.heap.size w w':=by
 obtain⟨rfl,p1,rfl,m1⟩:=h1;obtain⟨rfl,p2,rfl,m2⟩:=h2;have q1:=p1;have q2:=p2;obtain⟨_,a,c,rfl,_⟩:=p1;obtain⟨_,a',c',rfl,_⟩:=p2;by_cases h1:s.zRU=t.zRU
 ·have hb:(s.zRU != t.zRU)=false:=(by simp [h1]);have H1:Hid(s.zRU=t.zRU):=h1;clear h1;go_enter Tryz.func173,Tryz.ntmps173;go_wp2_with fail;have aA:=((Below.refl w.heap.size w).alloc(Nat.le_refl _)(.cells #[.int .i64 s.zRU,.slice a s.kn c,.string s.data] 127)).alloc(by simp)(.cells #[.int .i64 t.zRU,.slice a' t.kn c',.string t.data] 127);refine(zFU _ _ _ _ _ _ _ _ _ _ _ _ _(q1.zRJ aA)(q2.zRJ aA)).mono ?_;rintro e w1 ⟨⟨x,rfl,hx⟩,hb1⟩;have Hx:Hid(x=true↔zMI s.kn t.kn s.ks s.kb t.ks t.kb):=hx;have bA:=zA aA hb1;have e1:=hb1.cell(p:=⟨w.heap.size,2,none⟩)(by simp;omega);have e2:=hb1.cell(p:=⟨w.heap.size+1,2,none⟩)(by simp);simp at e1 e2;clear hx hb1 aA;cases x
  ·go_wp2;go_ret;exact⟨zG.no fun h=>absurd(Hx.out.2 h.2.1)(by simp),bA⟩
  ·by_cases h3:s.data=t.data
   ·have cA:=zCc h3;have H3:Hid(s.data=t.data):=h3;clear h3;go_wp2;go_ret;exact⟨zG.yes ⟨H1.out,(by simpa using Hx.out),H3.out⟩,bA⟩
   ·have cA:=zEM h3;have H3:Hid(¬s.data=t.data):=h3;clear h3;go_wp2;go_ret;exact⟨zG.no fun h=>H3.out h.2.2,bA⟩
 ·have hb:(s.zRU != t.zRU)=true:=(by simp [h1]);have H1:Hid(¬s.zRU=t.zRU):=h1;clear h1;go_enter Tryz.func173,Tryz.ntmps173;go_wp2;go_ret;exact⟨zG.no fun h=>H1.out h.1,((Below.refl _ _).alloc(Nat.le_refl _) _).alloc(by simp) _⟩
theorem zK5(v v':Value)(n n' lo hi lo' hi':Nat)(f f':Nat->zL)(w:World)(h1:qA w lo hi v n f)(h2:qA w lo' hi' v' n' f') :
  Calls Tryz.prog 108 #[v,v'] w fun e w'=>zG(zKp n n' f f') e/\Below w.heap.size w w':=by
 obtain⟨m1,a,c,rfl,mc,g1⟩:=h1;obtain⟨m2,a',c',rfl,mc',g2⟩:=h2;unfold maxLen at m1 m2;by_cases hn:n=n'
 ·subst hn;have mA:((n:Int) != (n:Int))=false:=(by simp);go_enter Tryz.func108,Tryz.ntmps108;go_wp2
  go_loopw [5](fun i wr=>∃k:Nat,k<=n/\i = .int .i64 k/\(∀j,j<k->zDz(f j)(f' j))/\Below w.heap.size w wr)(fun i _=>n - (intOf i).toNat)
  case atStart=>exact⟨0,Nat.zero_le _,rfl,fun j h=>absurd h(Nat.not_lt_zero _),Below.refl _ _⟩
  case round=>
   obtain⟨k,hk,rfl,hall,hb⟩:=hrel;have aA:Hid(∀j,j<k->zDz(f j)(f' j)):=hall;clear hall;by_cases bA:k<n
   ·have pA:(k:Int)<(n:Int):=(by omega);obtain⟨b,off,rfl,_,_,k1⟩:=g1(by omega);obtain⟨b',off',rfl,_,_,k2⟩:=g2(by omega);obtain⟨x0,x1,x2,c0,c1,c2,hs⟩:=k1 k bA;obtain⟨y0,y1,y2,d0,d1,d2,ht⟩:=k2 k bA;have dA:=(hb.cell(zD c0)).trans c0;have cA:=(hb.cell(zD c1)).trans c1;have fA:=(hb.cell(zD c2)).trans c2;have eA:=(hb.cell(zD d0)).trans d0;have iA:=(hb.cell(zD d1)).trans d1;have gA:=(hb.cell(zD d2)).trans d2;have kA:=hs.zRJ hb;have lA:=ht.zRJ hb;clear k1 k2 g1 g2 c0 c1 c2 d0 d1 d2 hs ht;have nA:=kA;have oA:=lA;obtain⟨rfl,⟨_,sa,sc,rfl,_⟩,rfl,_⟩:=nA;obtain⟨rfl,⟨_,ta,tc,rfl,_⟩,rfl,_⟩:=oA;go_wp2_with fail;go_region_held3(fun w'=>w'.cell? ⟨b,off+k*3,none⟩=some(.int .i64(f k).zRU)/\w'.cell? ⟨b,off+k*3+1,none⟩=some(.slice sa(f k).kn sc)/\w'.cell? ⟨b,off+k*3+2,none⟩=some(.string(f k).data)/\w'.cell? ⟨b',off'+k*3,none⟩=some(.int .i64(f' k).zRU)/\w'.cell? ⟨b',off'+k*3+1,none⟩=some(.slice ta(f' k).kn tc)/\w'.cell? ⟨b',off'+k*3+2,none⟩=some(.string(f' k).data))(go_keep)
     (first | (go_at_call 173;refine(zM9 _ _ _ _ _ _ lo hi lo' hi'(f k)(f' k) _ ?_ ?_).mono ?_;(exact kA.zRJ((Below.refl _ _).drew));(exact lA.zRJ((Below.refl _ _).drew));rintro e w1 ⟨⟨t,rfl,hx⟩,hb1⟩;have z1:=(hb1.cell(p:=⟨b,off+k*3,none⟩)(zD dA)).trans dA;have z2:=(hb1.cell(p:=⟨b,off+k*3+1,none⟩)(zD cA)).trans cA;have z3:=(hb1.cell(p:=⟨b,off+k*3+2,none⟩)(zD fA)).trans fA;have y1:=(hb1.cell(p:=⟨b',off'+k*3,none⟩)(zD eA)).trans eA;have y2:=(hb1.cell(p:=⟨b',off'+k*3+1,none⟩)(zD iA)).trans iA;have y3:=(hb1.cell(p:=⟨b',off'+k*3+2,none⟩)(zD gA)).trans gA))
    have Ht:Hid(t=true↔zDz(f k)(f' k)):=hx;have jA:=qh hb hb1;clear hx z1 z2 z3 y1 y2 y3 dA cA fA eA iA gA hb1;cases t
    ·go_wp2;go_ret;exact⟨zG.no fun h=>absurd(Ht.out.2(h.2 k bA))(by simp),jA⟩
    ·go_wp2;go_roundw
     case rel=>exact⟨k+1,by omega,by go_num,zo bA aA.out(Ht.out.1 rfl),jA⟩
     case measure=>simp [intOf];omega
   ·go_wp2;go_ret;exact⟨zG.yes ⟨rfl,fun i hi=>aA.out i(by omega)⟩,hb⟩
 ·have mA:((n:Int) != (n':Int))=true:=(by simp;omega);have Hn:Hid(¬n=n'):=hn;clear hn;go_enter Tryz.func108,Tryz.ntmps108;go_wp2;go_ret;exact⟨zG.no fun h=>Hn.out h.1,Below.refl _ _⟩
theorem zMT(v0 v1 u0 u1:Value)(lo hi lo' hi':Nat)(p q:zJ)(w:World)(h1:zy w lo hi v0 v1 p)(h2:zy w lo' hi' u0 u1 q) :
  Calls Tryz.prog 39 #[.agg #[v0,v1],.agg #[u0,u1]] w fun e w'=>zG(zKh p q) e/\Below w.heap.size w w':=by
 have q1:=h1;have q2:=h2;obtain⟨⟨_,a,c,rfl,_⟩,⟨_,a1,c1,rfl,_⟩⟩:=h1;obtain⟨⟨_,b,d,rfl,_⟩,⟨_,b1,d1,rfl,_⟩⟩:=h2;go_enter Tryz.func39,Tryz.ntmps39;go_wp2_with fail;have bA:=((Below.refl w.heap.size w).alloc(Nat.le_refl _)(.cells #[.slice a p.n c,.slice a1 p.hn c1] 33)).alloc(by simp)(.cells #[.slice b q.n d,.slice b1 q.hn d1] 33);refine(zK5 _ _ _ _ _ _ _ _ _ _ _(q1.1.zRJ bA)(q2.1.zRJ bA)).mono ?_;rintro e w1 ⟨⟨x,rfl,hx⟩,hb1⟩;have Hx:Hid(x=true↔zKp p.n q.n p.s q.s):=hx;have aA:=zA bA hb1;have e1:=hb1.cell(p:=⟨w.heap.size,1,none⟩)(by simp;omega);have e2:=hb1.cell(p:=⟨w.heap.size+1,1,none⟩)(by simp);simp at e1 e2;clear hx hb1 bA;cases x
 ·go_wp2;go_ret;exact⟨zG.no fun h=>absurd(Hx.out.2 h.1)(by simp),aA⟩
 ·go_wp2_with fail;refine(zJz _ _ _ _ _ _ _ _ _ _ _(q1.2.zRJ aA)(q2.2.zRJ aA)).mono ?_;rintro e w2 ⟨⟨y,rfl,hy⟩,hb3⟩;have Hy:Hid(y=true↔zMY p.hn q.hn p.h q.h):=hy;have cA:=zA aA hb3;clear hy hb3 aA;cases y
  ·go_wp2;go_ret;exact⟨zG.no fun h=>absurd(Hy.out.2 h.2)(by simp),cA⟩
  ·go_wp2;go_ret;exact⟨zG.yes ⟨(by simpa using Hx.out),(by simpa using Hy.out)⟩,cA⟩
end Go.Proofs.YtmgeglgboadfiaaGreatDoor
