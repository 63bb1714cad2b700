/- A part of the proof. -/
import Derived.Test.YtginldeebkfbgaaGreatF12
import Derived.Deep.LoopGhost
import Derived.RegionTactic
import Derived.ChangeAlike
import Derived.BigRegion
set_option linter.unusedVariables false
set_option maxRecDepth 20000
set_option maxHeartbeats 4000000
namespace Go.Proofs.YtginldeebkfbgaaGreat
open Go.RowKit
theorem zMA{p:zF}{xs xb:Int}{n:Nat}(hT:zAm p xs xb)(hn:n<64):∀{L:Nat},L<3->¬Nil (zHk p xs xb n L) (zKZ p xs xb n L)->yF p (zHk p xs xb n L) (zKZ p xs xb n L)/\zKZ p xs xb n L<=xb
 | 0,_,hN=>⟨(hT.2.resolve_left hN).1.1,Int.le_refl _⟩
 | L+1,hL,hN=>by
  have aA:¬Nil (zHk p xs xb n L) (zKZ p xs xb n L):=fun h=>hN (zYr h (by omega))
  obtain⟨h1,h2⟩:=zMA hT hn (L:=L) (by omega) aA;rw[(zIx p xs xb n (show L<2 by omega)).1,(zIx p xs xb n (show L<2 by omega)).2]at hN ⊢;unfold zYd at hN ⊢;rw[if_neg aA,if_neg aA]at hN ⊢;obtain⟨h3,h4⟩:=zCi (zAT hT.1 h1) (zXX (n:=n) (L:=L) hn) hN;refine⟨h3,?_⟩;have h5:=h1.2.2.2;have bA:zU (p.s (zHk p xs xb n L).toNat) (plc n L*2+1)<=(p.s (zHk p xs xb n L).toNat).birth:=h4;omega
theorem zEk{p q:zF}{xs xb x y b:Int}{n L:Nat}(hT:zAm p xs xb)(hn:n<64)(hL:L<2)(hB:zAr xb b)(bA:∀s t,yF p s t->yF q s t)(hx:Nil x y\/(yF q x y/\y<=b)) :
  zDL q (zBm (zBb p xs xb n L x) (zBX p xs xb n L y) b):=by
 refine⟨hB.1,Or.inr ⟨rfl,by simp[zBm,Go.ByteArray.toList_eq],fun i hi=>?_⟩⟩;have aA:i<8:=hi;show zS5 q b (zBb p xs xb n L x i) (zBX p xs xb n L y i);unfold zBb zBX;by_cases e:i=plc n L
 ·rw[if_pos e,if_pos e];rcases hx with h | h
  ·exact Or.inl h
  ·exact Or.inr h
 ·rw[if_neg e,if_neg e];unfold zDF zDE;by_cases hN:Nil (zHk p xs xb n L) (zKZ p xs xb n L)
  ·rw[if_pos hN,if_pos hN];exact Or.inl ⟨rfl,rfl⟩
  ·rw[if_neg hN,if_neg hN];obtain⟨h1,h2⟩:=zMA hT hn (L:=L) (by omega) hN;by_cases hk:Nil (zy (p.s (zHk p xs xb n L).toNat) i) (qm (p.s (zHk p xs xb n L).toNat) i)
   ·exact Or.inl hk
   ·obtain⟨h3,h4⟩:=zCi (zAT hT.1 h1) aA hk;refine Or.inr ⟨bA _ _ h3,?_⟩;have h5:=h1.2.2.2;have h6:=hB.2;omega
theorem zFj{f:Nat->zN}:∀{n:Nat},roomN f n=0->∀j,j<n->¬yZ (f j)
 | 0,_,j,hj=>absurd hj (Nat.not_lt_zero _)
 | n+1,h,j,hj=>by
  by_cases hf:yZ (f n)
  ·rw[zDs hf]at h;omega
  ·rw[zEA hf]at h;by_cases e:j=n
   ·rw[e];exact hf
   ·exact zFj h j (by omega)
theorem zDt{f:Nat->zN}:∀{n:Nat},0<roomN f n->∃i,zBU n f i
 | 0,h=>absurd h (Nat.lt_irrefl _)
 | n+1,h=>by
  by_cases h0:0<roomN f n
  ·obtain⟨i,h1,h2,h3⟩:=zDt h0;exact⟨i,by omega,h2,h3⟩
  ·by_cases hf:yZ (f n)
   ·exact⟨n,by omega,hf,zFj (by omega)⟩
   ·rw[zEA hf]at h;exact absurd h h0
theorem zHZ{p:zF}{i:Nat}{s:zN}(hi:zBU p.n p.s i)(hs:zDL p s):roomN (zBi p i s).s p.n+1=roomN p.s p.n:=by
 have h:=zRB (p:=p) (i:=i) (s:=s) hi.2.1 (zAX hs) p.n;rw[if_pos hi.1]at h;exact h
theorem zDn{p:zF}{b:Int}{d:ByteArray}(hb:zBT b)(hd:d.size=16):zDL p (zAq b d):=⟨hb,Or.inl ⟨rfl,hd⟩⟩
theorem zID{p:zF}{i:Nat}{s:zN}(hi:zBU p.n p.s i)(hs:1<=s.birth):yF (zBi p i s) (i:Int) s.birth:=
 ⟨hs,by omega,by have:=hi.1;show(i:Int)<(p.n:Int);omega,by rw[Int.toNat_natCast,zMZ]⟩
theorem zMF{p:zF}{xs xb x b:Int}{n L:Nat}(hn:n<64)(hb:1<=b):¬zEC (zBb p xs xb n L x) (zBX p xs xb n L b):=fun h=>by
 have:=(h (plc n L) (zXX hn)).2;unfold zBX at this;rw[if_pos rfl]at this;omega
def zBq(p:zF)(b:Int)(d:ByteArray)(i0:Nat):zF:=zBi p i0 (zAq b d)
def zFc(p:zF)(xs xb:Int)(n:Nat)(b:Int)(d:ByteArray)(i0 i1:Nat):zF:=zBi (zBq p b d i0) i1 (zBm (zBb p xs xb n 1 (i0:Int)) (zBX p xs xb n 1 b) b)
def zXd(p:zF)(xs xb:Int)(n:Nat)(b:Int)(d:ByteArray)(i0 i1 i2:Nat):zF:=zBi (zFc p xs xb n b d i0 i1) i2 (zBm (zBb p xs xb n 0 (i1:Int)) (zBX p xs xb n 0 b) b)
theorem zbR{p:zF}{xs xb b:Int}{d:ByteArray}{i0:Nat}(hT:zAm p xs xb)(hB:zAr xb b)(hd:d.size=16)(h0:zBU p.n p.s i0):zCZ p (zAq b d)=⟨zBq p b d i0,(i0:Int),b,0⟩:=
 zI9 ⟨hT.1,zAX (zDn (p:=p) hB.1 hd),zDn hB.1 hd⟩ h0
theorem zIG{p:zF}{xs xb b:Int}{d:ByteArray}{i0:Nat}(hT:zAm p xs xb)(hB:zAr xb b)(hd:d.size=16)(h0:zBU p.n p.s i0):zf (zBq p b d i0):=zJj hT.1 h0 (zDn hB.1 hd)
theorem zEn{p:zF}{xs xb b:Int}{n:Nat}{d:ByteArray}{i0:Nat}(hT:zAm p xs xb)(hn:n<64)(hB:zAr xb b)(h0:zBU p.n p.s i0):zDL (zBq p b d i0) (zBm (zBb p xs xb n 1 (i0:Int)) (zBX p xs xb n 1 b) b):=
 zEk hT hn (by omega) hB (fun s t h=>zEo h0.2.1 h) (Or.inr ⟨zID (s:=zAq b d) h0 hB.1.1,Int.le_refl _⟩)
theorem zJA{p:zF}{xs xb b:Int}{n:Nat}{d:ByteArray}{i0 i1:Nat}(hT:zAm p xs xb)(hn:n<64)(hB:zAr xb b)(h0:zBU p.n p.s i0)(h1:zBU p.n (zBq p b d i0).s i1):zDL (zFc p xs xb n b d i0 i1) (zBm (zBb p xs xb n 0 (i1:Int)) (zBX p xs xb n 0 b) b):=
 zEk hT hn (by omega) hB (fun s t h=>zEo (p:=zBq p b d i0) h1.2.1 (zEo h0.2.1 h)) (Or.inr ⟨zID (p:=zBq p b d i0) (s:=zBm (zBb p xs xb n 1 (i0:Int)) (zBX p xs xb n 1 b) b) h1 hB.1.1,Int.le_refl _⟩)
theorem za2{p:zF}{xs xb b:Int}{n:Nat}{d:ByteArray}{i0:Nat}(hn:n<64)(hB:zAr xb b):zCT p xs xb n b ⟨zBq p b d i0,(i0:Int),b,0⟩ 1=zCZ (zBq p b d i0) (zBm (zBb p xs xb n 1 (i0:Int)) (zBX p xs xb n 1 b) b):=
 if_neg (zMF hn hB.1.1)
theorem zO9{p:zF}{xs xb b:Int}{n:Nat}{d:ByteArray}{i0 i1:Nat}(hT:zAm p xs xb)(hn:n<64)(hB:zAr xb b)(hd:d.size=16)(h0:zBU p.n p.s i0)(h1:zBU p.n (zBq p b d i0).s i1):zCT p xs xb n b ⟨zBq p b d i0,(i0:Int),b,0⟩ 1=⟨zFc p xs xb n b d i0 i1,(i1:Int),b,0⟩:=by
 rw[za2 hn hB];exact zI9 ⟨zIG hT hB hd h0,zAX (zEn (d:=d) hT hn hB h0),zEn hT hn hB h0⟩ h1
theorem za3{p:zF}{xs xb b:Int}{n:Nat}{d:ByteArray}{i0 i1:Nat}(hT:zAm p xs xb)(hn:n<64)(hB:zAr xb b)(hd:d.size=16)(h0:zBU p.n p.s i0)(h1:zBU p.n (zBq p b d i0).s i1):zCT p xs xb n b ⟨zBq p b d i0,(i0:Int),b,0⟩ 2=zCZ (zFc p xs xb n b d i0 i1) (zBm (zBb p xs xb n 0 (i1:Int)) (zBX p xs xb n 0 b) b):=by
 show zQ3 p xs xb n b (zCT p xs xb n b ⟨zBq p b d i0,(i0:Int),b,0⟩ 1) 0=_;rw[zO9 hT hn hB hd h0 h1];exact if_neg (zMF hn hB.1.1)
theorem zT0{n:Nat}(hn:n<64):zEb (n:Int):=⟨by omega,by omega⟩
theorem zRZ{p:zF}{xs xb b:Int}{n:Nat}{d:ByteArray}{i0:Nat}(hT:zAm p xs xb)(hn:n<64)(hB:zAr xb b)(hd:d.size=16)(h0:zBU p.n p.s i0):zC0 p xs xb (n:Int) d b=zHj p xs xb n b ⟨zBq p b d i0,(i0:Int),b,0⟩:=by
 have t0:=zbR hT hB hd h0;rw[zVZ (by omega) ⟨hT,hB⟩ ⟨zT0 hn,hd⟩ (by rw[t0]),t0];rfl
theorem zME{p:zF}{xs xb b:Int}{n:Nat}{d:ByteArray}{i0 i1:Nat}(hT:zAm p xs xb)(hn:n<64)(hB:zAr xb b)(hd:d.size=16)(h0:zBU p.n p.s i0)(h1:zBU p.n (zBq p b d i0).s i1):zf (zFc p xs xb n b d i0 i1):=
 zJj (zIG hT hB hd h0) h1 (zEn hT hn hB h0)
theorem zX3{p:zF}{xs xb b:Int}{n:Nat}{d:ByteArray}{i0 i1 i2:Nat}(hT:zAm p xs xb)(hn:n<64)(hB:zAr xb b)(hd:d.size=16)(h0:zBU p.n p.s i0)(h1:zBU p.n (zBq p b d i0).s i1)(h2:zBU p.n (zFc p xs xb n b d i0 i1).s i2) :
  zC0 p xs xb (n:Int) d b=⟨zXd p xs xb n b d i0 i1 i2,(i2:Int),b,zSl p xs xb n 3,0⟩:=by
 rw[zRZ hT hn hB hd h0];have e1:=zO9 hT hn hB hd h0 h1;have e2:zCT p xs xb n b ⟨zBq p b d i0,(i0:Int),b,0⟩ 2=⟨zXd p xs xb n b d i0 i1 i2,(i2:Int),b,0⟩:=by
  rw[za3 hT hn hB hd h0 h1];exact zI9 ⟨zME hT hn hB hd h0 h1,zAX (zJA (d:=d) hT hn hB h0 h1),zJA hT hn hB h0 h1⟩ h2
 rw[zLy (fun j hj=>by
  rcases j with _ | _ | _ | j
  ·rfl
  ·rw[e1]
  ·rw[e2]
  ·omega),e2]
theorem zS1{p:zF}{xs xb b:Int}{n:Nat}{d:ByteArray}(hT:zAm p xs xb)(hn:n<64)(hB:zAr xb b)(hd:d.size=16)(hr:roomN p.s p.n<3):zC0 p xs xb (n:Int) d b=zBV 6:=by
 by_cases r0:roomN p.s p.n=0
 ·have t0:=zFp (p:=p) (s:=zAq b d) ⟨hT.1,zAX (zDn (p:=p) hB.1 hd),zDn hB.1 hd⟩ (zFj r0);rw[zS2 (by omega) ⟨hT,hB⟩ ⟨zT0 hn,hd⟩ (by rw[t0];decide),t0]
 ·obtain⟨i0,h0⟩:=zDt (f:=p.s) (n:=p.n) (by omega);have q0:=zHZ (s:=zAq b d) h0 (zDn hB.1 hd);rw[zRZ hT hn hB hd h0];by_cases r1:roomN (zBq p b d i0).s p.n=0
  ·have t1:=zFp (p:=zBq p b d i0) ⟨zIG hT hB hd h0,zAX (zEn (n:=n) (d:=d) hT hn hB h0),zEn hT hn hB h0⟩ (zFj r1);have e1:=za2 (p:=p) (xs:=xs) (d:=d) (i0:=i0) hn hB;rw[t1]at e1;rw[zKk (k:=0) (by omega) (fun j hj=>by cases (show j=0 from by omega);rfl) (by rw[e1];decide),e1]
  ·obtain⟨i1,h1⟩:=zDt (f:=(zBq p b d i0).s) (n:=p.n) (by omega);have q1:roomN (zFc p xs xb n b d i0 i1).s p.n+1=roomN (zBq p b d i0).s p.n:=zHZ (p:=zBq p b d i0) h1 (zEn hT hn hB h0);have aA:roomN (zBq p b d i0).s p.n+1=roomN p.s p.n:=q0;have r2:roomN (zFc p xs xb n b d i0 i1).s p.n=0:=(by omega);have t2:=zFp (p:=zFc p xs xb n b d i0 i1) ⟨zME hT hn hB hd h0 h1,zAX (zJA (d:=d) hT hn hB h0 h1),zJA hT hn hB h0 h1⟩ (zFj r2);have e1:=zO9 hT hn hB hd h0 h1;have e2:=za3 hT hn hB hd h0 h1;rw[t2]at e2;rw[zKk (k:=1) (by omega) (fun j hj=>by
    rcases j with _ | _ | j
    ·rfl
    ·rw[e1]
    ·omega) (by rw[e2];decide),e2]
theorem zRV{p q:zF}{xs xb x y b:Int}{n:Nat}(h1:zCT p xs xb n b ⟨p,0,0,0⟩ 1=⟨q,x,y,0⟩)(hN:zEC (zBb p xs xb n 0 x) (zBX p xs xb n 0 y)):zHj p xs xb n b ⟨p,0,0,0⟩=⟨q,0,0,zSl p xs xb n 3,0⟩:=by
 have e2:zCT p xs xb n b ⟨p,0,0,0⟩ 2=⟨q,0,0,0⟩:=by
  show zQ3 p xs xb n b (zCT p xs xb n b ⟨p,0,0,0⟩ 1) 0=_;rw[h1];exact if_pos hN
 rw[zLy (fun j hj=>by
  rcases j with _ | _ | _ | j
  ·rfl
  ·rw[h1]
  ·rw[e2]
  ·omega),e2]
theorem zRX{p q:zF}{xs xb x y b:Int}{n i:Nat}(h1:zCT p xs xb n b ⟨p,0,0,0⟩ 1=⟨q,x,y,0⟩)(hN:¬zEC (zBb p xs xb n 0 x) (zBX p xs xb n 0 y))(hR:zf q)(hF:zDL q (zBm (zBb p xs xb n 0 x) (zBX p xs xb n 0 y) b))(hi:zBU q.n q.s i) :
  zHj p xs xb n b ⟨p,0,0,0⟩=⟨zBi q i (zBm (zBb p xs xb n 0 x) (zBX p xs xb n 0 y) b),(i:Int),b,zSl p xs xb n 3,0⟩:=by
 have e2:zCT p xs xb n b ⟨p,0,0,0⟩ 2=⟨zBi q i (zBm (zBb p xs xb n 0 x) (zBX p xs xb n 0 y) b),(i:Int),b,0⟩:=by
  show zQ3 p xs xb n b (zCT p xs xb n b ⟨p,0,0,0⟩ 1) 0=_;rw[h1];exact(if_neg hN).trans (zI9 ⟨hR,zAX hF,hF⟩ hi)
 rw[zLy (fun j hj=>by
  rcases j with _ | _ | _ | j
  ·rfl
  ·rw[h1]
  ·rw[e2]
  ·omega),e2]
theorem zOS{p q:zF}{xs xb x y b:Int}{n:Nat}(h1:zCT p xs xb n b ⟨p,0,0,0⟩ 1=⟨q,x,y,0⟩)(hN:¬zEC (zBb p xs xb n 0 x) (zBX p xs xb n 0 y))(hR:zf q)(hF:zDL q (zBm (zBb p xs xb n 0 x) (zBX p xs xb n 0 y) b))(aA:∀j,j<q.n->¬yZ (q.s j)) :
  zHj p xs xb n b ⟨p,0,0,0⟩=zBV 6:=by
 have e2:zCT p xs xb n b ⟨p,0,0,0⟩ 2=⟨zG8 0,0,0,6⟩:=by
  show zQ3 p xs xb n b (zCT p xs xb n b ⟨p,0,0,0⟩ 1) 0=_;rw[h1];exact(if_neg hN).trans (zFp ⟨hR,zAX hF,hF⟩ aA)
 rw[zKk (k:=1) (by omega) (fun j hj=>by
    rcases j with _ | _ | j
    ·rfl
    ·rw[h1]
    ·omega) (by rw[e2];decide),e2]
theorem zbZ{p:zF}{xs xb b:Int}{n:Nat}(hN:zEC (zBb p xs xb n 1 0) (zBX p xs xb n 1 0)):zCT p xs xb n b ⟨p,0,0,0⟩ 1=⟨p,0,0,0⟩:=if_pos hN
theorem zba{p:zF}{xs xb b:Int}{n i:Nat}(hT:zAm p xs xb)(hn:n<64)(hB:zAr xb b)(hN:¬zEC (zBb p xs xb n 1 0) (zBX p xs xb n 1 0))(hi:zBU p.n p.s i) :
  zCT p xs xb n b ⟨p,0,0,0⟩ 1=⟨zBi p i (zBm (zBb p xs xb n 1 0) (zBX p xs xb n 1 0) b),(i:Int),b,0⟩:=by
 have hF:zDL p (zBm (zBb p xs xb n 1 0) (zBX p xs xb n 1 0) b):=zEk hT hn (by omega) hB (fun s t h=>h) (Or.inl ⟨rfl,rfl⟩);exact(if_neg hN).trans (zI9 ⟨hT.1,zAX hF,hF⟩ hi)
theorem zWY{p:zF}{xs xb b:Int}{n:Nat}(hT:zAm p xs xb)(hn:n<64)(hB:zAr xb b)(hN:¬zEC (zBb p xs xb n 1 0) (zBX p xs xb n 1 0))(aA:∀j,j<p.n->¬yZ (p.s j)):zHj p xs xb n b ⟨p,0,0,0⟩=zBV 6:=by
 have hF:zDL p (zBm (zBb p xs xb n 1 0) (zBX p xs xb n 1 0) b):=zEk hT hn (by omega) hB (fun s t h=>h) (Or.inl ⟨rfl,rfl⟩);have e1:zCT p xs xb n b ⟨p,0,0,0⟩ 1=⟨zG8 0,0,0,6⟩:=(if_neg hN).trans (zFp ⟨hT.1,zAX hF,hF⟩ aA);rw[zKk (k:=0) (by omega) (fun j hj=>by cases (show j=0 from by omega);rfl) (by rw[e1];decide),e1]
theorem zXp{f g:Nat->Int}:(∃i,i<8/\¬Nil (f i) (g i))↔¬zEC f g:=by
 constructor
 ·rintro⟨i,hi,h⟩ hA;exact h (hA i hi)
 ·intro h;apply Classical.byContradiction;intro hx;exact h fun i hi=>Classical.byContradiction fun hn=>hx ⟨i,hi,hn⟩
set_option linter.unusedSimpArgs false
set_option maxRecDepth 20000
set_option maxHeartbeats 1600000
attribute [local go_sem] qX List.map_cons List.map_nil Tr.cv yq qK yA qz yp yo yn qy zBE zBG zBF zBB zBD zBC zCa zCc zCb qP zr qQ zt qI qH qU zAA zo zp yE qO tmpsOf zAo yD qN zBA yw yu yr yx yv stpP opds opd opdC kap zAB qJ zn coreU bin zAe zCK get put dlO fgt zBR zBK zBO zBP tyT yk yj Op.operands Call.operands evLoad evLen evStore evAlloc zAj and_true true_and List.append_nil List.nil_append List.cons_append Ret resCv zB3 yV cellM zBh zCE qV StW StR hpT hpO hpV hpA hpL hpC sg nin zCU bdO tmW obW AvE CsE CvE Av.tup Av.ids Cv.ids inD ObE Ob.ids TrE.refl qM yB yC qR qS qT zq zb zX yz zBa zCL zBH evCall argL argOf qZ outOb obO yM qA cvO tot Tr.own rid partsOf fillC zS zBf frz frz1 evBuildSlice zc trs Cv.tr evSlice Option.toArray_none Option.toArray_some evMakeSlice evAppend dstOf srcOf zA3 zBQ zBN zBL zBM ikT qx qw qv qu RetP RetN zBr qD evLd evSt evStoreH zAh evAppendM evAppendT tlOf mvOf rowE shp evTake oOf evC evCallP evCallN evCallO unlast zAO zA1 zAa argsF zCR qg pmC varT vT evField evConv dB0 Option.bind_some Option.bind_none Option.map_some Option.map_none Option.isSome_some Option.isSome_none
attribute [local go_sem] yL za zA7
noncomputable def zZt:zR:=qE (fun p:zF=>[poT p.n p.s p.hn p.h]) (fun p=>p.n<=1000000) (fun p=>[iT (roomN p.s p.n:Int)])
theorem zWw(p:zF):zZt [poT p.n p.s p.hn p.h]=some (p.n<=1000000,[iT (roomN p.s p.n:Int)]):=zK (fun l=>zEi (nth l 0 0) (nth l 0 1)) (fun _=>rfl) p
theorem zSQ:zd Tryz.prog 156 zZt:=by
 refine zP zl (GOk.cons zGD (zG Tryz.func41 rfl rfl) GOk.nil) zk Tryz.func156 rfl Tryz.ntmps156 Tryz.results156 5 ?_;rintro p hn;replace hn:p.n<=1000000:=hn;refine⟨by simp,?_⟩;simp[go_sem];refine qY (fun k:Nat=>⟨[(1,true,.m false [.p 1 0]),(3,true,.i (roomN p.s k)),(4,true,.i k)],[(1,.var [.s .b 3 p.n (zY .b p.s),.s .b 1 p.hn (qf p.h)])]⟩) (fun k=>p.n - k) (fun k=>k<=p.n) 0 (by simp[go_sem,roomN]) (by simp) ?_;rintro k hk;have hr:=zI4 p.s k;simp[go_sem,ze (show k<=1000000000 by omega),ze (show roomN p.s k<=1000000000 by omega),zG4];refine⟨fun hl=>⟨hl,fun h=>⟨k+1,by omega,by omega,by rw[zDs h];rfl,rfl⟩,fun h=>⟨k+1,by omega,by omega,by rw[zEA h],rfl⟩⟩,fun hl=>?_⟩;cases (show k=p.n by omega);rfl
theorem zVO{fl:Fl}(p:zF)(k:Nat)(s:zN):TrE (.s fl 3 p.n (qn (zY .z p.s) k 0 [.v (.int .i64 s.birth),.s .z 2 s.kn (ptrsT s.ks s.kb),.v (.string s.data)])) (.s fl 3 p.n (zY .z (zBi p k s).s)):=by
 refine zDv fun i j hi hj=>?_
 by_cases h:i=k
 ·subst h
  match j,hj with
  | 0,_=>simp[qn,zY,zBi]
  | 1,_=>simp[qn,zY,zBi]
  | 2,_=>simp[qn,zY,zBi]
 ·match j,hj with
  | 0,_=>simp[qn,zY,zBi,h]
  | 1,_=>simp[qn,zY,zBi,h]
  | 2,_=>simp[qn,zY,zBi,h]
noncomputable def tk1(p:zF)(s:zN):zF×Int×Int×Bool:=@dite _ (∃i,zBU p.n p.s i) (Classical.propDecidable _) (fun h=>(zBi p h.choose s,(h.choose:Int),s.birth,true)) (fun _=>(p,0,0,false))
theorem zEU{p:zF}{s:zN}{i:Nat}(h:zBU p.n p.s i):tk1 p s=(zBi p i s,(i:Int),s.birth,true):=by
 have hx:∃i,zBU p.n p.s i:=⟨i,h⟩;unfold tk1;rw[dif_pos hx,hx.choose_spec.uniq h]
theorem zPb{p:zF}{s:zN}(h:∀i,i<p.n->¬yZ (p.s i)):tk1 p s=(p,0,0,false):=dif_neg fun ⟨i,hi⟩=>h i hi.1 hi.2.1
abbrev poV(p:zF):List Tr:=[.s .o 3 p.n (zY .z p.s),.s .o 1 p.hn (qf p.h)]
abbrev slZ(s:zN):Bool×List Tr:=(true,[.v (.int .i64 s.birth),.s .z 2 s.kn (ptrsT s.ks s.kb),.v (.string s.data)])
noncomputable def zW2:zR:=qE (fun q:zF×zN=>(true,poV q.1) :: [slZ q.2]) (fun q=>q.1.n<=1000000) (fun q=>[poO (tk1 q.1 q.2).1,pT (tk1 q.1 q.2).2.1 (tk1 q.1 q.2).2.2.1,(false,[.v (.bool (tk1 q.1 q.2).2.2.2)])])
theorem zQv(p:zF)(s:zN):zW2 [(true,poV p),slZ s]=some (p.n<=1000000,[poO (tk1 p s).1,pT (tk1 p s).2.1 (tk1 p s).2.2.1,(false,[.v (.bool (tk1 p s).2.2.2)])]):=zK (fun l=>(zEi (nth l 0 0) (nth l 0 1),zNc (nth l 1 0) (nth l 1 1) (nth l 1 2))) (fun _=>rfl) (p,s)
theorem zLs:zBd Tryz.prog 154 zW2:=by
 refine zA8 zl (GOk.cons zGD (zG Tryz.func41 rfl rfl) GOk.nil) zk Tryz.func154 rfl Tryz.ntmps154 Tryz.results154 7 ?_;rintro⟨p,s⟩ hn;replace hn:p.n<=1000000:=hn;refine⟨by simp,?_⟩;simp[go_sem];refine qY (fun k:Nat=>⟨[(6,true,.i k),(4,true,.m false [.p 4 0]),(3,true,.m false [.p 3 0]),(0,true,.m false [.p 0 0])],[(4,.var [.v i0,.v i0]),(3,.var [.v (.int .i64 s.birth),.s .z 2 s.kn (ptrsT s.ks s.kb),.v (.string s.data)]),(0,.var [.h 1000,.h 2000]),(1000,.row 3 p.n (zY .z p.s)),(2000,.row 1 p.hn (qf p.h))]⟩) (fun k=>p.n - k) (fun k=>k<=p.n/\∀i,i<k->¬yZ (p.s i)) 0 (by simp[go_sem]) (by simp) ?_;rintro k ⟨hk,aA⟩;simp[go_sem,ze (show k<=1000000000 by omega),zG4];refine⟨fun hl=>⟨hl,fun h=>?_,fun h=>⟨k+1,⟨by omega,qi hl aA h⟩,by omega,rfl⟩⟩,fun hl=>?_⟩
 ·rw[zEU ⟨hl,h,aA⟩];exact⟨hl,by kernel_rfl,⟨⟨zVO p k s,zQ⟩,TrE.refl _,zZ⟩,⟨rfl,rfl⟩,rfl⟩
 ·rw[zPb fun i hi=>aA i (by omega)];exact⟨⟨⟨TrE.refl _,zQ⟩,TrE.refl _,zZ⟩,⟨rfl,rfl⟩,rfl⟩
def orSp(a b:zR):zR:=fun l=>match a l with
 | some r=>some r
 | none=>b l
theorem zXN{a b:zR}{l:List (Bool×List Tr)}{r:Prop×List (Bool×List Tr)}(h:a l=some r):orSp a b l=some r:=by unfold orSp;rw[h]
theorem zXP{a b:zR}{l:List (Bool×List Tr)}{r:Prop×List (Bool×List Tr)}(h:a l=none)(h':b l=some r):orSp a b l=some r:=by unfold orSp;rw[h];exact h'
theorem zOA{ι : Type}{A:ι->List (Bool×List Tr)}{C:ι->Prop}{R:ι->List (Bool×List Tr)}{l:List (Bool×List Tr)}(h:∀x,A x≠l):qE A C R l=none:=dif_neg fun ⟨x,hx⟩=>h x hx
theorem zXO{P:Program}{f:Nat}{a b:zR}(ha:zBd P f a)(hb:zBd P f b):zBd P f (orSp a b):=by
 intro w vs al c rs aA hc;unfold orSp at aA;split at aA
 ·rename_i r hr
  cases aA;exact ha w vs al c rs hr hc
 ·exact hb w vs al c rs aA hc
noncomputable def zSf:zR:=qE (fun q:zF×Int×ByteArray=>(true,poV q.1) :: [(true,[.v (.int .i64 q.2.1),.v n0,.v (.string q.2.2)])]) (fun q=>q.1.n<=1000000) (fun q=>[poO (tk1 q.1 (zAq q.2.1 q.2.2)).1,pT (tk1 q.1 (zAq q.2.1 q.2.2)).2.1 (tk1 q.1 (zAq q.2.1 q.2.2)).2.2.1,(false,[.v (.bool (tk1 q.1 (zAq q.2.1 q.2.2)).2.2.2)])])
theorem zXt:zBd Tryz.prog 154 zSf:=by
 intro w vs al c rs aA hc E ys ho hy;obtain⟨⟨p,b,d⟩,e,hn,rfl⟩:∃q:zF×Int×ByteArray,(true,poV q.1) :: [(true,[.v (.int .i64 q.2.1),.v n0,.v (.string q.2.2)])]=(true,vs) :: al/\q.1.n<=1000000/\[poO (tk1 q.1 (zAq q.2.1 q.2.2)).1,pT (tk1 q.1 (zAq q.2.1 q.2.2)).2.1 (tk1 q.1 (zAq q.2.1 q.2.2)).2.2.1,(false,[.v (.bool (tk1 q.1 (zAq q.2.1 q.2.2)).2.2.2)])]=rs:=by
  unfold zSf qE at aA;split at aA
  ·rename_i hx
   cases aA;exact⟨_,hx.choose_spec,hc,rfl⟩
  ·cases aA
 simp only[List.cons.injEq,Prod.mk.injEq,true_and]at e;obtain⟨rfl,rfl⟩:=e;refine zLs w (poV p) [slZ (zAq b d)] _ _ (zQv p (zAq b d)) hn E ys ho ?_;cases hy with
 | cons h1 t=>
  cases t;obtain⟨cs,e,h1⟩:=h1;refine .cons ⟨cs,e,?_⟩ .nil;cases h1 with
  | cons k1 k2=>
   cases k2 with
   | cons k2 k3=>exact .cons k1 (.cons ⟨none,0,k2.1,Nat.le_refl _,fun h0=>absurd h0 (Nat.lt_irrefl _)⟩ k3)
noncomputable def mTk:zR:=orSp zW2 zSf
theorem zZ5:zBd Tryz.prog 154 mTk:=zXO zLs zXt
theorem zW3(p:zF)(b:Int)(n:Nat)(ks kb:Nat->Int)(d:ByteArray):mTk [(true,poV p),(true,[.v (.int .i64 b),.s .z 2 n (ptrsT ks kb),.v (.string d)])]=some (p.n<=1000000,[poO (tk1 p ⟨b,n,ks,kb,d⟩).1,pT (tk1 p ⟨b,n,ks,kb,d⟩).2.1 (tk1 p ⟨b,n,ks,kb,d⟩).2.2.1,(false,[.v (.bool (tk1 p ⟨b,n,ks,kb,d⟩).2.2.2)])]):=zXN (zQv p ⟨b,n,ks,kb,d⟩)
theorem zYm(p:zF)(b:Int)(d:ByteArray):mTk [(true,poV p),(true,[.v (.int .i64 b),.v n0,.v (.string d)])]=some (p.n<=1000000,[poO (tk1 p (zAq b d)).1,pT (tk1 p (zAq b d)).2.1 (tk1 p (zAq b d)).2.2.1,(false,[.v (.bool (tk1 p (zAq b d)).2.2.2)])]):=by
 refine zXP (zOA fun x h=>?_) (zK (fun l=>(zEi (nth l 0 0) (nth l 0 1),qC (nth l 1 0),zDJ (nth l 1 2))) (fun _=>rfl) (p,b,d));simp at h
set_option maxRecDepth 20000
set_option maxHeartbeats 1600000
theorem zQc{p:zF}(h:zf p):∀i,i<p.n->(p.s i).kn<=8:=fun i hi=>by
 rcases h.2.1 i hi with h1 | h1
 ·have:=h1.2.1;omega
 ·rcases h1.2 with h2 | h2
  ·omega
  ·omega
abbrev toR(t:zD4):Bool×List Tr:=(true,[.s .o 3 t.pool.n (zY .z t.pool.s),.s .o 1 t.pool.hn (qf t.pool.h),.v (.int .i64 t.rs),.v (.int .i64 t.rb),.s .o 2 t.old.length (ptL t.old),.v (.int .i64 t.code)])
abbrev sT(d:ByteArray):Bool×List Tr:=(false,[.v (.string d)])
theorem zm.upE{w:World}{g:Nat->Bs}:∀{l m:List Tr} {cs:List Value},zm TrE l m->zm (Sh w g) l cs->zm (Sh w g) m cs
 | _,_,_,.nil,h=>by cases h;exact .nil
 | _,_,_,.cons e t,h=>by
  cases h with
  | cons y ty=>exact .cons (y.e e) (zm.upE t ty)
theorem zd.up{P:Program}{f:Nat}{m m2:zR}(h:zd P f m)(H:∀al c rs,m2 al=some (c,rs)->∃aA,m aA=some (c,rs)/\zm (fun q q'=>q.1=q'.1/\zm TrE q.2 q'.2) al aA):zd P f m2:=by
 intro w al c rs bA hc g0 ys hg hy;obtain⟨aA,hm,cA⟩:=H al c rs bA;refine h w aA c rs hm hc g0 ys hg ?_;clear bA hm H
 induction cA generalizing ys with
 | nil=>cases hy;exact .nil
 | cons e t ih=>
  cases hy with
  | cons y ty=>
   refine .cons ?_ (ih _ ty)
   rename_i q q' _ _ u _
   obtain⟨q1,q2⟩:=q;obtain⟨r1,r2⟩:=q';obtain⟨e1,e2⟩:=e;cases (show q1=r1 from e1);cases q1
   ·obtain⟨T,hT,hs⟩:=y;cases (show q2 = [T] from hT);cases e2 with
    | cons e2 t2=>cases t2;exact⟨_,rfl,hs.e e2⟩
   ·obtain⟨cs,e,hs⟩:=y;refine⟨cs,e,?_⟩;exact zm.upE e2 hs
theorem zd.upk{P:Program}{f:Nat}{ι κ : Type}{A:ι->List (Bool×List Tr)}{C:ι->Prop}{R:ι->List (Bool×List Tr)}{m:zR}(h:zd P f m)(H:∀x,∃aA,m aA=some (C x,R x)/\zm (fun q q'=>q.1=q'.1/\zm TrE q.2 q'.2) (A x) aA):zd P f (qE A C R):=h.up fun al c rs e=>by
 unfold qE at e;split at e
 ·rename_i hx
  cases e;obtain⟨aA,h1,h2⟩:=H hx.choose;rw[hx.choose_spec]at h2;exact⟨aA,h1,h2⟩
 ·cases e
def zYh(a b c d e f:Int):Nat->Nat->Tr:=fun p q=>([Tr.v (.int .i64 a),.v (.int .i64 b),.v (.int .i64 c),.v (.int .i64 d),.v (.int .i64 e),.v (.int .i64 f)]:List Tr)[p*2+q]?.getD (.v (.bool false))
def f3(a b c:Int):Nat->Int
 | 0=>a
 | 1=>b
 | _=>c
theorem qr{fl:Fl}{a b c d e f:Int}:(Tr.s fl 2 3 fun p q=>([Tr.v (.int .i64 a),.v (.int .i64 b),.v (.int .i64 c),.v (.int .i64 d),.v (.int .i64 e),.v (.int .i64 f)]:List Tr)[p*2+q]?.getD (.v (.bool false))).lend = .s .b 2 3 (zYh a b c d e f):=by
 simp only[Tr.lend];congr 1;funext p q;simp only[zYh];generalize p*2+q=j
 match j with
 | 0 | 1 | 2 | 3 | 4 | 5=>rfl
 | j+6=>rfl
noncomputable def zZm:zR:=qE (fun q:(Int×Int×Int)×Int×Int×Int=>[(false,[.s .b 2 3 (zYh q.1.1 q.2.1 q.1.2.1 q.2.2.1 q.1.2.2 q.2.2.2)])]) (fun q=>(3:Nat)<=1000000) (fun q=>[(false,[.s .o 2 (kidsUp (f3 q.1.1 q.1.2.1 q.1.2.2) (f3 q.2.1 q.2.2.1 q.2.2.2) 3).length (ptL (kidsUp (f3 q.1.1 q.1.2.1 q.1.2.2) (f3 q.2.1 q.2.2.1 q.2.2.2) 3))])])
theorem zQp(a b c d e f:Int):zZm [(false,[.s .b 2 3 (zYh a b c d e f)])]=some ((3:Nat)<=1000000,[(false,[.s .o 2 (kidsUp (f3 a c e) (f3 b d f) 3).length (ptL (kidsUp (f3 a c e) (f3 b d f) 3))])]):=zK (fun l=>((qC (zCA (nth l 0 0) 0 0),qC (zCA (nth l 0 0) 1 0),qC (zCA (nth l 0 0) 2 0)),qC (zCA (nth l 0 0) 0 1),qC (zCA (nth l 0 0) 1 1),qC (zCA (nth l 0 0) 2 1))) (fun _=>rfl) ((a,c,e),b,d,f)
theorem zTy:zd Tryz.prog 155 zZm:=zNw.upk (κ:=Nat) fun ⟨⟨a,c,e⟩,b,d,f⟩=>⟨_,zTc 3 (f3 a c e) (f3 b d f),.cons ⟨rfl,.cons (zDv fun i j hi hj=>by
 match i,j,hi,hj with
 | 0,0,_,_=>rfl
 | 0,1,_,_=>rfl
 | 1,0,_,_=>rfl
 | 1,1,_,_=>rfl
 | 2,0,_,_=>rfl
 | 2,1,_,_=>rfl) .nil⟩ .nil⟩
theorem zXw{p:zF}{xs xb x:Int}{n:Nat}:zJC (zDF p (zDX p xs xb n) (zD7 p xs xb n)) (n % 8) x=zBb p xs xb n 1 x:=rfl
theorem zXy{p:zF}{xs xb x:Int}{n:Nat}:zJC (zDE p (zDX p xs xb n) (zD7 p xs xb n)) (n % 8) x=zBX p xs xb n 1 x:=rfl
theorem zXv{p:zF}{xs xb x:Int}{n:Nat}:zJC (zDF p xs xb) (n / 8) x=zBb p xs xb n 0 x:=rfl
theorem zXx{p:zF}{xs xb x:Int}{n:Nat}:zJC (zDE p xs xb) (n / 8) x=zBX p xs xb n 0 x:=rfl
attribute [local go_sem] qX List.map_cons List.map_nil Tr.cv yq qK yA qz yp yo yn qy zBE zBG zBF zBB zBD zBC zCa zCc zCb qP zr qQ zt qI qH qU zAA zo zp yE qO tmpsOf zAo yD qN zBA yw yu yr yx yv stpP opds opd opdC kap zAB qJ zn coreU bin zAe zCK get put dlO fgt zBR zBK zBO zBP tyT yk yj Op.operands Call.operands evLoad evLen evStore evAlloc zAj and_true true_and List.append_nil List.nil_append List.cons_append Ret resCv zB3 yV cellM zBh zCE qV StW StR hpT hpO hpV hpA hpL hpC sg nin zCU bdO tmW obW AvE CsE CvE Av.tup Av.ids Cv.ids inD ObE Ob.ids TrE.refl qM yB yC qR qS qT zq zb zX yz zBa zCL zBH evCall argL argOf qZ outOb obO yM qA cvO tot Tr.own rid partsOf fillC zS zBf frz frz1 evBuildSlice zc trs Cv.tr evSlice Option.toArray_none Option.toArray_some evMakeSlice evAppend dstOf srcOf zA3 zBQ zBN zBL zBM ikT qx qw qv qu RetP RetN zBr qD evLd evSt evStoreH zAh evAppendM evAppendT tlOf mvOf rowE shp evTake oOf evC evCallP evCallN evCallO unlast zAO zA1 zAa argsF zCR qg pmC varT vT evField evConv dB0 Option.bind_some Option.bind_none Option.map_some Option.map_none Option.isSome_some Option.isSome_none
attribute [local go_sem] yL za zA7 yd qr
noncomputable def mTW:zR:=qE (fun q:(zF×Int×Int)×Int×ByteArray×Int=>[poT q.1.1.n q.1.1.s q.1.1.hn q.1.1.h,pT q.1.2.1 q.1.2.2,iT q.2.1,sT q.2.2.1,iT q.2.2.2]) (fun q=>q.1.1.n<=1000000/\q.1.1.hn<=1000000) (fun q=>[toR (zC0 q.1.1 q.1.2.1 q.1.2.2 q.2.1 q.2.2.1 q.2.2.2)])
theorem zaU(p:zF)(xs xb aA:Int)(d:ByteArray)(b:Int):mTW [poT p.n p.s p.hn p.h,pT xs xb,iT aA,sT d,iT b]=some (p.n<=1000000/\p.hn<=1000000,[toR (zC0 p xs xb aA d b)]):=zK (fun l=>((zEi (nth l 0 0) (nth l 0 1),qC (nth l 1 0),qC (nth l 1 1)),qC (nth l 2 0),zDJ (nth l 3 0),qC (nth l 4 0))) (fun _=>rfl) ((p,xs,xb),aA,d,b)
theorem zOj:zd Tryz.prog 149 mTW:=by
 refine zP zl (GOk.cons zGC (zG Tryz.func141 rfl rfl) (GOk.cons zFv (zG Tryz.func56 rfl rfl) (GOk.cons zLt (zG Tryz.func151 rfl rfl) (GOk.cons zIr (zG Tryz.func152 rfl rfl) (GOk.cons zGF (zG Tryz.func24 rfl rfl) (GOk.cons zIA (zG Tryz.func60 rfl rfl) (GOk.cons zTy (zG Tryz.func155 rfl rfl) (GOk.cons zSQ (zG Tryz.func156 rfl rfl) (GOk.ptrK zZ5 (zG Tryz.func154 rfl rfl) GOk.nil))))))))) zk Tryz.func149 rfl Tryz.ntmps149 Tryz.results149 22 ?_;rintro⟨⟨p,xs,xb⟩,bA,d,b⟩ ⟨hn,hm⟩;replace hn:p.n<=1000000:=hn;replace hm:p.hn<=1000000:=hm;refine⟨by simp,?_⟩;by_cases hN:zEb bA;rotate_left
 ·have gA:(0<=bA/\bA<=63)↔False:=⟨hN,False.elim⟩;simp[go_sem,zIv,zIt,zGI,gA,hn,hm];refine⟨fun h=>?_,fun h0=>⟨fun h=>h,fun h=>?_,fun hT hB=>?_⟩⟩
  ·rw[zMo (by omega)];exact⟨rfl,rfl,rfl,rfl,rfl,rfl⟩
  ·rw[zMn (by omega) fun e=>h.elim (· e.1) (· e.2)];exact⟨rfl,rfl,rfl,rfl,rfl,rfl⟩
  ·rw[zKO (by omega) ⟨hT,hB⟩ fun e=>hN e.1];exact⟨rfl,rfl,rfl,rfl,rfl,rfl⟩
 obtain⟨n,rfl⟩:=Int.eq_ofNat_of_zero_le hN.1;have aA:n<64:=by have:=hN.2;omega
 simp[go_sem,zIv,zIt,zGI,zWw,zG2,zIu,zW3,zYm,zL4,zQp,hn,hm,zSx aA,zXu];refine⟨fun h=>?_,fun h0=>⟨fun h=>h,fun h=>?_,fun hT hB=>?_⟩⟩
 ·rw[zMo (by omega)];exact⟨rfl,rfl,rfl,rfl,rfl,rfl⟩
 ·rw[zMn (by omega) fun e=>h.elim (· e.1) (· e.2)];exact⟨rfl,rfl,rfl,rfl,rfl,rfl⟩
 refine⟨fun h=>?_,fun iA hd=>⟨fun h=>?_,fun h=>?_⟩⟩
 ·rw[zKO (by omega) ⟨hT,hB⟩ fun e=>h.elim (fun h=>absurd h (by omega)) (fun h=>h (by exact_mod_cast e.2))];exact⟨rfl,rfl,rfl,rfl,rfl,rfl⟩
 ·rw[zS1 hT aA hB (by exact_mod_cast hd) (by exact_mod_cast h)];exact⟨rfl,rfl,rfl,rfl,rfl,rfl⟩
 have cA:d.size=16:=by exact_mod_cast hd
 have hr:3<=roomN p.s p.n:=by exact_mod_cast h
 obtain⟨i0,f0⟩:=zDt (f:=p.s) (n:=p.n) (by omega);refine⟨fun i hi=>by have:=zQc hT.1 i hi;omega,⟨hT,aA⟩,?_⟩;have fA:zHy p xs xb:=zPS hT;have eA:zHy p (zDX p xs xb n) (zD7 p xs xb n):=zPH hT (by omega);have q0:roomN (zBq p b d i0).s p.n+1=roomN p.s p.n:=zHZ (s:=zAq b d) f0 (zDn hB.1 cA);obtain⟨i1,f1⟩:=zDt (f:=(zBq p b d i0).s) (n:=p.n) (by omega);have q1:roomN (zFc p xs xb n b d i0 i1).s p.n+1=roomN (zBq p b d i0).s p.n:=zHZ (p:=zBq p b d i0) f1 (zEn hT aA hB f0);obtain⟨i2,f2⟩:=zDt (f:=(zFc p xs xb n b d i0 i1).s) (n:=p.n) (by omega);have t0:tk1 p (zAq b d)=(zBq p b d i0,(i0:Int),b,true):=zEU f0;have t1:tk1 (zBq p b d i0) ⟨b,8,zBb p xs xb n 1 (i0:Int),zBX p xs xb n 1 b,⟨#[]⟩⟩=(zFc p xs xb n b d i0 i1,(i1:Int),b,true):=zEU f1;have t2:tk1 (zFc p xs xb n b d i0 i1) ⟨b,8,zBb p xs xb n 0 (i1:Int),zBX p xs xb n 0 b,⟨#[]⟩⟩=(zXd p xs xb n b d i0 i1 i2,(i2:Int),b,true):=zEU f2;have e8:((n:Int) % 8).toNat=n % 8:=by omega
 have dA:((n:Int) / 8).toNat=n / 8:=by omega
 simp only[e8,dA,t0,t1,t2,zXw,zXy,zXv,zXx];rw[zX3 hT aA hB cA f0 f1 f2];refine⟨eA,by omega,by omega,hn,fA,by omega,by omega,hn,?_⟩;have eO:zSl p xs xb n 3=kidsUp (f3 (zCx p xs xb n) (zDX p xs xb n) xs) (f3 (zCm p xs xb n) (zD7 p xs xb n) xb) 3:=rfl;rw[eO];exact⟨by kernel_rfl,⟨TrE.refl _,zQ⟩,⟨TrE.refl _,zZ⟩,rfl,rfl,⟨TrE.refl _,zCh⟩,rfl⟩
set_option maxRecDepth 20000
set_option maxHeartbeats 1600000
theorem zSM{f g:Nat->Int}:kidsUp f g 8 = []↔zEC f g:=by
 rw[<-List.length_eq_zero_iff,<-Classical.not_not (a:=zEC f g),<-zXp,<-zGB];omega
theorem zZG{p:zF}{xs xb x y:Int}{n:Nat}:zJC (zBb p xs xb n 0 x) (n / 8) y=zBb p xs xb n 0 y:=by
 funext i;unfold zJC zBb;show(if i=n / 8 then y else if i=n / 8 then x else _)=if i=n / 8 then y else _
 by_cases h:i=n / 8<;>simp[h]
theorem zZH{p:zF}{xs xb x y:Int}{n:Nat}:zJC (zBX p xs xb n 0 x) (n / 8) y=zBX p xs xb n 0 y:=by
 funext i;unfold zJC zBX;show(if i=n / 8 then y else if i=n / 8 then x else _)=if i=n / 8 then y else _
 by_cases h:i=n / 8<;>simp[h]
theorem zFT{f:Nat->zN}:∀{n j:Nat},j<n->yZ (f j)->∃i,zBU n f i
 | 0,j,h,_=>absurd h (Nat.not_lt_zero _)
 | n+1,j,h,hf=>by
  by_cases hx:∃k,k<n/\yZ (f k)
  ·obtain⟨k,hk,aA⟩:=hx;obtain⟨i,h1,h2,h3⟩:=zFT hk aA;exact⟨i,by omega,h2,h3⟩
  ·have:j=n:=Classical.byContradiction fun e=>hx ⟨j,by omega,hf⟩
   subst this;exact⟨j,h,hf,fun k hk aA=>hx ⟨k,hk,aA⟩⟩
attribute [local go_sem] qX List.map_cons List.map_nil Tr.cv yq qK yA qz yp yo yn qy zBE zBG zBF zBB zBD zBC zCa zCc zCb qP zr qQ zt qI qH qU zAA zo zp yE qO tmpsOf zAo yD qN zBA yw yu yr yx yv stpP opds opd opdC kap zAB qJ zn coreU bin zAe zCK get put dlO fgt zBR zBK zBO zBP tyT yk yj Op.operands Call.operands evLoad evLen evStore evAlloc zAj and_true true_and List.append_nil List.nil_append List.cons_append Ret resCv zB3 yV cellM zBh zCE qV StW StR hpT hpO hpV hpA hpL hpC sg nin zCU bdO tmW obW AvE CsE CvE Av.tup Av.ids Cv.ids inD ObE Ob.ids TrE.refl qM yB yC qR qS qT zq zb zX yz zBa zCL zBH evCall argL argOf qZ outOb obO yM qA cvO tot Tr.own rid partsOf fillC zS zBf frz frz1 evBuildSlice zc trs Cv.tr evSlice Option.toArray_none Option.toArray_some evMakeSlice evAppend dstOf srcOf zA3 zBQ zBN zBL zBM ikT qx qw qv qu RetP RetN zBr qD evLd evSt evStoreH zAh evAppendM evAppendT tlOf mvOf rowE shp evTake oOf evC evCallP evCallN evCallO unlast zAO zA1 zAa argsF zCR qg pmC varT vT evField evConv dB0 Option.bind_some Option.bind_none Option.map_some Option.map_none Option.isSome_some Option.isSome_none
attribute [local go_sem] yL za zA7 yd qr
noncomputable def mTT:zR:=qE (fun q:(zF×Int×Int)×Int×Int=>[poT q.1.1.n q.1.1.s q.1.1.hn q.1.1.h,pT q.1.2.1 q.1.2.2,iT q.2.1,iT q.2.2]) (fun q=>q.1.1.n<=1000000/\q.1.1.hn<=1000000) (fun q=>[toR (zGc q.1.1 q.1.2.1 q.1.2.2 q.2.1 q.2.2)])
theorem zaT(p:zF)(xs xb aA:Int)(b:Int):mTT [poT p.n p.s p.hn p.h,pT xs xb,iT aA,iT b]=some (p.n<=1000000/\p.hn<=1000000,[toR (zGc p xs xb aA b)]):=zK (fun l=>((zEi (nth l 0 0) (nth l 0 1),qC (nth l 1 0),qC (nth l 1 1)),qC (nth l 2 0),qC (nth l 3 0))) (fun _=>rfl) ((p,xs,xb),aA,b)
theorem zPu:zd Tryz.prog 143 mTT:=by
 refine zP zl (GOk.cons zGC (zG Tryz.func141 rfl rfl) (GOk.cons zFv (zG Tryz.func56 rfl rfl) (GOk.cons zLt (zG Tryz.func151 rfl rfl) (GOk.cons zIr (zG Tryz.func152 rfl rfl) (GOk.cons zGF (zG Tryz.func24 rfl rfl) (GOk.cons zIA (zG Tryz.func60 rfl rfl) (GOk.cons zTy (zG Tryz.func155 rfl rfl) (GOk.cons zSU (zG Tryz.func153 rfl rfl) (GOk.cons zDA (zG Tryz.func25 rfl rfl) (GOk.ptrK zZ5 (zG Tryz.func154 rfl rfl) GOk.nil)))))))))) zk Tryz.func143 rfl Tryz.ntmps143 Tryz.results143 22 ?_;rintro⟨⟨p,xs,xb⟩,bA,b⟩ ⟨hn,hm⟩;replace hn:p.n<=1000000:=hn;replace hm:p.hn<=1000000:=hm;refine⟨by simp,?_⟩;by_cases hN:zEb bA;rotate_left
 ·have gA:(0<=bA/\bA<=63)↔False:=⟨hN,False.elim⟩;simp[go_sem,zIv,zIt,zGI,gA,hn,hm];refine⟨fun h=>h,fun h=>?_,fun hT hB=>?_⟩
  ·rw[zOR fun e=>h.elim (· e.1) (· e.2)];exact⟨rfl,rfl,rfl,rfl,rfl,rfl⟩
  ·rw[zSz ⟨hT,hB⟩ hN];exact⟨rfl,rfl,rfl,rfl,rfl,rfl⟩
 obtain⟨n,rfl⟩:=Int.eq_ofNat_of_zero_le hN.1;have aA:n<64:=by have:=hN.2;omega
 have e8:((n:Int) % 8).toNat=n % 8:=by omega
 have eA:((n:Int) / 8).toNat=n / 8:=by omega
 simp[go_sem,zIv,zIt,zGI,zG2,zIu,zW3,zL4,zQp,zWz,zCM,hn,hm,zSx aA,zXu,e8,eA,zXw,zXy,zXv,zXx,zSM];refine⟨fun h=>h,fun h=>?_,fun hT hB=>⟨fun h=>absurd h (by omega),fun _=>?_⟩⟩
 ·rw[zOR fun e=>h.elim (· e.1) (· e.2)];exact⟨rfl,rfl,rfl,rfl,rfl,rfl⟩
 refine⟨⟨hT,aA⟩,fun g h=>?_,fun hP=>⟨fun i hi=>by have:=zQc hT.1 i hi;omega,zPH hT (by omega),by omega,by omega,zPS hT,by omega,by omega,fun hL=>?_,fun hL=>?_⟩⟩
 ·rw[zVY ⟨hT,hB⟩ hN ⟨g,h⟩];exact⟨rfl,rfl,rfl,rfl,rfl,rfl⟩
 ·rw[zRW ⟨hT,hB⟩ hN fun e=>hP e.1 e.2,Int.toNat_natCast];refine⟨by omega,by omega,?_⟩;simp only[zZG,zZH];by_cases hx:∃i,zBU p.n p.s i
  ·obtain⟨i,hi⟩:=hx;have t1:tk1 p ⟨b,8,zBb p xs xb n 1 0,zBX p xs xb n 1 0,⟨#[]⟩⟩=(zBi p i (zBm (zBb p xs xb n 1 0) (zBX p xs xb n 1 0) b),(i:Int),b,true):=zEU hi;have fA:zDL p (zBm (zBb p xs xb n 1 0) (zBX p xs xb n 1 0) b):=zEk hT aA (by omega) hB (fun s t h=>h) (Or.inl ⟨rfl,rfl⟩);have hl:=zba hT aA hB hL hi;have hR:zf (zBi p i (zBm (zBb p xs xb n 1 0) (zBX p xs xb n 1 0) b)):=zJj hT.1 hi fA;have hF:zDL (zBi p i (zBm (zBb p xs xb n 1 0) (zBX p xs xb n 1 0) b)) (zBm (zBb p xs xb n 0 (i:Int)) (zBX p xs xb n 0 b) b):=zEk hT aA (by omega) hB (fun s t h=>zEo hi.2.1 h) (Or.inr ⟨zID hi hB.1.1,Int.le_refl _⟩);simp only[t1];refine⟨fun hA=>?_,fun hA _=>⟨fun h=>by simp at h,fun _=>?_⟩⟩
   ·replace hA:¬zEC (zBb p xs xb n 0 (i:Int)) (zBX p xs xb n 0 b):=hA.resolve_right (by simp);refine⟨hn,fun h=>?_,fun _ h=>?_⟩
    ·rw[zOS hl hA hR hF fun j hj hf=>?_]
     ·exact⟨rfl,rfl,rfl,rfl,rfl,rfl⟩
     ·obtain⟨j',cA⟩:=zFT (f:=(zBi p i (zBm (zBb p xs xb n 1 0) (zBX p xs xb n 1 0) b)).s) hj hf;rw[show tk1 _ _=_ from zEU cA]at h;simp at h
    ·by_cases hy:∃j,zBU p.n (zBi p i (zBm (zBb p xs xb n 1 0) (zBX p xs xb n 1 0) b)).s j
     ·obtain⟨j,hj⟩:=hy;have t2:tk1 (zBi p i (zBm (zBb p xs xb n 1 0) (zBX p xs xb n 1 0) b)) ⟨b,8,zBb p xs xb n 0 (i:Int),zBX p xs xb n 0 b,⟨#[]⟩⟩=(zBi (zBi p i (zBm (zBb p xs xb n 1 0) (zBX p xs xb n 1 0) b)) j (zBm (zBb p xs xb n 0 (i:Int)) (zBX p xs xb n 0 b) b),(j:Int),b,true):=zEU hj;simp only[t2];rw[zRX hl hA hR hF hj];exact⟨by kernel_rfl,⟨TrE.refl _,zQ⟩,⟨TrE.refl _,zZ⟩,rfl,rfl,⟨TrE.refl _,zCh⟩,rfl⟩
     ·rw[zPb (p:=zBi p i (zBm (zBb p xs xb n 1 0) (zBX p xs xb n 1 0) b)) fun j hj hf=>hy (zFT hj hf)]at h;simp at h
   ·rw[zRV hl hA];exact⟨by kernel_rfl,⟨TrE.refl _,zQ⟩,⟨TrE.refl _,zZ⟩,rfl,rfl,⟨TrE.refl _,zCh⟩,rfl⟩
  ·have dA:∀j,j<p.n->¬yZ (p.s j):=fun j hj hf=>hx (zFT hj hf)
   simp only[zPb dA];rw[zWY hT aA hB hL dA];exact⟨fun _=>⟨hn,fun _=>⟨rfl,rfl,rfl,rfl,rfl,rfl⟩,fun h=>by simp at h⟩,fun _ h=>by simp at h⟩
 ·rw[zRW ⟨hT,hB⟩ hN fun e=>hP e.1 e.2,Int.toNat_natCast];have hl:=zbZ (xs:=xs) (xb:=xb) (b:=b) hL;have hF:zDL p (zBm (zBb p xs xb n 0 0) (zBX p xs xb n 0 0) b):=zEk hT aA (by omega) hB (fun s t h=>h) (Or.inl ⟨rfl,rfl⟩);refine⟨fun hA=>⟨fun h=>?_,fun h=>?_⟩,fun hA=>?_⟩
  ·rw[zOS hl hA hT.1 hF fun j hj hf=>?_]
   ·exact⟨rfl,rfl,rfl,rfl,rfl,rfl⟩
   ·obtain⟨j',cA⟩:=zFT hj hf;rw[zEU cA]at h;simp at h
  ·by_cases hy:∃j,zBU p.n p.s j
   ·obtain⟨j,hj⟩:=hy;have t2:tk1 p ⟨b,8,zBb p xs xb n 0 0,zBX p xs xb n 0 0,⟨#[]⟩⟩=(zBi p j (zBm (zBb p xs xb n 0 0) (zBX p xs xb n 0 0) b),(j:Int),b,true):=zEU hj;simp only[t2];rw[zRX hl hA hT.1 hF hj];exact⟨by kernel_rfl,⟨TrE.refl _,zQ⟩,⟨TrE.refl _,zZ⟩,rfl,rfl,⟨TrE.refl _,zCh⟩,rfl⟩
   ·rw[zPb fun j hj hf=>hy (zFT hj hf)]at h;simp at h
  ·rw[zRV hl hA];exact⟨by kernel_rfl,⟨TrE.refl _,zQ⟩,⟨TrE.refl _,zZ⟩,rfl,rfl,⟨TrE.refl _,zCh⟩,rfl⟩
open Classical in
noncomputable def zDV(p:zF)(m:Nat):zF:={n:=p.n,s:=fun i=>if Has m p.h (i:Int)then zGd else p.s i,hn:=p.hn,h:=p.h}
noncomputable def zI8(p:zF):zF:={n:=p.n,s:=(zDV p p.hn).s,hn:=0,h:=p.h}
open Classical in
noncomputable def zKM(p:zF):zF:=if zf p/\zf (zI8 p)then zI8 p else p
theorem zJV{p:zF}{m i:Nat}(h:Has m p.h (i:Int)):(zDV p m).s i=zGd:=if_pos h
theorem zJU{p:zF}{m i:Nat}(h:¬Has m p.h (i:Int)):(zDV p m).s i=p.s i:=if_neg h
theorem zSA(p:zF):zDV p 0=p:=by
 have e:(zDV p 0).s=p.s:=funext fun i=>zJU (fun ⟨j,hj,_⟩=>absurd hj (Nat.not_lt_zero _))
 show zF.mk p.n (zDV p 0).s p.hn p.h=p;rw[e]
theorem zR9{p:zF}{k m:Nat}(hk:p.h k=(m:Int)):zDV p (k+1)=zBi (zDV p k) m zGd:=by
 have e:(zDV p (k+1)).s=(zBi (zDV p k) m zGd).s:=funext fun i=>by
  show _=if i=m then zGd else(zDV p k).s i
  by_cases h1:i=m
  ·rw[if_pos h1,zJV ⟨k,by omega,by rw[hk,h1]⟩]
  ·rw[if_neg h1];by_cases h2:Has k p.h (i:Int)
   ·rw[zJV h2,zJV (by obtain⟨j,hj,e⟩:=h2;exact⟨j,by omega,e⟩)]
   ·rw[zJU h2,zJU (fun ⟨j,hj,e⟩=>h2 ⟨j,by
     by_cases e2:j=k
     ·subst e2;rw[hk]at e;omega
     ·omega,e⟩)]
 show zF.mk p.n (zDV p (k+1)).s p.hn p.h=zF.mk p.n (zBi (zDV p k) m zGd).s p.hn p.h;rw[e]
theorem zRT{p:zF}(h:zf p)(h':zf (zI8 p)):zKM p=zI8 p:=if_pos ⟨h,h'⟩
theorem zPa{p:zF}(h:¬(zf p/\zf (zI8 p))):zKM p=p:=if_neg h
set_option linter.unusedSimpArgs false
set_option maxRecDepth 20000
set_option maxHeartbeats 1600000
theorem zY1{P:Program}{f:Nat}{a b:zR}(ha:zd P f a)(hb:zd P f b):zd P f (orSp a b):=by
 intro w al c rs aA hc;unfold orSp at aA;split at aA
 ·rename_i r hr
  cases aA;exact ha w al c rs hr hc
 ·exact hb w al c rs aA hc
noncomputable def zTg:zR:=qE (fun q:Nat×(Nat->zN)=>[(true,[.s .b 3 q.1 (zY .b q.2),.v n0])]) (fun q=>q.1<=1000000/\(0:Nat)<=1000000) (fun q=>bR (zf {n:=q.1,s:=q.2,hn:=0,h:=fun _=>0}))
noncomputable def zPC:zR:=orSp zSc zTg
theorem zVC:zd Tryz.prog 35 zTg:=zEM.upk (κ:=Nat) fun q=>⟨_,zHV {n:=q.1,s:=q.2,hn:=0,h:=fun _=>0},.cons ⟨rfl,.cons (TrE.refl _) (.cons ⟨rfl,rfl⟩ .nil)⟩ .nil⟩
theorem zVD:zd Tryz.prog 35 zPC:=zY1 zEM zVC
theorem zSd(p:zF):zPC [poT p.n p.s p.hn p.h]=some (p.n<=1000000/\p.hn<=1000000,bR (zf p)):=zXN (zHV p)
theorem zQr(n:Nat)(s:Nat->zN):zPC [(true,[.s .b 3 n (zY .b s),.v n0])]=some (n<=1000000/\(0:Nat)<=1000000,bR (zf {n:=n,s:=s,hn:=0,h:=fun _=>0})):=by
 refine zXP (zOA fun x h=>by simp at h) (zK (fun l=>(zEu (nth l 0 0),fun i=>zNc (zCA (nth l 0 0) i 0) (zCA (nth l 0 0) i 1) (zCA (nth l 0 0) i 2))) (fun _=>rfl) (n,s))
theorem zSp{p:zF}{h:Nat->Int}:zf {n:=p.n,s:=p.s,hn:=0,h:=h}↔zf {n:=p.n,s:=p.s,hn:=0,h:=p.h}:=
 ⟨fun x=>⟨x.1,x.2.1,fun i hi=>absurd hi (Nat.not_lt_zero _)⟩,fun x=>⟨x.1,x.2.1,fun i hi=>absurd hi (Nat.not_lt_zero _)⟩⟩
theorem zSv{fl:Fl}(p:zF)(k:Nat):TrE (.s fl 3 p.n (qn (zY .z p.s) k 0 [.v (.int .i64 0),.v n0,.v (.string ⟨#[]⟩)])) (.s fl 3 p.n (zY .z (zBi p k zGd).s)):=by
 refine⟨.inl rfl,rfl,rfl,fun i j hi hj=>?_⟩;by_cases h:i=k
 ·subst h
  match j,hj with
  | 0,_=>exact TrE.of_eq (by simp[qn,zY,zBi,zGd])
  | 1,_=>simp[qn,zY,zBi,zGd,TrE]
  | 2,_=>exact TrE.of_eq (by simp[qn,zY,zBi,zGd])
 ·match j,hj with
  | 0,_=>exact TrE.of_eq (by simp[qn,zY,zBi,h])
  | 1,_=>exact TrE.of_eq (by simp[qn,zY,zBi,h])
  | 2,_=>exact TrE.of_eq (by simp[qn,zY,zBi,h])
attribute [local go_sem] qX List.map_cons List.map_nil Tr.cv yq qK yA qz yp yo yn qy zBE zBG zBF zBB zBD zBC zCa zCc zCb qP zr qQ zt qI qH qU zAA zo zp yE qO tmpsOf zAo yD qN zBA yw yu yr yx yv stpP opds opd opdC kap zAB qJ zn coreU bin zAe zCK get put dlO fgt zBR zBK zBO zBP tyT yk yj Op.operands Call.operands evLoad evLen evStore evAlloc zAj and_true true_and List.append_nil List.nil_append List.cons_append Ret resCv zB3 yV cellM zBh zCE qV StW StR hpT hpO hpV hpA hpL hpC sg nin zCU bdO tmW obW AvE CsE CvE Av.tup Av.ids Cv.ids inD ObE Ob.ids TrE.refl qM yB yC qR qS qT zq zb zX yz zBa zCL zBH evCall argL argOf qZ outOb obO yM qA cvO tot Tr.own rid partsOf fillC zS zBf frz frz1 evBuildSlice zc trs Cv.tr evSlice Option.toArray_none Option.toArray_some evMakeSlice evAppend dstOf srcOf zA3 zBQ zBN zBL zBM ikT qx qw qv qu RetP RetN zBr qD evLd evSt evStoreH zAh evAppendM evAppendT tlOf mvOf rowE shp evTake oOf evC evCallP evCallN evCallO unlast zAO zA1 zAa argsF zCR qg pmC varT vT evField evConv dB0 Option.bind_some Option.bind_none Option.map_some Option.map_none Option.isSome_some Option.isSome_none
attribute [local go_sem] yL za zA7 yd qr
noncomputable def zZz:zR:=qE (fun p:zF=>[poT p.n p.s p.hn p.h]) (fun p=>p.n<=1000000/\p.hn<=1000000/\∀i,i<p.n->(p.s i).kn<=1000000) (fun p=>[poO (zKM p)])
theorem zW1(p:zF):zZz [poT p.n p.s p.hn p.h]=some (p.n<=1000000/\p.hn<=1000000/\∀i,i<p.n->(p.s i).kn<=1000000,[poO (zKM p)]):=zK (fun l=>zEi (nth l 0 0) (nth l 0 1)) (fun _=>rfl) p
theorem zPp:zd Tryz.prog 129 zZz:=by
 refine zP zl (GOk.cons zGC (zG Tryz.func141 rfl rfl) (GOk.cons zVD (zG Tryz.func35 rfl rfl) GOk.nil)) zk Tryz.func129 rfl Tryz.ntmps129 Tryz.results129 5 ?_;rintro p ⟨hn,hm,hk⟩;replace hn:p.n<=1000000:=hn;replace hm:p.hn<=1000000:=hm;refine⟨by simp,?_⟩;simp[go_sem,zG2,zSd,hn,hm];refine⟨hk,fun hR=>?_,fun hR=>?_⟩
 ·rw[zPa fun h=>hR h.1];exact⟨⟨TrE.refl _,zQ⟩,TrE.refl _,zZ⟩
 refine qY (fun k:Nat=>⟨[(4,true,.i k),(3,true,.m false [.p 3 0]),(2,true,.m false [.p 2 0]),(1,true,.m false [.p 1 0])],[(3,.var [.h 7,.h 8]),(7,.row 3 p.n (zY .z (zDV p k).s)),(8,.row 1 p.hn (qf p.h)),(2,.var [.v n0,.v n0]),(1,.var [.s .b 3 p.n (zY .b p.s),.s .b 1 p.hn (qf p.h)])]⟩) (fun k=>p.hn - k) (fun k=>k<=p.hn) 0 ?_ (by simp) ?_
 ·rw[zSA];simp[go_sem]
 rintro k aA;simp[go_sem,ze (show k<=1000000000 by omega),zQr,zG2,hn,hm];refine⟨fun hl=>?_,fun hl=>?_⟩
 ·obtain⟨h0,h1,-,-⟩:=hR.2.2 k hl;refine⟨hl,⟨h0,h1⟩,by omega,by kernel_rfl,k+1,by omega,by omega,by omega,?_⟩;rw[zR9 (m:=(p.h k).toNat) (by omega)];exact zSv (zDV p k) _
 ·cases (show k=p.hn by omega);have hw:zf {n:=p.n,s:=(zDV p p.hn).s,hn:=0,h:=fun x=>0}↔zf (zI8 p):=zSp (p:=zDV p p.hn);rw[hw];refine⟨fun h=>?_,fun h=>?_⟩
  ·rw[zPa fun e=>h e.2];exact⟨hk,⟨TrE.refl _,zQ⟩,TrE.refl _,zZ⟩
  ·rw[zRT hR h];exact⟨⟨TrE.refl _,zQ⟩,rfl⟩
structure zB9 where
 name:ByteArray
 origin:Int
 zbi:Int
 rs:Int
 rb:Int
 dn:Nat
 ds:Nat->Int
 db:Nat->Int
structure yY where
 id:Int
 name:ByteArray
 set:ByteArray
 zbi:Int
 time:Int
 rs:Int
 rb:Int
 dn:Nat
 ds:Nat->Int
 db:Nat->Int
structure zB where
 pool:zF
 time:Int
 next:Int
 sn:Nat
 zbh:Nat->zB9
 pn:Nat
 zbg:Nat->yY
structure zEd (w:World) (b o lo hi:Nat) (vd:Value) (s:zB9):Prop where
 c0:w.cell? ⟨b,o,none⟩=some (.string s.name)
 c1:w.cell? ⟨b,o+1,none⟩=some (.int .i64 s.origin)
 c2:w.cell? ⟨b,o+2,none⟩=some (.int .i64 s.zbi)
 c3:w.cell? ⟨b,o+3,none⟩=some (.int .i64 s.rs)
 c4:w.cell? ⟨b,o+4,none⟩=some (.int .i64 s.rb)
 c5:w.cell? ⟨b,o+5,none⟩=some vd
 dead:qk w lo hi vd s.dn s.ds s.db
 zbk:s.name.size<=maxLen
theorem zEd.zbd{w w':World}{b o lo hi:Nat}{vd:Value}{s:zB9}(h:zEd w b o lo hi vd s)(t:Below w.heap.size w w'):zEd w' b o lo hi vd s:=
 ⟨(t.cell (zO h.c0)).trans h.c0,(t.cell (zO h.c1)).trans h.c1,(t.cell (zO h.c2)).trans h.c2,(t.cell (zO h.c3)).trans h.c3,(t.cell (zO h.c4)).trans h.c4,(t.cell (zO h.c5)).trans h.c5,h.dead.zbd t,h.zbk⟩
structure zDh (w:World) (b o lo hi:Nat) (vd:Value) (s:yY):Prop where
 c0:w.cell? ⟨b,o,none⟩=some (.int .i64 s.id)
 c1:w.cell? ⟨b,o+1,none⟩=some (.string s.name)
 c2:w.cell? ⟨b,o+2,none⟩=some (.string s.set)
 c3:w.cell? ⟨b,o+3,none⟩=some (.int .i64 s.zbi)
 c4:w.cell? ⟨b,o+4,none⟩=some (.int .i64 s.time)
 c5:w.cell? ⟨b,o+5,none⟩=some (.int .i64 s.rs)
 c6:w.cell? ⟨b,o+6,none⟩=some (.int .i64 s.rb)
 c7:w.cell? ⟨b,o+7,none⟩=some vd
 dead:qk w lo hi vd s.dn s.ds s.db
 zbk:s.name.size<=maxLen/\s.set.size<=maxLen
theorem zDh.zbd{w w':World}{b o lo hi:Nat}{vd:Value}{s:yY}(h:zDh w b o lo hi vd s)(t:Below w.heap.size w w'):zDh w' b o lo hi vd s:=
 ⟨(t.cell (zO h.c0)).trans h.c0,(t.cell (zO h.c1)).trans h.c1,(t.cell (zO h.c2)).trans h.c2,(t.cell (zO h.c3)).trans h.c3,(t.cell (zO h.c4)).trans h.c4,(t.cell (zO h.c5)).trans h.c5,(t.cell (zO h.c6)).trans h.c6,(t.cell (zO h.c7)).trans h.c7,h.dead.zbd t,h.zbk⟩
def zFD(w:World)(lo hi:Nat)(v:Value)(n:Nat)(f:Nat->zB9):Prop:=
 n<=maxLen/\∃a cap,v = .slice a n cap/\n<=cap/\(0<n->∃b off,a=some ⟨b,off,none⟩/\lo<=b/\b<hi/\∀i,i<n->∃vd,zEd w b (off+i*6) lo hi vd (f i))
def zDQ(w:World)(lo hi:Nat)(v:Value)(n:Nat)(f:Nat->yY):Prop:=
 n<=maxLen/\∃a cap,v = .slice a n cap/\n<=cap/\(0<n->∃b off,a=some ⟨b,off,none⟩/\lo<=b/\b<hi/\∀i,i<n->∃vd,zDh w b (off+i*8) lo hi vd (f i))
theorem zFD.zbd{w w':World}{lo hi:Nat}{v:Value}{n:Nat}{f:Nat->zB9}(h:zFD w lo hi v n f)(t:Below w.heap.size w w'):zFD w' lo hi v n f:=by
 obtain⟨h0,a,cap,hv,aA,hc⟩:=h;refine⟨h0,a,cap,hv,aA,fun hn=>?_⟩;obtain⟨b,off,ha,h1,h2,h3⟩:=hc hn;refine⟨b,off,ha,h1,h2,fun i hi=>?_⟩;obtain⟨vd,hs⟩:=h3 i hi;exact⟨vd,hs.zbd t⟩
theorem zDQ.zbd{w w':World}{lo hi:Nat}{v:Value}{n:Nat}{f:Nat->yY}(h:zDQ w lo hi v n f)(t:Below w.heap.size w w'):zDQ w' lo hi v n f:=by
 obtain⟨h0,a,cap,hv,aA,hc⟩:=h;refine⟨h0,a,cap,hv,aA,fun hn=>?_⟩;obtain⟨b,off,ha,h1,h2,h3⟩:=hc hn;refine⟨b,off,ha,h1,h2,fun i hi=>?_⟩;obtain⟨vd,hs⟩:=h3 i hi;exact⟨vd,hs.zbd t⟩
theorem zFD.cells{w:World}{lo hi:Nat}{a:Option Addr}{n c:Nat}{f:Nat->zB9}(h:zFD w lo hi (.slice a n c) n f){i:Nat}(aA:i<n):∃b off vd,a=some ⟨b,off,none⟩/\zEd w b (off+i*6) lo hi vd (f i):=by
 obtain⟨h0,a2,cap,hv,bA,hx⟩:=h;simp only[Value.slice.injEq,true_and]at hv;obtain⟨rfl,rfl⟩:=hv;obtain⟨b,off,ha,h1,h2,h3⟩:=hx (by omega);obtain⟨vd,hs⟩:=h3 i aA;exact⟨b,off,vd,ha,hs⟩
theorem zDQ.cells{w:World}{lo hi:Nat}{a:Option Addr}{n c:Nat}{f:Nat->yY}(h:zDQ w lo hi (.slice a n c) n f){i:Nat}(aA:i<n):∃b off vd,a=some ⟨b,off,none⟩/\zDh w b (off+i*8) lo hi vd (f i):=by
 obtain⟨h0,a2,cap,hv,bA,hx⟩:=h;simp only[Value.slice.injEq,true_and]at hv;obtain⟨rfl,rfl⟩:=hv;obtain⟨b,off,ha,h1,h2,h3⟩:=hx (by omega);obtain⟨vd,hs⟩:=h3 i aA;exact⟨b,off,vd,ha,hs⟩
structure ye (w:World) (lo hi:Nat) (v0 v1 v2 v3:Value) (W:zB):Prop where
 pool:zEE w lo hi v0 v1 W.pool
 zbh:zFD w lo hi v2 W.sn W.zbh
 zbg:zDQ w lo hi v3 W.pn W.zbg
theorem ye.zbd{w w':World}{lo hi:Nat}{v0 v1 v2 v3:Value}{W:zB}(h:ye w lo hi v0 v1 v2 v3 W)(t:Below w.heap.size w w'):ye w' lo hi v0 v1 v2 v3 W:=⟨h.pool.zbd t,h.zbh.zbd t,h.zbg.zbd t⟩
abbrev zAY(v0 v1 v2 v3:Value)(W:zB):Value:=.agg #[v0,v1,.int .i64 W.time,.int .i64 W.next,v2,v3]
def zAl(W:zB)(id:Int)(k:Nat):Prop:=k<W.pn/\(W.zbg k).id=id/\∀j,j<k->(W.zbg j).id≠id
def zIW(W:zB)(name:ByteArray)(k:Nat):Prop:=k<W.sn/\(W.zbh k).name=name/\∀j,j<k->(W.zbh j).name≠name
theorem zAl.uniq{W:zB}{id:Int}{i j:Nat}(h:zAl W id i)(h':zAl W id j):i=j:=by
 rcases Nat.lt_trichotomy i j with e | e | e
 ·exact absurd h.2.1 (h'.2.2 i e)
 ·exact e
 ·exact absurd h'.2.1 (h.2.2 j e)
theorem zIW.uniq{W:zB}{name:ByteArray}{i j:Nat}(h:zIW W name i)(h':zIW W name j):i=j:=by
 rcases Nat.lt_trichotomy i j with e | e | e
 ·exact absurd h.2.1 (h'.2.2 i e)
 ·exact e
 ·exact absurd h'.2.1 (h.2.2 j e)
theorem zC{P:Prop}(h:P):Hid P:=h
def zOX(n:Nat)(P:Nat->Prop)(r:Int):Prop:=(∃k:Nat,k<n/\P k/\(∀j,j<k->¬P j)/\r=k)\/((∀j,j<n->¬P j)/\r = -1)
end Go.Proofs.YtginldeebkfbgaaGreat
