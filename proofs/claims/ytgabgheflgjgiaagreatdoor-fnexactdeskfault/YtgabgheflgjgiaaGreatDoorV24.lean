/- A part of the proof. -/
import Derived.Test.YtgabgheflgjgiaaGreatDoorV23
set_option linter.unusedVariables false
set_option maxRecDepth 20000
set_option maxHeartbeats 4000000
namespace Go.Proofs.YtgabgheflgjgiaaGreatDoor
open Go.RowKit
theorem zDV{p:zI}(hR:zt p){i:Nat}(h:qk p.n p.s i):¬Has p.hn p.h (i:Int):=by
 rintro⟨j,hj,e⟩;have h3:=(hR.2.2 j hj).2.2.1;rw[e,Int.toNat_natCast]at h3;exact h3 h.2.1
theorem zH5{p:zI}{i:Nat}{s:zO}(hR:zt p)(h:qk p.n p.s i)(hs:ym p s)(hk:s.kn=0):zA8 (qj p i s) (i:Int) s.zOh:=
 ⟨zBV h hs.1.1,by rw[Int.toNat_natCast,zAp];exact hk,zDV hR h⟩
theorem zD1{p:zI}{i:Nat}{s:zO}(hR:zt p)(h:qk p.n p.s i)(hs:ym p s)(hk:0<s.kn):zAX (qj p i s) (i:Int) s.zOh:=
 ⟨zBV h hs.1.1,by rw[Int.toNat_natCast,zAp];exact hk,zDV hR h⟩
theorem zDW{p q:zI}(h:Ext p q){i:Nat}(hi:qk q.n q.s i):zHZ p (i:Int):=by
 unfold zHZ;rw[Int.toNat_natCast];exact h.free hi.2.1
theorem zLN{p:zI}{xs xb b:Int}{n:Nat}{d:ByteArray}{i0 i1 i2:Nat}(hT:qR p xs xb)(hn:n<64)(hB:qW xb b)(hd:d.size=16)(h0:qk p.n p.s i0)(h1:qk p.n (qg p b d i0).s i1)(h2:qk p.n (zAU p xs xb n b d i0 i1).s i2) :
  New p xs xb n b (zFq p xs xb n b d i0 i1 i2) (i2:Int) b (i1:Int) b (i0:Int) b:=by
 have e1:Ext p (qg p b d i0):=Ext.set h0.2.1 _;have e2:Ext (qg p b d i0) (zAU p xs xb n b d i0 i1):=Ext.set h1.2.1 _;have e3:Ext (zAU p xs xb n b d i0 i1) (zFq p xs xb n b d i0 i1 i2):=Ext.set h2.2.1 _;have r1:=zDA (d:=d) hT hB hd h0;have r2:=zET (n:=n) hT hn hB hd h0 h1;have f0:ym p (yx b d):=zAV hB.1 hd;have f1:=zBD (n:=n) (d:=d) hT hn hB h0;have f2:=zDn (d:=d) hT hn hB h0 h1;have pg:zA8 (qg p b d i0) (i0:Int) b:=zH5 hT.1 h0 f0 rfl;have nd:zAX (zAU p xs xb n b d i0 i1) (i1:Int) b:=zD1 (p:=qg p b d i0) r1 h1 f1 (by show 0<8;omega);have rt:zAX (zFq p xs xb n b d i0 i1 i2) (i2:Int) b:=zD1 (p:=zAU p xs xb n b d i0 i1) r2 h2 f2 (by show 0<8;omega);have ns:(zAU p xs xb n b d i0 i1).s (i1:Int).toNat=qO (qC p xs xb n 1 (i0:Int)) (qB p xs xb n 1 b) b:=by rw[Int.toNat_natCast];exact zAp _ _ _
 refine⟨(e1.trans e2).trans e3,zBY (p:=zAU p xs xb n b d i0 i1) r2 h2 f2,Or.inr ⟨e3.zOi (e2.zOi pg),zDW (Ext.refl p) h0⟩,Or.inr ⟨e3.node nd,zDW e1 h1,?_,zC9 hn hB.1.1⟩,Or.inr ⟨rt,zDW (e1.trans e2) h2,?_,zC9 hn hB.1.1⟩⟩
 ·rw[e3.at nd.1];exact ns
 ·rw[Int.toNat_natCast];exact zAp _ _ _
theorem zKQ{p:zI}{xs xb b:Int}{n:Nat}{d:ByteArray}{i0 i1 i2:Nat}(hT:qR p xs xb)(hn:n<64)(hB:qW xb b)(hd:d.size=16)(h0:qk p.n p.s i0)(h1:qk p.n (qg p b d i0).s i1)(h2:qk p.n (zAU p xs xb n b d i0 i1).s i2) :
  ((zFq p xs xb n b d i0 i1 i2).s (i0:Int).toNat).data=d:=by
 have e2:Ext (qg p b d i0) (zAU p xs xb n b d i0 i1):=Ext.set h1.2.1 _;have e3:Ext (zAU p xs xb n b d i0 i1) (zFq p xs xb n b d i0 i1 i2):=Ext.set h2.2.1 _;have f0:ym p (yx b d):=zAV hB.1 hd;have pg:zA8 (qg p b d i0) (i0:Int) b:=zH5 hT.1 h0 f0 rfl;rw[(e2.trans e3).at pg.1,Int.toNat_natCast,show(qg p b d i0).s i0=yx b d from zAp _ _ _];rfl
theorem zJG{p q:zI}{xs xb x y b:Int}{n:Nat}(hT:qR p xs xb)(hn:n<64)(hB:qW xb b)
  (hl:(yK (qC p xs xb n 1 0) (qB p xs xb n 1 0)/\q=p/\x=0/\y=0)\/(¬yK (qC p xs xb n 1 0) (qB p xs xb n 1 0)/\∃i:Nat,qk p.n p.s i/\q=qj p i (qO (qC p xs xb n 1 0) (qB p xs xb n 1 0) b)/\x=(i:Int)/\y=b)) :
  (yK (qC p xs xb n 0 x) (qB p xs xb n 0 y)->New p xs xb n b q 0 0 x y 0 0)/\
  (¬yK (qC p xs xb n 0 x) (qB p xs xb n 0 y)->∀i,qk q.n q.s i->New p xs xb n b (qj q i (qO (qC p xs xb n 0 x) (qB p xs xb n 0 y) b)) (i:Int) b x y 0 0):=by
 have fl:ym p (qO (qC p xs xb n 1 0) (qB p xs xb n 1 0) b):=zAG hT hn (by omega) hB (fun s t h=>h) (Or.inl ⟨rfl,rfl⟩);have mid:Ext p q/\zt q/\((Nil x y/\yK (qC p xs xb n 1 0) (qB p xs xb n 1 0))\/(zAX q x y/\zHZ p x/\q.s x.toNat=qO (qC p xs xb n 1 0) (qB p xs xb n 1 0) b/\¬yK (qC p xs xb n 1 0) (qB p xs xb n 1 0)))/\ym q (qO (qC p xs xb n 0 x) (qB p xs xb n 0 y) b):=by
  rcases hl with⟨h1,rfl,rfl,rfl⟩ | ⟨h1,i,hi,rfl,rfl,rfl⟩
  ·exact⟨Ext.refl _,hT.1,Or.inl ⟨⟨rfl,rfl⟩,h1⟩,zAG hT hn (by omega) hB (fun s t h=>h) (Or.inl ⟨rfl,rfl⟩)⟩
  ·have e1:Ext p (qj p i (qO (qC p xs xb n 1 0) (qB p xs xb n 1 0) y)):=Ext.set hi.2.1 _;have nd:=zD1 (s:=qO (qC p xs xb n 1 0) (qB p xs xb n 1 0) y) hT.1 hi fl (by show 0<8;omega);refine⟨e1,zBY hT.1 hi fl,Or.inr ⟨nd,zDW (Ext.refl p) hi,?_,h1⟩,zAG hT hn (by omega) hB (fun s t h=>e1.points h) (Or.inr ⟨nd.1,Int.le_refl _⟩)⟩;rw[Int.toNat_natCast];exact zAp _ _ _
 obtain⟨e1,r1,m1,f1⟩:=mid;refine⟨fun hA=>⟨e1,r1,Or.inl ⟨rfl,rfl⟩,m1,Or.inl ⟨⟨rfl,rfl⟩,hA⟩⟩,fun hA i hi=>?_⟩;have e2:Ext q (qj q i (qO (qC p xs xb n 0 x) (qB p xs xb n 0 y) b)):=Ext.set hi.2.1 _;have rt:=zD1 (s:=qO (qC p xs xb n 0 x) (qB p xs xb n 0 y) b) r1 hi f1 (by show 0<8;omega);refine⟨e1.trans e2,zBY r1 hi f1,Or.inl ⟨rfl,rfl⟩,m1.imp id (fun h=>⟨e2.node h.1,h.2.1,by rw[e2.at h.1.1];exact h.2.2.1,h.2.2.2⟩),Or.inr ⟨rt,zDW e1 hi,?_,hA⟩⟩;rw[Int.toNat_natCast];exact zAp _ _ _
theorem zLj{p:zI}{xs xb zOi b:Int}{d:ByteArray}(hc:(yg p xs xb zOi d b).code=0) :
  qR p xs xb/\∃n:Nat,n<64/\zOi=(n:Int)/\d.size=16/\(yg p xs xb zOi d b).old=yj p xs xb n 3/\∃ms mb gs gb,New p xs xb n b (yg p xs xb zOi d b).zOa (yg p xs xb zOi d b).rs (yg p xs xb zOi d b).rb ms mb gs gb/\¬Nil gs gb/\((yg p xs xb zOi d b).zOa.s gs.toNat).data=d:=by
 by_cases h0:8000<d.size
 ·rw[zHL h0]at hc;exact absurd hc (by decide)
 by_cases h1:qR p xs xb/\qW xb b
 ·by_cases h2:zAA zOi/\d.size=16
  ·obtain⟨n,rfl⟩:=Int.eq_ofNat_of_zero_le h2.1.1;have hn:n<64:=(by have:=h2.1.2;omega);by_cases hr:roomN p.s p.n<3
   ·rw[zHJ h1.1 hn h1.2 h2.2 hr]at hc;exact absurd hc (by decide)
   ·obtain⟨i0,q0⟩:=ye (f:=p.s) (n:=p.n) (by omega);have l0:roomN (qg p b d i0).s p.n+1=roomN p.s p.n:=zB4 (s:=yx b d) q0 (zAV h1.2.1 h2.2);obtain⟨i1,q1⟩:=ye (f:=(qg p b d i0).s) (n:=p.n) (by omega);have l1:roomN (zAU p xs xb n b d i0 i1).s p.n+1=roomN (qg p b d i0).s p.n:=zB4 (p:=qg p b d i0) q1 (zBD h1.1 hn h1.2 q0);obtain⟨i2,q2⟩:=ye (f:=(zAU p xs xb n b d i0 i1).s) (n:=p.n) (by omega);rw[zJl h1.1 hn h1.2 h2.2 q0 q1 q2];refine⟨h1.1,n,hn,rfl,h2.2,rfl,(i1:Int),b,(i0:Int),b,zLN h1.1 hn h1.2 h2.2 q0 q1 q2,fun hx=>?_,zKQ h1.1 hn h1.2 h2.2 q0 q1 q2⟩;have:=h1.2.1.1;have:=hx.2;omega
  ·rw[zDp h0 h1 h2]at hc;exact absurd hc (by decide)
 ·rw[zEb h0 h1]at hc;exact absurd hc (by decide)
theorem zM0{p:zI}{xs xb zOi b:Int}(hc:(zA5 p xs xb zOi b).code=0) :
  qR p xs xb/\∃n:Nat,n<64/\zOi=(n:Int)/\(zA5 p xs xb zOi b).old=yj p xs xb n 3/\∃ms mb,New p xs xb n b (zA5 p xs xb zOi b).zOa (zA5 p xs xb zOi b).rs (zA5 p xs xb zOi b).rb ms mb 0 0:=by
 by_cases h1:qR p xs xb/\qW xb b
 ·by_cases h2:zAA zOi
  ·obtain⟨n,rfl⟩:=Int.eq_ofNat_of_zero_le h2.1;have hn:n<64:=(by have:=h2.2;omega);by_cases h3:Nil (zz p xs xb n) (qD p xs xb n)
   ·rw[zH7 h1 h2 h3]at hc;exact absurd hc (by decide)
   ·have eL:zA5 p xs xb (n:Int) b=zBw p xs xb n b ⟨p,0,0,0⟩:=zJh h1 h2 h3;refine⟨h1.1,n,hn,rfl,?_⟩;rw[eL]at hc ⊢;have zOo:∀(q:zI) (x y:Int),layS p xs xb n b ⟨p,0,0,0⟩ 1=⟨q,x,y,0⟩->zt q->ym q (qO (qC p xs xb n 0 x) (qB p xs xb n 0 y) b)->((yK (qC p xs xb n 0 x) (qB p xs xb n 0 y)->New p xs xb n b q 0 0 x y 0 0)/\(¬yK (qC p xs xb n 0 x) (qB p xs xb n 0 y)->∀i,qk q.n q.s i->New p xs xb n b (qj q i (qO (qC p xs xb n 0 x) (qB p xs xb n 0 y) b)) (i:Int) b x y 0 0))->
      (zBw p xs xb n b ⟨p,0,0,0⟩).old=yj p xs xb n 3/\∃ms mb,New p xs xb n b (zBw p xs xb n b ⟨p,0,0,0⟩).zOa (zBw p xs xb n b ⟨p,0,0,0⟩).rs (zBw p xs xb n b ⟨p,0,0,0⟩).rb ms mb 0 0:=fun q x y hL hR hF hN=>by
     by_cases hA:yK (qC p xs xb n 0 x) (qB p xs xb n 0 y)
     ·rw[zHE hL hA];exact⟨rfl,x,y,hN.1 hA⟩
     ·by_cases r0:roomN q.s q.n=0
      ·rw[zFa hL hA hR hF (zBZ r0)]at hc;exact absurd hc (by decide)
      ·obtain⟨i,hi⟩:=ye (f:=q.s) (n:=q.n) (by omega);rw[zHH hL hA hR hF hi];exact⟨rfl,x,y,hN.2 hA i hi⟩
    have fl:ym p (qO (qC p xs xb n 1 0) (qB p xs xb n 1 0) b):=zAG h1.1 hn (by omega) h1.2 (fun s t h=>h) (Or.inl ⟨rfl,rfl⟩);by_cases hA:yK (qC p xs xb n 1 0) (qB p xs xb n 1 0)
    ·exact zOo p 0 0 (zOB hA) h1.1.1 (zAG h1.1 hn (by omega) h1.2 (fun s t h=>h) (Or.inl ⟨rfl,rfl⟩)) (zJG h1.1 hn h1.2 (Or.inl ⟨hA,rfl,rfl,rfl⟩))
    ·by_cases r0:roomN p.s p.n=0
     ·rw[zJD h1.1 hn h1.2 hA (zBZ r0)]at hc;exact absurd hc (by decide)
     ·obtain⟨i,hi⟩:=ye (f:=p.s) (n:=p.n) (by omega);exact zOo _ (i:Int) b (zOC h1.1 hn h1.2 hA hi) (zBY h1.1.1 hi fl) (zAG h1.1 hn (by omega) h1.2 (fun s t h=>zBX hi.2.1 h) (Or.inr ⟨zBV (s:=qO (qC p xs xb n 1 0) (qB p xs xb n 1 0) b) hi h1.2.1.1,Int.le_refl _⟩)) (zJG h1.1 hn h1.2 (Or.inr ⟨hA,i,hi,rfl,rfl,rfl⟩))
  ·rw[zHF h1 h2]at hc;exact absurd hc (by decide)
 ·rw[zFZ h1]at hc;exact absurd hc (by decide)
theorem zJB(p:zI)(xs xb:Int)(n:Nat)(b:Int)(o:zFB):qA (zBw p xs xb n b o).zOa<=qA o.zOa+16/\(zBw p xs xb n b o).old.length<=3:=by
 have h2:=zHm p xs xb n b o 2;have h3:(yj p xs xb n 3).length<=3:=zAv _ _ 3;unfold zBw;split
 ·exact⟨Nat.zero_le _,Nat.zero_le _⟩
 ·split
  ·exact⟨Nat.zero_le _,Nat.zero_le _⟩
  ·exact⟨by show qA (layS p xs xb n b o 2).zOa<=_;omega,h3⟩
theorem zFw(p:zI)(xs xb zOi:Int)(d:ByteArray)(b:Int):qA (yg p xs xb zOi d b).zOa<=qA p+40/\(yg p xs xb zOi d b).old.length<=3:=by
 unfold yg;split
 ·exact⟨Nat.zero_le _,Nat.zero_le _⟩
 ·split
  ·split
   ·rename_i hd
    split
    ·have h1:=zJB p xs xb zOi.toNat b ⟨(zAO p (yx b d)).zOa,(zAO p (yx b d)).ps,(zAO p (yx b d)).pb,0⟩;have h2:=zHB p (yx b d);have h3:zAm (yx b d)=16:=(by show 0+d.size=16;rw[hd.2]);exact⟨by have h4:=h1.1;simp only at h4;omega,h1.2⟩
    ·exact⟨Nat.zero_le _,Nat.zero_le _⟩
   ·exact⟨Nat.zero_le _,Nat.zero_le _⟩
  ·exact⟨Nat.zero_le _,Nat.zero_le _⟩
theorem zHG(p:zI)(xs xb zOi b:Int):qA (zA5 p xs xb zOi b).zOa<=qA p+40/\(zA5 p xs xb zOi b).old.length<=3:=by
 unfold zA5;split
 ·split
  ·split
   ·exact⟨Nat.zero_le _,Nat.zero_le _⟩
   ·have h1:=zJB p xs xb zOi.toNat b ⟨p,0,0,0⟩;exact⟨by have h4:=h1.1;simp only at h4;omega,h1.2⟩
  ·exact⟨Nat.zero_le _,Nat.zero_le _⟩
 ·exact⟨Nat.zero_le _,Nat.zero_le _⟩
def zDM(c:Int):Prop:=c=0\/∃i,i<7/\c=zEO i
theorem zH4(p:zI)(s:zO):zDM (zAO p s).code:=by
 unfold zAO;split
 ·split
  ·exact Or.inl rfl
  ·exact Or.inr ⟨4,by omega,rfl⟩
 ·exact Or.inr ⟨0,by omega,rfl⟩
theorem zHl(p:zI)(xs xb:Int)(n:Nat)(b:Int)(o:zFB)(h:zDM o.code)(L:Nat):zDM (layS p xs xb n b o L).code:=by
 cases L with
 | zero=>exact h
 | succ L=>
  unfold layS;unfold zHn zJH;split
  ·exact Or.inl rfl
  ·exact zH4 _ _
theorem zHk(p:zI)(xs xb:Int)(n:Nat)(b:Int)(o:zFB)(h:zDM o.code):zDM (zBw p xs xb n b o).code:=by
 unfold zBw;split
 ·exact zHl p xs xb n b o h 1
 ·split
  ·exact zHl p xs xb n b o h 2
  ·exact Or.inl rfl
theorem zKP(p:zI)(xs xb zOi:Int)(d:ByteArray)(b:Int):zDM (yg p xs xb zOi d b).code:=by
 unfold yg;split
 ·exact Or.inr ⟨1,by omega,rfl⟩
 ·split
  ·split
   ·split
    ·exact zHk _ _ _ _ _ _ (Or.inl rfl)
    ·exact zH4 _ _
   ·exact Or.inr ⟨6,by omega,rfl⟩
  ·exact Or.inr ⟨0,by omega,rfl⟩
theorem zLg(p:zI)(xs xb zOi b:Int):zDM (zA5 p xs xb zOi b).code:=by
 unfold zA5;split
 ·split
  ·split
   ·exact Or.inr ⟨2,by omega,rfl⟩
   ·exact zHk _ _ _ _ _ _ (Or.inl rfl)
  ·exact Or.inr ⟨6,by omega,rfl⟩
 ·exact Or.inr ⟨0,by omega,rfl⟩
theorem zLO{l:List (Int×Int)}(h:l.Nodup)(hi:∀x,x∈l->∀y,y∈l->x.1=y.1->x=y):(l.map Prod.fst).Nodup:=by
 unfold List.Nodup at h ⊢;rw[List.pairwise_map];exact h.imp_of_mem (fun {a b} ha hb hne e=>hne (hi a ha b hb e))
theorem New.hold{p q:zI}{xs xb b ys yb ms mb gs gb:Int}{n:Nat}(h:New p xs xb n b q ys yb ms mb gs gb)(hT:qR p xs xb)(hn:n<64):zAt q (yj p xs xb n 3):=by
 have hk:=zAt.tree hT.1 hT.2;refine⟨h.right,fun x hx=>?_,zLO (zLP hT hn) (fun x hx y hy e=>?_)⟩
 ·obtain⟨h1,h2⟩:=hk.2.1 x (zKG hT hn hx);exact⟨h.ext.points h1,fun hh=>h2 ((h.ext.has x.1).1 hh)⟩
 ·have h1:=(hk.2.1 x (zKG hT hn hx)).1.2.2.2;have h2:=(hk.2.1 y (zKG hT hn hy)).1.2.2.2;have e2:x.2=y.2:=(by rw[<-h1,<-h2,e]);exact Prod.ext e e2
def zHc(y:zCS):Prop:=zDM y.code/\y.old.length<=3/\(y.code=0->zAt y.zOa y.old)
theorem zHK(p:zI)(xs xb zOi:Int)(d:ByteArray)(b:Int):zHc (yg p xs xb zOi d b):=⟨zKP _ _ _ _ _ _,(zFw _ _ _ _ _ _).2,fun hc=>by
 obtain⟨hT,n,hn,-,-,ho,ms,mb,gs,gb,hN,-,-⟩:=zLj hc;rw[ho];exact hN.hold hT hn⟩
theorem zH6(p:zI)(xs xb zOi b:Int):zHc (zA5 p xs xb zOi b):=⟨zLg _ _ _ _ _,(zHG _ _ _ _ _).2,fun hc=>by
 obtain⟨hT,n,hn,-,ho,ms,mb,hN⟩:=zM0 hc;rw[ho];exact hN.hold hT hn⟩
noncomputable def zHS(W:zH)(k:Nat)(y:zCS):List (Int×Int):=yh (zg y.old) (zj y.old) (zN W (W.zOd k).zOg).time y.old.length
noncomputable def zNO(W:zH)(k:Nat)(y:zCS):List (Int×Int):=zDg (zg y.old) (zj y.old) (zN W (W.zOd k).zOg).time y.old.length
noncomputable def zFz(W:zH)(k:Nat)(y:zCS):List (Int×Int):=yr (W.zOd k).dn (W.zOd k).ds (W.zOd k).db ++ zNO W k y
noncomputable def zES(W:zH)(k:Nat)(y:zCS):zu:={W.zOd k with rs:=y.rs,rb:=y.rb,dn:=(zFz W k y).length,ds:=zg (zFz W k y),db:=zj (zFz W k y)}
noncomputable def zNz(W:zH)(k:Nat)(y:zCS):zH:={W with zOa:=zW y.zOa (zHS W k y),zOd:=fun j=>if j=k then zES W k y else W.zOd j}
open Classical in
noncomputable def zC7(W:zH)(k:Nat)(y:zCS):zCT:=if y.code=0 then⟨zNz W k y,0,((zHS W k y).length:Int),0⟩else yB y.code
def zAP(W:zH)(name:ByteArray)(zOi:Int)(w:World)(e:Ending)(w':World):Prop:=∃r o,zCg W (∃i,i<1/\8000<((fun (_:Nat)=>name) i).size) (∃i,i<0/\¬qV ((fun _=>⟨#[]⟩) i)) 1 (fun i=>match i with  | _=>zx W name) (fun i=>match i with  | _=>2) r/\(r=none->∃k,zAN W name k/\o=zC7 W k (zA5 W.zOa (W.zOd k).rs (W.zOd k).rb zOi W.time))/\zw (zHU r o) w e w'
theorem zAP.ill{W:zH}{name:ByteArray}{zOi:Int}{w w':World}{e:Ending}{i:Nat}(hr:zCg W (∃i,i<1/\8000<((fun (_:Nat)=>name) i).size) (∃i,i<0/\¬qV ((fun _=>⟨#[]⟩) i)) 1 (fun i=>match i with  | _=>zx W name) (fun i=>match i with  | _=>2) (some i))(h:zw (yB (zEO i)) w e w'):zAP W name zOi w e w':=⟨some i,yB 0,hr,fun e=>(by cases e),h⟩
def yU(W:zH)(name:ByteArray)(zOi:Int)(data:ByteArray)(w:World)(e:Ending)(w':World):Prop:=∃r o,zCg W (∃i,i<2/\8000<((fun i=>match i with | 0=>name | _=>data) i).size) (∃i,i<0/\¬qV ((fun _=>⟨#[]⟩) i)) 1 (fun i=>match i with  | _=>zx W name) (fun i=>match i with  | _=>2) r/\(r=none->∃k,zAN W name k/\o=zC7 W k (yg W.zOa (W.zOd k).rs (W.zOd k).rb zOi data W.time))/\zw (zHU r o) w e w'
theorem yU.ill{W:zH}{name:ByteArray}{zOi:Int}{data:ByteArray}{w w':World}{e:Ending}{i:Nat}(hr:zCg W (∃i,i<2/\8000<((fun i=>match i with | 0=>name | _=>data) i).size) (∃i,i<0/\¬qV ((fun _=>⟨#[]⟩) i)) 1 (fun i=>match i with  | _=>zx W name) (fun i=>match i with  | _=>2) (some i))(h:zw (yB (zEO i)) w e w'):yU W name zOi data w e w':=⟨some i,yB 0,hr,fun e=>(by cases e),h⟩
def zDQ(W:zH):Prop:=W.pn<20/\W.time<900000/\W.next<900000
theorem zR(c:Int)(w:World):Calls Tryz.prog 41 #[.int .i64 c] w fun e w'=>e = .returned (.agg #[.slice none 0 0,.slice none 0 0,.int .i64 0,.int .i64 0,.slice none 0 0,.slice none 0 0,.int .i64 0,.int .i64 0,.int .i64 c])/\Below w.heap.size w w':=by
 have ha:=zC w (.cells #[.slice none 0 0,.slice none 0 0,.int .i64 0,.int .i64 0,.slice none 0 0,.slice none 0 0,.int .i64 0,.int .i64 0,.int .i64 c] 71);have aA:=zBg.zOY w (.slice none 0 0) (.slice none 0 0) (.int .i64 0) (.int .i64 0) (.slice none 0 0) (.slice none 0 0) (.int .i64 0) (.int .i64 0) (.int .i64 c) 71;go_enter Tryz.func41,Tryz.ntmps41;go_wp2_with fail;refine bodyPost_ret (v:=.agg #[.slice none 0 0,.slice none 0 0,.int .i64 0,.int .i64 0,.slice none 0 0,.slice none 0 0,.int .i64 0,.int .i64 0,.int .i64 c]) (by simp[results,Tryz.results41,go_sem,aA.1.1,aA.2.1.1,aA.2.2.1.1,aA.2.2.2.1.1,aA.2.2.2.2.1.1,aA.2.2.2.2.2.1.1,aA.2.2.2.2.2.2.1.1,aA.2.2.2.2.2.2.2.1.1,aA.2.2.2.2.2.2.2.2.1]) rfl ?_;exact⟨rfl,ha⟩
theorem zEs(v0 v1 v2 v3:Value)(lo hi:Nat)(W:zH)(set name:ByteArray)(w:World)(h:zr w lo hi v0 v1 v2 v3 W) :
  Calls Tryz.prog 51 #[qT v0 v1 v2 v3 W,.string set,.string name] w fun e w'=>zK (∃i,i<W.pn/\(W.zOb i).set=set/\(W.zOb i).name=name) e/\Below w.heap.size w w':=by
 have Hp:=zB h.zOb;obtain⟨m1,a,c,rfl,mc,_⟩:=id h.zOb;unfold maxLen at m1;clear h;have ha:=zC w (.cells #[v0,v1,.int .i64 W.time,.int .i64 W.next,v2,.slice a W.pn c] 40);have HB:=zB (za.zOY w v0 v1 (.int .i64 W.time) (.int .i64 W.next) v2 (.slice a W.pn c) 40);go_enter Tryz.func51,Tryz.ntmps51;go_wp2
 go_loopw [7] (fun i wr=>∃k:Nat,k<=W.pn/\i = .int .i64 k/\(∀j,j<k->¬((W.zOb j).set=set/\(W.zOb j).name=name))/\za wr w.heap.size v0 v1 (.int .i64 W.time) (.int .i64 W.next) v2 (.slice a W.pn c)/\Below w.heap.size w wr) (fun i _=>W.pn - (intOf i).toNat)
 case atStart=>exact⟨0,Nat.zero_le _,rfl,fun j hj=>absurd hj (Nat.not_lt_zero _),HB.out,ha⟩
 case round=>
  obtain⟨k,hk,rfl,bA,hX,hb⟩:=hrel;have aA:=zB bA;have HX:=zB hX;clear bA hX;obtain⟨⟨x0,x1⟩,⟨x2,x3⟩,⟨x4,x5⟩,⟨x6,x7⟩,⟨x8,x9⟩,⟨dA,eA⟩⟩:=HX.out;by_cases hlt:k<W.pn
  ·have cA:(k:Int)<(W.pn:Int):=(by omega);obtain⟨b,off,vd,rfl,hs⟩:=(Hp.out.zOU hb).cells hlt;have q1:=hs.c1;have q2:=hs.c2;clear hs;by_cases he:(W.zOb k).set=set
   ·have H:=zB he;rw[he]at q2;clear he;by_cases he:(W.zOb k).name=name
    ·have H2:=zB he;rw[he]at q1;clear he;go_wp2;go_ret;exact⟨zK.yes ⟨k,hlt,H.out,H2.out⟩,hb⟩
    ·have H2:=zB he;have e0:((W.zOb k).name.toList == name.toList)=false:=zBJ he;clear he;go_wp2;go_roundw
     case rel=>
      refine⟨k+1,by omega,by go_num,?_,HX.out,hb⟩;intro j hj;by_cases e:j=k
      ·subst e;exact fun h=>H2.out h.2
      ·exact aA.out j (by omega)
     case measure=>simp[intOf];omega
   ·have H:=zB he;have e0:((W.zOb k).set.toList == set.toList)=false:=zBJ he;clear he;go_wp2;go_roundw
    case rel=>
     refine⟨k+1,by omega,by go_num,?_,HX.out,hb⟩;intro j hj;by_cases e:j=k
     ·subst e;exact fun h=>H.out h.1
     ·exact aA.out j (by omega)
    case measure=>simp[intOf];omega
  ·obtain rfl:k=W.pn:=(by omega);go_wp2;go_ret;exact⟨zK.no (fun ⟨i,hi,h⟩=>aA.out i hi h),hb⟩
theorem zHu{w:World}{k:Nat}{v:Value}{kv:Nat->Value}{dn:Nat->Nat}(hk:zAb w 99 2 v (dn k))(h:∀i,i<k->zAb w 99 2 (kv i) (dn i))(a:Addr)(u:Value):∀i,i<k+1->zAb (w.setCell a u) 99 2 ((fun j=>if j=k then v else kv j) i) (dn i):=fun i hi=>by
 by_cases e:i=k
 ·subst e;simp only[if_true];exact hk.set a u
 ·simp only[if_neg e];exact(h i (by omega)).set a u
theorem zCK(w:World)(lo hi:Nat)(a:Option Addr)(n c:Nat)(f g:Nat->Int)(h:zp w lo hi (.slice a n c) n f g)(hn:n<=1048576)(ty:TypeId):∃a' c' kb w1,
  (Builtin.append_ #[100,100] ty #[.slice (some ⟨w.heap.size,0,none⟩) 0 0,.slice a n c]).run Tryz.prog (w.alloc (.cells #[] 99)) = .ok (.slice a' n c') w1/\ze w1 kb (.slice a' n c') n f g/\(0<n->w.heap.size<=kb/\kb<w1.heap.size)/\Below w.heap.size w w1/\zAb w1 99 2 (.slice a' n c') n:=by
 obtain⟨m1,a0,c0,hv,mc,g1⟩:=h;simp only[Value.slice.injEq,true_and]at hv;obtain⟨rfl,rfl⟩:=hv;obtain⟨i0,eA,fA⟩:=Option.map_eq_some_iff.1 zDa;simp only[Prod.mk.injEq]at fA;obtain⟨hz,hs,iA⟩:=fA;have ht:Tryz.prog.underlying 100=some (.slice 99):=by kernel_rfl
 have aA:(w.alloc (.cells #[] 99)).ownsRow w.heap.size 99 2 (.slice (some ⟨w.heap.size,0,none⟩) 0 0) 0 []:=World.ownsRow_made w #[] 0 (Nat.le_refl _) (Nat.zero_le _) (by simp);have dA:=zC w (.cells #[] 99);by_cases h0:0<n
 ·obtain⟨b,off,rfl,_,_,hc⟩:=g1 h0;have cA:∀j,(⟨b,off,none⟩:Addr).add j=⟨b,off+j,none⟩:=fun j=>by unfold Addr.add;split<;>simp_all
  obtain⟨v',w1,hr,r1,r2,_⟩:=run_append_own (P:=Tryz.prog) (w.alloc (.cells #[] 99)) w.heap.size 100 ty 99 i0 (.agg #[.int .i64 0,.int .i64 0]) 2 16 ht eA hz hs iA rfl (by decide) _ 0 [] aA ⟨b,off,none⟩ n c (kc f g n) (zER f g n) (fun j u hj=>by
    have:=zGa hc j u hj;rw[cA]at this ⊢;exact(dA.cell (zD this)).trans this) (zJ3 f g n) (by unfold maxLen;omega) (by omega) (by simp)
  have bA:w1.ownsRow w.heap.size 99 2 v' n (kc f g n):=(by simpa using r1);obtain⟨kb,hp,hk⟩:=zDB m1 bA;obtain⟨_,a',c',rfl,_⟩:=id hp;have gA:Below w.heap.size w w1:=dA.grown r2 (by simp) (fun q hq=>by have:=aA.lt q hq;omega);exact⟨a',c',kb,w1,hr,hp,hk,gA,zDD bA (fun e=>by omega)⟩
 ·obtain rfl:n=0:=(by omega);have hr:=yl (P:=Tryz.prog) (w:=w.alloc (.cells #[] 99)) w.heap.size 100 ty 99 i0 2 c a ht eA _ 0 [] aA;exact⟨_,0,0,_,hr,⟨Nat.zero_le _,_,0,rfl,Nat.le_refl _,fun h=>absurd h (Nat.lt_irrefl _)⟩,fun h=>absurd h (Nat.lt_irrefl _),dA,Or.inl ⟨rfl,_,rfl⟩⟩
end Go.Proofs.YtgabgheflgjgiaaGreatDoor
