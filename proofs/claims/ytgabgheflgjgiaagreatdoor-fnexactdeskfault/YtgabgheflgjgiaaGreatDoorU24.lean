/- A part of the proof. -/
import Derived.Test.YtgabgheflgjgiaaGreatDoorU23
set_option linter.unusedVariables false
set_option maxRecDepth 20000
set_option maxHeartbeats 4000000
namespace Go.Proofs.YtgabgheflgjgiaaGreatDoor
open Go.RowKit
theorem zDa{p:zI}(hR:zt p){i:Nat}(h:qk p.n p.s i):¬Has p.hn p.h (i:Int):=by
 rintro⟨j,hj,e⟩;have h3:=(hR.2.2 j hj).2.2.1;rw[e,Int.toNat_natCast]at h3;exact h3 h.2.1
theorem zIH{p:zI}{i:Nat}{s:zO}(hR:zt p)(h:qk p.n p.s i)(hs:ym p s)(hk:s.kn=0):zA9 (qj p i s) (i:Int) s.zO1:=
 ⟨zBX h hs.1.1,by rw[Int.toNat_natCast,zAq];exact hk,zDa hR h⟩
theorem zD7{p:zI}{i:Nat}{s:zO}(hR:zt p)(h:qk p.n p.s i)(hs:ym p s)(hk:0<s.kn):zAY (qj p i s) (i:Int) s.zO1:=
 ⟨zBX h hs.1.1,by rw[Int.toNat_natCast,zAq];exact hk,zDa hR h⟩
theorem zDc{p q:zI}(h:Ext p q){i:Nat}(hi:qk q.n q.s i):zHl p (i:Int):=by
 unfold zHl;rw[Int.toNat_natCast];exact h.free hi.2.1
theorem zLe{p:zI}{xs xb b:Int}{n:Nat}{d:ByteArray}{i0 i1 i2:Nat}(hT:qR p xs xb)(hn:n<64)(hB:qW xb b)(hd:d.size=16)(h0:qk p.n p.s i0)(h1:qk p.n (qg p b d i0).s i1)(h2:qk p.n (zAV p xs xb n b d i0 i1).s i2) :
  New p xs xb n b (zF0 p xs xb n b d i0 i1 i2) (i2:Int) b (i1:Int) b (i0:Int) b:=by
 have e1:Ext p (qg p b d i0):=Ext.set h0.2.1 _;have e2:Ext (qg p b d i0) (zAV p xs xb n b d i0 i1):=Ext.set h1.2.1 _;have e3:Ext (zAV p xs xb n b d i0 i1) (zF0 p xs xb n b d i0 i1 i2):=Ext.set h2.2.1 _;have r1:=zDE (d:=d) hT hB hd h0;have r2:=zEb (n:=n) hT hn hB hd h0 h1;have f0:ym p (yx b d):=zAW hB.1 hd;have f1:=zBE (n:=n) (d:=d) hT hn hB h0;have f2:=zDt (d:=d) hT hn hB h0 h1;have pg:zA9 (qg p b d i0) (i0:Int) b:=zIH hT.1 h0 f0 rfl;have nd:zAY (zAV p xs xb n b d i0 i1) (i1:Int) b:=zD7 (p:=qg p b d i0) r1 h1 f1 (by show 0<8;omega);have rt:zAY (zF0 p xs xb n b d i0 i1 i2) (i2:Int) b:=zD7 (p:=zAV p xs xb n b d i0 i1) r2 h2 f2 (by show 0<8;omega);have ns:(zAV p xs xb n b d i0 i1).s (i1:Int).toNat=qO (qC p xs xb n 1 (i0:Int)) (qB p xs xb n 1 b) b:=by rw[Int.toNat_natCast];exact zAq _ _ _
 refine⟨(e1.trans e2).trans e3,zBa (p:=zAV p xs xb n b d i0 i1) r2 h2 f2,Or.inr ⟨e3.zO2 (e2.zO2 pg),zDc (Ext.refl p) h0⟩,Or.inr ⟨e3.node nd,zDc e1 h1,?_,zDD hn hB.1.1⟩,Or.inr ⟨rt,zDc (e1.trans e2) h2,?_,zDD hn hB.1.1⟩⟩
 ·rw[e3.at nd.1];exact ns
 ·rw[Int.toNat_natCast];exact zAq _ _ _
theorem zKf{p:zI}{xs xb b:Int}{n:Nat}{d:ByteArray}{i0 i1 i2:Nat}(hT:qR p xs xb)(hn:n<64)(hB:qW xb b)(hd:d.size=16)(h0:qk p.n p.s i0)(h1:qk p.n (qg p b d i0).s i1)(h2:qk p.n (zAV p xs xb n b d i0 i1).s i2) :
  ((zF0 p xs xb n b d i0 i1 i2).s (i0:Int).toNat).data=d:=by
 have e2:Ext (qg p b d i0) (zAV p xs xb n b d i0 i1):=Ext.set h1.2.1 _;have e3:Ext (zAV p xs xb n b d i0 i1) (zF0 p xs xb n b d i0 i1 i2):=Ext.set h2.2.1 _;have f0:ym p (yx b d):=zAW hB.1 hd;have pg:zA9 (qg p b d i0) (i0:Int) b:=zIH hT.1 h0 f0 rfl;rw[(e2.trans e3).at pg.1,Int.toNat_natCast,show(qg p b d i0).s i0=yx b d from zAq _ _ _];rfl
theorem zJT{p q:zI}{xs xb x y b:Int}{n:Nat}(hT:qR p xs xb)(hn:n<64)(hB:qW xb b)
  (hl:(yK (qC p xs xb n 1 0) (qB p xs xb n 1 0)/\q=p/\x=0/\y=0)\/(¬yK (qC p xs xb n 1 0) (qB p xs xb n 1 0)/\∃i:Nat,qk p.n p.s i/\q=qj p i (qO (qC p xs xb n 1 0) (qB p xs xb n 1 0) b)/\x=(i:Int)/\y=b)) :
  (yK (qC p xs xb n 0 x) (qB p xs xb n 0 y)->New p xs xb n b q 0 0 x y 0 0)/\
  (¬yK (qC p xs xb n 0 x) (qB p xs xb n 0 y)->∀i,qk q.n q.s i->New p xs xb n b (qj q i (qO (qC p xs xb n 0 x) (qB p xs xb n 0 y) b)) (i:Int) b x y 0 0):=by
 have fl:ym p (qO (qC p xs xb n 1 0) (qB p xs xb n 1 0) b):=zAH hT hn (by omega) hB (fun s t h=>h) (Or.inl ⟨rfl,rfl⟩);have mid:Ext p q/\zt q/\((Nil x y/\yK (qC p xs xb n 1 0) (qB p xs xb n 1 0))\/(zAY q x y/\zHl p x/\q.s x.toNat=qO (qC p xs xb n 1 0) (qB p xs xb n 1 0) b/\¬yK (qC p xs xb n 1 0) (qB p xs xb n 1 0)))/\ym q (qO (qC p xs xb n 0 x) (qB p xs xb n 0 y) b):=by
  rcases hl with⟨h1,rfl,rfl,rfl⟩ | ⟨h1,i,hi,rfl,rfl,rfl⟩
  ·exact⟨Ext.refl _,hT.1,Or.inl ⟨⟨rfl,rfl⟩,h1⟩,zAH hT hn (by omega) hB (fun s t h=>h) (Or.inl ⟨rfl,rfl⟩)⟩
  ·have e1:Ext p (qj p i (qO (qC p xs xb n 1 0) (qB p xs xb n 1 0) y)):=Ext.set hi.2.1 _;have nd:=zD7 (s:=qO (qC p xs xb n 1 0) (qB p xs xb n 1 0) y) hT.1 hi fl (by show 0<8;omega);refine⟨e1,zBa hT.1 hi fl,Or.inr ⟨nd,zDc (Ext.refl p) hi,?_,h1⟩,zAH hT hn (by omega) hB (fun s t h=>e1.points h) (Or.inr ⟨nd.1,Int.le_refl _⟩)⟩;rw[Int.toNat_natCast];exact zAq _ _ _
 obtain⟨e1,r1,m1,f1⟩:=mid;refine⟨fun hA=>⟨e1,r1,Or.inl ⟨rfl,rfl⟩,m1,Or.inl ⟨⟨rfl,rfl⟩,hA⟩⟩,fun hA i hi=>?_⟩;have e2:Ext q (qj q i (qO (qC p xs xb n 0 x) (qB p xs xb n 0 y) b)):=Ext.set hi.2.1 _;have rt:=zD7 (s:=qO (qC p xs xb n 0 x) (qB p xs xb n 0 y) b) r1 hi f1 (by show 0<8;omega);refine⟨e1.trans e2,zBa r1 hi f1,Or.inl ⟨rfl,rfl⟩,m1.imp id (fun h=>⟨e2.node h.1,h.2.1,by rw[e2.at h.1.1];exact h.2.2.1,h.2.2.2⟩),Or.inr ⟨rt,zDc e1 hi,?_,hA⟩⟩;rw[Int.toNat_natCast];exact zAq _ _ _
theorem zL0{p:zI}{xs xb zO2 b:Int}{d:ByteArray}(hc:(yg p xs xb zO2 d b).code=0) :
  qR p xs xb/\∃n:Nat,n<64/\zO2=(n:Int)/\d.size=16/\(yg p xs xb zO2 d b).old=yj p xs xb n 3/\∃ms mb gs gb,New p xs xb n b (yg p xs xb zO2 d b).zOv (yg p xs xb zO2 d b).rs (yg p xs xb zO2 d b).rb ms mb gs gb/\¬Nil gs gb/\((yg p xs xb zO2 d b).zOv.s gs.toNat).data=d:=by
 by_cases h0:8000<d.size
 ·rw[zHX h0]at hc;exact absurd hc (by decide)
 by_cases h1:qR p xs xb/\qW xb b
 ·by_cases h2:zAB zO2/\d.size=16
  ·obtain⟨n,rfl⟩:=Int.eq_ofNat_of_zero_le h2.1.1;have hn:n<64:=(by have:=h2.1.2;omega);by_cases hr:roomN p.s p.n<3
   ·rw[zHV h1.1 hn h1.2 h2.2 hr]at hc;exact absurd hc (by decide)
   ·obtain⟨i0,q0⟩:=ye (f:=p.s) (n:=p.n) (by omega);have l0:roomN (qg p b d i0).s p.n+1=roomN p.s p.n:=zB6 (s:=yx b d) q0 (zAW h1.2.1 h2.2);obtain⟨i1,q1⟩:=ye (f:=(qg p b d i0).s) (n:=p.n) (by omega);have l1:roomN (zAV p xs xb n b d i0 i1).s p.n+1=roomN (qg p b d i0).s p.n:=zB6 (p:=qg p b d i0) q1 (zBE h1.1 hn h1.2 q0);obtain⟨i2,q2⟩:=ye (f:=(zAV p xs xb n b d i0 i1).s) (n:=p.n) (by omega);rw[zJy h1.1 hn h1.2 h2.2 q0 q1 q2];refine⟨h1.1,n,hn,rfl,h2.2,rfl,(i1:Int),b,(i0:Int),b,zLe h1.1 hn h1.2 h2.2 q0 q1 q2,fun hx=>?_,zKf h1.1 hn h1.2 h2.2 q0 q1 q2⟩;have:=h1.2.1.1;have:=hx.2;omega
  ·rw[zDv h0 h1 h2]at hc;exact absurd hc (by decide)
 ·rw[zEj h0 h1]at hc;exact absurd hc (by decide)
theorem zNI{p:zI}{xs xb zO2 b:Int}(hc:(zA6 p xs xb zO2 b).code=0) :
  qR p xs xb/\∃n:Nat,n<64/\zO2=(n:Int)/\(zA6 p xs xb zO2 b).old=yj p xs xb n 3/\∃ms mb,New p xs xb n b (zA6 p xs xb zO2 b).zOv (zA6 p xs xb zO2 b).rs (zA6 p xs xb zO2 b).rb ms mb 0 0:=by
 by_cases h1:qR p xs xb/\qW xb b
 ·by_cases h2:zAB zO2
  ·obtain⟨n,rfl⟩:=Int.eq_ofNat_of_zero_le h2.1;have hn:n<64:=(by have:=h2.2;omega);by_cases h3:Nil (zz p xs xb n) (qD p xs xb n)
   ·rw[zIJ h1 h2 h3]at hc;exact absurd hc (by decide)
   ·have eL:zA6 p xs xb (n:Int) b=zBy p xs xb n b ⟨p,0,0,0⟩:=zJu h1 h2 h3;refine⟨h1.1,n,hn,rfl,?_⟩;rw[eL]at hc ⊢;have zO8:∀(q:zI) (x y:Int),layS p xs xb n b ⟨p,0,0,0⟩ 1=⟨q,x,y,0⟩->zt q->ym q (qO (qC p xs xb n 0 x) (qB p xs xb n 0 y) b)->((yK (qC p xs xb n 0 x) (qB p xs xb n 0 y)->New p xs xb n b q 0 0 x y 0 0)/\(¬yK (qC p xs xb n 0 x) (qB p xs xb n 0 y)->∀i,qk q.n q.s i->New p xs xb n b (qj q i (qO (qC p xs xb n 0 x) (qB p xs xb n 0 y) b)) (i:Int) b x y 0 0))->
      (zBy p xs xb n b ⟨p,0,0,0⟩).old=yj p xs xb n 3/\∃ms mb,New p xs xb n b (zBy p xs xb n b ⟨p,0,0,0⟩).zOv (zBy p xs xb n b ⟨p,0,0,0⟩).rs (zBy p xs xb n b ⟨p,0,0,0⟩).rb ms mb 0 0:=fun q x y hL hR hF hN=>by
     by_cases hA:yK (qC p xs xb n 0 x) (qB p xs xb n 0 y)
     ·rw[zHQ hL hA];exact⟨rfl,x,y,hN.1 hA⟩
     ·by_cases r0:roomN q.s q.n=0
      ·rw[zFj hL hA hR hF (zBb r0)]at hc;exact absurd hc (by decide)
      ·obtain⟨i,hi⟩:=ye (f:=q.s) (n:=q.n) (by omega);rw[zHT hL hA hR hF hi];exact⟨rfl,x,y,hN.2 hA i hi⟩
    have fl:ym p (qO (qC p xs xb n 1 0) (qB p xs xb n 1 0) b):=zAH h1.1 hn (by omega) h1.2 (fun s t h=>h) (Or.inl ⟨rfl,rfl⟩);by_cases hA:yK (qC p xs xb n 1 0) (qB p xs xb n 1 0)
    ·exact zO8 p 0 0 (zOV hA) h1.1.1 (zAH h1.1 hn (by omega) h1.2 (fun s t h=>h) (Or.inl ⟨rfl,rfl⟩)) (zJT h1.1 hn h1.2 (Or.inl ⟨hA,rfl,rfl,rfl⟩))
    ·by_cases r0:roomN p.s p.n=0
     ·rw[zJQ h1.1 hn h1.2 hA (zBb r0)]at hc;exact absurd hc (by decide)
     ·obtain⟨i,hi⟩:=ye (f:=p.s) (n:=p.n) (by omega);exact zO8 _ (i:Int) b (zOW h1.1 hn h1.2 hA hi) (zBa h1.1.1 hi fl) (zAH h1.1 hn (by omega) h1.2 (fun s t h=>zBZ hi.2.1 h) (Or.inr ⟨zBX (s:=qO (qC p xs xb n 1 0) (qB p xs xb n 1 0) b) hi h1.2.1.1,Int.le_refl _⟩)) (zJT h1.1 hn h1.2 (Or.inr ⟨hA,i,hi,rfl,rfl,rfl⟩))
  ·rw[zHR h1 h2]at hc;exact absurd hc (by decide)
 ·rw[zFi h1]at hc;exact absurd hc (by decide)
theorem zJO(p:zI)(xs xb:Int)(n:Nat)(b:Int)(o:zFJ):qA (zBy p xs xb n b o).zOv<=qA o.zOv+16/\(zBy p xs xb n b o).old.length<=3:=by
 have h2:=zHy p xs xb n b o 2;have h3:(yj p xs xb n 3).length<=3:=zAw _ _ 3;unfold zBy;split
 ·exact⟨Nat.zero_le _,Nat.zero_le _⟩
 ·split
  ·exact⟨Nat.zero_le _,Nat.zero_le _⟩
  ·exact⟨by show qA (layS p xs xb n b o 2).zOv<=_;omega,h3⟩
theorem zF6(p:zI)(xs xb zO2:Int)(d:ByteArray)(b:Int):qA (yg p xs xb zO2 d b).zOv<=qA p+40/\(yg p xs xb zO2 d b).old.length<=3:=by
 unfold yg;split
 ·exact⟨Nat.zero_le _,Nat.zero_le _⟩
 ·split
  ·split
   ·rename_i hd
    split
    ·have h1:=zJO p xs xb zO2.toNat b ⟨(zAP p (yx b d)).zOv,(zAP p (yx b d)).ps,(zAP p (yx b d)).pb,0⟩;have h2:=zHN p (yx b d);have h3:zAn (yx b d)=16:=(by show 0+d.size=16;rw[hd.2]);exact⟨by have h4:=h1.1;simp only at h4;omega,h1.2⟩
    ·exact⟨Nat.zero_le _,Nat.zero_le _⟩
   ·exact⟨Nat.zero_le _,Nat.zero_le _⟩
  ·exact⟨Nat.zero_le _,Nat.zero_le _⟩
theorem zHS(p:zI)(xs xb zO2 b:Int):qA (zA6 p xs xb zO2 b).zOv<=qA p+40/\(zA6 p xs xb zO2 b).old.length<=3:=by
 unfold zA6;split
 ·split
  ·split
   ·exact⟨Nat.zero_le _,Nat.zero_le _⟩
   ·have h1:=zJO p xs xb zO2.toNat b ⟨p,0,0,0⟩;exact⟨by have h4:=h1.1;simp only at h4;omega,h1.2⟩
  ·exact⟨Nat.zero_le _,Nat.zero_le _⟩
 ·exact⟨Nat.zero_le _,Nat.zero_le _⟩
def zDR(c:Int):Prop:=c=0\/∃i,i<7/\c=zEU i
theorem zIG(p:zI)(s:zO):zDR (zAP p s).code:=by
 unfold zAP;split
 ·split
  ·exact Or.inl rfl
  ·exact Or.inr ⟨4,by omega,rfl⟩
 ·exact Or.inr ⟨0,by omega,rfl⟩
theorem zHx(p:zI)(xs xb:Int)(n:Nat)(b:Int)(o:zFJ)(h:zDR o.code)(L:Nat):zDR (layS p xs xb n b o L).code:=by
 cases L with
 | zero=>exact h
 | succ L=>
  unfold layS;unfold zHz zJU;split
  ·exact Or.inl rfl
  ·exact zIG _ _
theorem zHw(p:zI)(xs xb:Int)(n:Nat)(b:Int)(o:zFJ)(h:zDR o.code):zDR (zBy p xs xb n b o).code:=by
 unfold zBy;split
 ·exact zHx p xs xb n b o h 1
 ·split
  ·exact zHx p xs xb n b o h 2
  ·exact Or.inl rfl
theorem zKe(p:zI)(xs xb zO2:Int)(d:ByteArray)(b:Int):zDR (yg p xs xb zO2 d b).code:=by
 unfold yg;split
 ·exact Or.inr ⟨1,by omega,rfl⟩
 ·split
  ·split
   ·split
    ·exact zHw _ _ _ _ _ _ (Or.inl rfl)
    ·exact zIG _ _
   ·exact Or.inr ⟨6,by omega,rfl⟩
  ·exact Or.inr ⟨0,by omega,rfl⟩
theorem zLx(p:zI)(xs xb zO2 b:Int):zDR (zA6 p xs xb zO2 b).code:=by
 unfold zA6;split
 ·split
  ·split
   ·exact Or.inr ⟨2,by omega,rfl⟩
   ·exact zHw _ _ _ _ _ _ (Or.inl rfl)
  ·exact Or.inr ⟨6,by omega,rfl⟩
 ·exact Or.inr ⟨0,by omega,rfl⟩
theorem zLf{l:List (Int×Int)}(h:l.Nodup)(hi:∀x,x∈l->∀y,y∈l->x.1=y.1->x=y):(l.map Prod.fst).Nodup:=by
 unfold List.Nodup at h ⊢;rw[List.pairwise_map];exact h.imp_of_mem (fun {a b} ha hb aA e=>aA (hi a ha b hb e))
theorem New.hold{p q:zI}{xs xb b ys yb ms mb gs gb:Int}{n:Nat}(h:New p xs xb n b q ys yb ms mb gs gb)(hT:qR p xs xb)(hn:n<64):zAu q (yj p xs xb n 3):=by
 have hk:=zAu.tree hT.1 hT.2;refine⟨h.right,fun x hx=>?_,zLf (zLg hT hn) (fun x hx y hy e=>?_)⟩
 ·obtain⟨h1,h2⟩:=hk.2.1 x (zKU hT hn hx);exact⟨h.ext.points h1,fun hh=>h2 ((h.ext.has x.1).1 hh)⟩
 ·have h1:=(hk.2.1 x (zKU hT hn hx)).1.2.2.2;have h2:=(hk.2.1 y (zKU hT hn hy)).1.2.2.2;have e2:x.2=y.2:=(by rw[<-h1,<-h2,e]);exact Prod.ext e e2
def zHo(y:zCV):Prop:=zDR y.code/\y.old.length<=3/\(y.code=0->zAu y.zOv y.old)
theorem zHW(p:zI)(xs xb zO2:Int)(d:ByteArray)(b:Int):zHo (yg p xs xb zO2 d b):=⟨zKe _ _ _ _ _ _,(zF6 _ _ _ _ _ _).2,fun hc=>by
 obtain⟨hT,n,hn,-,-,ho,ms,mb,gs,gb,hN,-,-⟩:=zL0 hc;rw[ho];exact hN.hold hT hn⟩
theorem zII(p:zI)(xs xb zO2 b:Int):zHo (zA6 p xs xb zO2 b):=⟨zLx _ _ _ _ _,(zHS _ _ _ _ _).2,fun hc=>by
 obtain⟨hT,n,hn,-,ho,ms,mb,hN⟩:=zNI hc;rw[ho];exact hN.hold hT hn⟩
noncomputable def zHe(W:zH)(k:Nat)(y:zCV):List (Int×Int):=yh (zg y.old) (zj y.old) (zN W (W.zOy k).zO0).time y.old.length
noncomputable def zNh(W:zH)(k:Nat)(y:zCV):List (Int×Int):=zDm (zg y.old) (zj y.old) (zN W (W.zOy k).zO0).time y.old.length
noncomputable def zGA(W:zH)(k:Nat)(y:zCV):List (Int×Int):=yr (W.zOy k).dn (W.zOy k).ds (W.zOy k).db ++ zNh W k y
noncomputable def zEa(W:zH)(k:Nat)(y:zCV):zu:={W.zOy k with rs:=y.rs,rb:=y.rb,dn:=(zGA W k y).length,ds:=zg (zGA W k y),db:=zj (zGA W k y)}
noncomputable def zOJ(W:zH)(k:Nat)(y:zCV):zH:={W with zOv:=zW y.zOv (zHe W k y),zOy:=fun j=>if j=k then zEa W k y else W.zOy j}
open Classical in
noncomputable def zDB(W:zH)(k:Nat)(y:zCV):zCW:=if y.code=0 then⟨zOJ W k y,0,((zHe W k y).length:Int),0⟩else yB y.code
def zAQ(W:zH)(name:ByteArray)(zO2:Int)(w:World)(e:Ending)(w':World):Prop:=∃r o,zCj W (∃i,i<1/\8000<((fun (_:Nat)=>name) i).size) (∃i,i<0/\¬qV ((fun _=>⟨#[]⟩) i)) 1 (fun i=>match i with  | _=>zx W name) (fun i=>match i with  | _=>2) r/\(r=none->∃k,zAO W name k/\o=zDB W k (zA6 W.zOv (W.zOy k).rs (W.zOy k).rb zO2 W.time))/\zw (zHg r o) w e w'
theorem zAQ.ill{W:zH}{name:ByteArray}{zO2:Int}{w w':World}{e:Ending}{i:Nat}(hr:zCj W (∃i,i<1/\8000<((fun (_:Nat)=>name) i).size) (∃i,i<0/\¬qV ((fun _=>⟨#[]⟩) i)) 1 (fun i=>match i with  | _=>zx W name) (fun i=>match i with  | _=>2) (some i))(h:zw (yB (zEU i)) w e w'):zAQ W name zO2 w e w':=⟨some i,yB 0,hr,fun e=>(by cases e),h⟩
def yU(W:zH)(name:ByteArray)(zO2:Int)(data:ByteArray)(w:World)(e:Ending)(w':World):Prop:=∃r o,zCj W (∃i,i<2/\8000<((fun i=>match i with | 0=>name | _=>data) i).size) (∃i,i<0/\¬qV ((fun _=>⟨#[]⟩) i)) 1 (fun i=>match i with  | _=>zx W name) (fun i=>match i with  | _=>2) r/\(r=none->∃k,zAO W name k/\o=zDB W k (yg W.zOv (W.zOy k).rs (W.zOy k).rb zO2 data W.time))/\zw (zHg r o) w e w'
theorem yU.ill{W:zH}{name:ByteArray}{zO2:Int}{data:ByteArray}{w w':World}{e:Ending}{i:Nat}(hr:zCj W (∃i,i<2/\8000<((fun i=>match i with | 0=>name | _=>data) i).size) (∃i,i<0/\¬qV ((fun _=>⟨#[]⟩) i)) 1 (fun i=>match i with  | _=>zx W name) (fun i=>match i with  | _=>2) (some i))(h:zw (yB (zEU i)) w e w'):yU W name zO2 data w e w':=⟨some i,yB 0,hr,fun e=>(by cases e),h⟩
def zDV(W:zH):Prop:=W.pn<20/\W.time<900000/\W.next<900000
theorem zR(c:Int)(w:World):Calls Tryz.prog 41 #[.int .i64 c] w fun e w'=>e = .returned (.agg #[.slice none 0 0,.slice none 0 0,.int .i64 0,.int .i64 0,.slice none 0 0,.slice none 0 0,.int .i64 0,.int .i64 0,.int .i64 c])/\Below w.heap.size w w':=by
 have ha:=zC w (.cells #[.slice none 0 0,.slice none 0 0,.int .i64 0,.int .i64 0,.slice none 0 0,.slice none 0 0,.int .i64 0,.int .i64 0,.int .i64 c] 71);have aA:=zBi.zOt w (.slice none 0 0) (.slice none 0 0) (.int .i64 0) (.int .i64 0) (.slice none 0 0) (.slice none 0 0) (.int .i64 0) (.int .i64 0) (.int .i64 c) 71;go_enter Tryz.func41,Tryz.ntmps41;go_wp2_with fail;refine bodyPost_ret (v:=.agg #[.slice none 0 0,.slice none 0 0,.int .i64 0,.int .i64 0,.slice none 0 0,.slice none 0 0,.int .i64 0,.int .i64 0,.int .i64 c]) (by simp[results,Tryz.results41,go_sem,aA.1.1,aA.2.1.1,aA.2.2.1.1,aA.2.2.2.1.1,aA.2.2.2.2.1.1,aA.2.2.2.2.2.1.1,aA.2.2.2.2.2.2.1.1,aA.2.2.2.2.2.2.2.1.1,aA.2.2.2.2.2.2.2.2.1]) rfl ?_;exact⟨rfl,ha⟩
theorem zE0(v0 v1 v2 v3:Value)(lo hi:Nat)(W:zH)(set name:ByteArray)(w:World)(h:zr w lo hi v0 v1 v2 v3 W) :
  Calls Tryz.prog 51 #[qT v0 v1 v2 v3 W,.string set,.string name] w fun e w'=>zK (∃i,i<W.pn/\(W.zOw i).set=set/\(W.zOw i).name=name) e/\Below w.heap.size w w':=by
 have Hp:=zB h.zOw;obtain⟨m1,a,c,rfl,mc,_⟩:=id h.zOw;unfold maxLen at m1;clear h;have ha:=zC w (.cells #[v0,v1,.int .i64 W.time,.int .i64 W.next,v2,.slice a W.pn c] 40);have HB:=zB (za.zOt w v0 v1 (.int .i64 W.time) (.int .i64 W.next) v2 (.slice a W.pn c) 40);go_enter Tryz.func51,Tryz.ntmps51;go_wp2
 go_loopw [7] (fun i wr=>∃k:Nat,k<=W.pn/\i = .int .i64 k/\(∀j,j<k->¬((W.zOw j).set=set/\(W.zOw j).name=name))/\za wr w.heap.size v0 v1 (.int .i64 W.time) (.int .i64 W.next) v2 (.slice a W.pn c)/\Below w.heap.size w wr) (fun i _=>W.pn - (intOf i).toNat)
 case atStart=>exact⟨0,Nat.zero_le _,rfl,fun j hj=>absurd hj (Nat.not_lt_zero _),HB.out,ha⟩
 case round=>
  obtain⟨k,hk,rfl,cA,hX,hb⟩:=hrel;have aA:=zB cA;have HX:=zB hX;clear cA hX;obtain⟨⟨x0,x1⟩,⟨x2,x3⟩,⟨x4,x5⟩,⟨x6,x7⟩,⟨x8,x9⟩,⟨eA,fA⟩⟩:=HX.out;by_cases bA:k<W.pn
  ·have dA:(k:Int)<(W.pn:Int):=(by omega);obtain⟨b,off,vd,rfl,hs⟩:=(Hp.out.zOp hb).cells bA;have q1:=hs.c1;have q2:=hs.c2;clear hs;by_cases he:(W.zOw k).set=set
   ·have H:=zB he;rw[he]at q2;clear he;by_cases he:(W.zOw k).name=name
    ·have H2:=zB he;rw[he]at q1;clear he;go_wp2;go_ret;exact⟨zK.yes ⟨k,bA,H.out,H2.out⟩,hb⟩
    ·have H2:=zB he;have e0:((W.zOw k).name.toList == name.toList)=false:=zBK he;clear he;go_wp2;go_roundw
     case rel=>
      refine⟨k+1,by omega,by go_num,?_,HX.out,hb⟩;intro j hj;by_cases e:j=k
      ·subst e;exact fun h=>H2.out h.2
      ·exact aA.out j (by omega)
     case measure=>simp[intOf];omega
   ·have H:=zB he;have e0:((W.zOw k).set.toList == set.toList)=false:=zBK he;clear he;go_wp2;go_roundw
    case rel=>
     refine⟨k+1,by omega,by go_num,?_,HX.out,hb⟩;intro j hj;by_cases e:j=k
     ·subst e;exact fun h=>H.out h.1
     ·exact aA.out j (by omega)
    case measure=>simp[intOf];omega
  ·obtain rfl:k=W.pn:=(by omega);go_wp2;go_ret;exact⟨zK.no (fun ⟨i,hi,h⟩=>aA.out i hi h),hb⟩
theorem zH6{w:World}{k:Nat}{v:Value}{kv:Nat->Value}{dn:Nat->Nat}(hk:zAc w 99 2 v (dn k))(h:∀i,i<k->zAc w 99 2 (kv i) (dn i))(a:Addr)(u:Value):∀i,i<k+1->zAc (w.setCell a u) 99 2 ((fun j=>if j=k then v else kv j) i) (dn i):=fun i hi=>by
 by_cases e:i=k
 ·subst e;simp only[if_true];exact hk.set a u
 ·simp only[if_neg e];exact(h i (by omega)).set a u
theorem zCN(w:World)(lo hi:Nat)(a:Option Addr)(n c:Nat)(f g:Nat->Int)(h:zp w lo hi (.slice a n c) n f g)(hn:n<=1048576)(ty:TypeId):∃a' c' kb w1,
  (Builtin.append_ #[100,100] ty #[.slice (some ⟨w.heap.size,0,none⟩) 0 0,.slice a n c]).run Tryz.prog (w.alloc (.cells #[] 99)) = .ok (.slice a' n c') w1/\ze w1 kb (.slice a' n c') n f g/\(0<n->w.heap.size<=kb/\kb<w1.heap.size)/\Below w.heap.size w w1/\zAc w1 99 2 (.slice a' n c') n:=by
 obtain⟨m1,a0,c0,hv,mc,g1⟩:=h;simp only[Value.slice.injEq,true_and]at hv;obtain⟨rfl,rfl⟩:=hv;obtain⟨i0,eA,fA⟩:=Option.map_eq_some_iff.1 zDg;simp only[Prod.mk.injEq]at fA;obtain⟨hz,hs,iA⟩:=fA;have ht:Tryz.prog.underlying 100=some (.slice 99):=by kernel_rfl
 have aA:(w.alloc (.cells #[] 99)).ownsRow w.heap.size 99 2 (.slice (some ⟨w.heap.size,0,none⟩) 0 0) 0 []:=World.ownsRow_made w #[] 0 (Nat.le_refl _) (Nat.zero_le _) (by simp);have dA:=zC w (.cells #[] 99);by_cases h0:0<n
 ·obtain⟨b,off,rfl,_,_,hc⟩:=g1 h0;have cA:∀j,(⟨b,off,none⟩:Addr).add j=⟨b,off+j,none⟩:=fun j=>by unfold Addr.add;split<;>simp_all
  obtain⟨v',w1,hr,r1,r2,_⟩:=run_append_own (P:=Tryz.prog) (w.alloc (.cells #[] 99)) w.heap.size 100 ty 99 i0 (.agg #[.int .i64 0,.int .i64 0]) 2 16 ht eA hz hs iA rfl (by decide) _ 0 [] aA ⟨b,off,none⟩ n c (kc f g n) (zEZ f g n) (fun j u hj=>by
    have:=zGl hc j u hj;rw[cA]at this ⊢;exact(dA.cell (zD this)).trans this) (zKG f g n) (by unfold maxLen;omega) (by omega) (by simp)
  have bA:w1.ownsRow w.heap.size 99 2 v' n (kc f g n):=(by simpa using r1);obtain⟨kb,hp,hk⟩:=zDF m1 bA;obtain⟨_,a',c',rfl,_⟩:=id hp;have gA:Below w.heap.size w w1:=dA.grown r2 (by simp) (fun q hq=>by have:=aA.lt q hq;omega);exact⟨a',c',kb,w1,hr,hp,hk,gA,zDH bA (fun e=>by omega)⟩
 ·obtain rfl:n=0:=(by omega);have hr:=yl (P:=Tryz.prog) (w:=w.alloc (.cells #[] 99)) w.heap.size 100 ty 99 i0 2 c a ht eA _ 0 [] aA;exact⟨_,0,0,_,hr,⟨Nat.zero_le _,_,0,rfl,Nat.le_refl _,fun h=>absurd h (Nat.lt_irrefl _)⟩,fun h=>absurd h (Nat.lt_irrefl _),dA,Or.inl ⟨rfl,_,rfl⟩⟩
end Go.Proofs.YtgabgheflgjgiaaGreatDoor
