/- A part of the proof. -/
import Derived.Test.YtgabgheflgjgiaaGreatDoorU20
set_option linter.unusedVariables false
set_option maxRecDepth 20000
set_option maxHeartbeats 4000000
namespace Go.Proofs.YtgabgheflgjgiaaGreatDoor
open Go.RowKit
theorem zGu{p:zI}{xs xb:Int}{n:Nat}(hT:qR p xs xb)(hn:n<64):∀{L:Nat},L<3->¬Nil (zBM p xs xb n L) (zBz p xs xb n L)->zy p (zBM p xs xb n L) (zBz p xs xb n L)/\zBz p xs xb n L<=xb
 | 0,_,hN=>⟨(hT.2.resolve_left hN).1.1,Int.le_refl _⟩
 | L+1,hL,hN=>by
  have aA:¬Nil (zBM p xs xb n L) (zBz p xs xb n L):=fun h=>hN (zNk h (by omega))
  obtain⟨h1,h2⟩:=zGu hT hn (L:=L) (by omega) aA;rw[(zE1 p xs xb n (show L<2 by omega)).1,(zE1 p xs xb n (show L<2 by omega)).2]at hN ⊢;unfold zNe at hN ⊢;rw[if_neg aA,if_neg aA]at hN ⊢;obtain⟨h3,h4⟩:=zBV (qq hT.1 h1) (zIs (n:=n) (L:=L) hn) hN;refine⟨h3,?_⟩;have h5:=h1.2.2.2;have bA:zCZ (p.s (zBM p xs xb n L).toNat) (plc n L*2+1)<=(p.s (zBM p xs xb n L).toNat).zO1:=h4;omega
theorem zAH{p q:zI}{xs xb x y b:Int}{n L:Nat}(hT:qR p xs xb)(hn:n<64)(hL:L<2)(hB:qW xb b)(bA:∀s t,zy p s t->zy q s t)(hx:Nil x y\/(zy q x y/\y<=b)) :
  ym q (qO (qC p xs xb n L x) (qB p xs xb n L y) b):=by
 refine⟨hB.1,Or.inr ⟨rfl,by simp[qO,Go.ByteArray.toList_eq],fun i hi=>?_⟩⟩;have aA:i<8:=hi;show zGQ q b (qC p xs xb n L x i) (qB p xs xb n L y i);unfold qC qB;by_cases e:i=plc n L
 ·rw[if_pos e,if_pos e];rcases hx with h | h
  ·exact Or.inl h
  ·exact Or.inr h
 ·rw[if_neg e,if_neg e];unfold yi zAJ;by_cases hN:Nil (zBM p xs xb n L) (zBz p xs xb n L)
  ·rw[if_pos hN,if_pos hN];exact Or.inl ⟨rfl,rfl⟩
  ·rw[if_neg hN,if_neg hN];obtain⟨h1,h2⟩:=zGu hT hn (L:=L) (by omega) hN;by_cases hk:Nil (zU (p.s (zBM p xs xb n L).toNat) i) (zq (p.s (zBM p xs xb n L).toNat) i)
   ·exact Or.inl hk
   ·obtain⟨h3,h4⟩:=zBV (qq hT.1 h1) aA hk;refine Or.inr ⟨bA _ _ h3,?_⟩;have h5:=h1.2.2.2;have h6:=hB.2;omega
theorem zBb{f:Nat->zO}:∀{n:Nat},roomN f n=0->∀j,j<n->¬qJ (f j)
 | 0,_,j,hj=>absurd hj (Nat.not_lt_zero _)
 | n+1,h,j,hj=>by
  by_cases hf:qJ (f n)
  ·rw[zB5 hf]at h;omega
  ·rw[zCM hf]at h;by_cases e:j=n
   ·rw[e];exact hf
   ·exact zBb h j (by omega)
theorem ye{f:Nat->zO}:∀{n:Nat},0<roomN f n->∃i,qk n f i
 | 0,h=>absurd h (Nat.lt_irrefl _)
 | n+1,h=>by
  by_cases h0:0<roomN f n
  ·obtain⟨i,h1,h2,h3⟩:=ye h0;exact⟨i,by omega,h2,h3⟩
  ·by_cases hf:qJ (f n)
   ·exact⟨n,by omega,hf,zBb (by omega)⟩
   ·rw[zCM hf]at h;exact absurd h h0
theorem zB6{p:zI}{i:Nat}{s:zO}(hi:qk p.n p.s i)(hs:ym p s):roomN (qj p i s).s p.n+1=roomN p.s p.n:=by
 have h:=zJZ (p:=p) (i:=i) (s:=s) hi.2.1 (qe hs) p.n;rw[if_pos hi.1]at h;exact h
theorem zAW{p:zI}{b:Int}{d:ByteArray}(hb:zAR b)(hd:d.size=16):ym p (yx b d):=⟨hb,Or.inl ⟨rfl,hd⟩⟩
theorem zBX{p:zI}{i:Nat}{s:zO}(hi:qk p.n p.s i)(hs:1<=s.zO1):zy (qj p i s) (i:Int) s.zO1:=
 ⟨hs,by omega,by have:=hi.1;show(i:Int)<(p.n:Int);omega,by rw[Int.toNat_natCast,zAq]⟩
theorem zDD{p:zI}{xs xb x b:Int}{n L:Nat}(hn:n<64)(hb:1<=b):¬yK (qC p xs xb n L x) (qB p xs xb n L b):=fun h=>by
 have:=(h (plc n L) (zIs hn)).2;unfold qB at this;rw[if_pos rfl]at this;omega
def qg(p:zI)(b:Int)(d:ByteArray)(i0:Nat):zI:=qj p i0 (yx b d)
def zAV(p:zI)(xs xb:Int)(n:Nat)(b:Int)(d:ByteArray)(i0 i1:Nat):zI:=qj (qg p b d i0) i1 (qO (qC p xs xb n 1 (i0:Int)) (qB p xs xb n 1 b) b)
def zF0(p:zI)(xs xb:Int)(n:Nat)(b:Int)(d:ByteArray)(i0 i1 i2:Nat):zI:=qj (zAV p xs xb n b d i0 i1) i2 (qO (qC p xs xb n 0 (i1:Int)) (qB p xs xb n 0 b) b)
theorem zOh{p:zI}{xs xb b:Int}{d:ByteArray}{i0:Nat}(hT:qR p xs xb)(hB:qW xb b)(hd:d.size=16)(h0:qk p.n p.s i0):zAP p (yx b d)=⟨qg p b d i0,(i0:Int),b,0⟩:=
 zFF ⟨hT.1,qe (zAW (p:=p) hB.1 hd),zAW hB.1 hd⟩ h0
theorem zDE{p:zI}{xs xb b:Int}{d:ByteArray}{i0:Nat}(hT:qR p xs xb)(hB:qW xb b)(hd:d.size=16)(h0:qk p.n p.s i0):zt (qg p b d i0):=zBa hT.1 h0 (zAW hB.1 hd)
theorem zBE{p:zI}{xs xb b:Int}{n:Nat}{d:ByteArray}{i0:Nat}(hT:qR p xs xb)(hn:n<64)(hB:qW xb b)(h0:qk p.n p.s i0):ym (qg p b d i0) (qO (qC p xs xb n 1 (i0:Int)) (qB p xs xb n 1 b) b):=
 zAH hT hn (by omega) hB (fun s t h=>zBZ h0.2.1 h) (Or.inr ⟨zBX (s:=yx b d) h0 hB.1.1,Int.le_refl _⟩)
theorem zDt{p:zI}{xs xb b:Int}{n:Nat}{d:ByteArray}{i0 i1:Nat}(hT:qR p xs xb)(hn:n<64)(hB:qW xb b)(h0:qk p.n p.s i0)(h1:qk p.n (qg p b d i0).s i1):ym (zAV p xs xb n b d i0 i1) (qO (qC p xs xb n 0 (i1:Int)) (qB p xs xb n 0 b) b):=
 zAH hT hn (by omega) hB (fun s t h=>zBZ (p:=qg p b d i0) h1.2.1 (zBZ h0.2.1 h)) (Or.inr ⟨zBX (p:=qg p b d i0) (s:=qO (qC p xs xb n 1 (i0:Int)) (qB p xs xb n 1 b) b) h1 hB.1.1,Int.le_refl _⟩)
theorem zOT{p:zI}{xs xb b:Int}{n:Nat}{d:ByteArray}{i0:Nat}(hn:n<64)(hB:qW xb b):layS p xs xb n b ⟨qg p b d i0,(i0:Int),b,0⟩ 1=zAP (qg p b d i0) (qO (qC p xs xb n 1 (i0:Int)) (qB p xs xb n 1 b) b):=
 if_neg (zDD hn hB.1.1)
theorem zIg{p:zI}{xs xb b:Int}{n:Nat}{d:ByteArray}{i0 i1:Nat}(hT:qR p xs xb)(hn:n<64)(hB:qW xb b)(hd:d.size=16)(h0:qk p.n p.s i0)(h1:qk p.n (qg p b d i0).s i1):layS p xs xb n b ⟨qg p b d i0,(i0:Int),b,0⟩ 1=⟨zAV p xs xb n b d i0 i1,(i1:Int),b,0⟩:=by
 rw[zOT hn hB];exact zFF ⟨zDE hT hB hd h0,qe (zBE (d:=d) hT hn hB h0),zBE hT hn hB h0⟩ h1
theorem zOU{p:zI}{xs xb b:Int}{n:Nat}{d:ByteArray}{i0 i1:Nat}(hT:qR p xs xb)(hn:n<64)(hB:qW xb b)(hd:d.size=16)(h0:qk p.n p.s i0)(h1:qk p.n (qg p b d i0).s i1):layS p xs xb n b ⟨qg p b d i0,(i0:Int),b,0⟩ 2=zAP (zAV p xs xb n b d i0 i1) (qO (qC p xs xb n 0 (i1:Int)) (qB p xs xb n 0 b) b):=by
 show zHz p xs xb n b (layS p xs xb n b ⟨qg p b d i0,(i0:Int),b,0⟩ 1) 0=_;rw[zIg hT hn hB hd h0 h1];exact if_neg (zDD hn hB.1.1)
theorem zK5{n:Nat}(hn:n<64):zAB (n:Int):=⟨by omega,by omega⟩
theorem zJx{p:zI}{xs xb b:Int}{n:Nat}{d:ByteArray}{i0:Nat}(hT:qR p xs xb)(hn:n<64)(hB:qW xb b)(hd:d.size=16)(h0:qk p.n p.s i0):yg p xs xb (n:Int) d b=zBy p xs xb n b ⟨qg p b d i0,(i0:Int),b,0⟩:=by
 have t0:=zOh hT hB hd h0;rw[zLz (by omega) ⟨hT,hB⟩ ⟨zK5 hn,hd⟩ (by rw[t0]),t0];rfl
theorem zEb{p:zI}{xs xb b:Int}{n:Nat}{d:ByteArray}{i0 i1:Nat}(hT:qR p xs xb)(hn:n<64)(hB:qW xb b)(hd:d.size=16)(h0:qk p.n p.s i0)(h1:qk p.n (qg p b d i0).s i1):zt (zAV p xs xb n b d i0 i1):=
 zBa (zDE hT hB hd h0) h1 (zBE hT hn hB h0)
theorem zJy{p:zI}{xs xb b:Int}{n:Nat}{d:ByteArray}{i0 i1 i2:Nat}(hT:qR p xs xb)(hn:n<64)(hB:qW xb b)(hd:d.size=16)(h0:qk p.n p.s i0)(h1:qk p.n (qg p b d i0).s i1)(h2:qk p.n (zAV p xs xb n b d i0 i1).s i2) :
  yg p xs xb (n:Int) d b=⟨zF0 p xs xb n b d i0 i1 i2,(i2:Int),b,yj p xs xb n 3,0⟩:=by
 rw[zJx hT hn hB hd h0];have e1:=zIg hT hn hB hd h0 h1;have e2:layS p xs xb n b ⟨qg p b d i0,(i0:Int),b,0⟩ 2=⟨zF0 p xs xb n b d i0 i1 i2,(i2:Int),b,0⟩:=by
  rw[zOU hT hn hB hd h0 h1];exact zFF ⟨zEb hT hn hB hd h0 h1,qe (zDt (d:=d) hT hn hB h0 h1),zDt hT hn hB h0 h1⟩ h2
 rw[zGq (fun j hj=>by
  rcases j with _ | _ | _ | j
  ·rfl
  ·rw[e1]
  ·rw[e2]
  ·omega),e2]
theorem zHV{p:zI}{xs xb b:Int}{n:Nat}{d:ByteArray}(hT:qR p xs xb)(hn:n<64)(hB:qW xb b)(hd:d.size=16)(hr:roomN p.s p.n<3):yg p xs xb (n:Int) d b=yJ 6:=by
 by_cases r0:roomN p.s p.n=0
 ·have t0:=zC6 (p:=p) (s:=yx b d) ⟨hT.1,qe (zAW (p:=p) hB.1 hd),zAW hB.1 hd⟩ (zBb r0);rw[zKg (by omega) ⟨hT,hB⟩ ⟨zK5 hn,hd⟩ (by rw[t0];decide),t0]
 ·obtain⟨i0,h0⟩:=ye (f:=p.s) (n:=p.n) (by omega);have q0:=zB6 (s:=yx b d) h0 (zAW hB.1 hd);rw[zJx hT hn hB hd h0];by_cases r1:roomN (qg p b d i0).s p.n=0
  ·have t1:=zC6 (p:=qg p b d i0) ⟨zDE hT hB hd h0,qe (zBE (n:=n) (d:=d) hT hn hB h0),zBE hT hn hB h0⟩ (zBb r1);have e1:=zOT (p:=p) (xs:=xs) (d:=d) (i0:=i0) hn hB;rw[t1]at e1;rw[zGL (k:=0) (by omega) (fun j hj=>by cases (show j=0 from by omega);rfl) (by rw[e1];decide),e1]
  ·obtain⟨i1,h1⟩:=ye (f:=(qg p b d i0).s) (n:=p.n) (by omega);have q1:roomN (zAV p xs xb n b d i0 i1).s p.n+1=roomN (qg p b d i0).s p.n:=zB6 (p:=qg p b d i0) h1 (zBE hT hn hB h0);have aA:roomN (qg p b d i0).s p.n+1=roomN p.s p.n:=q0;have r2:roomN (zAV p xs xb n b d i0 i1).s p.n=0:=(by omega);have t2:=zC6 (p:=zAV p xs xb n b d i0 i1) ⟨zEb hT hn hB hd h0 h1,qe (zDt (d:=d) hT hn hB h0 h1),zDt hT hn hB h0 h1⟩ (zBb r2);have e1:=zIg hT hn hB hd h0 h1;have e2:=zOU hT hn hB hd h0 h1;rw[t2]at e2;rw[zGL (k:=1) (by omega) (fun j hj=>by
    rcases j with _ | _ | j
    ·rfl
    ·rw[e1]
    ·omega) (by rw[e2];decide),e2]
theorem zGs{l:List (Int×Int)}{x:Int}:x∈yG l↔∃y,(x,y)∈l:=by
 unfold yG;rw[List.mem_map];constructor
 ·rintro⟨⟨a,b⟩,h,rfl⟩;exact⟨b,h⟩
 ·rintro⟨y,h⟩;exact⟨(x,y),h,rfl⟩
theorem zEI{xs xb x:Int}:x∈yG (one xs xb)↔x=xs/\¬Nil xs xb:=by
 rw[zGs];constructor
 ·rintro⟨y,h⟩;obtain⟨e,hn⟩:=zIj.1 h;simp only[Prod.mk.injEq]at e;exact⟨e.1,hn⟩
 ·rintro⟨rfl,hn⟩;exact⟨xb,zIj.2 ⟨rfl,hn⟩⟩
theorem zDl{ks kb:Nat->Int}{k:Nat}{x:Int}:x∈yG (kidsUp ks kb k)↔∃i,i<k/\x=ks i/\¬Nil (ks i) (kb i):=by
 rw[zGs];constructor
 ·rintro⟨y,h⟩;obtain⟨i,hi,e,hn⟩:=yZ.1 h;simp only[Prod.mk.injEq]at e;exact⟨i,hi,e.1,hn⟩
 ·rintro⟨i,hi,rfl,hn⟩;exact⟨kb i,yZ.2 ⟨i,hi,rfl,hn⟩⟩
theorem zLh(xs xb:Int):(yG (one xs xb)).Nodup:=by
 unfold one yG;split<;>simp
theorem zEy{ks kb:Nat->Int}:∀{k:Nat},(yG (kidsUp ks kb k)).Nodup↔∀i,i<k->∀j,j<i->¬Nil (ks i) (kb i)->¬Nil (ks j) (kb j)->ks j≠ks i
 | 0=>by simp[kidsUp,yG]
 | k+1=>by
  rw[kidsUp,zAr,List.nodup_append,zEy (k:=k)];constructor
  ·rintro⟨h1,_,h2⟩ i hi j hj ni nj;by_cases e:i=k
   ·subst e;exact h2 _ (zDl.2 ⟨j,hj,rfl,nj⟩) _ (zEI.2 ⟨rfl,ni⟩)
   ·exact h1 i (by omega) j hj ni nj
  ·intro h;refine⟨fun i hi j hj=>h i (by omega) j hj,zLh _ _,fun a ha b hb=>?_⟩;obtain⟨j,hj,rfl,nj⟩:=zDl.1 ha;obtain⟨rfl,nk⟩:=zEI.1 hb;exact h k (Nat.lt_succ_self k) j hj nk nj
theorem zFT{p:zI}{x xb y yb:Int}(h:zAY p x xb)(h':zA9 p y yb):x≠y:=fun e=>by
 subst e;have:=h.2.1;have:=h'.2.1;omega
theorem zLn{p:zI}{rs:Int}(hT:zN1 p (p.s rs.toNat)){i:Nat}(hi:i<8)(hn:¬Nil (zU (p.s rs.toNat) i) (zq (p.s rs.toNat) i)):zU (p.s rs.toNat) i≠rs:=fun e=>by
 have h1:=(hT.1 i hi).resolve_left hn;rw[e]at h1;obtain⟨j,hj,nj⟩:=hT.2;have h2:=((hT.1 j hj).resolve_left nj).1;have h3:=(h1.2.1 j hj).resolve_left nj;exact zFT h2 h3 rfl
structure Ext (p q:zI):Prop where
 n:q.n=p.n
 hn:q.hn=p.hn
 h:q.h=p.h
 s:∀j,¬qJ (p.s j)->q.s j=p.s j
theorem Ext.refl(p:zI):Ext p p:=⟨rfl,rfl,rfl,fun _ _=>rfl⟩
theorem Ext.trans{p q r:zI}(h:Ext p q)(k:Ext q r):Ext p r:=⟨k.n.trans h.n,k.hn.trans h.hn,k.h.trans h.h,fun j hj=>(k.s j (by rw[h.s j hj];exact hj)).trans (h.s j hj)⟩
theorem Ext.set{p:zI}{i:Nat}(hi:qJ (p.s i))(s:zO):Ext p (qj p i s):=⟨rfl,rfl,rfl,fun j hj=>zC3 p s (fun e=>hj (e▸hi))⟩
theorem zGB{p:zI}{xs xb:Int}(h:zy p xs xb):¬qJ (p.s xs.toNat):=fun hf=>by
 have:=hf.1;have:=h.1;have:=h.2.2.2;omega
theorem Ext.at{p q:zI}(h:Ext p q){xs xb:Int}(hp:zy p xs xb):q.s xs.toNat=p.s xs.toNat:=h.s _ (zGB hp)
theorem Ext.points{p q:zI}(h:Ext p q){xs xb:Int}(hp:zy p xs xb):zy q xs xb:=⟨hp.1,hp.2.1,by rw[h.n];exact hp.2.2.1,by rw[h.at hp];exact hp.2.2.2⟩
theorem Ext.has{p q:zI}(h:Ext p q)(x:Int):Has q.hn q.h x↔Has p.hn p.h x:=by rw[h.hn,h.h]
theorem Ext.node{p q:zI}(h:Ext p q){xs xb:Int}(hp:zAY p xs xb):zAY q xs xb:=⟨h.points hp.1,by rw[h.at hp.1];exact hp.2.1,fun e=>hp.2.2 ((h.has xs).1 e)⟩
theorem Ext.zO2{p q:zI}(h:Ext p q){xs xb:Int}(hp:zA9 p xs xb):zA9 q xs xb:=⟨h.points hp.1,by rw[h.at hp.1];exact hp.2.1,fun e=>hp.2.2 ((h.has xs).1 e)⟩
def zHl(p:zI)(x:Int):Prop:=qJ (p.s x.toNat)
structure New (p:zI) (xs xb:Int) (n:Nat) (b:Int) (q:zI) (ys yb ms mb gs gb:Int):Prop where
 ext:Ext p q
 right:zt q
 zO2:Nil gs gb\/(zA9 q gs gb/\zHl p gs)
 node:(Nil ms mb/\yK (qC p xs xb n 1 gs) (qB p xs xb n 1 gb))\/(zAY q ms mb/\zHl p ms/\q.s ms.toNat=qO (qC p xs xb n 1 gs) (qB p xs xb n 1 gb) b/\¬yK (qC p xs xb n 1 gs) (qB p xs xb n 1 gb))
 root:(Nil ys yb/\yK (qC p xs xb n 0 ms) (qB p xs xb n 0 mb))\/(zAY q ys yb/\zHl p ys/\q.s ys.toNat=qO (qC p xs xb n 0 ms) (qB p xs xb n 0 mb) b/\¬yK (qC p xs xb n 0 ms) (qB p xs xb n 0 mb))
theorem zMn{p:zI}{xs xb:Int}(hT:qR p xs xb){z:Int×Int}:z∈zY p xs xb↔(z=(xs,xb)/\¬Nil xs xb)\/(∃i,i<8/\z=(yi p xs xb i,zAJ p xs xb i)/\¬Nil (yi p xs xb i) (zAJ p xs xb i))\/∃k,k<64/\z=(zz p xs xb k,qD p xs xb k)/\¬Nil (zz p xs xb k) (qD p xs xb k):=by
 by_cases hz:Nil xs xb
 ·have e0:∀i,yi p xs xb i=0/\zAJ p xs xb i=0:=fun i=>⟨if_pos hz,if_pos hz⟩
  have e1:∀k,Nil (zz p xs xb k) (qD p xs xb k):=fun k=>by
   have hn:Nil (qS p xs xb k) (qU p xs xb k):=e0 (k / 8);exact⟨if_pos hn,if_pos hn⟩
  unfold zY;rw[if_pos hz];constructor
  ·intro h;simp at h
  ·rintro(⟨_,h⟩ | ⟨i,_,_,h⟩ | ⟨k,_,_,h⟩)
   ·exact absurd hz h
   ·exact absurd (e0 i) h
   ·exact absurd (e1 k) h
 ·have e0:∀i,yi p xs xb i=zU (p.s xs.toNat) i/\zAJ p xs xb i=zq (p.s xs.toNat) i:=fun i=>⟨if_neg hz,if_neg hz⟩
  unfold zY;rw[if_neg hz,List.mem_cons,zB4];constructor
  ·rintro(h | ⟨i,hi,h⟩)
   ·exact Or.inl ⟨h,hz⟩
   ·obtain⟨hn,h⟩:=zCK.1 h;rw[<-(e0 i).1,<-(e0 i).2]at hn;rcases h with h | h
    ·exact Or.inr (Or.inl ⟨i,hi,by rw[(e0 i).1,(e0 i).2];exact h,hn⟩)
    ·obtain⟨a,ha,h,na⟩:=yZ.1 h;have q1:(i*8+a) / 8=i:=(by omega);have q2:(i*8+a) % 8=a:=(by omega);have e1:zz p xs xb (i*8+a)=zU (p.s (zU (p.s xs.toNat) i).toNat) a:=by
      unfold zz qS qU;rw[q1,q2];unfold yi at hn ⊢;rw[if_neg hz]at hn ⊢;rw[if_neg hn]
     have e2:qD p xs xb (i*8+a)=zq (p.s (zU (p.s xs.toNat) i).toNat) a:=by
      have bA:=hn;rw[(e0 i).1,(e0 i).2]at bA;unfold qD qS qU;rw[q1,q2,(e0 i).1,(e0 i).2];exact if_neg bA
     exact Or.inr (Or.inr ⟨i*8+a,by omega,by rw[e1,e2];exact h,by rw[e1,e2];exact na⟩)
  ·rintro(⟨h,_⟩ | ⟨i,hi,h,hn⟩ | ⟨k,hk,h,hn⟩)
   ·exact Or.inl h
   ·rw[(e0 i).1,(e0 i).2]at h hn;exact Or.inr ⟨i,hi,zCK.2 ⟨hn,Or.inl h⟩⟩
   ·have aA:¬Nil (qS p xs xb k) (qU p xs xb k):=fun hx=>hn ⟨if_pos hx,if_pos hx⟩
    have e1:zz p xs xb k=zU (p.s (qS p xs xb k).toNat) (k % 8):=if_neg aA;have e2:qD p xs xb k=zq (p.s (qS p xs xb k).toNat) (k % 8):=if_neg aA;rw[e1,e2]at h hn;have e3:qS p xs xb k=zU (p.s xs.toNat) (k / 8):=(e0 (k / 8)).1;have e4:qU p xs xb k=zq (p.s xs.toNat) (k / 8):=(e0 (k / 8)).2;rw[e3]at h hn;rw[e3,e4]at aA;exact Or.inr ⟨k / 8,by omega,zCK.2 ⟨aA,Or.inr (yZ.2 ⟨k % 8,by omega,h,hn⟩)⟩⟩
theorem zGJ{p:zI}{xs xb:Int}(hz:¬Nil xs xb)(i:Nat):yi p xs xb i=zU (p.s xs.toNat) i/\zAJ p xs xb i=zq (p.s xs.toNat) i:=⟨if_neg hz,if_neg hz⟩
theorem zEJ{p:zI}{xs xb:Int}{i:Nat}(h:¬Nil (yi p xs xb i) (zAJ p xs xb i)):¬Nil xs xb:=fun hx=>h ⟨if_pos hx,if_pos hx⟩
theorem zNp{p:zI}{xs xb:Int}(hT:qR p xs xb){i:Nat}(hi:i<8)(h:¬Nil (yi p xs xb i) (zAJ p xs xb i)):zAY p (yi p xs xb i) (zAJ p xs xb i)/\zL4 p (p.s (yi p xs xb i).toNat):=by
 have hz:=zEJ h;obtain⟨h1,h2,h3⟩:=hT.2.resolve_left hz;rw[(zGJ hz i).1,(zGJ hz i).2]at h ⊢;exact(h2.1 i hi).resolve_left h
theorem zNs{p:zI}{xs xb:Int}(hT:qR p xs xb)(h:¬Nil xs xb):zAY p xs xb:=(hT.2.resolve_left h).1
theorem zIv{p:zI}{xs xb:Int}(hT:qR p xs xb){i:Nat}(hi:i<8)(h:¬Nil (yi p xs xb i) (zAJ p xs xb i)):yi p xs xb i≠xs:=by
 have hz:=zEJ h;obtain⟨h1,h2,h3⟩:=hT.2.resolve_left hz;rw[(zGJ hz i).1]at h ⊢;rw[(zGJ hz i).2]at h;exact zLn h2 hi h
theorem Ext.free{p q:zI}(h:Ext p q){j:Nat}(hf:qJ (q.s j)):qJ (p.s j):=Classical.byContradiction fun hn=>hn (by rw[h.s j hn]at hf;exact hf)
theorem zNj{p:zI}{xs xb:Int}{n:Nat}{z:Int×Int}:z∈yj p xs xb n 3↔(z=(zz p xs xb n,qD p xs xb n)/\¬Nil (zz p xs xb n) (qD p xs xb n))\/(z=(qS p xs xb n,qU p xs xb n)/\¬Nil (qS p xs xb n) (qU p xs xb n))\/(z=(xs,xb)/\¬Nil xs xb):=by
 unfold yj;rw[yZ];constructor
 ·rintro⟨i,hi,h⟩;rcases i with _ | _ | _ | i
  ·exact Or.inl h
  ·exact Or.inr (Or.inl h)
  ·exact Or.inr (Or.inr h)
  ·omega
 ·rintro(h | h | h)
  ·exact⟨0,by omega,h⟩
  ·exact⟨1,by omega,h⟩
  ·exact⟨2,by omega,h⟩
theorem zKU{p:zI}{xs xb:Int}{n:Nat}(hT:qR p xs xb)(hn:n<64){z:Int×Int}(h:z∈yj p xs xb n 3):z∈zY p xs xb:=by
 rw[zMn hT];rcases zNj.1 h with h | h | h
 ·exact Or.inr (Or.inr ⟨n,hn,h⟩)
 ·exact Or.inr (Or.inl ⟨n / 8,by omega,h⟩)
 ·exact Or.inl h
theorem zGz{l:List (Int×Int)}(h:(yG l).Nodup):l.Nodup:=by
 unfold yG List.Nodup at *;rw[List.pairwise_map]at h;exact h.imp (fun aA e=>aA (by rw[e]))
theorem zLg{p:zI}{xs xb:Int}{n:Nat}(hT:qR p xs xb)(hn:n<64):(yj p xs xb n 3).Nodup:=by
 apply zGz;unfold yj;rw[zEy];intro i hi j hj ni nj;rcases i with _ | _ | _ | i
 ·omega
 ·obtain rfl:j=0:=(by omega);exact fun e=>zFT (zNp hT (i:=n / 8) (by omega) ni).1 ((zGM hT hn).resolve_left nj) e.symm
 ·rcases j with _ | _ | j
  ·exact fun e=>zFT (zNs hT ni) ((zGM hT hn).resolve_left nj) e.symm
  ·exact zIv hT (i:=n / 8) (by omega) nj
  ·omega
 ·omega
theorem zFr(v0 v1:Value)(lo hi:Nat)(p:zI)(w:World)(h1:qm w lo hi v0 v1 p)(hn:p.n<=200) :
  Calls Tryz.prog 62 #[.agg #[v0,v1]] w fun e w'=>e = .returned (.int .i64 (roomN p.s p.n:Int))/\Below w.heap.size w w':=by
 have Hp:Hid (qm w lo hi v0 v1 p):=h1;obtain⟨⟨m1,a,c,rfl,mc,g1⟩,⟨m2,a',c',rfl,gA,g2⟩⟩:=h1;unfold maxLen at m1 m2;clear g1 g2;have cA:Hid (Below w.heap.size w (w.alloc (.cells #[.slice a p.n c,.slice a' p.hn c'] 36))):=zC _ _;go_enter Tryz.func62,Tryz.ntmps62;go_wp2
 go_loopw [3,4] (fun m i wr=>∃k:Nat,k<=p.n/\i = .int .i64 k/\m = .int .i64 (roomN p.s k:Int)/\zk wr w.heap.size (.slice a p.n c) (.slice a' p.hn c')/\Below w.heap.size w wr) (fun _ i _=>p.n - (intOf i).toNat)
 case atStart=>exact⟨0,Nat.zero_le _,rfl,rfl,zk.zOt _ _ _ _,cA.out⟩
 case round=>
  obtain⟨k,hk,rfl,rfl,hx,hb⟩:=hrel;have Hx:Hid (zk wr w.heap.size (.slice a p.n c) (.slice a' p.hn c')):=hx;clear hx;obtain⟨⟨y0,y1⟩,⟨y2,y3⟩⟩:=Hx.out;have fA:=zG4 p.s k;by_cases dA:k<p.n
  ·have eA:(k:Int)<(p.n:Int):=(by omega);obtain⟨b,off,ka,kc,rfl,hs⟩:=(Hp.out.1.zOp hb).cells dA;have Hs:Hid (zBR wr b (off+k*3) lo hi ka kc (p.s k)):=hs;obtain⟨q0,q1,q2,_⟩:=hs;go_wp2_with fail;refine(qb _ _ _ lo hi (p.s k) _ Hs.out.slot).mono ?_;rintro e w1 ⟨⟨t,rfl,ht⟩,aA⟩;have HX:Hid (zk w1 w.heap.size (.slice (some ⟨b,off,none⟩) p.n c) (.slice a' p.hn c')):=Hx.out.zOp aA;have bA:=zA hb aA;clear aA q0 q1 q2 y0 y1 y2 y3 Hs Hx;by_cases hf:qJ (p.s k)
   ·obtain rfl:t=true:=ht.2 hf;have HF:Hid (qJ (p.s k)):=hf;clear ht hf;go_wp2;go_roundw
    case rel=>exact⟨k+1,by omega,by go_num,congrArg (Value.int .i64) (by rw[zB5 HF.out];omega),HX.out,bA⟩
    case measure=>simp[intOf];omega
   ·obtain rfl:t=false:=zP ht hf;have HF:Hid (¬qJ (p.s k)):=hf;clear ht hf;go_wp2;go_roundw
    case rel=>exact⟨k+1,by omega,by go_num,congrArg (Value.int .i64) (by rw[zCM HF.out]),HX.out,bA⟩
    case measure=>simp[intOf];omega
  ·obtain rfl:k=p.n:=(by omega);go_wp2;go_ret;exact⟨rfl,hb⟩
theorem qN.set{w:World}{S:Nat->Prop}{a:Option Addr}{c:Nat}{v1:Value}{p:zI}(h:qN w S (.slice a p.n c) v1 p){i:Nat}(eA:i<p.n) :
  ∃bs off,a=some ⟨bs,off,none⟩/\S bs/\(∃x0 x1 x2,zT w bs (off+i*3) x0/\zT w bs (off+i*3+1) x1/\zT w bs (off+i*3+2) x2)/\
   ∀(s:zO) (nb:Nat) (nv:Value),ze w nb nv s.kn s.ks s.kb->s.data.size<=maxLen->(0<s.kn->¬S nb)->
    qN (((w.setCell ⟨bs,off+i*3,none⟩ (.int .i64 s.zO1)).setCell ⟨bs,off+i*3+1,none⟩ nv).setCell ⟨bs,off+i*3+2,none⟩ (.string s.data)) (fun k=>S k\/(0<s.kn/\k=nb)) (.slice a p.n c) v1 (qj p i s):=by
 obtain⟨bs,hb,kb,kv,⟨hm,a0,c0,hv,mA,hx⟩,lA,fA,iA,jA⟩:=h;simp only[Value.slice.injEq,true_and]at hv;obtain⟨rfl,rfl⟩:=hv;have h0:0<p.n:=by omega
 obtain⟨off,ha,dA⟩:=hx h0;have cA:=jA bs (Or.inl (Or.inl ⟨h0,rfl⟩));have gA:∀j,j<p.n->0<(p.s j).kn->S (kb j):=fun j hj hk=>jA _ (Or.inl (Or.inr ⟨j,hj,hk,rfl⟩))
 have kA:0<p.hn->S hb:=fun h=>jA _ (Or.inr ⟨h,rfl⟩)
 refine⟨bs,off,ha,cA,⟨_,_,_,(dA i eA).zO1,(dA i eA).kidsv,(dA i eA).data⟩,fun s nb nv hp hs bA=>?_⟩;refine⟨bs,hb,(fun j=>if j=i then nb else kb j),(fun j=>if j=i then nv else kv j),⟨hm,a,c,rfl,mA,fun _=>⟨off,ha,fun j hj=>?_⟩⟩,fun j k hj hk nA g1 g2=>?_,?_,fun g0 hx=>?_,fun k hk=>?_⟩
 ·have aA:=dA j hj;by_cases e:j=i
  ·subst e;simp only[qj,if_true];refine⟨?_,?_,?_,?_,hs,fun hk e=>bA hk (e▸cA)⟩
   ·exact((aA.zO1.set _).zOq _ (Or.inr (by omega))).zOq _ (Or.inr (by omega))
   ·exact((aA.kidsv.zOq _ (Or.inr (by omega))).set _).zOq _ (Or.inr (by omega))
   ·exact((aA.data.zOq _ (Or.inr (by omega))).zOq _ (Or.inr (by omega))).set _
   ·refine((hp.zOr (zE.put _ _ _ _) ?_).zOr (zE.put _ _ _ _) ?_).zOr (zE.put _ _ _ _) ?_
    all_goals exact fun hk e=>bA hk (e▸cA)
  ·simp only[qj,if_neg e];refine⟨?_,?_,?_,?_,aA.zO6,aA.zO4⟩
   ·exact((aA.zO1.zOq _ (Or.inr (by omega))).zOq _ (Or.inr (by omega))).zOq _ (Or.inr (by omega))
   ·exact((aA.kidsv.zOq _ (Or.inr (by omega))).zOq _ (Or.inr (by omega))).zOq _ (Or.inr (by omega))
   ·exact((aA.data.zOq _ (Or.inr (by omega))).zOq _ (Or.inr (by omega))).zOq _ (Or.inr (by omega))
   ·refine((aA.kids.zOr (zE.put _ _ _ _) ?_).zOr (zE.put _ _ _ _) ?_).zOr (zE.put _ _ _ _) ?_
    all_goals exact fun hk e=>aA.zO4 hk e
 ·show(if j=i then nb else kb j)≠(if k=i then nb else kb k);by_cases e1:j=i
  ·by_cases e2:k=i
   ·omega
   ·rw[if_pos e1,if_neg e2];simp only[qj,if_pos e1]at g1;simp only[qj,if_neg e2]at g2;exact fun e=>bA g1 (e▸gA k hk g2)
  ·by_cases e2:k=i
   ·rw[if_neg e1,if_pos e2];simp only[qj,if_neg e1]at g1;simp only[qj,if_pos e2]at g2;exact fun e=>bA g2 (e▸gA j hj g1)
   ·rw[if_neg e1,if_neg e2];simp only[qj,if_neg e1]at g1;simp only[qj,if_neg e2]at g2;exact lA j k hj hk nA g1 g2
 ·have oA:0<p.hn->hb≠bs:=fun h e=>iA h (Or.inl ⟨h0,e⟩)
  refine((fA.zOr (zE.put _ _ _ _) ?_).zOr (zE.put _ _ _ _) ?_).zOr (zE.put _ _ _ _) ?_
  all_goals exact fun hk e=>oA hk e
 ·rcases hx with⟨_,e⟩ | ⟨j,hj,g1,e⟩
  ·exact iA g0 (Or.inl ⟨h0,e⟩)
  ·by_cases e1:j=i
   ·simp only[qj,if_pos e1]at g1 e;exact bA g1 (e▸kA g0)
   ·simp only[qj,if_neg e1]at g1 e;exact iA g0 (Or.inr ⟨j,hj,g1,e⟩)
 ·rcases hk with(⟨_,e⟩ | ⟨j,hj,g1,e⟩) | ⟨g0,e⟩
  ·exact Or.inl (e▸cA)
  ·by_cases e1:j=i
   ·simp only[qj,if_pos e1]at g1 e;exact Or.inr ⟨g1,e⟩
   ·simp only[qj,if_neg e1]at g1 e;exact Or.inl (e▸gA j hj g1)
  ·exact Or.inl (e▸kA g0)
theorem zAx(dA nb:Nat)(S:Nat->Prop)(a:Option Addr)(c:Nat)(v1 kv:Value)(p:zI)(s:zO)(w:World)(eA:zk w dA (.slice a p.n c) v1)(hO:¬S dA)(hS:∀k,S k->k<w.heap.size)(hc:p.n<=c)(fA:qN w S (.slice a p.n c) v1 p)(hp:ze w nb kv s.kn s.ks s.kb)
  (aB:0<s.kn->¬S nb/\nb<w.heap.size) (iB:s.data.size<=maxLen) :
  Calls Tryz.prog 112 #[.pointer (some ⟨dA,0,none⟩),.agg #[.int .i64 s.zO1,kv,.string s.data]] w fun e w'=>
   (∃i,qk p.n p.s i/\e = .returned (.tuple #[.agg #[.int .i64 (i:Int),.int .i64 s.zO1],.bool true])/\zk w' dA (.slice a p.n c) v1/\qN w' (fun k=>S k\/(0<s.kn/\k=nb)) (.slice a p.n c) v1 (qj p i s)/\zE S w w')\/
   ((∀j,j<p.n->¬qJ (p.s j))/\e = .returned (.tuple #[.agg #[.int .i64 0,.int .i64 0],.bool false])/\Below w.heap.size w w'):=by
 have aA:=fA.own (lo:=0) (hi:=w.heap.size) (fun k hk=>⟨Nat.zero_le _,hS k hk⟩);have hm:p.n<=2 ^ 63 - 1:=aA.at.1.1;have jA:=zQ aA;clear aA;have cA:=zQ eA;have oA:=zQ fA;have Hq:=zQ hp;obtain⟨_,ka,kc,rfl,_⟩:=hp;have kB:dA<w.heap.size:=eA.1.lt;clear eA fA;have ha:=zC w (.cells #[.int .i64 s.zO1,.slice ka s.kn kc,.string s.data] 128);have eB:=zA ha (zC _ (.cells #[.int .i64 0,.int .i64 0] 99));have HS:=zQ ((qP.zOt w (.int .i64 s.zO1) (.slice ka s.kn kc) (.string s.data) 128).zOp (zC _ (.cells #[.int .i64 0,.int .i64 0] 99)));have hr:=zk.zOt (w.alloc (.cells #[.int .i64 s.zO1,.slice ka s.kn kc,.string s.data] 128)) (.int .i64 0) (.int .i64 0) 99;rw[World.size_alloc]at hr;have HR:=zQ hr;clear hr ha;go_enter Tryz.func112,Tryz.ntmps112;go_wp2
 go_loopw [6] (fun i wr=>∃k:Nat,k<=p.n/\i = .int .i64 k/\(∀j,j<k->¬qJ (p.s j))/\qP wr w.heap.size (.int .i64 s.zO1) (.slice ka s.kn kc) (.string s.data)/\zk wr (w.heap.size+1) (.int .i64 0) (.int .i64 0)/\Below w.heap.size w wr) (fun i _=>p.n - (intOf i).toNat)
 case atStart=>exact⟨0,Nat.zero_le _,rfl,fun j hj=>absurd hj (Nat.not_lt_zero _),HS.out,HR.out,eB⟩
 case round=>
  obtain⟨k,hk,rfl,kA,hs,hr,hb⟩:=hrel;have bA:=zQ kA;have Hs:=zQ hs;have Hr:=zQ hr;clear kA hs hr;obtain⟨⟨x0,x1⟩,⟨x2,x3⟩⟩:=cA.out.zOp hb;by_cases lA:k<p.n
  ·have gB:(k:Int)<(p.n:Int):=(by omega);obtain⟨b,off,oB,pB,rfl,vA⟩:=(jA.out.at.1.zOp hb).cells lA;have Hc:=zQ vA;obtain⟨q0,q1,q2,_⟩:=vA;go_wp2_with fail;refine(qb _ _ _ 0 w.heap.size (p.s k) _ Hc.out.slot).mono ?_;rintro e w1 ⟨⟨t,rfl,ht⟩,nA⟩;have gA:=zA hb nA;have sA:=zQ (Hs.out.zOp nA);have pA:=zQ (Hr.out.zOp nA);clear nA q0 q1 q2 Hc x0 x1 x2 x3 Hs Hr;by_cases hf:qJ (p.s k)
   ·obtain rfl:t=true:=ht.2 hf;have HF:=zQ hf;clear ht hf;obtain⟨⟨x0,x1⟩,⟨x2,x3⟩⟩:=cA.out.zOp gA;obtain⟨⟨y0,y1⟩,⟨y2,y3⟩,⟨y4,y5⟩⟩:=sA.out;obtain⟨⟨z0,z1⟩,⟨z2,z3⟩⟩:=pA.out;obtain⟨bs,jB,he,rA,⟨q0,q1,q2,⟨r0,r1⟩,⟨r2,r3⟩,⟨r4,r5⟩⟩,mA⟩:=(oA.out.zOp gA).set (i:=k) lA;simp only[Option.some.injEq,Addr.mk.injEq,and_true]at he;obtain⟨rfl,rfl⟩:=he;have n0:b≠dA:=fun e=>hO (e▸rA)
    have lB:b<w.heap.size:=hS b rA;have n1:b≠w.heap.size:=(by omega);have n2:b≠w.heap.size+1:=(by omega);have n3:w.heap.size+1≠w.heap.size:=(by omega);go_wp2_with fail;go_region_held3 (fun w'=>w'.cell? ⟨dA,0,none⟩=some (.slice (some ⟨b,off,none⟩) p.n c)/\w'.cell? ⟨w.heap.size,0,none⟩=some (.int .i64 s.zO1)/\w'.cell? ⟨w.heap.size,1,none⟩=some (.slice ka s.kn kc)/\w'.cell? ⟨w.heap.size,2,none⟩=some (.string s.data)) (go_keep) (fail);have tX:=((zE.put w1 b (off+k*3) (.int .i64 s.zO1)).trans (zE.put _ b (off+k*3+1) (.slice ka s.kn kc))).trans (zE.put _ b (off+k*3+2) (.string s.data));have dB:=zQ (pA.out.zOr tX (by omega));have cB:=zQ (mA s nb (.slice ka s.kn kc) (Hq.out.zOp gA) iB (fun h0=>(aB h0).1));have bB:=zQ ((cA.out.zOp gA).zOr tX (by omega));have tA:=zQ ((zE.zOs (S:=S) gA).trans2 tX (fun k hk _=>by
     have fB:k=b:=(by omega);exact fB▸rA))
    clear mA tX;go_wp2;have iA:=dB.out.put (.int .i64 (k:Int)) (.int .i64 s.zO1);have t2:=(zE.put (((w1.setCell ⟨b,off+k*3,none⟩ (.int .i64 s.zO1)).setCell ⟨b,off+k*3+1,none⟩ (.slice ka s.kn kc)).setCell ⟨b,off+k*3+2,none⟩ (.string s.data)) (w.heap.size+1) 0 (.int .i64 (k:Int))).trans (zE.put _ (w.heap.size+1) 1 (.int .i64 s.zO1));have mB:=t2.size;have nB:=tA.out.size;refine bodyPost_ret (v:=.tuple #[.agg #[.int .i64 (k:Int),.int .i64 s.zO1],.bool true]) (by simp[results,Tryz.results112,go_sem,iA.1.1,iA.2.1]) rfl (Or.inl ⟨k,⟨lA,HF.out,bA.out⟩,rfl,?_,?_,?_⟩)
    ·exact(bB.out.zOr t2 (by omega)).zOp (Below.refl _ _).drew
    ·exact(cB.out.zOr t2 (fun k hk=>by
      rcases hk with hk | hk
      ·have:=hS k hk;omega
      ·have:=aB hk.1;omega)).zOp (Below.refl _ _).drew
    ·exact(tA.out.trans2 t2 (fun k hk lA=>by omega)).trans (zE.zOs (Below.refl _ _).drew)
   ·obtain rfl:t=false:=zP ht hf;have HF:=zQ hf;clear ht hf;go_wp2;go_roundw
    case rel=>exact⟨k+1,by omega,by go_num,qE lA bA.out HF.out,sA.out,pA.out,gA⟩
    case measure=>simp[intOf];omega
  ·obtain rfl:k=p.n:=(by omega);obtain⟨⟨z0,z1⟩,⟨z2,z3⟩⟩:=Hr.out;go_wp2;have iA:=Hr.out.put (.int .i64 0) (.int .i64 0);exact bodyPost_ret (v:=.tuple #[.agg #[.int .i64 0,.int .i64 0],.bool false]) (by simp[results,Tryz.results112,go_sem,iA.1.1,iA.2.1]) rfl (Or.inr ⟨bA.out,rfl,(hb.setCell (by show _<=w.heap.size+1;omega) _).setCell (by show _<=w.heap.size+1;omega) _⟩)
theorem zBJ(v0 v1:Value)(lo hi:Nat)(p:zI)(xs xb:Int)(w:World)(h1:qm w lo hi v0 v1 p) :
  Calls Tryz.prog 109 #[.agg #[v0,v1],.agg #[.int .i64 xs,.int .i64 xb]] w fun e w'=>zK (qR p xs xb) e/\Below w.heap.size w w':=by
 have Hp:=zF h1;obtain⟨a,c,a',c',rfl,rfl⟩:∃a c a' c',v0 = .slice a p.n c/\v1 = .slice a' p.hn c':=by
  obtain⟨⟨_,a,c,h1,_⟩,⟨_,a',c',h3,_⟩⟩:=h1;exact⟨a,c,a',c',h1,h3⟩
 clear h1;have eA:=zB1 w (.slice a p.n c) (.slice a' p.hn c') (.int .i64 xs) (.int .i64 xb) 36 99;go_enter Tryz.func109,Tryz.ntmps109;go_wp2_with fail;generalize (w.alloc (.cells #[.slice a p.n c,.slice a' p.hn c'] 36)).alloc (.cells #[.int .i64 xs,.int .i64 xb] 99)=W at eA ⊢;obtain⟨hB,hX,cA,hz⟩:=eA;refine(yt _ _ lo hi p W (Hp.out.zOp cA)).mono ?_;rintro e w1 ⟨⟨t,rfl,ht⟩,aA⟩;have fA:=zF (hB.zOp aA);have gA:=zF (hX.zOp aA);have bA:=zA cA aA;clear hB hX cA aA hz;by_cases hR:zt p
 ·have HR:=zF hR;obtain rfl:t=true:=ht.2 hR;clear ht hR;obtain⟨⟨x0,x1⟩,⟨x2,x3⟩⟩:=fA.out;obtain⟨⟨y0,y1⟩,⟨y2,y3⟩⟩:=gA.out;go_wp2_with fail;refine(zBx _ _ lo hi p xs xb _ (Hp.out.zOp bA) HR.out).mono ?_;rintro e w2 ⟨⟨t,rfl,ht⟩,dA⟩;have iA:=zA bA dA;have Ht:=zF ht;clear dA ht;go_wp2;go_ret;exact⟨⟨_,rfl,Ht.out.trans ⟨fun h=>⟨HR.out,h⟩,fun h=>h.2⟩⟩,iA⟩
 ·have HR:=zF hR;obtain rfl:t=false:=zP ht hR;clear ht hR;go_wp2;go_ret;exact⟨zK.no fun h=>HR.out h.1,bA⟩
end Go.Proofs.YtgabgheflgjgiaaGreatDoor
