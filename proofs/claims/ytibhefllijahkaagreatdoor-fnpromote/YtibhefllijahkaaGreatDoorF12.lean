/- A part of the proof. -/
import Derived.Test.YtibhefllijahkaaGreatDoorF11
import Derived.Deep.LoopGhost
import Derived.RegionTactic
import Derived.ChangeAlike
import Derived.BigRegion
import Derived.Maps.OwnSet
set_option linter.unusedVariables false
set_option maxRecDepth 20000
set_option maxHeartbeats 4000000
namespace Go.Proofs.YtibhefllijahkaaGreatDoor
noncomputable section
open Go.RowKit
def Aj(w:World)(b:Nat)(v0 v1 v2 v3 v4 v5:Value):Prop:=AJ w b 0 v0/\AJ w b 1 v1/\AJ w b 2 v2/\AJ w b 3 v3/\AJ w b 4 v4/\AJ w b 5 v5
variable{w:World}{b:Nat}{v0 v1 v2 v3 v4 v5:Value}
theorem Aj.c(h:Aj w b v0 v1 v2 v3 v4 v5):w.cell? ⟨b,0,none⟩=some v0/\w.cell? ⟨b,1,none⟩=some v1/\w.cell? ⟨b,2,none⟩=some v2/\w.cell? ⟨b,3,none⟩=some v3/\w.cell? ⟨b,4,none⟩=some v4/\w.cell? ⟨b,5,none⟩=some v5:=
 ⟨h.1.1,h.2.1.1,h.2.2.1.1,h.2.2.2.1.1,h.2.2.2.2.1.1,h.2.2.2.2.2.1⟩
variable{w':World}
theorem Aj.A0(h:Aj w b v0 v1 v2 v3 v4 v5)(t:Below w.heap.size w w'):Aj w' b v0 v1 v2 v3 v4 v5:=⟨h.1.A0 t,h.2.1.A0 t,h.2.2.1.A0 t,h.2.2.2.1.A0 t,h.2.2.2.2.1.A0 t,h.2.2.2.2.2.A0 t⟩
variable{S:Nat->Prop}
theorem Aj.AH(h:Aj w b v0 v1 v2 v3 v4 v5)(t:AI S w w')(hs:¬S b):Aj w' b v0 v1 v2 v3 v4 v5:=⟨h.1.AH t hs,h.2.1.AH t hs,h.2.2.1.AH t hs,h.2.2.2.1.AH t hs,h.2.2.2.2.1.AH t hs,h.2.2.2.2.2.AH t hs⟩
theorem Aj.new(w:World)(b v1 c d e g:Value)(t:TypeId):Aj (w.alloc (.cells #[b,v1,c,d,e,g] t)) w.heap.size b v1 c d e g:=by
 have a:(w.alloc (.cells #[b,v1,c,d,e,g] t)).heap[w.heap.size]?=some (.cells #[b,v1,c,d,e,g] t):=heap_alloc_new _ _;exact⟨B2 a rfl,B2 a rfl,B2 a rfl,B2 a rfl,B2 a rfl,B2 a rfl⟩
abbrev put6(w:World)(b:Nat)(u0 u1 u2 u3 u4 u5:Value):World:=(((((w.setCell ⟨b,0,none⟩ u0).setCell ⟨b,1,none⟩ u1).setCell ⟨b,2,none⟩ u2).setCell ⟨b,3,none⟩ u3).setCell ⟨b,4,none⟩ u4).setCell ⟨b,5,none⟩ u5
theorem Aj.put(h:Aj w b v0 v1 v2 v3 v4 v5)(a d g j k l:Value):Aj (put6 w b a d g j k l) b a d g j k l:=
 have H (i:Nat) (u v:Value) (e:[a,d,g,j,k,l][i]?=some u) (c:AJ w b i v):AJ (put6 w b a d g j k l) b i u:=Nd [a,d,g,j,k,l] w 0 i i e (Nat.zero_add i) c
 ⟨H 0 _ _ rfl h.1,H 1 _ _ rfl h.2.1,H 2 _ _ rfl h.2.2.1,H 3 _ _ rfl h.2.2.2.1,H 4 _ _ rfl h.2.2.2.2.1,H 5 _ _ rfl h.2.2.2.2.2⟩
theorem AI.put6(w:World)(b:Nat)(a c d e g h:Value):AI (fun k=>k=b) w (put6 w b a c d e g h):=
 (((((AI.put w b 0 a).trans (AI.put _ b 1 c)).trans (AI.put _ b 2 d)).trans (AI.put _ b 3 e)).trans (AI.put _ b 4 g)).trans (AI.put _ b 5 h)
def BE(p:A8)(xs xb:Int)(n L:Nat)(x:Int)(i:Nat):Int:=if i=plc n L then x else Ds p (EM p xs xb n L) (FU p xs xb n L) i
def BD(p:A8)(xs xb:Int)(n L:Nat)(y:Int)(i:Nat):Int:=if i=plc n L then y else Dr p (EM p xs xb n L) (FU p xs xb n L) i
def LO(p:A8)(xs xb:Int)(n:Nat)(b:Int)(o:G0)(L:Nat):G0:=N3 o.pool (BE p xs xb n L o.ps) (BD p xs xb n L o.pb) b
def Bk(p:A8)(xs xb:Int)(n:Nat)(b:Int)(o:G0):Nat->G0
 | 0=>o
 | k+1=>LO p xs xb n b (Bk p xs xb n b o k) (1 - k)
theorem Xt:Az (DW 0)=0:=rfl
theorem Xk(p:A8)(s:AD):Az (Cj p s).pool<=Az p+Cu s:=by
 unfold Cj;split
 ·split
  ·exact zEg _ _ _
  ·show Az (DW 0)<=_;rw[Xt];omega
 ·show Az (DW 0)<=_;rw[Xt];omega
theorem zw(p:A8)(f g:Nat->Int)(b:Int):Az (N3 p f g b).pool<=Az p+8:=by
 unfold N3;split
 ·show Az p<=_;omega
 ·exact Xk p (C4 f g b)
theorem X4(p:A8)(xs xb:Int)(n:Nat)(b:Int)(o:G0):∀k,Az (Bk p xs xb n b o k).pool<=Az o.pool+8*k
 | 0=>Nat.le_refl _
 | k+1=>by
  have a:=X4 p xs xb n b o k;have c:=zw (Bk p xs xb n b o k).pool (BE p xs xb n (1 - k) (Bk p xs xb n b o k).ps) (BD p xs xb n (1 - k) (Bk p xs xb n b o k).pb) b;show Az (N3 _ _ _ _).pool<=_;omega
structure EC where
 pool:A8
 rs:Int
 rb:Int
 old:List (Int×Int)
 code:Int
def DZ(c:Int):EC:=⟨DW 0,0,0,[],c⟩
open Classical in
def EK(p:A8)(xs xb:Int)(n:Nat)(b:Int)(o:G0):EC:=
 if (Bk p xs xb n b o 1).code≠0 then DZ (Bk p xs xb n b o 1).code
 else if (Bk p xs xb n b o 2).code≠0 then DZ (Bk p xs xb n b o 2).code
 else⟨(Bk p xs xb n b o 2).pool,(Bk p xs xb n b o 2).ps,(Bk p xs xb n b o 2).pb,JG p xs xb n 3,0⟩
variable{p:A8}{xs xb b:Int}{n k:Nat}
theorem NX{o:G0}(d:k<2)(h:∀j,j<=k->(Bk p xs xb n b o j).code=0)(a:(Bk p xs xb n b o (k+1)).code≠0):EK p xs xb n b o=DZ (Bk p xs xb n b o (k+1)).code:=by
 unfold EK;rcases k with _ | _ | k
 ·rw[if_pos a]
 ·rw[if_neg (fun c=>c (h 1 (by omega))),if_pos a]
 ·omega
theorem QW{o:G0}(h:∀j,j<=2->(Bk p xs xb n b o j).code=0):EK p xs xb n b o=⟨(Bk p xs xb n b o 2).pool,(Bk p xs xb n b o 2).ps,(Bk p xs xb n b o 2).pb,JG p xs xb n 3,0⟩:=by
 unfold EK;rw[if_neg (fun a=>a (h 1 (by omega))),if_neg (fun a=>a (h 2 (by omega)))]
def G7(n:Int):Prop:=0<=n/\n<=63
open Classical in
def FZ(p:A8)(xs xb page b:Int):EC:=
 if BN p xs xb/\CN xb b then(if G7 page then(if Nil (CT p xs xb page.toNat) (Cb p xs xb page.toNat)then DZ 4 else EK p xs xb page.toNat b ⟨p,0,0,0⟩)else DZ 8)else DZ 1
variable{a:Int}
theorem Vg(h:¬(BN p xs xb/\CN xb b)):FZ p xs xb a b=DZ 1:=if_neg h
theorem zAG(h:BN p xs xb/\CN xb b)(c:¬G7 a):FZ p xs xb a b=DZ 8:=(if_pos h).trans (if_neg c)
theorem zEu(h:BN p xs xb/\CN xb b)(c:G7 a)(d:Nil (CT p xs xb a.toNat) (Cb p xs xb a.toNat)):FZ p xs xb a b=DZ 4:=((if_pos h).trans (if_pos c)).trans (if_pos d)
theorem Uj(h:BN p xs xb/\CN xb b)(c:G7 a)(d:¬Nil (CT p xs xb a.toNat) (Cb p xs xb a.toNat)):FZ p xs xb a b=EK p xs xb a.toNat b ⟨p,0,0,0⟩:=((if_pos h).trans (if_pos c)).trans (if_neg d)
def Bh(b:Int)(d:ByteArray):AD:={birth:=b,kn:=0,ks:=fun _=>0,kb:=fun _=>0,data:=d}
open Classical in
def EU(p:A8)(xs xb page:Int)(d:ByteArray)(b:Int):EC:=
 if 8000<d.size then DZ 2 else if BN p xs xb/\CN xb b then(if G7 page/\d.size=16 then(if (Cj p (Bh b d)).code=0 then EK p xs xb page.toNat b ⟨(Cj p (Bh b d)).pool,(Cj p (Bh b d)).ps,(Cj p (Bh b d)).pb,0⟩else DZ (Cj p (Bh b d)).code)else DZ 8)else DZ 1
variable{d:ByteArray}
theorem Xa(h:8000<d.size):EU p xs xb a d b=DZ 2:=if_pos h
theorem XZ(c:¬8000<d.size)(h:¬(BN p xs xb/\CN xb b)):EU p xs xb a d b=DZ 1:=(if_neg c).trans (if_neg h)
theorem Yg(c:¬8000<d.size)(h:BN p xs xb/\CN xb b)(e:¬(G7 a/\d.size=16)):EU p xs xb a d b=DZ 8:=((if_neg c).trans (if_pos h)).trans (if_neg e)
theorem zAK(c:¬8000<d.size)(h:BN p xs xb/\CN xb b)(e:G7 a/\d.size=16)(g:(Cj p (Bh b d)).code≠0):EU p xs xb a d b=DZ (Cj p (Bh b d)).code:=(((if_neg c).trans (if_pos h)).trans (if_pos e)).trans (if_neg g)
theorem zEv(c:¬8000<d.size)(h:BN p xs xb/\CN xb b)(e:G7 a/\d.size=16)(g:(Cj p (Bh b d)).code=0):EU p xs xb a d b=EK p xs xb a.toNat b ⟨(Cj p (Bh b d)).pool,(Cj p (Bh b d)).ps,(Cj p (Bh b d)).pb,0⟩:=(((if_neg c).trans (if_pos h)).trans (if_pos e)).trans (if_pos g)
theorem Xs{p:A8}{xs xb:Int}{n:Nat}(b:BN p xs xb)(hn:n<64):∀{L:Nat},L<3->¬Nil (EM p xs xb n L) (FU p xs xb n L)->BM p (EM p xs xb n L) (FU p xs xb n L)/\FU p xs xb n L<=xb
 | 0,_,hN=>⟨(b.2.resolve_left hN).1.1,Int.le_refl _⟩
 | L+1,hL,hN=>by
  have a:¬Nil (EM p xs xb n L) (FU p xs xb n L):=fun h=>hN (zHj h (by omega))
  obtain⟨c,i⟩:=Xs b hn (L:=L) (by omega) a;rw[(Nm p xs xb n (show L<2 by omega)).1,(Nm p xs xb n (show L<2 by omega)).2]at hN ⊢;unfold PE at hN ⊢;rw[if_neg a,if_neg a]at hN ⊢;obtain⟨d,e⟩:=J8 (F5 b.1 c) (qA (n:=n) (L:=L) hn) hN;refine⟨d,?_⟩;have j:=c.2.2.2;have g:BA (p.s (EM p xs xb n L).toNat) (plc n L*2+1)<=(p.s (EM p xs xb n L).toNat).birth:=e;omega
variable{q:A8}{x y:Int}
theorem Jm{L:Nat}(k:BN p xs xb)(hn:n<64)(z:L<2)(j:CN xb b)(d:∀s t,BM p s t->BM q s t)(o:Nil x y\/(BM q x y/\y<=b)) :
 CD q (C4 (BE p xs xb n L x) (BD p xs xb n L y) b):=by
 refine⟨j.1,Or.inr ⟨rfl,by simp[C4,Go.ByteArray.toList_eq],fun i hi=>?_⟩⟩;have c:i<8:=hi;show NC q b (BE p xs xb n L x i) (BD p xs xb n L y i);unfold BE BD;by_cases e:i=plc n L
 ·rw[if_pos e,if_pos e];rcases o with h | h
  ·exact Or.inl h
  ·exact Or.inr h
 ·rw[if_neg e,if_neg e];unfold Ds Dr;by_cases a:Nil (EM p xs xb n L) (FU p xs xb n L)
  ·rw[if_pos a,if_pos a];exact Or.inl ⟨rfl,rfl⟩
  ·rw[if_neg a,if_neg a];obtain⟨g,r⟩:=Xs k hn (L:=L) (by omega) a;by_cases l:Nil (AK (p.s (EM p xs xb n L).toNat) i) (AW (p.s (EM p xs xb n L).toNat) i)
   ·exact Or.inl l
   ·obtain⟨m,u⟩:=J8 (F5 k.1 g) c l;refine Or.inr ⟨d _ _ m,?_⟩;have v:=g.2.2.2;have w:=j.2;omega
theorem MV{f:Nat->AD}:∀{n:Nat},roomN f n=0->∀j,j<n->¬An (f j)
 | 0,_,j,hj=>absurd hj (Nat.not_lt_zero _)
 | n+1,h,j,hj=>by
  by_cases a:An (f n)
  ·rw[Ju a]at h;omega
  ·rw[J2 a]at h;by_cases e:j=n
   ·rw[e];exact a
   ·exact MV h j (by omega)
theorem LB{f:Nat->AD}:∀{n:Nat},0<roomN f n->∃i,Br n f i
 | 0,h=>absurd h (Nat.lt_irrefl _)
 | n+1,h=>by
  by_cases a:0<roomN f n
  ·obtain⟨i,e,c,d⟩:=LB a;exact⟨i,by omega,c,d⟩
  ·by_cases b:An (f n)
   ·exact⟨n,by omega,b,MV (by omega)⟩
   ·rw[J2 b]at h;exact absurd h a
variable{i:Nat}
theorem OM{s:AD}(hi:Br p.n p.s i)(hs:CD p s):roomN (BH p i s).s p.n+1=roomN p.s p.n:=by
 have h:=UJ (p:=p) (i:=i) (s:=s) hi.2.1 (GF hs) p.n;rw[if_pos hi.1]at h;exact h
theorem K3(a:Df b)(c:d.size=16):CD p (Bh b d):=⟨a,Or.inl ⟨rfl,c⟩⟩
theorem RY{s:AD}(hi:Br p.n p.s i)(hs:1<=s.birth):BM (BH p i s) (i:Int) s.birth:=
 ⟨hs,by omega,by have:=hi.1;show(i:Int)<(p.n:Int);omega,by rw[Int.toNat_natCast,QQ]⟩
theorem Xv{L:Nat}(hn:n<64)(a:1<=b):¬Fa (BE p xs xb n L x) (BD p xs xb n L b):=fun h=>by
 have:=(h (plc n L) (qA hn)).2;unfold BD at this;rw[if_pos rfl]at this;omega
def C8(p:A8)(b:Int)(d:ByteArray)(i0:Nat):A8:=BH p i0 (Bh b d)
def FB(p:A8)(xs xb:Int)(n:Nat)(b:Int)(d:ByteArray)(i0 i1:Nat):A8:=BH (C8 p b d i0) i1 (C4 (BE p xs xb n 1 (i0:Int)) (BD p xs xb n 1 b) b)
def SO(p:A8)(xs xb:Int)(n:Nat)(b:Int)(d:ByteArray)(i0 i1 i2:Nat):A8:=BH (FB p xs xb n b d i0 i1) i2 (C4 (BE p xs xb n 0 (i1:Int)) (BD p xs xb n 0 b) b)
theorem zIn{i0:Nat}(g:BN p xs xb)(a:CN xb b)(c:d.size=16)(e:Br p.n p.s i0):Cj p (Bh b d)=⟨C8 p b d i0,(i0:Int),b,0⟩:=
 Lw ⟨g.1,GF (K3 (p:=p) a.1 c),K3 a.1 c⟩ e
theorem RZ{i0:Nat}(e:BN p xs xb)(c:CN xb b)(g:d.size=16)(a:Br p.n p.s i0):Ag (C8 p b d i0):=Qt e.1 a (K3 c.1 g)
theorem Jo{i0:Nat}(e:BN p xs xb)(hn:n<64)(c:CN xb b)(a:Br p.n p.s i0):CD (C8 p b d i0) (C4 (BE p xs xb n 1 (i0:Int)) (BD p xs xb n 1 b) b):=
 Jm e hn (by omega) c (fun s t h=>Me a.2.1 h) (Or.inr ⟨RY (s:=Bh b d) a c.1.1,Int.le_refl _⟩)
variable{i1:Nat}
theorem Nt{i0:Nat}(g:BN p xs xb)(hn:n<64)(c:CN xb b)(e:Br p.n p.s i0)(a:Br p.n (C8 p b d i0).s i1):CD (FB p xs xb n b d i0 i1) (C4 (BE p xs xb n 0 (i1:Int)) (BD p xs xb n 0 b) b):=
 Jm g hn (by omega) c (fun s t h=>Me (p:=C8 p b d i0) a.2.1 (Me e.2.1 h)) (Or.inr ⟨RY (p:=C8 p b d i0) (s:=C4 (BE p xs xb n 1 (i0:Int)) (BD p xs xb n 1 b) b) a c.1.1,Int.le_refl _⟩)
theorem yy{i0:Nat}(hn:n<64)(a:CN xb b):Bk p xs xb n b ⟨C8 p b d i0,(i0:Int),b,0⟩ 1=Cj (C8 p b d i0) (C4 (BE p xs xb n 1 (i0:Int)) (BD p xs xb n 1 b) b):=
 if_neg (Xv hn a.1.1)
theorem Pn{i0:Nat}(e:BN p xs xb)(hn:n<64)(a:CN xb b)(h:d.size=16)(c:Br p.n p.s i0)(g:Br p.n (C8 p b d i0).s i1):Bk p xs xb n b ⟨C8 p b d i0,(i0:Int),b,0⟩ 1=⟨FB p xs xb n b d i0 i1,(i1:Int),b,0⟩:=by
 rw[yy hn a];exact Lw ⟨RZ e a h c,GF (Jo (d:=d) e hn a c),Jo e hn a c⟩ g
theorem yz{i0:Nat}(g:BN p xs xb)(hn:n<64)(a:CN xb b)(h:d.size=16)(c:Br p.n p.s i0)(e:Br p.n (C8 p b d i0).s i1):Bk p xs xb n b ⟨C8 p b d i0,(i0:Int),b,0⟩ 2=Cj (FB p xs xb n b d i0 i1) (C4 (BE p xs xb n 0 (i1:Int)) (BD p xs xb n 0 b) b):=by
 show LO p xs xb n b (Bk p xs xb n b ⟨C8 p b d i0,(i0:Int),b,0⟩ 1) 0=_;rw[Pn g hn a h c e];exact if_neg (Xv hn a.1.1)
theorem Sm(hn:n<64):G7 (n:Int):=⟨by omega,by omega⟩
theorem Ul{i0:Nat}(c:BN p xs xb)(hn:n<64)(a:CN xb b)(e:d.size=16)(h:Br p.n p.s i0):EU p xs xb (n:Int) d b=EK p xs xb n b ⟨C8 p b d i0,(i0:Int),b,0⟩:=by
 have g:=zIn c a e h;rw[zEv (by omega) ⟨c,a⟩ ⟨Sm hn,e⟩ (by rw[g]),g];rfl
theorem Xu{i0:Nat}(e:BN p xs xb)(hn:n<64)(c:CN xb b)(h:d.size=16)(a:Br p.n p.s i0)(g:Br p.n (C8 p b d i0).s i1):Ag (FB p xs xb n b d i0 i1):=
 Qt (RZ e c h a) g (Jo e hn c a)
theorem zGv{i0 i2:Nat}(e:BN p xs xb)(hn:n<64)(c:CN xb b)(h:d.size=16)(a:Br p.n p.s i0)(g:Br p.n (C8 p b d i0).s i1)(l:Br p.n (FB p xs xb n b d i0 i1).s i2) :
 EU p xs xb (n:Int) d b=⟨SO p xs xb n b d i0 i1 i2,(i2:Int),b,JG p xs xb n 3,0⟩:=by
 rw[Ul e hn c h a];have k:=Pn e hn c h a g;have i:Bk p xs xb n b ⟨C8 p b d i0,(i0:Int),b,0⟩ 2=⟨SO p xs xb n b d i0 i1 i2,(i2:Int),b,0⟩:=by
  rw[yz e hn c h a g];exact Lw ⟨Xu e hn c h a g,GF (Nt (d:=d) e hn c a g),Nt e hn c a g⟩ l
 rw[QW (fun j m=>by
  rcases j with _ | _ | _ | j
  ·rfl
  ·rw[k]
  ·rw[i]
  ·omega),i]
theorem zAJ(c:BN p xs xb)(hn:n<64)(a:CN xb b)(g:d.size=16)(x:roomN p.s p.n<3):EU p xs xb (n:Int) d b=DZ 6:=by
 by_cases r0:roomN p.s p.n=0
 ·have o:=MY (p:=p) (s:=Bh b d) ⟨c.1,GF (K3 (p:=p) a.1 g),K3 a.1 g⟩ (MV r0);rw[zAK (by omega) ⟨c,a⟩ ⟨Sm hn,g⟩ (by rw[o];decide),o]
 ·obtain⟨i0,e⟩:=LB (f:=p.s) (n:=p.n) (by omega);have r:=OM (s:=Bh b d) e (K3 a.1 g);rw[Ul c hn a g e];by_cases r1:roomN (C8 p b d i0).s p.n=0
  ·have v:=MY (p:=C8 p b d i0) ⟨RZ c a g e,GF (Jo (n:=n) (d:=d) c hn a e),Jo c hn a e⟩ (MV r1);have i:=yy (p:=p) (xs:=xs) (d:=d) (i0:=i0) hn a;rw[v]at i;rw[NX (k:=0) (by omega) (fun j q=>by cases (show j=0 from by omega);rfl) (by rw[i];decide),i]
  ·obtain⟨m,h⟩:=LB (f:=(C8 p b d i0).s) (n:=p.n) (by omega);have q1:roomN (FB p xs xb n b d i0 m).s p.n+1=roomN (C8 p b d i0).s p.n:=OM (p:=C8 p b d i0) h (Jo c hn a e);have t:roomN (C8 p b d i0).s p.n+1=roomN p.s p.n:=r;have u:roomN (FB p xs xb n b d i0 m).s p.n=0:=(by omega);have w:=MY (p:=FB p xs xb n b d i0 m) ⟨Xu c hn a g e h,GF (Nt (d:=d) c hn a e h),Nt c hn a e h⟩ (MV u);have i:=Pn c hn a g e h;have l:=yz c hn a g e h;rw[w]at l;rw[NX (k:=1) (by omega) (fun j q=>by
    rcases j with _ | _ | j
    ·rfl
    ·rw[i]
    ·omega) (by rw[l];decide),l]
def FI(w:World)(S:Nat->Prop)(v0 v1:Value)(p:A8):Prop:=
 ∃(bs hb:Nat) (kb:Nat->Nat) (kv:Nat->Value),Fp w bs kb kv v0 p.n p.s/\O9 kb p.n p.s/\FK w hb v1 p.hn p.h/\(0<p.hn->¬I1 bs kb p.n p.s hb)/\
  ∀k,I1 bs kb p.n p.s k\/(0<p.hn/\k=hb)->S k
variable{lo hi:Nat}
theorem Cz.isIn(h:Cz w lo hi v0 v1 p)(j:∀k,lo<=k->k<hi->S k):FI w S v0 v1 p:=by
 obtain⟨c,l,m,n,d,e,g,i,a⟩:=h;exact⟨c,l,m,n,d,e,g,i,fun k b=>j k (a k b).1 (a k b).2⟩
theorem FI.own(h:FI w S v0 v1 p)(i:∀k,S k->lo<=k/\k<hi):Cz w lo hi v0 v1 p:=by
 obtain⟨a,j,m,n,b,c,d,e,g⟩:=h;exact⟨a,j,m,n,b,c,d,e,fun k l=>i k (g k l)⟩
theorem FI.AH{T:Nat->Prop}(h:FI w S v0 v1 p)(t:AI T w w')(hs:∀k,S k->¬T k):FI w' S v0 v1 p:=by
 obtain⟨b,d,e,q,g,j,l,m,c⟩:=h;have out:∀k,I1 b e p.n p.s k\/(0<p.hn/\k=d)->¬T k:=fun k o=>hs k (c k o)
 exact⟨b,d,e,q,g.AH t (fun a=>out _ (Or.inl (Or.inl ⟨a,rfl⟩))) (fun i hi h=>out _ (Or.inl (Or.inr ⟨i,hi,h,rfl⟩))),j,l.AH t (fun a=>out _ (Or.inr ⟨a,rfl⟩)),m,c⟩
theorem FI.at(h:FI w S v0 v1 p)(a:∀k,S k->lo<=k/\k<hi):EE w lo hi v0 v1 p:=(h.own a).at
theorem Ui(c:Bk p xs xb n b ⟨p,0,0,0⟩ 1=⟨q,x,y,0⟩)(d:Fa (BE p xs xb n 0 x) (BD p xs xb n 0 y)):EK p xs xb n b ⟨p,0,0,0⟩=⟨q,0,0,JG p xs xb n 3,0⟩:=by
 have a:Bk p xs xb n b ⟨p,0,0,0⟩ 2=⟨q,0,0,0⟩:=by
  show LO p xs xb n b (Bk p xs xb n b ⟨p,0,0,0⟩ 1) 0=_;rw[c];exact if_pos d
 rw[QW (fun j e=>by
  rcases j with _ | _ | _ | j
  ·rfl
  ·rw[c]
  ·rw[a]
  ·omega),a]
theorem Uk(c:Bk p xs xb n b ⟨p,0,0,0⟩ 1=⟨q,x,y,0⟩)(d:¬Fa (BE p xs xb n 0 x) (BD p xs xb n 0 y))(e:Ag q)(hF:CD q (C4 (BE p xs xb n 0 x) (BD p xs xb n 0 y) b))(hi:Br q.n q.s i) :
 EK p xs xb n b ⟨p,0,0,0⟩=⟨BH q i (C4 (BE p xs xb n 0 x) (BD p xs xb n 0 y) b),(i:Int),b,JG p xs xb n 3,0⟩:=by
 have a:Bk p xs xb n b ⟨p,0,0,0⟩ 2=⟨BH q i (C4 (BE p xs xb n 0 x) (BD p xs xb n 0 y) b),(i:Int),b,0⟩:=by
  show LO p xs xb n b (Bk p xs xb n b ⟨p,0,0,0⟩ 1) 0=_;rw[c];exact(if_neg d).trans (Lw ⟨e,GF hF,hF⟩ hi)
 rw[QW (fun j g=>by
  rcases j with _ | _ | _ | j
  ·rfl
  ·rw[c]
  ·rw[a]
  ·omega),a]
theorem Vh(d:Bk p xs xb n b ⟨p,0,0,0⟩ 1=⟨q,x,y,0⟩)(e:¬Fa (BE p xs xb n 0 x) (BD p xs xb n 0 y))(g:Ag q)(hF:CD q (C4 (BE p xs xb n 0 x) (BD p xs xb n 0 y) b))(a:∀j,j<q.n->¬An (q.s j)) :
 EK p xs xb n b ⟨p,0,0,0⟩=DZ 6:=by
 have c:Bk p xs xb n b ⟨p,0,0,0⟩ 2=⟨DW 0,0,0,6⟩:=by
  show LO p xs xb n b (Bk p xs xb n b ⟨p,0,0,0⟩ 1) 0=_;rw[d];exact(if_neg e).trans (MY ⟨g,GF hF,hF⟩ a)
 rw[NX (k:=1) (by omega) (fun j h=>by
    rcases j with _ | _ | j
    ·rfl
    ·rw[d]
    ·omega) (by rw[c];decide),c]
theorem zJg(a:Fa (BE p xs xb n 1 0) (BD p xs xb n 1 0)):Bk p xs xb n b ⟨p,0,0,0⟩ 1=⟨p,0,0,0⟩:=if_pos a
theorem zJh(a:BN p xs xb)(hn:n<64)(c:CN xb b)(d:¬Fa (BE p xs xb n 1 0) (BD p xs xb n 1 0))(hi:Br p.n p.s i) :
 Bk p xs xb n b ⟨p,0,0,0⟩ 1=⟨BH p i (C4 (BE p xs xb n 1 0) (BD p xs xb n 1 0) b),(i:Int),b,0⟩:=by
 have hF:CD p (C4 (BE p xs xb n 1 0) (BD p xs xb n 1 0) b):=Jm a hn (by omega) c (fun s t h=>h) (Or.inl ⟨rfl,rfl⟩);exact(if_neg d).trans (Lw ⟨a.1,GF hF,hF⟩ hi)
theorem zFg(d:BN p xs xb)(hn:n<64)(e:CN xb b)(g:¬Fa (BE p xs xb n 1 0) (BD p xs xb n 1 0))(a:∀j,j<p.n->¬An (p.s j)):EK p xs xb n b ⟨p,0,0,0⟩=DZ 6:=by
 have hF:CD p (C4 (BE p xs xb n 1 0) (BD p xs xb n 1 0) b):=Jm d hn (by omega) e (fun s t h=>h) (Or.inl ⟨rfl,rfl⟩);have c:Bk p xs xb n b ⟨p,0,0,0⟩ 1=⟨DW 0,0,0,6⟩:=(if_neg g).trans (MY ⟨d.1,GF hF,hF⟩ a);rw[NX (k:=0) (by omega) (fun j i=>by cases (show j=0 from by omega);rfl) (by rw[c];decide),c]
variable{g:Nat->Int}
theorem zGo{f:Nat->Int}:(∃i,i<8/\¬Nil (f i) (g i))↔¬Fa f g:=by
 constructor
 ·rintro⟨i,hi,h⟩ a;exact h (a i hi)
 ·intro h;apply Classical.byContradiction;intro b;exact h fun i hi=>Classical.byContradiction fun hn=>b ⟨i,hi,hn⟩
open Classical in
def Dq(p:A8)(m:Nat):A8:={n:=p.n,s:=fun i=>if Has m p.h (i:Int)then Ef else p.s i,hn:=p.hn,h:=p.h}
def Gw(p:A8):A8:={n:=p.n,s:=(Dq p p.hn).s,hn:=0,h:=p.h}
open Classical in
def Ia(p:A8):A8:=if Ag p/\Ag (Gw p)then Gw p else p
variable{m:Nat}
theorem R6(h:Has m p.h (i:Int)):(Dq p m).s i=Ef:=if_pos h
theorem R5(h:¬Has m p.h (i:Int)):(Dq p m).s i=p.s i:=if_neg h
theorem zAs(p:A8):Dq p 0=p:=by
 have e:(Dq p 0).s=p.s:=funext fun i=>R5 (fun ⟨j,hj,_⟩=>absurd hj (Nat.not_lt_zero _))
 show A8.mk p.n (Dq p 0).s p.hn p.h=p;rw[e]
theorem zAr(c:p.h k=(m:Int)):Dq p (k+1)=BH (Dq p k) m Ef:=by
 have e:(Dq p (k+1)).s=(BH (Dq p k) m Ef).s:=funext fun i=>by
  show _=if i=m then Ef else(Dq p k).s i
  by_cases b:i=m
  ·rw[if_pos b,R6 ⟨k,by omega,by rw[c,b]⟩]
  ·rw[if_neg b];by_cases a:Has k p.h (i:Int)
   ·rw[R6 a,R6 (by obtain⟨j,g,e⟩:=a;exact⟨j,by omega,e⟩)]
   ·rw[R5 a,R5 (fun ⟨j,g,e⟩=>a ⟨j,by
     by_cases d:j=k
     ·subst d;rw[c]at e;omega
     ·omega,e⟩)]
 show A8.mk p.n (Dq p (k+1)).s p.hn p.h=A8.mk p.n (BH (Dq p k) m Ef).s p.hn p.h;rw[e]
theorem Ug(h:Ag p)(a:Ag (Gw p)):Ia p=Gw p:=if_pos ⟨h,a⟩
theorem Pe(h:¬(Ag p/\Ag (Gw p))):Ia p=p:=if_neg h
structure AM where
 name:ByteArray
 origin:Int
 A6:Int
 rs:Int
 rb:Int
 dn:Nat
 ds:Nat->Int
 db:Nat->Int
structure AL where
 id:Int
 name:ByteArray
 set:ByteArray
 A6:Int
 time:Int
 rs:Int
 rb:Int
 dn:Nat
 ds:Nat->Int
 db:Nat->Int
structure A5 where
 pool:A8
 time:Int
 next:Int
 sn:Nat
 A3:Nat->AM
 pn:Nat
 A1:Nat->AL
structure I8 (w:World) (b o lo hi:Nat) (vd:Value) (s:AM):Prop where
 c0:w.cell? ⟨b,o,none⟩=some (.string s.name)
 c1:w.cell? ⟨b,o+1,none⟩=some (.int .i64 s.origin)
 c2:w.cell? ⟨b,o+2,none⟩=some (.int .i64 s.A6)
 c3:w.cell? ⟨b,o+3,none⟩=some (.int .i64 s.rs)
 c4:w.cell? ⟨b,o+4,none⟩=some (.int .i64 s.rb)
 c5:w.cell? ⟨b,o+5,none⟩=some vd
 dead:B4 w lo hi vd s.dn s.ds s.db
 Bo:s.name.size<=maxLen
theorem I8.A0{b o:Nat}{vd:Value}{s:AM}(h:I8 w b o lo hi vd s)(t:Below w.heap.size w w'):I8 w' b o lo hi vd s:=
 ⟨(t.cell (AZ h.c0)).trans h.c0,(t.cell (AZ h.c1)).trans h.c1,(t.cell (AZ h.c2)).trans h.c2,(t.cell (AZ h.c3)).trans h.c3,(t.cell (AZ h.c4)).trans h.c4,(t.cell (AZ h.c5)).trans h.c5,h.dead.A0 t,h.Bo⟩
structure IF (w:World) (b o lo hi:Nat) (vd:Value) (s:AL):Prop where
 c0:w.cell? ⟨b,o,none⟩=some (.int .i64 s.id)
 c1:w.cell? ⟨b,o+1,none⟩=some (.string s.name)
 c2:w.cell? ⟨b,o+2,none⟩=some (.string s.set)
 c3:w.cell? ⟨b,o+3,none⟩=some (.int .i64 s.A6)
 c4:w.cell? ⟨b,o+4,none⟩=some (.int .i64 s.time)
 c5:w.cell? ⟨b,o+5,none⟩=some (.int .i64 s.rs)
 c6:w.cell? ⟨b,o+6,none⟩=some (.int .i64 s.rb)
 c7:w.cell? ⟨b,o+7,none⟩=some vd
 dead:B4 w lo hi vd s.dn s.ds s.db
 Bo:s.name.size<=maxLen/\s.set.size<=maxLen
theorem IF.A0{b o:Nat}{vd:Value}{s:AL}(h:IF w b o lo hi vd s)(t:Below w.heap.size w w'):IF w' b o lo hi vd s:=
 ⟨(t.cell (AZ h.c0)).trans h.c0,(t.cell (AZ h.c1)).trans h.c1,(t.cell (AZ h.c2)).trans h.c2,(t.cell (AZ h.c3)).trans h.c3,(t.cell (AZ h.c4)).trans h.c4,(t.cell (AZ h.c5)).trans h.c5,(t.cell (AZ h.c6)).trans h.c6,(t.cell (AZ h.c7)).trans h.c7,h.dead.A0 t,h.Bo⟩
def EF(w:World)(lo hi:Nat)(v:Value)(n:Nat)(f:Nat->AM):Prop:=
 n<=maxLen/\∃a cap,v = .slice a n cap/\n<=cap/\(0<n->∃b off,a=some ⟨b,off,none⟩/\lo<=b/\b<hi/\∀i,i<n->∃vd,I8 w b (off+i*6) lo hi vd (f i))
def DR(w:World)(lo hi:Nat)(v:Value)(n:Nat)(f:Nat->AL):Prop:=
 n<=maxLen/\∃a cap,v = .slice a n cap/\n<=cap/\(0<n->∃b off,a=some ⟨b,off,none⟩/\lo<=b/\b<hi/\∀i,i<n->∃vd,IF w b (off+i*8) lo hi vd (f i))
theorem EF.A0{v:Value}{f:Nat->AM}(h:EF w lo hi v n f)(t:Below w.heap.size w w'):EF w' lo hi v n f:=by
 obtain⟨d,a,cap,hv,c,l⟩:=h;refine⟨d,a,cap,hv,c,fun hn=>?_⟩;obtain⟨b,off,k,e,g,j⟩:=l hn;refine⟨b,off,k,e,g,fun i hi=>?_⟩;obtain⟨vd,hs⟩:=j i hi;exact⟨vd,hs.A0 t⟩
theorem DR.A0{v:Value}{f:Nat->AL}(h:DR w lo hi v n f)(t:Below w.heap.size w w'):DR w' lo hi v n f:=by
 obtain⟨d,a,cap,hv,c,l⟩:=h;refine⟨d,a,cap,hv,c,fun hn=>?_⟩;obtain⟨b,off,k,e,g,j⟩:=l hn;refine⟨b,off,k,e,g,fun i hi=>?_⟩;obtain⟨vd,hs⟩:=j i hi;exact⟨vd,hs.A0 t⟩
variable{a:Option Addr}
theorem EF.cells{c:Nat}{f:Nat->AM}(h:EF w lo hi (.slice a n c) n f)(d:i<n):∃b off vd,a=some ⟨b,off,none⟩/\I8 w b (off+i*6) lo hi vd (f i):=by
 obtain⟨m,l,cap,hv,j,k⟩:=h;simp only[Value.slice.injEq,true_and]at hv;obtain⟨rfl,rfl⟩:=hv;obtain⟨b,off,g,o,p,e⟩:=k (by omega);obtain⟨vd,hs⟩:=e i d;exact⟨b,off,vd,g,hs⟩
theorem DR.cells{c:Nat}{f:Nat->AL}(h:DR w lo hi (.slice a n c) n f)(d:i<n):∃b off vd,a=some ⟨b,off,none⟩/\IF w b (off+i*8) lo hi vd (f i):=by
 obtain⟨m,l,cap,hv,j,k⟩:=h;simp only[Value.slice.injEq,true_and]at hv;obtain⟨rfl,rfl⟩:=hv;obtain⟨b,off,g,o,p,e⟩:=k (by omega);obtain⟨vd,hs⟩:=e i d;exact⟨b,off,vd,g,hs⟩
structure BR (w:World) (lo hi:Nat) (v0 v1 v2 v3:Value) (W:A5):Prop where
 pool:EE w lo hi v0 v1 W.pool
 A3:EF w lo hi v2 W.sn W.A3
 A1:DR w lo hi v3 W.pn W.A1
variable{W:A5}
theorem BR.A0(h:BR w lo hi v0 v1 v2 v3 W)(t:Below w.heap.size w w'):BR w' lo hi v0 v1 v2 v3 W:=⟨h.pool.A0 t,h.A3.A0 t,h.A1.A0 t⟩
abbrev BS(v0 v1 v2 v3:Value)(W:A5):Value:=.agg #[v0,v1,.int .i64 W.time,.int .i64 W.next,v2,v3]
def B5(W:A5)(id:Int)(k:Nat):Prop:=k<W.pn/\(W.A1 k).id=id/\∀j,j<k->(W.A1 j).id≠id
def Bl(W:A5)(name:ByteArray)(k:Nat):Prop:=k<W.sn/\(W.A3 k).name=name/\∀j,j<k->(W.A3 j).name≠name
theorem B5.uniq{id:Int}{j:Nat}(h:B5 W id i)(a:B5 W id j):i=j:=by
 rcases Nat.lt_trichotomy i j with e | e | e
 ·exact absurd h.2.1 (a.2.2 i e)
 ·exact e
 ·exact absurd a.2.1 (h.2.2 j e)
theorem Bl.uniq{name:ByteArray}{j:Nat}(h:Bl W name i)(a:Bl W name j):i=j:=by
 rcases Nat.lt_trichotomy i j with e | e | e
 ·exact absurd h.2.1 (a.2.2 i e)
 ·exact e
 ·exact absurd a.2.1 (h.2.2 j e)
theorem A4{P:Prop}(h:P):Hid P:=h
def Pv(n:Nat)(P:Nat->Prop)(r:Int):Prop:=(∃k:Nat,k<n/\P k/\(∀j,j<k->¬P j)/\r=k)\/((∀j,j<n->¬P j)/\r = -1)
open Go.Maps
def Ip(t:Int):Prop:=0<=t/\t<=1000000
def G4(s b:Int):Prop:=0<=s/\s<=199/\1<=b/\b<=1000000
def JJ(n:Nat)(f:Nat->Int):Prop:=∀i,i<n->∀k,k<i->f k≠f i
def Bq(n:Nat)(f g:Nat->Int):Prop:=n<=200/\(∀i,i<n->G4 (f i) (g i))/\JJ n f
def PIn(n:Nat)(f g:Nat->Int)(x y:Int):Prop:=∃j,j<n/\f j=x/\g j=y
def Ew(n:Nat)(f g:Nat->Int)(m:Nat)(f' g':Nat->Int):Prop:=Bq n f g/\Bq m f' g'/\n=m/\∀i,i<n->PIn m f' g' (f i) (g i)
variable{f:Nat->Int}
theorem JJ.inj(h:JJ n f)(hi:i<n)(b:k<n)(e:f i=f k):i=k:=by
 rcases Nat.lt_trichotomy i k with a | a | a
 ·exact absurd e (h k b i a)
 ·exact a
 ·exact absurd e.symm (h i hi k a)
theorem Sr:∀(n m:Nat) (h:Nat->Nat),(∀i,i<n->h i<m)->(∀i k,i<n->k<n->h i=h k->i=k)->n<=m
 | 0,_,_,_,_=>Nat.zero_le _
 | n+1,m,h,h1,h2=>by
  have g:=h1 n (Nat.lt_succ_self n);have:=Sr n (m - 1) (fun i=>if h i<h n then h i else h i - 1) (fun i hi=>by
   have:=h1 i (by omega);have:h i≠h n:=fun e=>by have:=h2 i n (by omega) (by omega) e;omega
   show(if h i<h n then h i else h i - 1)<m - 1;split<;>omega) (fun i k hi d e=>by
   have b:h i≠h n:=fun e=>by have:=h2 i n (by omega) (by omega) e;omega
   have c:h k≠h n:=fun e=>by have:=h2 k n (by omega) (by omega) e;omega
   have a:(if h i<h n then h i else h i - 1)=(if h k<h n then h k else h k - 1):=e;refine h2 i k (by omega) (by omega) ?_;split at a<;>split at a<;>omega)
  omega
variable{f' g':Nat->Int}
theorem zEY(o:Bq n f g)(p:Bq n f' g')(h:∀i,i<n->PIn n f' g' (f i) (g i)):∀j,j<n->PIn n f g (f' j) (g' j):=by
 intro j q;by_cases c:PIn n f g (f' j) (g' j)
 ·exact c
 ·exfalso;have:=Sr n (n - 1) (fun i=>if hi:i<n then(if (h i hi).choose<j then(h i hi).choose else(h i hi).choose - 1)else 0) (fun i hi=>by
   have hs:=(h i hi).choose_spec;have d:(h i hi).choose≠j:=fun e=>c ⟨i,hi,by rw[<-hs.2.1,e],by rw[<-hs.2.2,e]⟩
   simp only[hi,dif_pos];split<;>omega) (fun i k hi b e=>by
   have hs:=(h i hi).choose_spec;have a:=(h k b).choose_spec;have d:(h i hi).choose≠j:=fun e=>c ⟨i,hi,by rw[<-hs.2.1,e],by rw[<-hs.2.2,e]⟩
   have l:(h k b).choose≠j:=fun e=>c ⟨k,b,by rw[<-a.2.1,e],by rw[<-a.2.2,e]⟩
   simp only[hi,b,dif_pos]at e;have m:(h i hi).choose=(h k b).choose:=(by split at e<;>split at e<;>omega);refine o.2.2.inj hi b ?_;rw[<-hs.2.1,<-a.2.1,m])
  omega
theorem Ew.symm(h:Ew n f g m f' g'):Ew m f' g' n f g:=by
 obtain⟨a,b,rfl,c⟩:=h;exact⟨b,a,rfl,zEY a b c⟩
def CZ(x:Int):Lit:=.int .i64 x
theorem NV(h:x≠y):CZ x≠CZ y:=fun e=>h (by unfold CZ at e;injection e)
theorem Qh(x:Int):WideAt.IsKeyLit (CZ x):=trivial
def Dj(x:Int):DataW Unit:=.lit (.int .i64 x)
theorem Nx(h:Dj x=Dj y):x=y:=by unfold Dj at h;injection h with h;injection h
def seenD(f g:Nat->Int):Nat->DataW Unit
 | 0=>.map []
 | k+1=>(seenD f g k).put (CZ (f k)) (Dj (g k))
theorem MW(f g:Nat->Int):∀k,Tidy (seenD f g k)
 | 0=>tidy_empty
 | k+1=>(MW f g k).put (Qh _) _
theorem MC(f g:Nat->Int)(x:Int):∀k,Maps.has (seenD f g k) (CZ x)=true↔∃i,i<k/\f i=x
 | 0=>by
  constructor
  ·intro h;exact absurd h (by simp[seenD,Maps.has])
  ·rintro⟨i,hi,_⟩;omega
 | k+1=>by
  by_cases a:f k=x
  ·subst a;exact⟨fun _=>⟨k,by omega,rfl⟩,fun _=>has_put_same (MW f g k).isMap (Qh _) _⟩
  ·rw[show Maps.has (seenD f g (k+1)) (CZ x)=Maps.has (seenD f g k) (CZ x)from has_put_other (NV (Ne.symm a)) _,MC f g x k];constructor
   ·rintro⟨i,hi,e⟩;exact⟨i,by omega,e⟩
   ·rintro⟨i,hi,e⟩;by_cases h:i=k
    ·subst h;exact absurd e a
    ·exact⟨i,by omega,e⟩
theorem XW:JJ (k+1) f↔JJ k f/\∀i,i<k->f i≠f k:=by
 constructor
 ·exact fun h=>⟨fun i hi=>h i (by omega),fun i hi=>h k (by omega) i hi⟩
 ·rintro⟨b,c⟩ i hi j a;by_cases e:i=k
  ·subst e;exact c j a
  ·exact b i (by omega) j a
theorem Qv(f g:Nat->Int):∀k,Maps.size (seenD f g k)<=k/\(Maps.size (seenD f g k)=k↔JJ k f)
 | 0=>⟨Nat.le_refl _,fun _ i hi=>by omega,fun _=>rfl⟩
 | k+1=>by
  obtain⟨d,c⟩:=Qv f g k;have e:Maps.size (seenD f g (k+1))=if Maps.has (seenD f g k) (CZ (f k))then Maps.size (seenD f g k)else Maps.size (seenD f g k)+1:=size_put (MW f g k) _
  by_cases a:Maps.has (seenD f g k) (CZ (f k))=true
  ·rw[if_pos a]at e;rw[e,XW];refine⟨by omega,fun h=>by omega,fun h=>?_⟩;obtain⟨i,hi,b⟩:=(MC f g (f k) k).1 a;exact absurd b (h.2 i hi)
  ·rw[if_neg a]at e;rw[e,XW,<-c];refine⟨by omega,fun h=>⟨by omega,fun i hi b=>a ((MC f g (f k) k).2 ⟨i,hi,b⟩)⟩,fun h=>by omega⟩
theorem Sy{n:Nat}{f:Nat->Int}(g:Nat->Int)(a:JJ n f)(z:DataW Unit):∀k,k<=n->∀i,i<k->(seenD f g k).atKey (CZ (f i)) z=Dj (g i)
 | 0,_,i,hi=>absurd hi (Nat.not_lt_zero _)
 | k+1,hk,i,hi=>by
  by_cases e:i=k
  ·subst e;exact atKey_put_same (MW f g i).isMap (Qh _) _ _
  ·exact(atKey_put_other (NV (fun h=>e (a.inj (by omega) (by omega) h))) _ _).trans (Sy g a z k (by omega) i (by omega))
structure FD (n:Nat) (f g f':Nat->Int) (k:Nat) (D:DataW Unit):Prop where
 tidy:Tidy D
 size:Maps.size D+k=n
 at':∀x,(∀j,j<k->f' j≠x)->(∀i,i<n->f i=x->D.atKey (CZ x) (Dj 0)=Dj (g i))/\((∀i,i<n->f i≠x)->D.atKey (CZ x) (Dj 0)=Dj 0)
 has:∀x,Maps.has D (CZ x)=true↔(∃i,i<n/\f i=x)/\∀j,j<k->f' j≠x
theorem FD.start(h:Bq n f g)(f':Nat->Int):FD n f g f' 0 (seenD f g n) where
 tidy:=MW f g n
 size:=by rw[(Qv f g n).2.2 h.2.2];rfl
 at':=fun x _=>⟨fun i hi e=>by subst e;exact Sy g h.2.2 _ n (Nat.le_refl _) i hi,fun a=>by
  refine atKey_of_not_has ?_ _;rw[Bool.eq_false_iff];intro b;obtain⟨i,hi,e⟩:=(MC f g x n).1 b;exact a i hi e⟩
 has:=fun x=>by
  rw[MC];exact⟨fun h=>⟨h,fun j c=>absurd c (Nat.not_lt_zero _)⟩,fun h=>h.1⟩
variable{D:DataW Unit}
theorem FD.next(h:FD n f g f' k D)(o:Bq m f' g')(p:k<m)(e:D.atKey (CZ (f' k)) (Dj 0)=Dj (g' k)):FD n f g f' (k+1) (D.del (CZ (f' k))):=by
 have b:Maps.has D (CZ (f' k))=true:=by
  by_cases c:Maps.has D (CZ (f' k))=true
  ·exact c
  ·rw[atKey_of_not_has (by simpa using c)]at e;have:=Nx e;have:=(o.2.1 k p).2.2.1;omega
 have hs:=size_del (k:=CZ (f' k)) h.tidy;rw[b]at hs;refine⟨h.tidy.del _,?_,fun x i=>?_,fun x=>?_⟩
 ·have:=h.size;have q:Maps.size (D.del (CZ (f' k)))+1=Maps.size D:=hs;omega
 ·have a:f' k≠x:=i k (by omega);rw[atKey_del_other (NV (Ne.symm a))];exact h.at' x (fun j d=>i j (by omega))
 ·by_cases a:f' k=x
  ·subst a;rw[has_del_same];exact⟨fun h=>absurd h (by simp),fun h=>absurd rfl (h.2 k (by omega))⟩
  ·rw[has_del_other (NV (Ne.symm a)),h.has x];refine and_congr_right fun _=>⟨fun h j d=>?_,fun h j d=>h j (by omega)⟩
   by_cases l:j=k
   ·subst l;exact a
   ·exact h j (by omega)
theorem FD.no(h:FD n f g f' k D)(q:Bq n f g)(l:Bq m f' g')(a:k<m){c:Int}(e:D.atKey (CZ (f' k)) (Dj 0)=Dj c)(o:c≠g' k):¬Ew n f g m f' g':=by
 intro hs;obtain⟨i,hi,b,d⟩:=hs.symm.2.2.2 k a;have:=(h.at' (f' k) (fun j p=>l.2.2 k a j p)).1 i hi b;rw[e]at this;exact o ((Nx this).trans d)
theorem FD.end(h:FD n f g f' m D)(b:Bq n f g)(c:Bq m f' g')(a:∀j,j<m->PIn n f g (f' j) (g' j)):Maps.size D=0↔Ew n f g m f' g':=by
 have hs:=h.size;constructor
 ·intro e;obtain rfl:m=n:=(by omega);exact Ew.symm ⟨c,b,rfl,a⟩
 ·intro d;have:=d.2.2.1;omega
theorem FD.in(h:FD n f g f' k D)(a:Bq m f' g')(c:k<m)(e:D.atKey (CZ (f' k)) (Dj 0)=Dj (g' k)):PIn n f g (f' k) (g' k):=by
 by_cases d:∃i,i<n/\f i=f' k
 ·obtain⟨i,hi,ei⟩:=d;have:=(h.at' (f' k) (fun j b=>a.2.2 k c j b)).1 i hi ei;rw[e]at this;exact⟨i,hi,ei,(Nx this).symm⟩
 ·have:=(h.at' (f' k) (fun j b=>a.2.2 k c j b)).2 (fun i hi e=>d ⟨i,hi,e⟩);rw[e]at this;have:=Nx this;have:=(a.2.1 k c).2.2.1;omega
def Bz(f g:Nat->Int)(t:Int):Nat->List (Int×Int)
 | 0=>[]
 | k+1=>if t<g k then Bz f g t k ++ [(f k,g k)] else Bz f g t k
def Ce(f g:Nat->Int)(t:Int):Nat->List (Int×Int)
 | 0=>[]
 | k+1=>if t<g k then Ce f g t k else Ce f g t k ++ [(f k,g k)]
theorem MZ(f g:Nat->Int)(t:Int):∀k,(Bz f g t k).length+(Ce f g t k).length=k
 | 0=>rfl
 | k+1=>by
  have:=MZ f g t k;unfold Bz Ce;split<;>simp<;>omega
theorem Aa{P:Prop}(h:P):Hid P:=h
theorem B4.cellsD{c:Nat}(h:B4 w lo hi (.slice a n c) n f g)(e:k<n):∃b off,a=some ⟨b,off,none⟩/\w.cell? ⟨b,off+k*2,none⟩=some (.int .i64 (f k))/\w.cell? ⟨b,off+k*2+1,none⟩=some (.int .i64 (g k)):=by
 obtain⟨_,l,m,hv,_,j⟩:=h;simp only[Value.slice.injEq,true_and]at hv;obtain⟨rfl,rfl⟩:=hv;obtain⟨b,off,i,_,_,d⟩:=j (by omega);exact⟨b,off,i,(d k e).1,(d k e).2⟩
theorem zBo(x y:Int)(w:World):Calls Tryz.prog 205 #[.agg #[.int .i64 x,.int .i64 y]] w fun e w'=>AG (G4 x y) e/\Below w.heap.size w w':=by
 have a:=A9 w (.cells #[.int .i64 x,.int .i64 y] 38);by_cases g:0<=x
 ·by_cases j:x<200
  ·by_cases b:Df y
   ·have H:=Aa (show G4 x y from⟨g,by omega,b.1,b.2⟩);have d:=Aa b;clear b;go_enter Tryz.func205,Tryz.ntmps205;go_wp2_with (first | (go_at_call 200;refine(Gl y _).mono ?_;rintro e i ⟨⟨t,rfl,c⟩,rfl⟩;obtain rfl:t=true:=c.2 d.out;clear c) | fail);go_wp2;go_ret;exact⟨AG.yes H.out,a⟩
   ·have H:=Aa (show ¬G4 x y from fun h=>b ⟨h.2.2.1,h.2.2.2⟩);have d:=Aa b;clear b;go_enter Tryz.func205,Tryz.ntmps205;go_wp2_with (first | (go_at_call 200;refine(Gl y _).mono ?_;rintro e i ⟨⟨t,rfl,c⟩,rfl⟩;obtain rfl:t=false:=Bc c d.out;clear c) | fail);go_wp2;go_ret;exact⟨AG.no H.out,a⟩
  ·go_enter Tryz.func205,Tryz.ntmps205;go_wp2;go_ret;exact⟨AG.no fun h=>by have:=h.2.1;omega,a⟩
 ·go_enter Tryz.func205,Tryz.ntmps205;go_wp2;go_ret;exact⟨AG.no fun h=>by have:=h.1;omega,a⟩
theorem SZ:Keyed Tryz.prog 2:=int_keyed (q:=.i64) (by kernel_rfl)
theorem Ms:Tryz.prog.underlying 239=some (.map 2 2):=by kernel_rfl
theorem PD:Tryz.prog.underlying 2=some (.int .i64):=by kernel_rfl
theorem zJZ(w:World):(zeroValue 2).run Tryz.prog w = .ok (.int .i64 0) w:=by kernel_rfl
theorem QE(a:0<=x)(b:x<=1000000):(Lit.int .i64 x).wf=true:=WalkArith.wf_i64 (by omega)
def SC(w:World)(B n:Nat)(D:DataW Unit):Prop:=w.ownsMap Tryz.prog 2 (plainElem Tryz.prog 2) B n D
theorem ZH(v:Value)(n lo hi:Nat)(f g:Nat->Int)(w:World)(z:B4 w lo hi v n f g)(hn:n<=200)(t:∀i,i<n->G4 (f i) (g i)) :
 Calls Tryz.prog 204 #[v] w fun e w'=>e = .returned (.map (some w.heap.size))/\SC w' w.heap.size n (seenD f g n)/\Below w.heap.size w w':=by
 have B:=Aa z;have h:=Aa t;obtain⟨F,a,c,rfl,G,_⟩:=id z;clear z t;have D:=@run_makeMap Tryz.prog;go_enter Tryz.func204,Tryz.ntmps204;go_wp2
 go_loopw [9] (fun i wr=>∃k:Nat,k<=n/\i = .int .i64 k/\SC wr w.heap.size k (seenD f g k)/\Below w.heap.size w wr) (fun i _=>n - (intOf i).toNat)
 case atStart=>exact⟨0,Nat.zero_le _,rfl,World.ownsMap_made _ _ _ _,(Below.refl _ _).alloc (Nat.le_refl _) _⟩
 case round=>
  obtain⟨k,E,rfl,p,s⟩:=hrel;have m:=Aa p;clear p;by_cases d:k<n
  ·have A:(k:Int)<(n:Int):=(by omega);obtain⟨b,off,rfl,H,q1⟩:=(B.out.A0 s).cellsD d;have o:keyOf Tryz.prog 2 (.int .i64 (f k))=some (CZ (f k)):=keyOf_int_mk PD (QE (h.out k d).1 (by have:=(h.out k d).2.1;omega));have u:=QE (x:=g k) (by have:=(h.out k d).2.2.1;omega) (h.out k d).2.2.2;have r:=Aa o;have y:=Aa u;clear o u;go_wp2_with (first
    | (at_mapUpdate;refine wpList_mapUpdate_own _ rfl _ _ _ 239 rfl 2 2 SZ Ms _ w.heap.size k _ rfl (m.out.alloc _) (by unfold maxLen;omega) _ _ _ rfl rfl r.out _ [] (plainElem_int PD y.out) ?_;intro I q l)
    | go_in)
   go_roundw
   case rel=>exact⟨k+1,by omega,by go_num,q,(s.alloc s.size _).grown l (by rw[World.size_alloc];have:=s.size;omega) (fun j C=>by cases C;exact Nat.le_refl _)⟩
   case measure=>simp[intOf];omega
  ·obtain rfl:k=n:=(by omega);go_wp2;go_ret;exact⟨rfl,m.out,s⟩
theorem JC(v:Value)(n lo hi:Nat)(f g:Nat->Int)(w:World)(A:B4 w lo hi v n f g) :
 Calls Tryz.prog 175 #[v] w fun e w'=>AG (Bq n f g) e/\Below w.heap.size w w':=by
 have D:=Aa A;obtain⟨L,a,c,rfl,P,_⟩:=id A;clear A;unfold maxLen at L;by_cases hn:n<=200
 ·have B:¬(200:Int)<(n:Int):=(by omega);go_enter Tryz.func175,Tryz.ntmps175;go_wp2
  go_loopw [10] (fun i wr=>∃k:Nat,k<=n/\i = .int .i64 k/\(∀i,i<k->G4 (f i) (g i))/\Below w.heap.size w wr) (fun i _=>n - (intOf i).toNat)
  case atStart=>exact⟨0,Nat.zero_le _,rfl,fun j J=>absurd J (Nat.not_lt_zero _),Below.refl _ _⟩
  case round=>
   obtain⟨k,O,rfl,p,u⟩:=hrel;have l:=Aa p;clear p;by_cases q:k<n
   ·have E:(k:Int)<(n:Int):=(by omega);obtain⟨b,off,rfl,M,q1⟩:=(D.out.A0 u).cellsD q;have r:=A7 u (A9 wr (.cells #[.int .i64 (f k),.int .i64 (g k)] 38));go_wp2_with fail;refine(zBo (f k) (g k) _).mono ?_;rintro e N ⟨⟨t,rfl,x⟩,m⟩;have o:=A7 r m;clear m r M q1;by_cases d:G4 (f k) (g k)
    ·have y:=Aa d;obtain rfl:t=true:=x.2 d;clear x d;go_wp2;go_roundw
     case rel=>exact⟨k+1,by omega,by go_num,Bf q l.out y.out,o⟩
     case measure=>simp[intOf];omega
    ·have y:=Aa d;obtain rfl:t=false:=Bc x d;clear x d;go_wp2;go_ret;exact⟨AG.no fun h=>y.out (h.2.1 k q),o⟩
   ·obtain rfl:k=n:=(by omega);go_wp2_with fail;refine(ZH _ k lo hi f g _ (D.out.A0 u) hn l.out).mono ?_;rintro e N ⟨rfl,F,m⟩;have o:=A7 u m;have H:=Aa F;have C:=Qv f g k;clear F m;obtain⟨K,s⟩:=C;have z:=Aa s;clear s;go_wp2_with (first
     | (at_len;refine wpList_len_own _ rfl _ 239 rfl 2 2 Ms _ wr.heap.size k _ rfl H.out ?_)
     | go_in)
    go_ret;refine⟨⟨_,rfl,?_⟩,o⟩;have I:=z.out;have G:=l.out;simp only[beq_iff_eq,Int.natCast_inj];exact I.trans ⟨fun h=>⟨hn,G,h⟩,fun h=>h.2.2⟩
 ·have B:(200:Int)<(n:Int):=(by omega);go_enter Tryz.func175,Tryz.ntmps175;go_wp2;go_ret;exact⟨AG.no fun h=>hn h.1,Below.refl _ _⟩
def Kc(n a b:Int):Prop:=a<=n/\n<=b
end
end Go.Proofs.YtibhefllijahkaaGreatDoor
