/- A part of the proof. -/
import Derived.Test.YtnfjcaoclahfjaaGreatDoorF11
import Derived.Deep.LoopGhost
import Derived.RegionTactic
import Derived.ChangeAlike
import Derived.BigRegion
import Derived.Maps.OwnSet
set_option linter.unusedVariables false
set_option maxRecDepth 20000
set_option maxHeartbeats 4000000
namespace Go.Proofs.YtnfjcaoclahfjaaGreatDoor
noncomputable section
open Go.RowKit
def E5(p:A7)(xs xb:Int)(n L:Nat):Int:=if L=0 then xs else if L=1 then DK p xs xb n else EL p xs xb n
def FL(p:A7)(xs xb:Int)(n L:Nat):Int:=if L=0 then xb else if L=1 then Dc p xs xb n else Ei p xs xb n
def plc(n L:Nat):Nat:=if L=0 then n / 8 else n % 8
def P5(p:A7)(xs xb:Int)(n L j:Nat):Int:=if Nil (E5 p xs xb n L) (FL p xs xb n L)then 0 else B7 (p.s (E5 p xs xb n L).toNat) j
variable{L:Nat}
theorem Np(p:A7)(xs xb:Int)(n:Nat)(h:L<2):E5 p xs xb n (L+1)=P5 p xs xb n L (plc n L*2)/\FL p xs xb n (L+1)=P5 p xs xb n L (plc n L*2+1):=by
 rcases L with _ | _ | L
 ·exact⟨rfl,rfl⟩
 ·exact⟨rfl,rfl⟩
 ·omega
variable{n:Nat}
theorem Z8(h:n<64):plc n L<8:=by unfold plc;split<;>omega
variable{p:A7}{xs xb:Int}
theorem zFw(h:Nil (E5 p xs xb n L) (FL p xs xb n L))(a:L<2):Nil (E5 p xs xb n (L+1)) (FL p xs xb n (L+1)):=by
 rw[(Np p xs xb n a).1,(Np p xs xb n a).2];unfold P5;rw[if_pos h,if_pos h];exact⟨rfl,rfl⟩
def J5(p:A7)(xs xb:Int)(n k:Nat):List (Int×Int):=kidsUp (fun i=>E5 p xs xb n (2 - i)) (fun i=>FL p xs xb n (2 - i)) k
open Classical in
def roomN(f:Nat->AG):Nat->Nat
 | 0=>0
 | k+1=>roomN f k+(if Am (f k)then 1 else 0)
variable{f:Nat->AG}{k:Nat}
theorem Jo(h:Am (f k)):roomN f (k+1)=roomN f k+1:=by simp[roomN,h]
theorem Ir(h:¬Am (f k)):roomN f (k+1)=roomN f k:=by simp[roomN,h]
theorem Ng(f:Nat->AG):∀k,roomN f k<=k
 | 0=>Nat.le_refl _
 | k+1=>by
  have:=Ng f k;by_cases h:Am (f k)
  ·rw[Jo h];omega
  ·rw[Ir h];omega
open Classical in
def Mf(p:A7):Int:=if AX p then(roomN p.s p.n:Int)else 0
theorem QC(p:A7)(i:Nat)(s:AG):(BJ p i s).s i=s:=if_pos rfl
variable{i:Nat}
theorem OH(p:A7){j:Nat}(s:AG)(h:j≠i):(BJ p i s).s j=p.s j:=if_neg h
variable{s:AG}
theorem MA(hi:Am (p.s i))(h:BA p xs xb):BA (BJ p i s) xs xb:=by
 obtain⟨c,d,f,b⟩:=h;refine⟨c,d,f,?_⟩;have a:xs.toNat≠i:=fun e=>by
  rw[e]at b;have:=hi.1;omega
 rw[OH p s a];exact b
theorem Ub{t:AG}(hi:Am (p.s i))(h:CH p t):CH (BJ p i s) t:=by
 refine⟨h.1,?_⟩;rcases h.2 with a | a
 ·exact Or.inl a
 ·refine Or.inr ⟨a.1,a.2.1,fun m c=>?_⟩;rcases a.2.2 m c with b | b
  ·exact Or.inl b
  ·exact Or.inr ⟨MA hi b.1,b.2⟩
theorem R4(a:AX p)(hi:C2 p.n p.s i)(hs:CH p s):AX (BJ p i s):=by
 refine⟨a.1,fun j b=>?_,fun j b=>?_⟩
 ·by_cases e:j=i
  ·rw[e,QC];exact Or.inr (Ub hi.2.1 hs)
  ·rw[OH p s e];rcases a.2.1 j b with h | h
   ·exact Or.inl h
   ·exact Or.inr (Ub hi.2.1 h)
 ·obtain⟨f,g,d,k⟩:=a.2.2 j b;refine⟨f,g,?_,k⟩;have c:(p.h j).toNat≠i:=fun e=>d (by rw[e];exact hi.2.1)
  show ¬Am ((BJ p i s).s (p.h j).toNat);rw[OH p s c];exact d
theorem GG(h:CH p s):¬Am s:=fun a=>by
 have:=a.1;have:=h.1.1;omega
theorem UA{p:A7}{i:Nat}{s:AG}(hi:Am (p.s i))(hs:¬Am s):∀n,roomN (BJ p i s).s n+(if i<n then 1 else 0)=roomN p.s n
 | 0=>rfl
 | n+1=>by
  have f:=UA hi hs n;by_cases e:n=i
  ·subst e;rw[if_pos (by omega)];rw[if_neg (by omega)]at f;rw[Ir (by rw[QC];exact hs),Jo hi];omega
  ·have a:(BJ p i s).s n=p.s n:=OH p s e;have c:(if i<n+1 then 1 else 0)=(if i<n then 1 else 0):=by
    by_cases d:i<n
    ·rw[if_pos d,if_pos (by omega)]
    ·rw[if_neg d,if_neg (by omega)]
   rw[c];by_cases b:Am (p.s n)
   ·rw[Jo (by rw[a];exact b),Jo b];omega
   ·rw[Ir (by rw[a];exact b),Ir b];exact f
def Af(w:World)(b:Nat)(v0 v1 v2 v3 v4 v5:Value):Prop:=AF w b 0 v0/\AF w b 1 v1/\AF w b 2 v2/\AF w b 3 v3/\AF w b 4 v4/\AF w b 5 v5
variable{w:World}{b:Nat}{v0 v1 v2 v3 v4 v5:Value}
theorem Af.c(h:Af w b v0 v1 v2 v3 v4 v5):w.cell? ⟨b,0,none⟩=some v0/\w.cell? ⟨b,1,none⟩=some v1/\w.cell? ⟨b,2,none⟩=some v2/\w.cell? ⟨b,3,none⟩=some v3/\w.cell? ⟨b,4,none⟩=some v4/\w.cell? ⟨b,5,none⟩=some v5:=
 ⟨h.1.1,h.2.1.1,h.2.2.1.1,h.2.2.2.1.1,h.2.2.2.2.1.1,h.2.2.2.2.2.1⟩
variable{w':World}
theorem Af.A1(h:Af w b v0 v1 v2 v3 v4 v5)(t:Below w.heap.size w w'):Af w' b v0 v1 v2 v3 v4 v5:=⟨h.1.A1 t,h.2.1.A1 t,h.2.2.1.A1 t,h.2.2.2.1.A1 t,h.2.2.2.2.1.A1 t,h.2.2.2.2.2.A1 t⟩
variable{S:Nat->Prop}
theorem Af.AD(h:Af w b v0 v1 v2 v3 v4 v5)(t:AC S w w')(hs:¬S b):Af w' b v0 v1 v2 v3 v4 v5:=⟨h.1.AD t hs,h.2.1.AD t hs,h.2.2.1.AD t hs,h.2.2.2.1.AD t hs,h.2.2.2.2.1.AD t hs,h.2.2.2.2.2.AD t hs⟩
theorem Af.new(w:World)(b v1 c d e f:Value)(t:TypeId):Af (w.alloc (.cells #[b,v1,c,d,e,f] t)) w.heap.size b v1 c d e f:=by
 have a:(w.alloc (.cells #[b,v1,c,d,e,f] t)).heap[w.heap.size]?=some (.cells #[b,v1,c,d,e,f] t):=heap_alloc_new _ _;exact⟨At a rfl,At a rfl,At a rfl,At a rfl,At a rfl,At a rfl⟩
abbrev put6(w:World)(b:Nat)(u0 u1 u2 u3 u4 u5:Value):World:=(((((w.setCell ⟨b,0,none⟩ u0).setCell ⟨b,1,none⟩ u1).setCell ⟨b,2,none⟩ u2).setCell ⟨b,3,none⟩ u3).setCell ⟨b,4,none⟩ u4).setCell ⟨b,5,none⟩ u5
theorem Af.put(h:Af w b v0 v1 v2 v3 v4 v5)(a d u2 u3 u4 f:Value):Af (put6 w b a d u2 u3 u4 f) b a d u2 u3 u4 f:=
 have H (i:Nat) (u v:Value) (e:[a,d,u2,u3,u4,f][i]?=some u) (c:AF w b i v):AF (put6 w b a d u2 u3 u4 f) b i u:=LU [a,d,u2,u3,u4,f] w 0 i i e (Nat.zero_add i) c
 ⟨H 0 _ _ rfl h.1,H 1 _ _ rfl h.2.1,H 2 _ _ rfl h.2.2.1,H 3 _ _ rfl h.2.2.2.1,H 4 _ _ rfl h.2.2.2.2.1,H 5 _ _ rfl h.2.2.2.2.2⟩
theorem AC.put6(w:World)(b:Nat)(a c u2 u3 u4 d:Value):AC (fun k=>k=b) w (put6 w b a c u2 u3 u4 d):=
 (((((AC.put w b 0 a).trans (AC.put _ b 1 c)).trans (AC.put _ b 2 u2)).trans (AC.put _ b 3 u3)).trans (AC.put _ b 4 u4)).trans (AC.put _ b 5 d)
def BH(p:A7)(xs xb:Int)(n L:Nat)(x:Int)(i:Nat):Int:=if i=plc n L then x else EK p (E5 p xs xb n L) (FL p xs xb n L) i
def BF(p:A7)(xs xb:Int)(n L:Nat)(y:Int)(i:Nat):Int:=if i=plc n L then y else EN p (E5 p xs xb n L) (FL p xs xb n L) i
def L6(p:A7)(xs xb:Int)(n:Nat)(b:Int)(o:Es)(L:Nat):Es:=Mc o.pool (BH p xs xb n L o.ps) (BF p xs xb n L o.pb) b
def Bl(p:A7)(xs xb:Int)(n:Nat)(b:Int)(o:Es):Nat->Es
 | 0=>o
 | k+1=>L6 p xs xb n b (Bl p xs xb n b o k) (1 - k)
theorem XN:As (Ce 0)=0:=rfl
theorem Vz(p:A7)(s:AG):As (Cj p s).pool<=As p+Ci s:=by
 unfold Cj;split
 ·split
  ·exact zDi _ _ _
  ·show As (Ce 0)<=_;rw[XN];omega
 ·show As (Ce 0)<=_;rw[XN];omega
theorem zAK(p:A7)(f g:Nat->Int)(b:Int):As (Mc p f g b).pool<=As p+8:=by
 unfold Mc;split
 ·show As p<=_;omega
 ·exact Vz p (CA f g b)
theorem VT(p:A7)(xs xb:Int)(n:Nat)(b:Int)(o:Es):∀k,As (Bl p xs xb n b o k).pool<=As o.pool+8*k
 | 0=>Nat.le_refl _
 | k+1=>by
  have a:=VT p xs xb n b o k;have c:=zAK (Bl p xs xb n b o k).pool (BH p xs xb n (1 - k) (Bl p xs xb n b o k).ps) (BF p xs xb n (1 - k) (Bl p xs xb n b o k).pb) b;show As (Mc _ _ _ _).pool<=_;omega
structure Dt where
 pool:A7
 rs:Int
 rb:Int
 old:List (Int×Int)
 code:Int
def DL(c:Int):Dt:=⟨Ce 0,0,0,[],c⟩
open Classical in
def E4(p:A7)(xs xb:Int)(n:Nat)(b:Int)(o:Es):Dt:=
 if (Bl p xs xb n b o 1).code≠0 then DL (Bl p xs xb n b o 1).code
 else if (Bl p xs xb n b o 2).code≠0 then DL (Bl p xs xb n b o 2).code
 else⟨(Bl p xs xb n b o 2).pool,(Bl p xs xb n b o 2).ps,(Bl p xs xb n b o 2).pb,J5 p xs xb n 3,0⟩
variable{b:Int}
theorem Nd{o:Es}(d:k<2)(h:∀j,j<=k->(Bl p xs xb n b o j).code=0)(a:(Bl p xs xb n b o (k+1)).code≠0):E4 p xs xb n b o=DL (Bl p xs xb n b o (k+1)).code:=by
 unfold E4;rcases k with _ | _ | k
 ·rw[if_pos a]
 ·rw[if_neg (fun c=>c (h 1 (by omega))),if_pos a]
 ·omega
theorem QH{o:Es}(h:∀j,j<=2->(Bl p xs xb n b o j).code=0):E4 p xs xb n b o=⟨(Bl p xs xb n b o 2).pool,(Bl p xs xb n b o 2).ps,(Bl p xs xb n b o 2).pb,J5 p xs xb n 3,0⟩:=by
 unfold E4;rw[if_neg (fun a=>a (h 1 (by omega))),if_neg (fun a=>a (h 2 (by omega)))]
def G5(n:Int):Prop:=0<=n/\n<=63
open Classical in
def FU(p:A7)(xs xb page b:Int):Dt:=
 if BO p xs xb/\CR xb b then(if G5 page then(if Nil (EL p xs xb page.toNat) (Ei p xs xb page.toNat)then DL 4 else E4 p xs xb page.toNat b ⟨p,0,0,0⟩)else DL 8)else DL 1
variable{a:Int}
theorem V3(h:¬(BO p xs xb/\CR xb b)):FU p xs xb a b=DL 1:=if_neg h
theorem ze(h:BO p xs xb/\CR xb b)(c:¬G5 a):FU p xs xb a b=DL 8:=(if_pos h).trans (if_neg c)
theorem zDu(h:BO p xs xb/\CR xb b)(c:G5 a)(d:Nil (EL p xs xb a.toNat) (Ei p xs xb a.toNat)):FU p xs xb a b=DL 4:=((if_pos h).trans (if_pos c)).trans (if_pos d)
theorem TV(h:BO p xs xb/\CR xb b)(c:G5 a)(d:¬Nil (EL p xs xb a.toNat) (Ei p xs xb a.toNat)):FU p xs xb a b=E4 p xs xb a.toNat b ⟨p,0,0,0⟩:=((if_pos h).trans (if_pos c)).trans (if_neg d)
def Bi(b:Int)(d:ByteArray):AG:={birth:=b,kn:=0,ks:=fun _=>0,kb:=fun _=>0,data:=d}
open Classical in
def EA(p:A7)(xs xb page:Int)(d:ByteArray)(b:Int):Dt:=
 if 8000<d.size then DL 2 else if BO p xs xb/\CR xb b then(if G5 page/\d.size=16 then(if (Cj p (Bi b d)).code=0 then E4 p xs xb page.toNat b ⟨(Cj p (Bi b d)).pool,(Cj p (Bi b d)).ps,(Cj p (Bi b d)).pb,0⟩else DL (Cj p (Bi b d)).code)else DL 8)else DL 1
variable{d:ByteArray}
theorem X1(h:8000<d.size):EA p xs xb a d b=DL 2:=if_pos h
theorem X0(c:¬8000<d.size)(h:¬(BO p xs xb/\CR xb b)):EA p xs xb a d b=DL 1:=(if_neg c).trans (if_neg h)
theorem YE(c:¬8000<d.size)(h:BO p xs xb/\CR xb b)(e:¬(G5 a/\d.size=16)):EA p xs xb a d b=DL 8:=((if_neg c).trans (if_pos h)).trans (if_neg e)
theorem zi(c:¬8000<d.size)(h:BO p xs xb/\CR xb b)(e:G5 a/\d.size=16)(f:(Cj p (Bi b d)).code≠0):EA p xs xb a d b=DL (Cj p (Bi b d)).code:=(((if_neg c).trans (if_pos h)).trans (if_pos e)).trans (if_neg f)
theorem zDv(c:¬8000<d.size)(h:BO p xs xb/\CR xb b)(e:G5 a/\d.size=16)(f:(Cj p (Bi b d)).code=0):EA p xs xb a d b=E4 p xs xb a.toNat b ⟨(Cj p (Bi b d)).pool,(Cj p (Bi b d)).ps,(Cj p (Bi b d)).pb,0⟩:=(((if_neg c).trans (if_pos h)).trans (if_pos e)).trans (if_pos f)
theorem XM{p:A7}{xs xb:Int}{n:Nat}(b:BO p xs xb)(hn:n<64):∀{L:Nat},L<3->¬Nil (E5 p xs xb n L) (FL p xs xb n L)->BA p (E5 p xs xb n L) (FL p xs xb n L)/\FL p xs xb n L<=xb
 | 0,_,hN=>⟨(b.2.resolve_left hN).1.1,Int.le_refl _⟩
 | L+1,hL,hN=>by
  have a:¬Nil (E5 p xs xb n L) (FL p xs xb n L):=fun h=>hN (zFw h (by omega))
  obtain⟨c,g⟩:=XM b hn (L:=L) (by omega) a;rw[(Np p xs xb n (show L<2 by omega)).1,(Np p xs xb n (show L<2 by omega)).2]at hN ⊢;unfold P5 at hN ⊢;rw[if_neg a,if_neg a]at hN ⊢;obtain⟨d,e⟩:=Iv (Ep b.1 c) (Z8 (n:=n) (L:=L) hn) hN;refine⟨d,?_⟩;have i:=c.2.2.2;have f:B7 (p.s (E5 p xs xb n L).toNat) (plc n L*2+1)<=(p.s (E5 p xs xb n L).toNat).birth:=e;omega
variable{q:A7}{x y:Int}
theorem Je(j:BO p xs xb)(hn:n<64)(w:L<2)(g:CR xb b)(d:∀s t,BA p s t->BA q s t)(m:Nil x y\/(BA q x y/\y<=b)) :
 CH q (CA (BH p xs xb n L x) (BF p xs xb n L y) b):=by
 refine⟨g.1,Or.inr ⟨rfl,by simp[CA,Go.ByteArray.toList_eq],fun i hi=>?_⟩⟩;have c:i<8:=hi;show Mn q b (BH p xs xb n L x i) (BF p xs xb n L y i);unfold BH BF;by_cases e:i=plc n L
 ·rw[if_pos e,if_pos e];rcases m with h | h
  ·exact Or.inl h
  ·exact Or.inr h
 ·rw[if_neg e,if_neg e];unfold EK EN;by_cases a:Nil (E5 p xs xb n L) (FL p xs xb n L)
  ·rw[if_pos a,if_pos a];exact Or.inl ⟨rfl,rfl⟩
  ·rw[if_neg a,if_neg a];obtain⟨f,o⟩:=XM j hn (L:=L) (by omega) a;by_cases k:Nil (AL (p.s (E5 p xs xb n L).toNat) i) (AW (p.s (E5 p xs xb n L).toNat) i)
   ·exact Or.inl k
   ·obtain⟨l,r⟩:=Iv (Ep j.1 f) c k;refine Or.inr ⟨d _ _ l,?_⟩;have u:=f.2.2.2;have v:=g.2;omega
theorem Lz{f:Nat->AG}:∀{n:Nat},roomN f n=0->∀j,j<n->¬Am (f j)
 | 0,_,j,hj=>absurd hj (Nat.not_lt_zero _)
 | n+1,h,j,hj=>by
  by_cases a:Am (f n)
  ·rw[Jo a]at h;omega
  ·rw[Ir a]at h;by_cases e:j=n
   ·rw[e];exact a
   ·exact Lz h j (by omega)
theorem Kz{f:Nat->AG}:∀{n:Nat},0<roomN f n->∃i,C2 n f i
 | 0,h=>absurd h (Nat.lt_irrefl _)
 | n+1,h=>by
  by_cases a:0<roomN f n
  ·obtain⟨i,e,c,d⟩:=Kz a;exact⟨i,by omega,c,d⟩
  ·by_cases b:Am (f n)
   ·exact⟨n,by omega,b,Lz (by omega)⟩
   ·rw[Ir b]at h;exact absurd h a
theorem OG(hi:C2 p.n p.s i)(hs:CH p s):roomN (BJ p i s).s p.n+1=roomN p.s p.n:=by
 have h:=UA (p:=p) (i:=i) (s:=s) hi.2.1 (GG hs) p.n;rw[if_pos hi.1]at h;exact h
theorem Jk(a:DN b)(c:d.size=16):CH p (Bi b d):=⟨a,Or.inl ⟨rfl,c⟩⟩
theorem R7(hi:C2 p.n p.s i)(hs:1<=s.birth):BA (BJ p i s) (i:Int) s.birth:=
 ⟨hs,by omega,by have:=hi.1;show(i:Int)<(p.n:Int);omega,by rw[Int.toNat_natCast,QC]⟩
theorem XP(hn:n<64)(a:1<=b):¬Fa (BH p xs xb n L x) (BF p xs xb n L b):=fun h=>by
 have:=(h (plc n L) (Z8 hn)).2;unfold BF at this;rw[if_pos rfl]at this;omega
def CD(p:A7)(b:Int)(d:ByteArray)(i0:Nat):A7:=BJ p i0 (Bi b d)
def Ex(p:A7)(xs xb:Int)(n:Nat)(b:Int)(d:ByteArray)(i0 i1:Nat):A7:=BJ (CD p b d i0) i1 (CA (BH p xs xb n 1 (i0:Int)) (BF p xs xb n 1 b) b)
def Rt(p:A7)(xs xb:Int)(n:Nat)(b:Int)(d:ByteArray)(i0 i1 i2:Nat):A7:=BJ (Ex p xs xb n b d i0 i1) i2 (CA (BH p xs xb n 0 (i1:Int)) (BF p xs xb n 0 b) b)
theorem zIj{i0:Nat}(f:BO p xs xb)(a:CR xb b)(c:d.size=16)(e:C2 p.n p.s i0):Cj p (Bi b d)=⟨CD p b d i0,(i0:Int),b,0⟩:=
 LW ⟨f.1,GG (Jk (p:=p) a.1 c),Jk a.1 c⟩ e
theorem R9{i0:Nat}(e:BO p xs xb)(c:CR xb b)(f:d.size=16)(a:C2 p.n p.s i0):AX (CD p b d i0):=R4 e.1 a (Jk c.1 f)
theorem JZ{i0:Nat}(e:BO p xs xb)(hn:n<64)(c:CR xb b)(a:C2 p.n p.s i0):CH (CD p b d i0) (CA (BH p xs xb n 1 (i0:Int)) (BF p xs xb n 1 b) b):=
 Je e hn (by omega) c (fun s t h=>MA a.2.1 h) (Or.inr ⟨R7 (s:=Bi b d) a c.1.1,Int.le_refl _⟩)
variable{i1:Nat}
theorem Nl{i0:Nat}(f:BO p xs xb)(hn:n<64)(c:CR xb b)(e:C2 p.n p.s i0)(a:C2 p.n (CD p b d i0).s i1):CH (Ex p xs xb n b d i0 i1) (CA (BH p xs xb n 0 (i1:Int)) (BF p xs xb n 0 b) b):=
 Je f hn (by omega) c (fun s t h=>MA (p:=CD p b d i0) a.2.1 (MA e.2.1 h)) (Or.inr ⟨R7 (p:=CD p b d i0) (s:=CA (BH p xs xb n 1 (i0:Int)) (BF p xs xb n 1 b) b) a c.1.1,Int.le_refl _⟩)
theorem qi{i0:Nat}(hn:n<64)(a:CR xb b):Bl p xs xb n b ⟨CD p b d i0,(i0:Int),b,0⟩ 1=Cj (CD p b d i0) (CA (BH p xs xb n 1 (i0:Int)) (BF p xs xb n 1 b) b):=
 if_neg (XP hn a.1.1)
theorem Pf{i0:Nat}(e:BO p xs xb)(hn:n<64)(a:CR xb b)(g:d.size=16)(c:C2 p.n p.s i0)(f:C2 p.n (CD p b d i0).s i1):Bl p xs xb n b ⟨CD p b d i0,(i0:Int),b,0⟩ 1=⟨Ex p xs xb n b d i0 i1,(i1:Int),b,0⟩:=by
 rw[qi hn a];exact LW ⟨R9 e a g c,GG (JZ (d:=d) e hn a c),JZ e hn a c⟩ f
theorem qj{i0:Nat}(f:BO p xs xb)(hn:n<64)(a:CR xb b)(g:d.size=16)(c:C2 p.n p.s i0)(e:C2 p.n (CD p b d i0).s i1):Bl p xs xb n b ⟨CD p b d i0,(i0:Int),b,0⟩ 2=Cj (Ex p xs xb n b d i0 i1) (CA (BH p xs xb n 0 (i1:Int)) (BF p xs xb n 0 b) b):=by
 show L6 p xs xb n b (Bl p xs xb n b ⟨CD p b d i0,(i0:Int),b,0⟩ 1) 0=_;rw[Pf f hn a g c e];exact if_neg (XP hn a.1.1)
theorem Sf(hn:n<64):G5 (n:Int):=⟨by omega,by omega⟩
theorem Ta{i0:Nat}(c:BO p xs xb)(hn:n<64)(a:CR xb b)(e:d.size=16)(g:C2 p.n p.s i0):EA p xs xb (n:Int) d b=E4 p xs xb n b ⟨CD p b d i0,(i0:Int),b,0⟩:=by
 have f:=zIj c a e g;rw[zDv (by omega) ⟨c,a⟩ ⟨Sf hn,e⟩ (by rw[f]),f];rfl
theorem XO{i0:Nat}(e:BO p xs xb)(hn:n<64)(c:CR xb b)(g:d.size=16)(a:C2 p.n p.s i0)(f:C2 p.n (CD p b d i0).s i1):AX (Ex p xs xb n b d i0 i1):=
 R4 (R9 e c g a) f (JZ e hn c a)
theorem zFE{i0 i2:Nat}(e:BO p xs xb)(hn:n<64)(c:CR xb b)(g:d.size=16)(a:C2 p.n p.s i0)(f:C2 p.n (CD p b d i0).s i1)(k:C2 p.n (Ex p xs xb n b d i0 i1).s i2) :
 EA p xs xb (n:Int) d b=⟨Rt p xs xb n b d i0 i1 i2,(i2:Int),b,J5 p xs xb n 3,0⟩:=by
 rw[Ta e hn c g a];have i:=Pf e hn c g a f;have h:Bl p xs xb n b ⟨CD p b d i0,(i0:Int),b,0⟩ 2=⟨Rt p xs xb n b d i0 i1 i2,(i2:Int),b,0⟩:=by
  rw[qj e hn c g a f];exact LW ⟨XO e hn c g a f,GG (Nl (d:=d) e hn c a f),Nl e hn c a f⟩ k
 rw[QH (fun j l=>by
  rcases j with _ | _ | _ | j
  ·rfl
  ·rw[i]
  ·rw[h]
  ·omega),h]
theorem zh(c:BO p xs xb)(hn:n<64)(a:CR xb b)(g:d.size=16)(x:roomN p.s p.n<3):EA p xs xb (n:Int) d b=DL 6:=by
 by_cases r0:roomN p.s p.n=0
 ·have o:=M2 (p:=p) (s:=Bi b d) ⟨c.1,GG (Jk (p:=p) a.1 g),Jk a.1 g⟩ (Lz r0);rw[zi (by omega) ⟨c,a⟩ ⟨Sf hn,g⟩ (by rw[o];decide),o]
 ·obtain⟨i0,e⟩:=Kz (f:=p.s) (n:=p.n) (by omega);have r:=OG (s:=Bi b d) e (Jk a.1 g);rw[Ta c hn a g e];by_cases r1:roomN (CD p b d i0).s p.n=0
  ·have v:=M2 (p:=CD p b d i0) ⟨R9 c a g e,GG (JZ (n:=n) (d:=d) c hn a e),JZ c hn a e⟩ (Lz r1);have i:=qi (p:=p) (xs:=xs) (d:=d) (i0:=i0) hn a;rw[v]at i;rw[Nd (k:=0) (by omega) (fun j q=>by cases (show j=0 from by omega);rfl) (by rw[i];decide),i]
  ·obtain⟨m,h⟩:=Kz (f:=(CD p b d i0).s) (n:=p.n) (by omega);have q1:roomN (Ex p xs xb n b d i0 m).s p.n+1=roomN (CD p b d i0).s p.n:=OG (p:=CD p b d i0) h (JZ c hn a e);have t:roomN (CD p b d i0).s p.n+1=roomN p.s p.n:=r;have u:roomN (Ex p xs xb n b d i0 m).s p.n=0:=(by omega);have w:=M2 (p:=Ex p xs xb n b d i0 m) ⟨XO c hn a g e h,GG (Nl (d:=d) c hn a e h),Nl c hn a e h⟩ (Lz u);have i:=Pf c hn a g e h;have l:=qj c hn a g e h;rw[w]at l;rw[Nd (k:=1) (by omega) (fun j q=>by
    rcases j with _ | _ | j
    ·rfl
    ·rw[i]
    ·omega) (by rw[l];decide),l]
def Cg(w:World)(S:Nat->Prop)(v0 v1:Value)(p:A7):Prop:=
 ∃(bs hb:Nat) (kb:Nat->Nat) (kv:Nat->Value),FB w bs kb kv v0 p.n p.s/\MC kb p.n p.s/\Fg w hb v1 p.hn p.h/\(0<p.hn->¬Fd bs kb p.n p.s hb)/\
  ∀k,Fd bs kb p.n p.s k\/(0<p.hn/\k=hb)->S k
variable{lo hi:Nat}
theorem CF.isIn(h:CF w lo hi v0 v1 p)(i:∀k,lo<=k->k<hi->S k):Cg w S v0 v1 p:=by
 obtain⟨c,j,kb,kv,d,e,f,g,a⟩:=h;exact⟨c,j,kb,kv,d,e,f,g,fun k b=>i k (a k b).1 (a k b).2⟩
theorem Cg.own(h:Cg w S v0 v1 p)(g:∀k,S k->lo<=k/\k<hi):CF w lo hi v0 v1 p:=by
 obtain⟨a,i,kb,kv,b,c,d,e,f⟩:=h;exact⟨a,i,kb,kv,b,c,d,e,fun k j=>g k (f k j)⟩
variable{T:Nat->Prop}
theorem Cg.mono(h:Cg w S v0 v1 p)(g:∀k,S k->T k):Cg w T v0 v1 p:=by
 obtain⟨a,i,kb,kv,b,c,d,e,f⟩:=h;exact⟨a,i,kb,kv,b,c,d,e,fun k j=>g k (f k j)⟩
theorem Cg.A1(h:Cg w S v0 v1 p)(t:Below w.heap.size w w'):Cg w' S v0 v1 p:=by
 obtain⟨a,g,kb,kv,b,c,d,e,f⟩:=h;exact⟨a,g,kb,kv,b.A1 t,c,d.A1 t,e,f⟩
theorem Cg.AD(h:Cg w S v0 v1 p)(t:AC T w w')(hs:∀k,S k->¬T k):Cg w' S v0 v1 p:=by
 obtain⟨b,d,kb,kv,e,f,g,j,c⟩:=h;have out:∀k,Fd b kb p.n p.s k\/(0<p.hn/\k=d)->¬T k:=fun k l=>hs k (c k l)
 exact⟨b,d,kb,kv,e.AD t (fun a=>out _ (Or.inl (Or.inl ⟨a,rfl⟩))) (fun i hi h=>out _ (Or.inl (Or.inr ⟨i,hi,h,rfl⟩))),f,g.AD t (fun a=>out _ (Or.inr ⟨a,rfl⟩)),j,c⟩
theorem Cg.at(h:Cg w S v0 v1 p)(a:∀k,S k->lo<=k/\k<hi):DU w lo hi v0 v1 p:=(h.own a).at
theorem Tn(c:Bl p xs xb n b ⟨p,0,0,0⟩ 1=⟨q,x,y,0⟩)(d:Fa (BH p xs xb n 0 x) (BF p xs xb n 0 y)):E4 p xs xb n b ⟨p,0,0,0⟩=⟨q,0,0,J5 p xs xb n 3,0⟩:=by
 have a:Bl p xs xb n b ⟨p,0,0,0⟩ 2=⟨q,0,0,0⟩:=by
  show L6 p xs xb n b (Bl p xs xb n b ⟨p,0,0,0⟩ 1) 0=_;rw[c];exact if_pos d
 rw[QH (fun j e=>by
  rcases j with _ | _ | _ | j
  ·rfl
  ·rw[c]
  ·rw[a]
  ·omega),a]
theorem TW(c:Bl p xs xb n b ⟨p,0,0,0⟩ 1=⟨q,x,y,0⟩)(d:¬Fa (BH p xs xb n 0 x) (BF p xs xb n 0 y))(e:AX q)(hF:CH q (CA (BH p xs xb n 0 x) (BF p xs xb n 0 y) b))(hi:C2 q.n q.s i) :
 E4 p xs xb n b ⟨p,0,0,0⟩=⟨BJ q i (CA (BH p xs xb n 0 x) (BF p xs xb n 0 y) b),(i:Int),b,J5 p xs xb n 3,0⟩:=by
 have a:Bl p xs xb n b ⟨p,0,0,0⟩ 2=⟨BJ q i (CA (BH p xs xb n 0 x) (BF p xs xb n 0 y) b),(i:Int),b,0⟩:=by
  show L6 p xs xb n b (Bl p xs xb n b ⟨p,0,0,0⟩ 1) 0=_;rw[c];exact(if_neg d).trans (LW ⟨e,GG hF,hF⟩ hi)
 rw[QH (fun j f=>by
  rcases j with _ | _ | _ | j
  ·rfl
  ·rw[c]
  ·rw[a]
  ·omega),a]
theorem Ut(d:Bl p xs xb n b ⟨p,0,0,0⟩ 1=⟨q,x,y,0⟩)(e:¬Fa (BH p xs xb n 0 x) (BF p xs xb n 0 y))(f:AX q)(hF:CH q (CA (BH p xs xb n 0 x) (BF p xs xb n 0 y) b))(a:∀j,j<q.n->¬Am (q.s j)) :
 E4 p xs xb n b ⟨p,0,0,0⟩=DL 6:=by
 have c:Bl p xs xb n b ⟨p,0,0,0⟩ 2=⟨Ce 0,0,0,6⟩:=by
  show L6 p xs xb n b (Bl p xs xb n b ⟨p,0,0,0⟩ 1) 0=_;rw[d];exact(if_neg e).trans (M2 ⟨f,GG hF,hF⟩ a)
 rw[Nd (k:=1) (by omega) (fun j g=>by
    rcases j with _ | _ | j
    ·rfl
    ·rw[d]
    ·omega) (by rw[c];decide),c]
theorem zJD(a:Fa (BH p xs xb n 1 0) (BF p xs xb n 1 0)):Bl p xs xb n b ⟨p,0,0,0⟩ 1=⟨p,0,0,0⟩:=if_pos a
theorem zJE(a:BO p xs xb)(hn:n<64)(c:CR xb b)(d:¬Fa (BH p xs xb n 1 0) (BF p xs xb n 1 0))(hi:C2 p.n p.s i) :
 Bl p xs xb n b ⟨p,0,0,0⟩ 1=⟨BJ p i (CA (BH p xs xb n 1 0) (BF p xs xb n 1 0) b),(i:Int),b,0⟩:=by
 have hF:CH p (CA (BH p xs xb n 1 0) (BF p xs xb n 1 0) b):=Je a hn (by omega) c (fun s t h=>h) (Or.inl ⟨rfl,rfl⟩);exact(if_neg d).trans (LW ⟨a.1,GG hF,hF⟩ hi)
theorem zDz(d:BO p xs xb)(hn:n<64)(e:CR xb b)(f:¬Fa (BH p xs xb n 1 0) (BF p xs xb n 1 0))(a:∀j,j<p.n->¬Am (p.s j)):E4 p xs xb n b ⟨p,0,0,0⟩=DL 6:=by
 have hF:CH p (CA (BH p xs xb n 1 0) (BF p xs xb n 1 0) b):=Je d hn (by omega) e (fun s t h=>h) (Or.inl ⟨rfl,rfl⟩);have c:Bl p xs xb n b ⟨p,0,0,0⟩ 1=⟨Ce 0,0,0,6⟩:=(if_neg f).trans (M2 ⟨d.1,GG hF,hF⟩ a);rw[Nd (k:=0) (by omega) (fun j g=>by cases (show j=0 from by omega);rfl) (by rw[c];decide),c]
variable{g:Nat->Int}
theorem zFp{f:Nat->Int}:(∃i,i<8/\¬Nil (f i) (g i))↔¬Fa f g:=by
 constructor
 ·rintro⟨i,hi,h⟩ a;exact h (a i hi)
 ·intro h;apply Classical.byContradiction;intro b;exact h fun i hi=>Classical.byContradiction fun hn=>b ⟨i,hi,hn⟩
open Classical in
def DS(p:A7)(m:Nat):A7:={n:=p.n,s:=fun i=>if Has m p.h (i:Int)then EM else p.s i,hn:=p.hn,h:=p.h}
def Gs(p:A7):A7:={n:=p.n,s:=(DS p p.hn).s,hn:=0,h:=p.h}
open Classical in
def IV(p:A7):A7:=if AX p/\AX (Gs p)then Gs p else p
variable{m:Nat}
theorem Qs(h:Has m p.h (i:Int)):(DS p m).s i=EM:=if_pos h
theorem Qr(h:¬Has m p.h (i:Int)):(DS p m).s i=p.s i:=if_neg h
theorem zB5(p:A7):DS p 0=p:=by
 have e:(DS p 0).s=p.s:=funext fun i=>Qr (fun ⟨j,hj,_⟩=>absurd hj (Nat.not_lt_zero _))
 show A7.mk p.n (DS p 0).s p.hn p.h=p;rw[e]
theorem zB4(c:p.h k=(m:Int)):DS p (k+1)=BJ (DS p k) m EM:=by
 have e:(DS p (k+1)).s=(BJ (DS p k) m EM).s:=funext fun i=>by
  show _=if i=m then EM else(DS p k).s i
  by_cases b:i=m
  ·rw[if_pos b,Qs ⟨k,by omega,by rw[c,b]⟩]
  ·rw[if_neg b];by_cases a:Has k p.h (i:Int)
   ·rw[Qs a,Qs (by obtain⟨j,f,e⟩:=a;exact⟨j,by omega,e⟩)]
   ·rw[Qr a,Qr (fun ⟨j,f,e⟩=>a ⟨j,by
     by_cases d:j=k
     ·subst d;rw[c]at e;omega
     ·omega,e⟩)]
 show A7.mk p.n (DS p (k+1)).s p.hn p.h=A7.mk p.n (BJ (DS p k) m EM).s p.hn p.h;rw[e]
theorem Tm(h:AX p)(a:AX (Gs p)):IV p=Gs p:=if_pos ⟨h,a⟩
theorem Pb(h:¬(AX p/\AX (Gs p))):IV p=p:=if_neg h
structure Ac where
 name:ByteArray
 origin:Int
 A5:Int
 rs:Int
 rb:Int
 dn:Nat
 ds:Nat->Int
 db:Nat->Int
structure AT where
 id:Int
 name:ByteArray
 set:ByteArray
 A5:Int
 time:Int
 rs:Int
 rb:Int
 dn:Nat
 ds:Nat->Int
 db:Nat->Int
structure A4 where
 pool:A7
 time:Int
 next:Int
 sn:Nat
 A2:Nat->Ac
 pn:Nat
 A0:Nat->AT
structure I2 (w:World) (b o lo hi:Nat) (vd:Value) (s:Ac):Prop where
 c0:w.cell? ⟨b,o,none⟩=some (.string s.name)
 c1:w.cell? ⟨b,o+1,none⟩=some (.int .i64 s.origin)
 c2:w.cell? ⟨b,o+2,none⟩=some (.int .i64 s.A5)
 c3:w.cell? ⟨b,o+3,none⟩=some (.int .i64 s.rs)
 c4:w.cell? ⟨b,o+4,none⟩=some (.int .i64 s.rb)
 c5:w.cell? ⟨b,o+5,none⟩=some vd
 dead:Ay w lo hi vd s.dn s.ds s.db
 Bo:s.name.size<=maxLen
theorem I2.A1{b o:Nat}{vd:Value}{s:Ac}(h:I2 w b o lo hi vd s)(t:Below w.heap.size w w'):I2 w' b o lo hi vd s:=
 ⟨(t.cell (AM h.c0)).trans h.c0,(t.cell (AM h.c1)).trans h.c1,(t.cell (AM h.c2)).trans h.c2,(t.cell (AM h.c3)).trans h.c3,(t.cell (AM h.c4)).trans h.c4,(t.cell (AM h.c5)).trans h.c5,h.dead.A1 t,h.Bo⟩
structure Fp (w:World) (b o lo hi:Nat) (vd:Value) (s:AT):Prop where
 c0:w.cell? ⟨b,o,none⟩=some (.int .i64 s.id)
 c1:w.cell? ⟨b,o+1,none⟩=some (.string s.name)
 c2:w.cell? ⟨b,o+2,none⟩=some (.string s.set)
 c3:w.cell? ⟨b,o+3,none⟩=some (.int .i64 s.A5)
 c4:w.cell? ⟨b,o+4,none⟩=some (.int .i64 s.time)
 c5:w.cell? ⟨b,o+5,none⟩=some (.int .i64 s.rs)
 c6:w.cell? ⟨b,o+6,none⟩=some (.int .i64 s.rb)
 c7:w.cell? ⟨b,o+7,none⟩=some vd
 dead:Ay w lo hi vd s.dn s.ds s.db
 Bo:s.name.size<=maxLen/\s.set.size<=maxLen
theorem Fp.A1{b o:Nat}{vd:Value}{s:AT}(h:Fp w b o lo hi vd s)(t:Below w.heap.size w w'):Fp w' b o lo hi vd s:=
 ⟨(t.cell (AM h.c0)).trans h.c0,(t.cell (AM h.c1)).trans h.c1,(t.cell (AM h.c2)).trans h.c2,(t.cell (AM h.c3)).trans h.c3,(t.cell (AM h.c4)).trans h.c4,(t.cell (AM h.c5)).trans h.c5,(t.cell (AM h.c6)).trans h.c6,(t.cell (AM h.c7)).trans h.c7,h.dead.A1 t,h.Bo⟩
def De(w:World)(lo hi:Nat)(v:Value)(n:Nat)(f:Nat->Ac):Prop:=
 n<=maxLen/\∃a cap,v = .slice a n cap/\n<=cap/\(0<n->∃b off,a=some ⟨b,off,none⟩/\lo<=b/\b<hi/\∀i,i<n->∃vd,I2 w b (off+i*6) lo hi vd (f i))
def D8(w:World)(lo hi:Nat)(v:Value)(n:Nat)(f:Nat->AT):Prop:=
 n<=maxLen/\∃a cap,v = .slice a n cap/\n<=cap/\(0<n->∃b off,a=some ⟨b,off,none⟩/\lo<=b/\b<hi/\∀i,i<n->∃vd,Fp w b (off+i*8) lo hi vd (f i))
theorem De.A1{v:Value}{f:Nat->Ac}(h:De w lo hi v n f)(t:Below w.heap.size w w'):De w' lo hi v n f:=by
 obtain⟨d,a,cap,hv,c,l⟩:=h;refine⟨d,a,cap,hv,c,fun hn=>?_⟩;obtain⟨b,off,k,e,g,j⟩:=l hn;refine⟨b,off,k,e,g,fun i hi=>?_⟩;obtain⟨vd,hs⟩:=j i hi;exact⟨vd,hs.A1 t⟩
theorem D8.A1{v:Value}{f:Nat->AT}(h:D8 w lo hi v n f)(t:Below w.heap.size w w'):D8 w' lo hi v n f:=by
 obtain⟨d,a,cap,hv,c,l⟩:=h;refine⟨d,a,cap,hv,c,fun hn=>?_⟩;obtain⟨b,off,k,e,g,j⟩:=l hn;refine⟨b,off,k,e,g,fun i hi=>?_⟩;obtain⟨vd,hs⟩:=j i hi;exact⟨vd,hs.A1 t⟩
variable{a:Option Addr}
theorem De.cells{c:Nat}{f:Nat->Ac}(h:De w lo hi (.slice a n c) n f)(d:i<n):∃b off vd,a=some ⟨b,off,none⟩/\I2 w b (off+i*6) lo hi vd (f i):=by
 obtain⟨m,l,cap,hv,j,k⟩:=h;simp only[Value.slice.injEq,true_and]at hv;obtain⟨rfl,rfl⟩:=hv;obtain⟨b,off,g,o,p,e⟩:=k (by omega);obtain⟨vd,hs⟩:=e i d;exact⟨b,off,vd,g,hs⟩
theorem D8.cells{c:Nat}{f:Nat->AT}(h:D8 w lo hi (.slice a n c) n f)(d:i<n):∃b off vd,a=some ⟨b,off,none⟩/\Fp w b (off+i*8) lo hi vd (f i):=by
 obtain⟨m,l,cap,hv,j,k⟩:=h;simp only[Value.slice.injEq,true_and]at hv;obtain⟨rfl,rfl⟩:=hv;obtain⟨b,off,g,o,p,e⟩:=k (by omega);obtain⟨vd,hs⟩:=e i d;exact⟨b,off,vd,g,hs⟩
structure BM (w:World) (lo hi:Nat) (v0 v1 v2 v3:Value) (W:A4):Prop where
 pool:DU w lo hi v0 v1 W.pool
 A2:De w lo hi v2 W.sn W.A2
 A0:D8 w lo hi v3 W.pn W.A0
theorem BM.A1{W:A4}(h:BM w lo hi v0 v1 v2 v3 W)(t:Below w.heap.size w w'):BM w' lo hi v0 v1 v2 v3 W:=⟨h.pool.A1 t,h.A2.A1 t,h.A0.A1 t⟩
abbrev Bh(v0 v1 v2 v3:Value)(W:A4):Value:=.agg #[v0,v1,.int .i64 W.time,.int .i64 W.next,v2,v3]
def BB(W:A4)(id:Int)(k:Nat):Prop:=k<W.pn/\(W.A0 k).id=id/\∀j,j<k->(W.A0 j).id≠id
theorem BB.uniq{W:A4}{id:Int}{j:Nat}(h:BB W id i)(a:BB W id j):i=j:=by
 rcases Nat.lt_trichotomy i j with e | e | e
 ·exact absurd h.2.1 (a.2.2 i e)
 ·exact e
 ·exact absurd a.2.1 (h.2.2 j e)
theorem A3{P:Prop}(h:P):Hid P:=h
def Po(n:Nat)(P:Nat->Prop)(r:Int):Prop:=(∃k:Nat,k<n/\P k/\(∀j,j<k->¬P j)/\r=k)\/((∀j,j<n->¬P j)/\r = -1)
open Go.Maps
def F2(t:Int):Prop:=0<=t/\t<=1000000
def Fy(s b:Int):Prop:=0<=s/\s<=199/\1<=b/\b<=1000000
def J8(n:Nat)(f:Nat->Int):Prop:=∀i,i<n->∀k,k<i->f k≠f i
def C1(n:Nat)(f g:Nat->Int):Prop:=n<=200/\(∀i,i<n->Fy (f i) (g i))/\J8 n f
def PIn(n:Nat)(f g:Nat->Int)(x y:Int):Prop:=∃j,j<n/\f j=x/\g j=y
def FZ(n:Nat)(f g:Nat->Int)(m:Nat)(f' g':Nat->Int):Prop:=C1 n f g/\C1 m f' g'/\n=m/\∀i,i<n->PIn m f' g' (f i) (g i)
variable{f:Nat->Int}
theorem J8.inj(h:J8 n f)(hi:i<n)(b:k<n)(e:f i=f k):i=k:=by
 rcases Nat.lt_trichotomy i k with a | a | a
 ·exact absurd e (h k b i a)
 ·exact a
 ·exact absurd e.symm (h i hi k a)
theorem PW:∀(n m:Nat) (h:Nat->Nat),(∀i,i<n->h i<m)->(∀i k,i<n->k<n->h i=h k->i=k)->n<=m
 | 0,_,_,_,_=>Nat.zero_le _
 | n+1,m,h,h1,h2=>by
  have f:=h1 n (Nat.lt_succ_self n);have:=PW n (m - 1) (fun i=>if h i<h n then h i else h i - 1) (fun i hi=>by
   have:=h1 i (by omega);have:h i≠h n:=fun e=>by have:=h2 i n (by omega) (by omega) e;omega
   show(if h i<h n then h i else h i - 1)<m - 1;split<;>omega) (fun i k hi d e=>by
   have b:h i≠h n:=fun e=>by have:=h2 i n (by omega) (by omega) e;omega
   have c:h k≠h n:=fun e=>by have:=h2 k n (by omega) (by omega) e;omega
   have a:(if h i<h n then h i else h i - 1)=(if h k<h n then h k else h k - 1):=e;refine h2 i k (by omega) (by omega) ?_;split at a<;>split at a<;>omega)
  omega
variable{f' g':Nat->Int}
theorem zDa(o:C1 n f g)(p:C1 n f' g')(h:∀i,i<n->PIn n f' g' (f i) (g i)):∀j,j<n->PIn n f g (f' j) (g' j):=by
 intro j q;by_cases c:PIn n f g (f' j) (g' j)
 ·exact c
 ·exfalso;have:=PW n (n - 1) (fun i=>if hi:i<n then(if (h i hi).choose<j then(h i hi).choose else(h i hi).choose - 1)else 0) (fun i hi=>by
   have hs:=(h i hi).choose_spec;have d:(h i hi).choose≠j:=fun e=>c ⟨i,hi,by rw[<-hs.2.1,e],by rw[<-hs.2.2,e]⟩
   simp only[hi,dif_pos];split<;>omega) (fun i k hi b e=>by
   have hs:=(h i hi).choose_spec;have a:=(h k b).choose_spec;have d:(h i hi).choose≠j:=fun e=>c ⟨i,hi,by rw[<-hs.2.1,e],by rw[<-hs.2.2,e]⟩
   have l:(h k b).choose≠j:=fun e=>c ⟨k,b,by rw[<-a.2.1,e],by rw[<-a.2.2,e]⟩
   simp only[hi,b,dif_pos]at e;have m:(h i hi).choose=(h k b).choose:=(by split at e<;>split at e<;>omega);refine o.2.2.inj hi b ?_;rw[<-hs.2.1,<-a.2.1,m])
  omega
theorem FZ.symm(h:FZ n f g m f' g'):FZ m f' g' n f g:=by
 obtain⟨a,b,rfl,c⟩:=h;exact⟨b,a,rfl,zDa a b c⟩
def CY(x:Int):Lit:=.int .i64 x
theorem Nc(h:x≠y):CY x≠CY y:=fun e=>h (by unfold CY at e;injection e)
theorem QE(x:Int):WideAt.IsKeyLit (CY x):=trivial
def DQ(x:Int):DataW Unit:=.lit (.int .i64 x)
theorem O1(h:DQ x=DQ y):x=y:=by unfold DQ at h;injection h with h;injection h
def seenD(f g:Nat->Int):Nat->DataW Unit
 | 0=>.map []
 | k+1=>(seenD f g k).put (CY (f k)) (DQ (g k))
theorem M0(f g:Nat->Int):∀k,Tidy (seenD f g k)
 | 0=>tidy_empty
 | k+1=>(M0 f g k).put (QE _) _
theorem Lh(f g:Nat->Int)(x:Int):∀k,Maps.has (seenD f g k) (CY x)=true↔∃i,i<k/\f i=x
 | 0=>by
  constructor
  ·intro h;exact absurd h (by simp[seenD,Maps.has])
  ·rintro⟨i,hi,_⟩;omega
 | k+1=>by
  by_cases a:f k=x
  ·subst a;exact⟨fun _=>⟨k,by omega,rfl⟩,fun _=>has_put_same (M0 f g k).isMap (QE _) _⟩
  ·rw[show Maps.has (seenD f g (k+1)) (CY x)=Maps.has (seenD f g k) (CY x)from has_put_other (Nc (Ne.symm a)) _,Lh f g x k];constructor
   ·rintro⟨i,hi,e⟩;exact⟨i,by omega,e⟩
   ·rintro⟨i,hi,e⟩;by_cases h:i=k
    ·subst h;exact absurd e a
    ·exact⟨i,by omega,e⟩
theorem V6:J8 (k+1) f↔J8 k f/\∀i,i<k->f i≠f k:=by
 constructor
 ·exact fun h=>⟨fun i hi=>h i (by omega),fun i hi=>h k (by omega) i hi⟩
 ·rintro⟨b,c⟩ i hi j a;by_cases e:i=k
  ·subst e;exact c j a
  ·exact b i (by omega) j a
theorem Qc(f g:Nat->Int):∀k,Maps.size (seenD f g k)<=k/\(Maps.size (seenD f g k)=k↔J8 k f)
 | 0=>⟨Nat.le_refl _,fun _ i hi=>by omega,fun _=>rfl⟩
 | k+1=>by
  obtain⟨d,c⟩:=Qc f g k;have e:Maps.size (seenD f g (k+1))=if Maps.has (seenD f g k) (CY (f k))then Maps.size (seenD f g k)else Maps.size (seenD f g k)+1:=size_put (M0 f g k) _
  by_cases a:Maps.has (seenD f g k) (CY (f k))=true
  ·rw[if_pos a]at e;rw[e,V6];refine⟨by omega,fun h=>by omega,fun h=>?_⟩;obtain⟨i,hi,b⟩:=(Lh f g (f k) k).1 a;exact absurd b (h.2 i hi)
  ·rw[if_neg a]at e;rw[e,V6,<-c];refine⟨by omega,fun h=>⟨by omega,fun i hi b=>a ((Lh f g (f k) k).2 ⟨i,hi,b⟩)⟩,fun h=>by omega⟩
theorem Sm{n:Nat}{f:Nat->Int}(g:Nat->Int)(a:J8 n f)(z:DataW Unit):∀k,k<=n->∀i,i<k->(seenD f g k).atKey (CY (f i)) z=DQ (g i)
 | 0,_,i,hi=>absurd hi (Nat.not_lt_zero _)
 | k+1,hk,i,hi=>by
  by_cases e:i=k
  ·subst e;exact atKey_put_same (M0 f g i).isMap (QE _) _ _
  ·exact(atKey_put_other (Nc (fun h=>e (a.inj (by omega) (by omega) h))) _ _).trans (Sm g a z k (by omega) i (by omega))
structure F0 (n:Nat) (f g f':Nat->Int) (k:Nat) (D:DataW Unit):Prop where
 tidy:Tidy D
 size:Maps.size D+k=n
 at':∀x,(∀j,j<k->f' j≠x)->(∀i,i<n->f i=x->D.atKey (CY x) (DQ 0)=DQ (g i))/\((∀i,i<n->f i≠x)->D.atKey (CY x) (DQ 0)=DQ 0)
 has:∀x,Maps.has D (CY x)=true↔(∃i,i<n/\f i=x)/\∀j,j<k->f' j≠x
theorem F0.start(h:C1 n f g)(f':Nat->Int):F0 n f g f' 0 (seenD f g n) where
 tidy:=M0 f g n
 size:=by rw[(Qc f g n).2.2 h.2.2];rfl
 at':=fun x _=>⟨fun i hi e=>by subst e;exact Sm g h.2.2 _ n (Nat.le_refl _) i hi,fun a=>by
  refine atKey_of_not_has ?_ _;rw[Bool.eq_false_iff];intro b;obtain⟨i,hi,e⟩:=(Lh f g x n).1 b;exact a i hi e⟩
 has:=fun x=>by
  rw[Lh];exact⟨fun h=>⟨h,fun j c=>absurd c (Nat.not_lt_zero _)⟩,fun h=>h.1⟩
variable{D:DataW Unit}
theorem F0.next(h:F0 n f g f' k D)(o:C1 m f' g')(p:k<m)(e:D.atKey (CY (f' k)) (DQ 0)=DQ (g' k)):F0 n f g f' (k+1) (D.del (CY (f' k))):=by
 have b:Maps.has D (CY (f' k))=true:=by
  by_cases c:Maps.has D (CY (f' k))=true
  ·exact c
  ·rw[atKey_of_not_has (by simpa using c)]at e;have:=O1 e;have:=(o.2.1 k p).2.2.1;omega
 have hs:=size_del (k:=CY (f' k)) h.tidy;rw[b]at hs;refine⟨h.tidy.del _,?_,fun x i=>?_,fun x=>?_⟩
 ·have:=h.size;have q:Maps.size (D.del (CY (f' k)))+1=Maps.size D:=hs;omega
 ·have a:f' k≠x:=i k (by omega);rw[atKey_del_other (Nc (Ne.symm a))];exact h.at' x (fun j d=>i j (by omega))
 ·by_cases a:f' k=x
  ·subst a;rw[has_del_same];exact⟨fun h=>absurd h (by simp),fun h=>absurd rfl (h.2 k (by omega))⟩
  ·rw[has_del_other (Nc (Ne.symm a)),h.has x];refine and_congr_right fun _=>⟨fun h j d=>?_,fun h j d=>h j (by omega)⟩
   by_cases l:j=k
   ·subst l;exact a
   ·exact h j (by omega)
theorem F0.no(h:F0 n f g f' k D)(q:C1 n f g)(l:C1 m f' g')(a:k<m){c:Int}(e:D.atKey (CY (f' k)) (DQ 0)=DQ c)(o:c≠g' k):¬FZ n f g m f' g':=by
 intro hs;obtain⟨i,hi,b,d⟩:=hs.symm.2.2.2 k a;have:=(h.at' (f' k) (fun j p=>l.2.2 k a j p)).1 i hi b;rw[e]at this;exact o ((O1 this).trans d)
theorem F0.end(h:F0 n f g f' m D)(b:C1 n f g)(c:C1 m f' g')(a:∀j,j<m->PIn n f g (f' j) (g' j)):Maps.size D=0↔FZ n f g m f' g':=by
 have hs:=h.size;constructor
 ·intro e;obtain rfl:m=n:=(by omega);exact FZ.symm ⟨c,b,rfl,a⟩
 ·intro d;have:=d.2.2.1;omega
theorem F0.in(h:F0 n f g f' k D)(a:C1 m f' g')(c:k<m)(e:D.atKey (CY (f' k)) (DQ 0)=DQ (g' k)):PIn n f g (f' k) (g' k):=by
 by_cases d:∃i,i<n/\f i=f' k
 ·obtain⟨i,hi,ei⟩:=d;have:=(h.at' (f' k) (fun j b=>a.2.2 k c j b)).1 i hi ei;rw[e]at this;exact⟨i,hi,ei,(O1 this).symm⟩
 ·have:=(h.at' (f' k) (fun j b=>a.2.2 k c j b)).2 (fun i hi e=>d ⟨i,hi,e⟩);rw[e]at this;have:=O1 this;have:=(a.2.1 k c).2.2.1;omega
def BE(f g:Nat->Int)(t:Int):Nat->List (Int×Int)
 | 0=>[]
 | k+1=>if t<g k then BE f g t k ++ [(f k,g k)] else BE f g t k
def BS(f g:Nat->Int)(t:Int):Nat->List (Int×Int)
 | 0=>[]
 | k+1=>if t<g k then BS f g t k else BS f g t k ++ [(f k,g k)]
theorem Kr(f g:Nat->Int)(t:Int):∀k,(BE f g t k).length+(BS f g t k).length=k
 | 0=>rfl
 | k+1=>by
  have:=Kr f g t k;unfold BE BS;split<;>simp<;>omega
theorem AY{P:Prop}(h:P):Hid P:=h
theorem Ay.cellsD{c:Nat}(h:Ay w lo hi (.slice a n c) n f g)(e:k<n):∃b off,a=some ⟨b,off,none⟩/\w.cell? ⟨b,off+k*2,none⟩=some (.int .i64 (f k))/\w.cell? ⟨b,off+k*2+1,none⟩=some (.int .i64 (g k)):=by
 obtain⟨_,l,m,hv,_,j⟩:=h;simp only[Value.slice.injEq,true_and]at hv;obtain⟨rfl,rfl⟩:=hv;obtain⟨b,off,i,_,_,d⟩:=j (by omega);exact⟨b,off,i,(d k e).1,(d k e).2⟩
theorem zBu(x y:Int)(w:World):Calls Tryz.prog 181 #[.agg #[.int .i64 x,.int .i64 y]] w fun e w'=>AJ (Fy x y) e/\Below w.heap.size w w':=by
 have a:=A9 w (.cells #[.int .i64 x,.int .i64 y] 40);by_cases f:0<=x
 ·by_cases i:x<200
  ·by_cases b:DN y
   ·have H:=AY (show Fy x y from⟨f,by omega,b.1,b.2⟩);have d:=AY b;clear b;go_enter Tryz.func181,Tryz.ntmps181;go_wp2_with (first | (go_at_call 186;refine(Gg y _).mono ?_;rintro e g ⟨⟨t,rfl,c⟩,rfl⟩;obtain rfl:t=true:=c.2 d.out;clear c) | fail);go_wp2;go_ret;exact⟨AJ.yes H.out,a⟩
   ·have H:=AY (show ¬Fy x y from fun h=>b ⟨h.2.2.1,h.2.2.2⟩);have d:=AY b;clear b;go_enter Tryz.func181,Tryz.ntmps181;go_wp2_with (first | (go_at_call 186;refine(Gg y _).mono ?_;rintro e g ⟨⟨t,rfl,c⟩,rfl⟩;obtain rfl:t=false:=Bb c d.out;clear c) | fail);go_wp2;go_ret;exact⟨AJ.no H.out,a⟩
  ·go_enter Tryz.func181,Tryz.ntmps181;go_wp2;go_ret;exact⟨AJ.no fun h=>by have:=h.2.1;omega,a⟩
 ·go_enter Tryz.func181,Tryz.ntmps181;go_wp2;go_ret;exact⟨AJ.no fun h=>by have:=h.1;omega,a⟩
theorem S5:Keyed Tryz.prog 2:=int_keyed (q:=.i64) (by kernel_rfl)
theorem MV:Tryz.prog.underlying 213=some (.map 2 2):=by kernel_rfl
theorem P4:Tryz.prog.underlying 2=some (.int .i64):=by kernel_rfl
theorem zIw(w:World):(zeroValue 2).run Tryz.prog w = .ok (.int .i64 0) w:=by kernel_rfl
theorem Q9(a:0<=x)(b:x<=1000000):(Lit.int .i64 x).wf=true:=WalkArith.wf_i64 (by omega)
def Rj(w:World)(B n:Nat)(D:DataW Unit):Prop:=w.ownsMap Tryz.prog 2 (plainElem Tryz.prog 2) B n D
theorem YV(v:Value)(n lo hi:Nat)(f g:Nat->Int)(w:World)(z:Ay w lo hi v n f g)(hn:n<=200)(t:∀i,i<n->Fy (f i) (g i)) :
 Calls Tryz.prog 182 #[v] w fun e w'=>e = .returned (.map (some w.heap.size))/\Rj w' w.heap.size n (seenD f g n)/\Below w.heap.size w w':=by
 have B:=AY z;have h:=AY t;obtain⟨F,a,c,rfl,G,_⟩:=id z;clear z t;have D:=@run_makeMap Tryz.prog;go_enter Tryz.func182,Tryz.ntmps182;go_wp2
 go_loopw [9] (fun i wr=>∃k:Nat,k<=n/\i = .int .i64 k/\Rj wr w.heap.size k (seenD f g k)/\Below w.heap.size w wr) (fun i _=>n - (intOf i).toNat)
 case atStart=>exact⟨0,Nat.zero_le _,rfl,World.ownsMap_made _ _ _ _,(Below.refl _ _).alloc (Nat.le_refl _) _⟩
 case round=>
  obtain⟨k,E,rfl,p,s⟩:=hrel;have m:=AY p;clear p;by_cases d:k<n
  ·have A:(k:Int)<(n:Int):=(by omega);obtain⟨b,off,rfl,H,q1⟩:=(B.out.A1 s).cellsD d;have o:keyOf Tryz.prog 2 (.int .i64 (f k))=some (CY (f k)):=keyOf_int_mk P4 (Q9 (h.out k d).1 (by have:=(h.out k d).2.1;omega));have u:=Q9 (x:=g k) (by have:=(h.out k d).2.2.1;omega) (h.out k d).2.2.2;have r:=AY o;have y:=AY u;clear o u;go_wp2_with (first
    | (at_mapUpdate;refine wpList_mapUpdate_own _ rfl _ _ _ 213 rfl 2 2 S5 MV _ w.heap.size k _ rfl (m.out.alloc _) (by unfold maxLen;omega) _ _ _ rfl rfl r.out _ [] (plainElem_int P4 y.out) ?_;intro I q l)
    | go_in)
   go_roundw
   case rel=>exact⟨k+1,by omega,by go_num,q,(s.alloc s.size _).grown l (by rw[World.size_alloc];have:=s.size;omega) (fun j C=>by cases C;exact Nat.le_refl _)⟩
   case measure=>simp[intOf];omega
  ·obtain rfl:k=n:=(by omega);go_wp2;go_ret;exact⟨rfl,m.out,s⟩
theorem J2(v:Value)(n lo hi:Nat)(f g:Nat->Int)(w:World)(A:Ay w lo hi v n f g) :
 Calls Tryz.prog 140 #[v] w fun e w'=>AJ (C1 n f g) e/\Below w.heap.size w w':=by
 have D:=AY A;obtain⟨L,a,c,rfl,P,_⟩:=id A;clear A;unfold maxLen at L;by_cases hn:n<=200
 ·have B:¬(200:Int)<(n:Int):=(by omega);go_enter Tryz.func140,Tryz.ntmps140;go_wp2
  go_loopw [10] (fun i wr=>∃k:Nat,k<=n/\i = .int .i64 k/\(∀i,i<k->Fy (f i) (g i))/\Below w.heap.size w wr) (fun i _=>n - (intOf i).toNat)
  case atStart=>exact⟨0,Nat.zero_le _,rfl,fun j J=>absurd J (Nat.not_lt_zero _),Below.refl _ _⟩
  case round=>
   obtain⟨k,O,rfl,p,u⟩:=hrel;have l:=AY p;clear p;by_cases q:k<n
   ·have E:(k:Int)<(n:Int):=(by omega);obtain⟨b,off,rfl,M,q1⟩:=(D.out.A1 u).cellsD q;have r:=A8 u (A9 wr (.cells #[.int .i64 (f k),.int .i64 (g k)] 40));go_wp2_with fail;refine(zBu (f k) (g k) _).mono ?_;rintro e N ⟨⟨t,rfl,x⟩,m⟩;have o:=A8 r m;clear m r M q1;by_cases d:Fy (f k) (g k)
    ·have y:=AY d;obtain rfl:t=true:=x.2 d;clear x d;go_wp2;go_roundw
     case rel=>exact⟨k+1,by omega,by go_num,Bf q l.out y.out,o⟩
     case measure=>simp[intOf];omega
    ·have y:=AY d;obtain rfl:t=false:=Bb x d;clear x d;go_wp2;go_ret;exact⟨AJ.no fun h=>y.out (h.2.1 k q),o⟩
   ·obtain rfl:k=n:=(by omega);go_wp2_with fail;refine(YV _ k lo hi f g _ (D.out.A1 u) hn l.out).mono ?_;rintro e N ⟨rfl,F,m⟩;have o:=A8 u m;have H:=AY F;have C:=Qc f g k;clear F m;obtain⟨K,s⟩:=C;have z:=AY s;clear s;go_wp2_with (first
     | (at_len;refine wpList_len_own _ rfl _ 213 rfl 2 2 MV _ wr.heap.size k _ rfl H.out ?_)
     | go_in)
    go_ret;refine⟨⟨_,rfl,?_⟩,o⟩;have I:=z.out;have G:=l.out;simp only[beq_iff_eq,Int.natCast_inj];exact I.trans ⟨fun h=>⟨hn,G,h⟩,fun h=>h.2.2⟩
 ·have B:(200:Int)<(n:Int):=(by omega);go_enter Tryz.func140,Tryz.ntmps140;go_wp2;go_ret;exact⟨AJ.no fun h=>hn h.1,Below.refl _ _⟩
def JV(n a b:Int):Prop:=a<=n/\n<=b
end
end Go.Proofs.YtnfjcaoclahfjaaGreatDoor
