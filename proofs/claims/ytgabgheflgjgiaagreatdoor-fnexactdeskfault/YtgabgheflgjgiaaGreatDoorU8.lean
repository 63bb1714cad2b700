/- A part of the proof. -/
import Derived.Test.YtgabgheflgjgiaaGreatDoorU7
import Derived.Deep.RegionWith
set_option linter.unusedVariables false
set_option maxRecDepth 20000
set_option maxHeartbeats 4000000
namespace Go.Proofs.YtgabgheflgjgiaaGreatDoor
open Go.RowKit
theorem zMx:∀(m n:Nat) (h:Nat->Nat),(∀i,i<m->h i<n)->(∀i j,i<j->j<m->h i≠h j)->m<=n
 | 0,_,_,_,_=>Nat.zero_le _
 | m+1,0,h,hlt,_=>absurd (hlt 0 (by omega)) (Nat.not_lt_zero _)
 | m+1,n+1,h,hlt,hne=>by
  have key:=zMx m n (fun i=>if h i<h m then h i else h i - 1) (fun i hi=>by
   have a:=hlt i (by omega);have b:=hne i m hi (by omega);have c:=hlt m (by omega);show(if h i<h m then h i else h i - 1)<n;split<;>omega) (fun i j aA hj=>by
   have a:=hne i j aA (by omega);have b:=hne i m (by omega) (by omega);have c:=hne j m (by omega) (by omega);show(if h i<h m then h i else h i - 1)≠(if h j<h m then h j else h j - 1);split<;>split<;>omega)
  omega
theorem zKA{s:zO}(h:qJ s):s.zO1=0:=h.1
theorem zMu{n:Nat}{f:Nat->zO}{s:zO}(h:zGW n f s)(hf:¬qJ s):1<=s.zO1:=by
 rcases h with h | h | h
 ·exact absurd h hf
 ·exact h.1.1
 ·exact h.1.1.1
theorem zJ9{p:zI}{s:zO}(h:qJ s\/ym p s)(hf:¬qJ s):1<=s.zO1:=by
 rcases h with h | h
 ·exact absurd h hf
 ·exact h.1.1
theorem zK2{p:zI}{b ks kb:Int}(aA:∀i,i<p.n->¬qJ (p.s i)->1<=(p.s i).zO1):zI6 p.n p.s b ks kb ks kb↔zGQ p b ks kb:=by
 constructor
 ·rintro⟨ps,pb,hp,h⟩;rcases h with⟨h,rfl,rfl⟩ | ⟨h,rfl,rfl⟩
  ·exact Or.inl ⟨rfl,rfl⟩
  ·rcases hp with⟨h1,h2,h3,_,h5⟩ | ⟨h1,rfl,rfl⟩
   ·right;have hb:=aA ks.toNat (by omega) h3;rw[<-h5]at hb;refine⟨⟨hb,h1,h2,h5.symm⟩,?_⟩;by_cases hx:b<kb
    ·exact absurd (Or.inr hx) h
    ·omega
   ·exact absurd (Or.inl ⟨rfl,rfl⟩) h
 ·rintro(⟨rfl,rfl⟩ | ⟨⟨h1,h2,h3,h4⟩,h5⟩)
  ·by_cases hx:0<p.n/\¬qJ (p.s 0)
   ·refine⟨0,(p.s 0).zO1,Or.inl ⟨by omega,by omega,?_,rfl,rfl⟩,Or.inl ⟨Or.inl ⟨rfl,rfl⟩,rfl,rfl⟩⟩;exact hx.2
   ·refine⟨0,0,Or.inr ⟨fun h=>hx ⟨by omega,h.2.2⟩,rfl,rfl⟩,Or.inl ⟨Or.inl ⟨rfl,rfl⟩,rfl,rfl⟩⟩
  ·refine⟨ks,kb,Or.inl ⟨h2,h3,fun hf=>?_,rfl,h4.symm⟩,Or.inr ⟨fun h=>?_,rfl,rfl⟩⟩
   ·have:=zKA hf;omega
   ·rcases h with h | h
    ·have:=h.2;omega
    ·omega
theorem zC0(p:zI):zOC p↔zt p:=by
 constructor
 ·rintro⟨h1,h2,h3,h4⟩;have aA:∀i,i<p.n->¬qJ (p.s i)->1<=(p.s i).zO1:=fun i hi=>zMu (h3 i hi)
  refine⟨h1,fun i hi=>?_,fun i hi=>?_⟩
  ·rcases h3 i hi with h | h | h
   ·exact Or.inl h
   ·exact Or.inr ⟨h.1,Or.inl h.2⟩
   ·refine Or.inr ⟨h.1.1,Or.inr ⟨h.1.2.1,h.1.2.2,fun j hj=>?_⟩⟩;exact(zK2 aA).1 (h.2 j (by have:=h.1.2.1;omega))
  ·obtain⟨ha,hb⟩:=h4 i hi;have hx:0<=p.h i/\p.h i<p.n/\¬qJ (p.s (p.h i).toNat):=by
    by_cases hx:0<=p.h i/\p.h i<p.n/\¬qJ (p.s (p.h i).toNat)
    ·exact hx
    ·exact absurd (Or.inr ⟨hx,rfl,rfl⟩) ha
   exact⟨hx.1,hx.2.1,hx.2.2,hb⟩
 ·rintro⟨h1,h3,h4⟩;have aA:∀i,i<p.n->¬qJ (p.s i)->1<=(p.s i).zO1:=fun i hi=>zJ9 (h3 i hi)
  refine⟨h1,?_,fun i hi=>?_,fun i hi=>?_⟩
  ·refine zMx p.hn p.n (fun i=>(p.h i).toNat) (fun i hi=>?_) (fun i j bA hj=>?_)
   ·obtain⟨a,b,_,_⟩:=h4 i hi;show(p.h i).toNat<p.n;omega
   ·obtain⟨a,b,_,d⟩:=h4 j hj;obtain⟨a',b',_,_⟩:=h4 i (by omega);show(p.h i).toNat≠(p.h j).toNat;intro e;exact d ⟨i,bA,by omega⟩
  ·rcases h3 i hi with h | h
   ·exact Or.inl h
   ·rcases h.2 with g | g
    ·exact Or.inr (Or.inl ⟨h.1,g⟩)
    ·exact Or.inr (Or.inr ⟨⟨h.1,g.1,g.2.1⟩,fun j hj=>(zK2 aA).2 (g.2.2 j (by omega))⟩)
  ·obtain⟨a,b,c,d⟩:=h4 i hi;refine⟨fun hx=>?_,d⟩;rcases hx with⟨_,_,_,e1,e2⟩ | ⟨hx,_⟩
   ·have:=aA (p.h i).toNat (by omega) c;omega
   ·exact hx ⟨a,b,c⟩
def Nil(xs xb:Int):Prop:=xs=0/\xb=0
instance (xs xb:Int):Decidable (Nil xs xb):=inferInstanceAs (Decidable (xs=0/\xb=0))
def one(xs xb:Int):List (Int×Int):=if Nil xs xb then [] else [(xs,xb)]
def kidsUp(ks kb:Nat->Int):Nat->List (Int×Int)
 | 0=>[]
 | k+1=>kidsUp ks kb k ++ one (ks k) (kb k)
def zU(s:zO)(i:Nat):Int:=zCZ s (i*2)
def zq(s:zO)(i:Nat):Int:=zCZ s (i*2+1)
def zLb(s:zO):List (Int×Int):=kidsUp (zU s) (zq s) 8
def zHf(p:zI)(xs xb:Int):List (Int×Int):=if Nil xs xb then [] else(xs,xb) :: zLb (p.s xs.toNat)
def zA5(p:zI)(s:zO):Nat->List (Int×Int)
 | 0=>[]
 | k+1=>zA5 p s k ++ zHf p (zU s k) (zq s k)
def zY(p:zI)(rs rb:Int):List (Int×Int):=if Nil rs rb then [] else(rs,rb) :: zA5 p (p.s rs.toNat) 8
theorem zCa{s:zO}(h:s.kn=8){i:Nat}(hi:i<8):zU s i=s.ks i:=by
 unfold zU zCZ;rw[show i*2 / 2=i by omega,if_pos (by omega),if_pos (by omega)]
theorem zDz{s:zO}(h:s.kn=8){i:Nat}(hi:i<8):zq s i=s.kb i:=by
 unfold zq zCZ;rw[show(i*2+1) / 2=i by omega,if_pos (by omega),if_neg (by omega)]
theorem zK1{s:zO}(h:s.kn=0)(i:Nat):zU s i=0:=by
 unfold zU zCZ;rw[if_neg (by omega)]
theorem zK0{s:zO}(h:s.kn=0)(i:Nat):zq s i=0:=by
 unfold zq zCZ;rw[if_neg (by omega)]
theorem zIj{xs xb:Int}{x:Int×Int}:x∈one xs xb↔x=(xs,xb)/\¬Nil xs xb:=by
 unfold one;by_cases h:Nil xs xb
 ·rw[if_pos h];simp[h]
 ·rw[if_neg h];simp[h]
theorem yZ{ks kb:Nat->Int}{x:Int×Int}:∀{k:Nat},x∈kidsUp ks kb k↔∃i,i<k/\x=(ks i,kb i)/\¬Nil (ks i) (kb i)
 | 0=>by simp[kidsUp]
 | k+1=>by
  rw[kidsUp,List.mem_append,yZ,zIj];constructor
  ·rintro(⟨i,hi,h⟩ | h)
   ·exact⟨i,by omega,h⟩
   ·exact⟨k,by omega,h⟩
  ·rintro⟨i,hi,h⟩;by_cases e:i=k
   ·subst e;exact Or.inr h
   ·exact Or.inl ⟨i,by omega,h⟩
theorem zCK{p:zI}{xs xb:Int}{x:Int×Int}:x∈zHf p xs xb↔¬Nil xs xb/\(x=(xs,xb)\/x∈zLb (p.s xs.toNat)):=by
 unfold zHf;by_cases h:Nil xs xb
 ·rw[if_pos h];simp[h]
 ·rw[if_neg h];simp[h]
theorem zB4{p:zI}{s:zO}{x:Int×Int}:∀{k:Nat},x∈zA5 p s k↔∃i,i<k/\x∈zHf p (zU s i) (zq s i)
 | 0=>by simp[zA5]
 | k+1=>by
  rw[zA5,List.mem_append,zB4];constructor
  ·rintro(⟨i,hi,h⟩ | h)
   ·exact⟨i,by omega,h⟩
   ·exact⟨k,by omega,h⟩
  ·rintro⟨i,hi,h⟩;by_cases e:i=k
   ·subst e;exact Or.inr h
   ·exact Or.inl ⟨i,by omega,h⟩
theorem zAw(ks kb:Nat->Int):∀k,(kidsUp ks kb k).length<=k
 | 0=>Nat.le_refl _
 | k+1=>by
  have:=zAw ks kb k;unfold kidsUp one;split<;>simp<;>omega
theorem zMo(p:zI)(xs xb:Int):(zHf p xs xb).length<=9:=by
 unfold zHf;have:=zAw (zU (p.s xs.toNat)) (zq (p.s xs.toNat)) 8;split
 ·simp
 ·show(zLb _).length+1<=9;unfold zLb;omega
theorem zD6(p:zI)(s:zO):∀k,(zA5 p s k).length<=9*k
 | 0=>Nat.le_refl _
 | k+1=>by
  have:=zD6 p s k;have:=zMo p (zU s k) (zq s k);unfold zA5;rw[List.length_append];omega
theorem qs(p:zI)(rs rb:Int):(zY p rs rb).length<=73:=by
 unfold zY;have:=zD6 p (p.s rs.toNat) 8;split
 ·simp
 ·show(zA5 _ _ _).length+1<=73;omega
def zAY(p:zI)(xs xb:Int):Prop:=zy p xs xb/\0<(p.s xs.toNat).kn/\¬Has p.hn p.h xs
def zA9(p:zI)(xs xb:Int):Prop:=zy p xs xb/\(p.s xs.toNat).kn=0/\¬Has p.hn p.h xs
def zL4(p:zI)(s:zO):Prop:=(∀i,i<8->Nil (zU s i) (zq s i)\/zA9 p (zU s i) (zq s i))/\∃i,i<8/\¬Nil (zU s i) (zq s i)
def zNy(p:zI)(s:zO)(i:Nat):Prop:=Nil (zU s i) (zq s i)\/(zAY p (zU s i) (zq s i)/\zL4 p (p.s (zU s i).toNat))
def yG(l:List (Int×Int)):List Int:=l.map Prod.fst
def zN1(p:zI)(s:zO):Prop:=(∀i,i<8->zNy p s i)/\∃i,i<8/\¬Nil (zU s i) (zq s i)
def qQ(p:zI)(rs rb:Int):Prop:=Nil rs rb\/(zAY p rs rb/\zN1 p (p.s rs.toNat)/\(yG (zY p rs rb)).Nodup)
def qR(p:zI)(rs rb:Int):Prop:=zt p/\qQ p rs rb
def zMD(p:zI)(s:zO):Prop:=(∃i,i<8/\¬Nil (zU s i) (zq s i))/\∀i,i<8->Nil (zU s i) (zq s i)\/zOA (p.s (zU s i).toNat)
def zOE(p:zI)(s:zO):Prop:=(∃i,i<8/\¬Nil (zU s i) (zq s i))/\∀i,i<8->Nil (zU s i) (zq s i)\/zMD p (p.s (zU s i).toNat)
def zOL(p:zI)(l:List (Int×Int)):Prop:=l.Nodup/\∀x,x∈l->¬Has p.hn p.h x.1
def zNV(p:zI)(rs rb:Int):Prop:=Nil rs rb\/(zy p rs rb/\zOE p (p.s rs.toNat)/\zOL p (zY p rs rb))
theorem qq{p:zI}{xs xb:Int}(hR:zt p)(h:zy p xs xb):ym p (p.s xs.toNat):=by
 obtain⟨h1,h2,h3,h4⟩:=h;rcases hR.2.1 xs.toNat (by omega)with hf | hf
 ·have:=hf.1;omega
 ·exact hf
theorem zGI{p:zI}{s:zO}(h:ym p s):s.kn=0\/s.kn=8:=by
 rcases h.2 with h | h
 ·exact Or.inl h.1
 ·exact Or.inr h.1
theorem zCy{p:zI}{xs xb:Int}(hR:zt p)(h:zy p xs xb):(p.s xs.toNat).kn=0\/(p.s xs.toNat).kn=8:=zGI (qq hR h)
theorem zBV{p:zI}{s:zO}(h:ym p s){i:Nat}(hi:i<8)(hn:¬Nil (zU s i) (zq s i)):zy p (zU s i) (zq s i)/\zq s i<=s.zO1:=by
 rcases h.2 with h2 | h2
 ·exact absurd ⟨zK1 h2.1 i,zK0 h2.1 i⟩ hn
 ·rw[zCa h2.1 hi,zDz h2.1 hi]at hn ⊢;rcases h2.2.2 i (by omega)with h3 | h3
  ·exact absurd h3 hn
  ·exact h3
theorem zMw{p:zI}{xs xb:Int}(hR:zt p)(h:zy p xs xb):zOA (p.s xs.toNat)↔(p.s xs.toNat).kn=0:=by
 have hf:=qq hR h;constructor
 ·exact fun h=>h.2.1
 ·intro h0;rcases hf.2 with h2 | h2
  ·exact⟨hf.1,h2⟩
  ·omega
theorem zJn{s:zO}(h:s.kn=0\/s.kn=8)(he:∃i,i<8/\¬Nil (zU s i) (zq s i)):s.kn=8:=by
 rcases h with h | h
 ·obtain⟨i,_,hi⟩:=he;exact absurd ⟨zK1 h i,zK0 h i⟩ hi
 ·exact h
theorem zCg{p:zI}{rs rb:Int}(hR:zt p)(h:zy p rs rb):∀x,x∈zY p rs rb->zy p x.1 x.2/\x.2<=rb:=by
 intro x hx;unfold zY at hx;split at hx
 ·simp at hx
 ·rw[List.mem_cons,zB4]at hx;rcases hx with rfl | ⟨i,hi,hx⟩
  ·exact⟨h,by simp⟩
  ·have hf:=qq hR h;have bA:(p.s rs.toNat).zO1=rb:=h.2.2.2;obtain⟨hn,hx⟩:=zCK.1 hx;have hk:=zBV hf hi hn;rcases hx with rfl | hx
   ·exact⟨hk.1,by rw[<-bA];exact hk.2⟩
   ·obtain⟨j,hj,rfl,dA⟩:=yZ.1 hx;have cA:=qq hR hk.1;have aA:=zBV cA hj dA;have e:(p.s (zU (p.s rs.toNat) i).toNat).zO1=zq (p.s rs.toNat) i:=hk.1.2.2.2;have:=hk.2;have:=aA.2;exact⟨aA.1,by show zq _ j<=rb;omega⟩
theorem zFU{p:zI}{l:List (Int×Int)}(h:∀x,x∈l->zy p x.1 x.2):(yG l).Nodup↔l.Nodup:=by
 unfold yG List.Nodup;rw[List.pairwise_map];constructor
 ·exact fun hp=>hp.imp (fun aA e=>aA (by rw[e]))
 ·intro hp;refine List.Pairwise.imp_of_mem ?_ hp;intro a b ha hb aA e;apply aA;have h1:=(h a ha).2.2.2;have h2:=(h b hb).2.2.2;rw[e]at h1;obtain⟨a1,a2⟩:=a;obtain⟨b1,b2⟩:=b;simp only[Prod.mk.injEq];exact⟨e,by simp only at h1 h2 e;rw[<-h1,<-h2]⟩
theorem zJt{p:zI}{rs rb:Int}(hR:zt p):zNV p rs rb↔qQ p rs rb:=by
 by_cases hz:Nil rs rb
 ·exact⟨fun _=>Or.inl hz,fun _=>Or.inl hz⟩
 have bA:(rs,rb)∈zY p rs rb:=by unfold zY;rw[if_neg hz];simp
 have dA:∀i,i<8->¬Nil (zU (p.s rs.toNat) i) (zq (p.s rs.toNat) i)->(zU (p.s rs.toNat) i,zq (p.s rs.toNat) i)∈zY p rs rb:=fun i hi hn=>by
  unfold zY;rw[if_neg hz,List.mem_cons,zB4];exact Or.inr ⟨i,hi,zCK.2 ⟨hn,Or.inl rfl⟩⟩
 have eA:∀i,i<8->¬Nil (zU (p.s rs.toNat) i) (zq (p.s rs.toNat) i)->∀x,x∈zLb (p.s (zU (p.s rs.toNat) i).toNat)->x∈zY p rs rb:=fun i hi hn x hx=>by
  unfold zY;rw[if_neg hz,List.mem_cons,zB4];exact Or.inr ⟨i,hi,zCK.2 ⟨hn,Or.inr hx⟩⟩
 constructor
 ·rintro(h | ⟨hP,⟨he,hS⟩,hA⟩)
  ·exact Or.inl h
  ·right;have hf:=qq hR hP;have lA:=zJn (zGI hf) he;refine⟨⟨hP,by omega,hA.2 _ bA⟩,⟨fun i hi=>?_,he⟩,(zFU (fun x hx=>(zCg hR hP x hx).1)).2 hA.1⟩;by_cases hn:Nil (zU (p.s rs.toNat) i) (zq (p.s rs.toNat) i)
   ·exact Or.inl hn
   ·right;have hk:=zBV hf hi hn;have gA:=qq hR hk.1;obtain⟨fA,iA⟩:zMD p (p.s (zU (p.s rs.toNat) i).toNat):=by
     rcases hS i hi with h | h
     ·exact absurd h hn
     ·exact h
    have kA:=zJn (zGI gA) fA;refine⟨⟨hk.1,by omega,hA.2 _ (dA i hi hn)⟩,fun j hj=>?_,fA⟩;by_cases aA:Nil (zU (p.s (zU (p.s rs.toNat) i).toNat) j) (zq (p.s (zU (p.s rs.toNat) i).toNat) j)
    ·exact Or.inl aA
    ·right;have jA:=zBV gA hj aA;refine⟨jA.1,?_,hA.2 _ (eA i hi hn _ (yZ.2 ⟨j,hj,rfl,aA⟩))⟩;rcases iA j hj with h | h
     ·exact absurd h aA
     ·exact h.2.1
 ·rintro(h | ⟨hN,⟨hM,he⟩,hD⟩)
  ·exact Or.inl h
  ·right;have hP:=hN.1;have hf:=qq hR hP;have cA:∀x,x∈zY p rs rb->¬Has p.hn p.h x.1:=fun x hx=>by
    unfold zY at hx;rw[if_neg hz,List.mem_cons,zB4]at hx;rcases hx with rfl | ⟨i,hi,hx⟩
    ·exact hN.2.2
    ·obtain⟨hn,hx⟩:=zCK.1 hx;rcases hM i hi with h | ⟨h1,h2⟩
     ·exact absurd h hn
     ·rcases hx with rfl | hx
      ·exact h1.2.2
      ·obtain⟨j,hj,rfl,aA⟩:=yZ.1 hx;rcases h2.1 j hj with h | h
       ·exact absurd h aA
       ·exact h.2.2
   refine⟨hP,⟨he,fun i hi=>?_⟩,(zFU (fun x hx=>(zCg hR hP x hx).1)).1 hD,cA⟩;rcases hM i hi with h | ⟨h1,h2,h3⟩
   ·exact Or.inl h
   ·refine Or.inr ⟨h3,fun j hj=>?_⟩;rcases h2 j hj with h | h
    ·exact Or.inl h
    ·exact Or.inr ((zMw hR h.1).2 h.2.1)
theorem zCm(v0 v1:Value)(lo hi:Nat)(p:zI)(xs xb:Int)(w:World)(h1:qm w lo hi v0 v1 p) :
  Calls Tryz.prog 169 #[.agg #[v0,v1],.agg #[.int .i64 xs,.int .i64 xb]] w fun e w'=>zK (zy p xs xb) e/\Below w.heap.size w w':=by
 obtain⟨⟨m1,a,c,rfl,mc,g1⟩,⟨_,a',c',rfl,_⟩⟩:=h1;unfold maxLen at m1;have G1:Hid (0<p.n->∃b off,a=some ⟨b,off,none⟩/\lo<=b/\b<hi/\∀i,i<p.n->∃v0 v1 v2,w.cell? ⟨b,off+i*3,none⟩=some v0/\w.cell? ⟨b,off+i*3+1,none⟩=some v1/\w.cell? ⟨b,off+i*3+2,none⟩=some v2/\zBQ w lo hi v0 v1 v2 (p.s i)):=g1;clear g1;have bA:=((Below.refl w.heap.size w).alloc (Nat.le_refl _) (.cells #[.slice a p.n c,.slice a' p.hn c'] 36)).alloc (by simp) (.cells #[.int .i64 xs,.int .i64 xb] 99);have aA:Hid (Below w.heap.size w ((w.alloc (.cells #[.slice a p.n c,.slice a' p.hn c'] 36)).alloc (.cells #[.int .i64 xs,.int .i64 xb] 99))):=bA;clear bA;by_cases h1:1<=xb
 ·by_cases h2:0<=xs
  ·by_cases h3:xs<p.n
   ·obtain⟨x,rfl⟩:=Int.eq_ofNat_of_zero_le h2;have cA:x<p.n:=(by omega);obtain⟨b,off,rfl,_,_,k1⟩:=G1.out (by omega);obtain⟨x0,x1,x2,c0,c1,c2,hs⟩:=k1 x cA;obtain⟨rfl,_⟩:=hs;have dA:=zD c0;clear k1 G1 c1 c2;by_cases h4:(p.s x).zO1=xb
    ·have H:Hid (zy p x xb):=⟨h1,h2,h3,by rw[Int.toNat_natCast];exact h4⟩;have e4:((p.s x).zO1 == xb)=true:=(by simp[h4]);clear h4;go_enter Tryz.func169,Tryz.ntmps169;go_wp2_with fail
     go_quiet (fail)
     go_wp2;go_ret;exact⟨zK.yes H.out,zV aA.out _⟩
    ·have H:Hid (¬zy p x xb):=fun h=>h4 (by have:=h.2.2.2;rw[Int.toNat_natCast]at this;exact this)
     have e4:((p.s x).zO1 == xb)=false:=(by simp[h4]);clear h4;go_enter Tryz.func169,Tryz.ntmps169;go_wp2_with fail
     go_quiet (fail)
     go_wp2;go_ret;exact⟨zK.no H.out,zV aA.out _⟩
   ·have H:Hid (¬zy p xs xb):=fun h=>h3 h.2.2.1
    have e3:decide (xs<(p.n:Int))=false:=(by simpa using h3);go_enter Tryz.func169,Tryz.ntmps169;go_wp2_with fail
    go_quiet (fail)
    go_wp2;go_ret;exact⟨zK.no H.out,zV aA.out _⟩
  ·have H:Hid (¬zy p xs xb):=fun h=>h2 h.2.1
   have e3:decide (0<=xs)=false:=(by simpa using h2);go_enter Tryz.func169,Tryz.ntmps169;go_wp2_with fail
   go_quiet (fail)
   go_wp2;go_ret;exact⟨zK.no H.out,zV aA.out _⟩
 ·have H:Hid (¬zy p xs xb):=fun h=>h1 h.1
  have e3:decide (1<=xb)=false:=(by simpa using h1);go_enter Tryz.func169,Tryz.ntmps169;go_wp2_with fail
  go_quiet (fail)
  go_wp2;go_ret;exact⟨zK.no H.out,zV aA.out _⟩
theorem zk.two(w:World)(v0 v1:Value)(t:TypeId)(o:Obj):zk ((w.alloc (.cells #[v0,v1] t)).alloc o) w.heap.size v0 v1:=(zk.zOt w v0 v1 t).zOp (zC _ _)
theorem qP.second(w:World)(v0 v1 v2:Value)(t:TypeId)(o:Obj):qP ((w.alloc o).alloc (.cells #[v0,v1,v2] t)) (w.heap.size+1) v0 v1 v2:=by
 have:=qP.zOt (w.alloc o) v0 v1 v2 t;rw[World.size_alloc]at this;exact this
theorem zFq(v0 v1 s0 s1 s2:Value)(lo hi eB bB:Nat)(p:zI)(s:zO)(w:World)(h1:qm w lo hi v0 v1 p)(h2:zBQ w eB bB s0 s1 s2 s) :
  Calls Tryz.prog 117 #[.agg #[v0,v1],.agg #[s0,s1,s2]] w fun e w'=>zK (ym p s) e/\Below w.heap.size w w':=by
 have Hp:Hid (qm w lo hi v0 v1 p):=h1;obtain⟨⟨m1,a,c,rfl,_⟩,⟨_,a',c',rfl,_⟩⟩:=h1;obtain⟨rfl,hk,rfl,m3⟩:=h2;obtain⟨m2,ka,kc,rfl,pB,g1⟩:=hk;have G1:Hid (0<s.kn->∃b off,ka=some ⟨b,off,none⟩/\eB<=b/\b<bB/\∀i,i<s.kn->w.cell? ⟨b,off+i*2,none⟩=some (.int .i64 (s.ks i))/\w.cell? ⟨b,off+i*2+1,none⟩=some (.int .i64 (s.kb i))):=g1;clear g1;unfold maxLen at m1 m2 m3;have aB:=((Below.refl w.heap.size w).alloc (Nat.le_refl _) (.cells #[.slice a p.n c,.slice a' p.hn c'] 36)).alloc (by simp) (.cells #[.int .i64 s.zO1,.slice ka s.kn kc,.string s.data] 128);have eA:Hid (Below w.heap.size w ((w.alloc (.cells #[.slice a p.n c,.slice a' p.hn c'] 36)).alloc (.cells #[.int .i64 s.zO1,.slice ka s.kn kc,.string s.data] 128))):=aB;clear aB;by_cases hB:zAR s.zO1
 ·by_cases dA:s.kn=0
  ·have e2:((s.kn:Int) == 0)=true:=(by simp[dA]);by_cases hd:s.data.size=16
   ·have H:Hid (ym p s):=⟨hB,Or.inl ⟨dA,hd⟩⟩;have HB:Hid (zAR s.zO1):=hB;have e3:((s.data.size:Int) == 16)=true:=(by simp[hd]);clear dA hd hB;go_enter Tryz.func117,Tryz.ntmps117;go_wp2_with (go_at_call 168;refine(yR _ _).mono ?_;rintro e w' ⟨⟨t,rfl,ht⟩,rfl⟩;obtain rfl:t=true:=ht.2 HB.out;clear ht);go_ret;exact⟨zK.yes H.out,eA.out⟩
   ·have H:Hid (¬ym p s):=fun h=>by
     rcases h.2 with h | h
     ·exact hd h.2
     ·omega
    have HB:Hid (zAR s.zO1):=hB;have e3:((s.data.size:Int) == 16)=false:=(by simp;omega);clear dA hd hB;go_enter Tryz.func117,Tryz.ntmps117;go_wp2_with (go_at_call 168;refine(yR _ _).mono ?_;rintro e w' ⟨⟨t,rfl,ht⟩,rfl⟩;obtain rfl:t=true:=ht.2 HB.out;clear ht);go_ret;exact⟨zK.no H.out,eA.out⟩
  ·have e2:((s.kn:Int) == 0)=false:=(by simp;omega);by_cases kA:s.kn=8
   ·by_cases hd:s.data.toList.isEmpty=true
    ·have HB:Hid (zAR s.zO1):=hB;have e3:((s.kn:Int) != 8)=false:=(by simp;omega);have H8:Hid (s.kn=8):=kA;have kB:(s.kn:Int)<=8:=(by omega);clear kA hB dA;have HD:Hid (s.data.toList.isEmpty=true):=hd;go_enter Tryz.func117,Tryz.ntmps117;go_wp2_with (go_at_call 168;refine(yR _ _).mono ?_;rintro e w' ⟨⟨t,rfl,ht⟩,rfl⟩;obtain rfl:t=true:=ht.2 HB.out;clear ht)
     go_loopw [5] (fun i wr=>∃k:Nat,k<=s.kn/\i = .int .i64 k/\(∀j,j<k->zGQ p s.zO1 (s.ks j) (s.kb j))/\zk wr w.heap.size (.slice a p.n c) (.slice a' p.hn c')/\qP wr (w.heap.size+1) (.int .i64 s.zO1) (.slice ka s.kn kc) (.string s.data)/\Below w.heap.size w wr) (fun i _=>s.kn - (intOf i).toNat)
     case atStart=>exact⟨0,Nat.zero_le _,rfl,fun j hj=>absurd hj (Nat.not_lt_zero _),zk.two _ _ _ _ _,qP.second _ _ _ _ _ _,eA.out⟩
     case round=>
      obtain⟨k,hk,rfl,gA,cB,dB,hb⟩:=hrel;have cA:Hid (∀j,j<k->zGQ p s.zO1 (s.ks j) (s.kb j)):=gA;have mA:Hid (zk wr w.heap.size (.slice a p.n c) (.slice a' p.hn c')):=cB;have nA:Hid (qP wr (w.heap.size+1) (.int .i64 s.zO1) (.slice ka s.kn kc) (.string s.data)):=dB;clear gA cB dB;have nB:w.heap.size<wr.heap.size:=mA.out.1.lt;have oB:w.heap.size+1<wr.heap.size:=nA.out.1.lt;obtain⟨⟨y0,y1⟩,⟨y2,y3⟩⟩:=mA.out;obtain⟨⟨z0,z1⟩,⟨z2,z3⟩,⟨z4,z5⟩⟩:=nA.out;by_cases bA:k<s.kn
      ·have lB:(k:Int)<(s.kn:Int):=(by omega);obtain⟨b,off,rfl,_,_,k1⟩:=G1.out (by omega);have iB:=(hb.cell (zD (k1 k bA).1)).trans (k1 k bA).1;have jB:=(hb.cell (zD (k1 k bA).2)).trans (k1 k bA).2;clear k1 G1;go_wp2_with fail;have oA:=zC wr (.cells #[.int .i64 (s.ks k),.int .i64 (s.kb k)] 99);refine(yN _ _ _).mono ?_;rintro e w1 ⟨⟨t,rfl,ht⟩,iA⟩;have lA:Hid (zk w1 w.heap.size (.slice a p.n c) (.slice a' p.hn c')):=(mA.out.zOp oA).zOp iA;have rA:Hid (qP w1 (w.heap.size+1) (.int .i64 s.zO1) (.slice (some ⟨b,off,none⟩) s.kn kc) (.string s.data)):=(nA.out.zOp oA).zOp iA;have sA:Hid (zk w1 wr.heap.size (.int .i64 (s.ks k)) (.int .i64 (s.kb k))):=(zk.zOt wr _ _ _).zOp iA;have pA:Below w.heap.size w w1:=zA (zA hb oA) iA;clear oA iA y0 y1 y2 y3 z0 z1 z2 z3 z4 z5 iB jB mA nA;by_cases aA:zGU (s.ks k) (s.kb k) 0 0
       ·obtain rfl:t=true:=ht.2 aA;have HK:Hid (zGQ p s.zO1 (s.ks k) (s.kb k)):=Or.inl aA;clear ht aA;go_wp2;go_roundw
        case rel=>exact⟨k+1,by omega,by go_num,qE bA cA.out HK.out,lA.out,rA.out,pA⟩
        case measure=>simp[intOf];omega
       ·obtain rfl:t=false:=Bool.eq_false_iff.2 (fun h=>aA (ht.1 h));have HN:Hid (¬zGU (s.ks k) (s.kb k) 0 0):=aA;clear ht aA;obtain⟨⟨y0,y1⟩,⟨y2,y3⟩⟩:=lA.out;obtain⟨⟨q0,q1⟩,⟨q2,q3⟩⟩:=sA.out;go_wp2_with fail;refine(zCm _ _ lo hi p _ _ _ (Hp.out.zOp pA)).mono ?_;rintro e w2 ⟨⟨t,rfl,ht⟩,jA⟩;have fB:Hid (zk w2 w.heap.size (.slice a p.n c) (.slice a' p.hn c')):=lA.out.zOp jA;have vA:Hid (qP w2 (w.heap.size+1) (.int .i64 s.zO1) (.slice (some ⟨b,off,none⟩) s.kn kc) (.string s.data)):=rA.out.zOp jA;have gB:Hid (zk w2 wr.heap.size (.int .i64 (s.ks k)) (.int .i64 (s.kb k))):=sA.out.zOp jA;have tA:Below w.heap.size w w2:=zA pA jA;clear jA pA y0 y1 y2 y3 q0 q1 q2 q3 lA rA sA;by_cases fA:zy p (s.ks k) (s.kb k)
        ·obtain rfl:t=true:=ht.2 fA;have HP:Hid (zy p (s.ks k) (s.kb k)):=fA;clear ht fA;obtain⟨⟨q0,q1⟩,⟨q2,q3⟩⟩:=gB.out;obtain⟨⟨z0,z1⟩,⟨z2,z3⟩,⟨z4,z5⟩⟩:=vA.out;by_cases mB:s.zO1<s.kb k
         ·go_wp2;go_ret;refine⟨zK.no fun h=>?_,tA⟩;rcases h.2 with h | h
          ·omega
          ·rcases h.2.2 k bA with h | h
           ·exact HN.out h
           ·have:=h.2;omega
         ·have HK:Hid (zGQ p s.zO1 (s.ks k) (s.kb k)):=Or.inr ⟨HP.out,by omega⟩;go_wp2;go_roundw
          case rel=>exact⟨k+1,by omega,by go_num,qE bA cA.out HK.out,fB.out,vA.out,tA⟩
          case measure=>simp[intOf];omega
        ·obtain rfl:t=false:=Bool.eq_false_iff.2 (fun h=>fA (ht.1 h));have HP:Hid (¬zy p (s.ks k) (s.kb k)):=fA;clear ht fA;go_wp2;go_ret;refine⟨zK.no fun h=>?_,tA⟩;rcases h.2 with h | h
         ·omega
         ·rcases h.2.2 k bA with h | h
          ·exact HN.out h
          ·exact HP.out h.1
      ·go_wp2;go_ret;exact⟨zK.yes ⟨HB.out,Or.inr ⟨H8.out,HD.out,fun i hi=>cA.out i (by omega)⟩⟩,hb⟩
    ·have H:Hid (¬ym p s):=fun h=>by
      rcases h.2 with h | h
      ·omega
      ·exact hd h.2.1
     have HB:Hid (zAR s.zO1):=hB;have e3:((s.kn:Int) != 8)=false:=(by simp;omega);have e4:s.data.toList.isEmpty=false:=(by simpa using hd);clear kA hB dA hd;go_enter Tryz.func117,Tryz.ntmps117;go_wp2_with (go_at_call 168;refine(yR _ _).mono ?_;rintro e w' ⟨⟨t,rfl,ht⟩,rfl⟩;obtain rfl:t=true:=ht.2 HB.out;clear ht);go_ret;exact⟨zK.no H.out,eA.out⟩
   ·have H:Hid (¬ym p s):=fun h=>by
     rcases h.2 with h | h
     ·omega
     ·exact kA h.1
    have HB:Hid (zAR s.zO1):=hB;have e3:((s.kn:Int) != 8)=true:=(by simp;omega);clear kA hB dA;go_enter Tryz.func117,Tryz.ntmps117;go_wp2_with (go_at_call 168;refine(yR _ _).mono ?_;rintro e w' ⟨⟨t,rfl,ht⟩,rfl⟩;obtain rfl:t=true:=ht.2 HB.out;clear ht);go_ret;exact⟨zK.no H.out,eA.out⟩
 ·have HB:Hid (¬zAR s.zO1):=hB;clear hB;go_enter Tryz.func117,Tryz.ntmps117;go_wp2_with (go_at_call 168;refine(yR _ _).mono ?_;rintro e w' ⟨⟨t,rfl,ht⟩,rfl⟩;obtain rfl:t=false:=Bool.eq_false_iff.2 (fun h=>HB.out (ht.1 h));clear ht);go_ret;exact⟨zK.no fun h=>HB.out h.1,eA.out⟩
theorem yt(v0 v1:Value)(lo hi:Nat)(p:zI)(w:World)(h1:qm w lo hi v0 v1 p) :
  Calls Tryz.prog 61 #[.agg #[v0,v1]] w fun e w'=>zK (zt p) e/\Below w.heap.size w w':=by
 have Hp:Hid (qm w lo hi v0 v1 p):=h1;obtain⟨⟨m1,a,c,rfl,mc,g1⟩,⟨m2,a',c',rfl,sB,g2⟩⟩:=h1;unfold maxLen at m1 m2;clear g1 g2;have iB:Hid (Below w.heap.size w (w.alloc (.cells #[.slice a p.n c,.slice a' p.hn c'] 36))):=zC _ _;by_cases hn:(200:Int)<p.n
 ·have H:Hid (¬zt p):=fun h=>by have:=h.1;omega
  go_enter Tryz.func61,Tryz.ntmps61;go_wp2;go_ret;exact⟨zK.no H.out,iB.out⟩
 ·go_enter Tryz.func61,Tryz.ntmps61;go_wp2
  go_loopw [3] (fun i wr=>∃k:Nat,k<=p.n/\i = .int .i64 k/\(∀j,j<k->qJ (p.s j)\/ym p (p.s j))/\zk wr w.heap.size (.slice a p.n c) (.slice a' p.hn c')/\Below w.heap.size w wr) (fun i _=>p.n - (intOf i).toNat)
  case atStart=>exact⟨0,Nat.zero_le _,rfl,fun j hj=>absurd hj (Nat.not_lt_zero _),zk.zOt _ _ _ _,iB.out⟩
  case round=>
   obtain⟨k,hk,rfl,eA,hx,hb⟩:=hrel;have dA:Hid (∀j,j<k->qJ (p.s j)\/ym p (p.s j)):=eA;have Hx:Hid (zk wr w.heap.size (.slice a p.n c) (.slice a' p.hn c')):=hx;clear eA hx;obtain⟨⟨y0,y1⟩,⟨y2,y3⟩⟩:=Hx.out;by_cases fA:k<p.n
   ·have fB:(k:Int)<(p.n:Int):=(by omega);obtain⟨b,off,ka,kc,rfl,hs⟩:=(Hp.out.1.zOp hb).cells fA;have Hs:Hid (zBR wr b (off+k*3) lo hi ka kc (p.s k)):=hs;obtain⟨q0,q1,q2,_⟩:=hs;by_cases hf:qJ (p.s k)
    ·have HF:Hid (qJ (p.s k)):=hf;clear hf;go_wp2_with fail
     first
      | (go_region_with (first | (go_at_call 65;refine(qb _ _ _ lo hi (p.s k) _ ?_).mono ?_;(exact Hs.out.slot.zOp ((Below.refl _ _).drew));rintro e w1 ⟨⟨t,rfl,hx⟩,cA⟩;obtain rfl:t=true:=hx.2 HF.out;clear hx;have bA:=zJ cA;have tA:=(Hx.out.zOp bA).1.1;have vA:=(Hx.out.zOp bA).2.1;have aB:=(Hs.out.zOp bA).c0;have bB:=(Hs.out.zOp bA).c1;have cB:=(Hs.out.zOp bA).c2)))
      | fail
     all_goals
      have gA:=zA hb bA;have HX:Hid (zk w1 w.heap.size (.slice (some ⟨b,off,none⟩) p.n c) (.slice a' p.hn c')):=Hx.out.zOp bA;clear cA bA tA vA aB bB cB q0 q1 q2 y0 y1 y2 y3 Hs Hx;go_wp2;go_roundw
      case rel=>exact⟨k+1,by omega,by go_num,qE fA dA.out (Or.inl HF.out),HX.out,gA⟩
      case measure=>simp[intOf];omega
    ·have HF:Hid (¬qJ (p.s k)):=hf;clear hf;by_cases dB:ym p (p.s k)
     ·have HT:Hid (ym p (p.s k)):=dB;clear dB;go_wp2_with fail;go_region_held3 (fun w'=>w'.cell? ⟨w.heap.size,0,none⟩=some (.slice (some ⟨b,off,none⟩) p.n c)/\w'.cell? ⟨w.heap.size,1,none⟩=some (.slice a' p.hn c')/\w'.cell? ⟨b,off+k*3,none⟩=some (.int .i64 (p.s k).zO1)/\w'.cell? ⟨b,off+k*3+1,none⟩=some (.slice ka (p.s k).kn kc)/\w'.cell? ⟨b,off+k*3+2,none⟩=some (.string (p.s k).data)) (go_keep)
       (first
        | (go_at_call 65;refine(qb _ _ _ lo hi (p.s k) _ ?_).mono ?_;(exact Hs.out.slot.zOp ((Below.refl _ _).drew));rintro e w1 ⟨⟨t,rfl,hx⟩,cA⟩;obtain rfl:t=false:=zP hx HF.out;clear hx;have bA:=zJ cA;have tA:=(Hx.out.zOp bA).1.1;have vA:=(Hx.out.zOp bA).2.1;have aB:=(Hs.out.zOp bA).c0;have bB:=(Hs.out.zOp bA).c1;have cB:=(Hs.out.zOp bA).c2)
        | (go_at_call 117;refine(zFq _ _ _ _ _ lo hi lo hi p (p.s k) _ ?_ ?_).mono ?_;(exact Hp.out.zOp (zA hb bA));(exact Hs.out.slot.zOp bA);rintro e w2 ⟨⟨t2,rfl,iA⟩,pA⟩;obtain rfl:t2=true:=iA.2 HT.out;clear iA;have aA:=zA bA pA;have jA:=(Hx.out.zOp aA).1.1;have kA:=(Hx.out.zOp aA).2.1;have lA:=(Hs.out.zOp aA).c0;have mA:=(Hs.out.zOp aA).c1;have nA:=(Hs.out.zOp aA).c2))
      have gA:=zA hb aA;have HX:Hid (zk w2 w.heap.size (.slice (some ⟨b,off,none⟩) p.n c) (.slice a' p.hn c')):=Hx.out.zOp aA;clear cA bA tA vA aB bB cB q0 q1 q2 y0 y1 y2 y3 Hs Hx jA kA lA mA nA pA aA;go_wp2;go_roundw
      case rel=>exact⟨k+1,by omega,by go_num,qE fA dA.out (Or.inr HT.out),HX.out,gA⟩
      case measure=>simp[intOf];omega
     ·have HT:Hid (¬ym p (p.s k)):=dB;clear dB;go_wp2_with fail;go_region_held3 (fun w'=>w'.cell? ⟨w.heap.size,0,none⟩=some (.slice (some ⟨b,off,none⟩) p.n c)/\w'.cell? ⟨w.heap.size,1,none⟩=some (.slice a' p.hn c')/\w'.cell? ⟨b,off+k*3,none⟩=some (.int .i64 (p.s k).zO1)/\w'.cell? ⟨b,off+k*3+1,none⟩=some (.slice ka (p.s k).kn kc)/\w'.cell? ⟨b,off+k*3+2,none⟩=some (.string (p.s k).data)) (go_keep)
       (first
        | (go_at_call 65;refine(qb _ _ _ lo hi (p.s k) _ ?_).mono ?_;(exact Hs.out.slot.zOp ((Below.refl _ _).drew));rintro e w1 ⟨⟨t,rfl,hx⟩,cA⟩;obtain rfl:t=false:=zP hx HF.out;clear hx;have bA:=zJ cA;have tA:=(Hx.out.zOp bA).1.1;have vA:=(Hx.out.zOp bA).2.1;have aB:=(Hs.out.zOp bA).c0;have bB:=(Hs.out.zOp bA).c1;have cB:=(Hs.out.zOp bA).c2)
        | (go_at_call 117;refine(zFq _ _ _ _ _ lo hi lo hi p (p.s k) _ ?_ ?_).mono ?_;(exact Hp.out.zOp (zA hb bA));(exact Hs.out.slot.zOp bA);rintro e w2 ⟨⟨t2,rfl,iA⟩,pA⟩;obtain rfl:t2=false:=zP iA HT.out;clear iA;have aA:=zA bA pA;have jA:=(Hx.out.zOp aA).1.1;have kA:=(Hx.out.zOp aA).2.1;have lA:=(Hs.out.zOp aA).c0;have mA:=(Hs.out.zOp aA).c1;have nA:=(Hs.out.zOp aA).c2))
      have gA:=zA hb aA;clear cA bA tA vA aB bB cB q0 q1 q2 y0 y1 y2 y3 Hs Hx jA kA lA mA nA pA aA;go_wp2;go_ret;refine⟨zK.no fun h=>?_,gA⟩;rcases h.2.1 k fA with h | h
      ·exact HF.out h
      ·exact HT.out h
   ·obtain rfl:k=p.n:=(by omega);have nB:p.n<=200:=(by omega);have HX:Hid (zk wr w.heap.size (.slice a p.n c) (.slice a' p.hn c')):=Hx.out;have HB:Hid (Below w.heap.size w wr):=hb;have HA:Hid (∀j,j<p.n->qJ (p.s j)\/ym p (p.s j)):=dA.out;clear Hx hb dA;go_wp2;obtain⟨wo,kB⟩:∃wo:World,wo=wr:=⟨_,rfl⟩;rw[<-kB]at HX HB ⊢;clear kB y0 y1 y2 y3
    go_loopw [4] (fun i wr=>∃k:Nat,k<=p.hn/\i = .int .i64 k/\(∀j,j<k->zIO p j)/\zk wr w.heap.size (.slice a p.n c) (.slice a' p.hn c')/\Below w.heap.size w wr) (fun i _=>p.hn - (intOf i).toNat)
    case atStart=>exact⟨0,Nat.zero_le _,rfl,fun j hj=>absurd hj (Nat.not_lt_zero _),HX.out,HB.out⟩
    case round=>
     obtain⟨k,hk,rfl,eA,hx,hb⟩:=hrel;have dA:Hid (∀j,j<k->zIO p j):=eA;have Hx:Hid (zk wr w.heap.size (.slice a p.n c) (.slice a' p.hn c')):=hx;clear eA hx;obtain⟨⟨y0,y1⟩,⟨y2,y3⟩⟩:=Hx.out;by_cases fA:k<p.hn
     ·have fB:(k:Int)<(p.hn:Int):=(by omega);have rA:=Hp.out.2.zOp hb;have eB:Hid (zAb wr lo hi (.slice a' p.hn c') p.hn p.h):=rA;obtain⟨_,a2,lB,jB,_,iA⟩:=rA;simp only[Value.slice.injEq,true_and]at jB;obtain⟨rfl,rfl⟩:=jB;obtain⟨b,off,rfl,_,_,k1⟩:=iA (by omega);have mB:=k1 k fA;clear k1 iA;by_cases h1:p.h k<0
      ·go_wp2;go_ret;exact⟨zK.no fun h=>by have:=(h.2.2 k fA).1;omega,hb⟩
      ·by_cases h2:(p.n:Int)<=p.h k
       ·go_wp2;go_ret;exact⟨zK.no fun h=>by have:=(h.2.2 k fA).2.1;omega,hb⟩
       ·obtain⟨x,hx⟩:=Int.eq_ofNat_of_zero_le (show 0<=p.h k by omega);rw[hx]at mB h1 h2;have oA:Hid (p.h k=x):=hx;have pB:x<p.n:=(by omega);have oB:(x:Int)<(p.n:Int):=(by omega);clear hx;obtain⟨bs,sA,ka,kc,rfl,hs⟩:=(Hp.out.1.zOp hb).cells pB;have Hs:Hid (zBR wr bs (sA+x*3) lo hi ka kc (p.s x)):=hs;obtain⟨q0,q1,q2,_⟩:=hs;by_cases hf:qJ (p.s x)
        ·have HF:Hid (qJ (p.s x)):=hf;clear hf;go_wp2_with fail;refine(qb _ _ _ lo hi (p.s x) _ Hs.out.slot).mono ?_;rintro e w1 ⟨⟨t,rfl,hx⟩,cA⟩;obtain rfl:t=true:=hx.2 HF.out;clear hx;have gA:=zA hb cA;clear cA q0 q1 q2 y0 y1 y2 y3;go_wp2;go_ret;refine⟨zK.no fun h=>?_,gA⟩;have:=(h.2.2 k fA).2.2.1;rw[oA.out,Int.toNat_natCast]at this;exact this HF.out
        ·have HF:Hid (¬qJ (p.s x)):=hf;clear hf;go_wp2_with fail;refine(qb _ _ _ lo hi (p.s x) _ Hs.out.slot).mono ?_;rintro e w1 ⟨⟨t,rfl,hx⟩,cA⟩;obtain rfl:t=false:=zP hx HF.out;clear hx;have gA:=zA hb cA;have gB:Hid (zk w1 w.heap.size (.slice (some ⟨bs,sA,none⟩) p.n c) (.slice (some ⟨b,off,none⟩) p.hn c')):=Hx.out.zOp cA;have HI:Hid (zAb w1 lo hi (.slice (some ⟨b,off,none⟩) k c') k p.h):=(eB.out.zOp cA).take (by omega) (by omega);clear cA q0 q1 q2 y0 y1 y2 y3;obtain⟨⟨y0,y1⟩,⟨y2,y3⟩⟩:=gB.out;have rB:k<=c':=(by omega);go_wp2_with fail;refine(zAU _ k lo hi p.h _ _ HI.out).mono ?_;rintro e w2 ⟨⟨t,rfl,hx⟩,rfl⟩;clear y0 y1 y2 y3;by_cases hh:Has k p.h (x:Int)
         ·obtain rfl:t=true:=hx.2 hh;have HH:Hid (Has k p.h (x:Int)):=hh;clear hx hh;go_wp2;go_ret;refine⟨zK.no fun h=>?_,gA⟩;have:=(h.2.2 k fA).2.2.2;rw[oA.out]at this;exact this HH.out
         ·obtain rfl:t=false:=zP hx hh;have HH:Hid (zIO p k):=by
           refine⟨by rw[oA.out];exact Int.natCast_nonneg _,by rw[oA.out];exact oB,by rw[oA.out,Int.toNat_natCast];exact HF.out,by rw[oA.out];exact hh⟩
          clear hx hh;go_wp2;go_roundw
          case rel=>exact⟨k+1,by omega,by go_num,qE fA dA.out HH.out,gB.out,gA⟩
          case measure=>simp[intOf];omega
     ·obtain rfl:k=p.hn:=(by omega);go_wp2;go_ret;exact⟨zK.yes ⟨nB,HA.out,dA.out⟩,hb⟩
end Go.Proofs.YtgabgheflgjgiaaGreatDoor
