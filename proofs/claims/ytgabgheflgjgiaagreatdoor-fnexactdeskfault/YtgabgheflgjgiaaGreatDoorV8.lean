/- A part of the proof. -/
import Derived.Test.YtgabgheflgjgiaaGreatDoorV7
import Derived.Deep.RegionWith
set_option linter.unusedVariables false
set_option maxRecDepth 20000
set_option maxHeartbeats 4000000
namespace Go.Proofs.YtgabgheflgjgiaaGreatDoor
open Go.RowKit
theorem zMf:∀(m n:Nat) (h:Nat->Nat),(∀i,i<m->h i<n)->(∀i j,i<j->j<m->h i≠h j)->m<=n
 | 0,_,_,_,_=>Nat.zero_le _
 | m+1,0,h,hlt,_=>absurd (hlt 0 (by omega)) (Nat.not_lt_zero _)
 | m+1,n+1,h,hlt,hne=>by
  have key:=zMf m n (fun i=>if h i<h m then h i else h i - 1) (fun i hi=>by
   have a:=hlt i (by omega);have b:=hne i m hi (by omega);have c:=hlt m (by omega);show(if h i<h m then h i else h i - 1)<n;split<;>omega) (fun i j aA hj=>by
   have a:=hne i j aA (by omega);have b:=hne i m (by omega) (by omega);have c:=hne j m (by omega) (by omega);show(if h i<h m then h i else h i - 1)≠(if h j<h m then h j else h j - 1);split<;>split<;>omega)
  omega
theorem zJx{s:zO}(h:qJ s):s.zOh=0:=h.1
theorem zMc{n:Nat}{f:Nat->zO}{s:zO}(h:zGL n f s)(hf:¬qJ s):1<=s.zOh:=by
 rcases h with h | h | h
 ·exact absurd h hf
 ·exact h.1.1
 ·exact h.1.1.1
theorem zJw{p:zI}{s:zO}(h:qJ s\/ym p s)(hf:¬qJ s):1<=s.zOh:=by
 rcases h with h | h
 ·exact absurd h hf
 ·exact h.1.1
theorem zKm{p:zI}{b ks kb:Int}(hall:∀i,i<p.n->¬qJ (p.s i)->1<=(p.s i).zOh):zIt p.n p.s b ks kb ks kb↔zGF p b ks kb:=by
 constructor
 ·rintro⟨ps,pb,hp,h⟩;rcases h with⟨h,rfl,rfl⟩ | ⟨h,rfl,rfl⟩
  ·exact Or.inl ⟨rfl,rfl⟩
  ·rcases hp with⟨h1,h2,h3,_,h5⟩ | ⟨h1,rfl,rfl⟩
   ·right;have hb:=hall ks.toNat (by omega) h3;rw[<-h5]at hb;refine⟨⟨hb,h1,h2,h5.symm⟩,?_⟩;by_cases hx:b<kb
    ·exact absurd (Or.inr hx) h
    ·omega
   ·exact absurd (Or.inl ⟨rfl,rfl⟩) h
 ·rintro(⟨rfl,rfl⟩ | ⟨⟨h1,h2,h3,h4⟩,h5⟩)
  ·by_cases hx:0<p.n/\¬qJ (p.s 0)
   ·refine⟨0,(p.s 0).zOh,Or.inl ⟨by omega,by omega,?_,rfl,rfl⟩,Or.inl ⟨Or.inl ⟨rfl,rfl⟩,rfl,rfl⟩⟩;exact hx.2
   ·refine⟨0,0,Or.inr ⟨fun h=>hx ⟨by omega,h.2.2⟩,rfl,rfl⟩,Or.inl ⟨Or.inl ⟨rfl,rfl⟩,rfl,rfl⟩⟩
  ·refine⟨ks,kb,Or.inl ⟨h2,h3,fun hf=>?_,rfl,h4.symm⟩,Or.inr ⟨fun h=>?_,rfl,rfl⟩⟩
   ·have:=zJx hf;omega
   ·rcases h with h | h
    ·have:=h.2;omega
    ·omega
theorem zCw(p:zI):zNs p↔zt p:=by
 constructor
 ·rintro⟨h1,h2,h3,h4⟩;have hall:∀i,i<p.n->¬qJ (p.s i)->1<=(p.s i).zOh:=fun i hi=>zMc (h3 i hi)
  refine⟨h1,fun i hi=>?_,fun i hi=>?_⟩
  ·rcases h3 i hi with h | h | h
   ·exact Or.inl h
   ·exact Or.inr ⟨h.1,Or.inl h.2⟩
   ·refine Or.inr ⟨h.1.1,Or.inr ⟨h.1.2.1,h.1.2.2,fun j hj=>?_⟩⟩;exact(zKm hall).1 (h.2 j (by have:=h.1.2.1;omega))
  ·obtain⟨ha,hb⟩:=h4 i hi;have hx:0<=p.h i/\p.h i<p.n/\¬qJ (p.s (p.h i).toNat):=by
    by_cases hx:0<=p.h i/\p.h i<p.n/\¬qJ (p.s (p.h i).toNat)
    ·exact hx
    ·exact absurd (Or.inr ⟨hx,rfl,rfl⟩) ha
   exact⟨hx.1,hx.2.1,hx.2.2,hb⟩
 ·rintro⟨h1,h3,h4⟩;have hall:∀i,i<p.n->¬qJ (p.s i)->1<=(p.s i).zOh:=fun i hi=>zJw (h3 i hi)
  refine⟨h1,?_,fun i hi=>?_,fun i hi=>?_⟩
  ·refine zMf p.hn p.n (fun i=>(p.h i).toNat) (fun i hi=>?_) (fun i j aA hj=>?_)
   ·obtain⟨a,b,_,_⟩:=h4 i hi;show(p.h i).toNat<p.n;omega
   ·obtain⟨a,b,_,d⟩:=h4 j hj;obtain⟨a',b',_,_⟩:=h4 i (by omega);show(p.h i).toNat≠(p.h j).toNat;intro e;exact d ⟨i,aA,by omega⟩
  ·rcases h3 i hi with h | h
   ·exact Or.inl h
   ·rcases h.2 with g | g
    ·exact Or.inr (Or.inl ⟨h.1,g⟩)
    ·exact Or.inr (Or.inr ⟨⟨h.1,g.1,g.2.1⟩,fun j hj=>(zKm hall).2 (g.2.2 j (by omega))⟩)
  ·obtain⟨a,b,c,d⟩:=h4 i hi;refine⟨fun hx=>?_,d⟩;rcases hx with⟨_,_,_,e1,e2⟩ | ⟨hx,_⟩
   ·have:=hall (p.h i).toNat (by omega) c;omega
   ·exact hx ⟨a,b,c⟩
def Nil(xs xb:Int):Prop:=xs=0/\xb=0
instance (xs xb:Int):Decidable (Nil xs xb):=inferInstanceAs (Decidable (xs=0/\xb=0))
def one(xs xb:Int):List (Int×Int):=if Nil xs xb then [] else [(xs,xb)]
def kidsUp(ks kb:Nat->Int):Nat->List (Int×Int)
 | 0=>[]
 | k+1=>kidsUp ks kb k ++ one (ks k) (kb k)
def zU(s:zO)(i:Nat):Int:=zCW s (i*2)
def zq(s:zO)(i:Nat):Int:=zCW s (i*2+1)
def zLK(s:zO):List (Int×Int):=kidsUp (zU s) (zq s) 8
def zHT(p:zI)(xs xb:Int):List (Int×Int):=if Nil xs xb then [] else(xs,xb) :: zLK (p.s xs.toNat)
def zA4(p:zI)(s:zO):Nat->List (Int×Int)
 | 0=>[]
 | k+1=>zA4 p s k ++ zHT p (zU s k) (zq s k)
def zY(p:zI)(rs rb:Int):List (Int×Int):=if Nil rs rb then [] else(rs,rb) :: zA4 p (p.s rs.toNat) 8
theorem zCX{s:zO}(h:s.kn=8){i:Nat}(hi:i<8):zU s i=s.ks i:=by
 unfold zU zCW;rw[show i*2 / 2=i by omega,if_pos (by omega),if_pos (by omega)]
theorem zDt{s:zO}(h:s.kn=8){i:Nat}(hi:i<8):zq s i=s.kb i:=by
 unfold zq zCW;rw[show(i*2+1) / 2=i by omega,if_pos (by omega),if_neg (by omega)]
theorem zKl{s:zO}(h:s.kn=0)(i:Nat):zU s i=0:=by
 unfold zU zCW;rw[if_neg (by omega)]
theorem zKk{s:zO}(h:s.kn=0)(i:Nat):zq s i=0:=by
 unfold zq zCW;rw[if_neg (by omega)]
theorem zIW{xs xb:Int}{x:Int×Int}:x∈one xs xb↔x=(xs,xb)/\¬Nil xs xb:=by
 unfold one;by_cases h:Nil xs xb
 ·rw[if_pos h];simp[h]
 ·rw[if_neg h];simp[h]
theorem yZ{ks kb:Nat->Int}{x:Int×Int}:∀{k:Nat},x∈kidsUp ks kb k↔∃i,i<k/\x=(ks i,kb i)/\¬Nil (ks i) (kb i)
 | 0=>by simp[kidsUp]
 | k+1=>by
  rw[kidsUp,List.mem_append,yZ,zIW];constructor
  ·rintro(⟨i,hi,h⟩ | h)
   ·exact⟨i,by omega,h⟩
   ·exact⟨k,by omega,h⟩
  ·rintro⟨i,hi,h⟩;by_cases e:i=k
   ·subst e;exact Or.inr h
   ·exact Or.inl ⟨i,by omega,h⟩
theorem zCH{p:zI}{xs xb:Int}{x:Int×Int}:x∈zHT p xs xb↔¬Nil xs xb/\(x=(xs,xb)\/x∈zLK (p.s xs.toNat)):=by
 unfold zHT;by_cases h:Nil xs xb
 ·rw[if_pos h];simp[h]
 ·rw[if_neg h];simp[h]
theorem zB2{p:zI}{s:zO}{x:Int×Int}:∀{k:Nat},x∈zA4 p s k↔∃i,i<k/\x∈zHT p (zU s i) (zq s i)
 | 0=>by simp[zA4]
 | k+1=>by
  rw[zA4,List.mem_append,zB2];constructor
  ·rintro(⟨i,hi,h⟩ | h)
   ·exact⟨i,by omega,h⟩
   ·exact⟨k,by omega,h⟩
  ·rintro⟨i,hi,h⟩;by_cases e:i=k
   ·subst e;exact Or.inr h
   ·exact Or.inl ⟨i,by omega,h⟩
theorem zAv(ks kb:Nat->Int):∀k,(kidsUp ks kb k).length<=k
 | 0=>Nat.le_refl _
 | k+1=>by
  have:=zAv ks kb k;unfold kidsUp one;split<;>simp<;>omega
theorem zMW(p:zI)(xs xb:Int):(zHT p xs xb).length<=9:=by
 unfold zHT;have:=zAv (zU (p.s xs.toNat)) (zq (p.s xs.toNat)) 8;split
 ·simp
 ·show(zLK _).length+1<=9;unfold zLK;omega
theorem zD0(p:zI)(s:zO):∀k,(zA4 p s k).length<=9*k
 | 0=>Nat.le_refl _
 | k+1=>by
  have:=zD0 p s k;have:=zMW p (zU s k) (zq s k);unfold zA4;rw[List.length_append];omega
theorem qs(p:zI)(rs rb:Int):(zY p rs rb).length<=73:=by
 unfold zY;have:=zD0 p (p.s rs.toNat) 8;split
 ·simp
 ·show(zA4 _ _ _).length+1<=73;omega
def zAX(p:zI)(xs xb:Int):Prop:=zy p xs xb/\0<(p.s xs.toNat).kn/\¬Has p.hn p.h xs
def zA8(p:zI)(xs xb:Int):Prop:=zy p xs xb/\(p.s xs.toNat).kn=0/\¬Has p.hn p.h xs
def zLn(p:zI)(s:zO):Prop:=(∀i,i<8->Nil (zU s i) (zq s i)\/zA8 p (zU s i) (zq s i))/\∃i,i<8/\¬Nil (zU s i) (zq s i)
def zNf(p:zI)(s:zO)(i:Nat):Prop:=Nil (zU s i) (zq s i)\/(zAX p (zU s i) (zq s i)/\zLn p (p.s (zU s i).toNat))
def yG(l:List (Int×Int)):List Int:=l.map Prod.fst
def zNi(p:zI)(s:zO):Prop:=(∀i,i<8->zNf p s i)/\∃i,i<8/\¬Nil (zU s i) (zq s i)
def qQ(p:zI)(rs rb:Int):Prop:=Nil rs rb\/(zAX p rs rb/\zNi p (p.s rs.toNat)/\(yG (zY p rs rb)).Nodup)
def qR(p:zI)(rs rb:Int):Prop:=zt p/\qQ p rs rb
def zLw(p:zI)(s:zO):Prop:=(∃i,i<8/\¬Nil (zU s i) (zq s i))/\∀i,i<8->Nil (zU s i) (zq s i)\/zNq (p.s (zU s i).toNat)
def zNu(p:zI)(s:zO):Prop:=(∃i,i<8/\¬Nil (zU s i) (zq s i))/\∀i,i<8->Nil (zU s i) (zq s i)\/zLw p (p.s (zU s i).toNat)
def zN1(p:zI)(l:List (Int×Int)):Prop:=l.Nodup/\∀x,x∈l->¬Has p.hn p.h x.1
def zND(p:zI)(rs rb:Int):Prop:=Nil rs rb\/(zy p rs rb/\zNu p (p.s rs.toNat)/\zN1 p (zY p rs rb))
theorem qq{p:zI}{xs xb:Int}(hR:zt p)(h:zy p xs xb):ym p (p.s xs.toNat):=by
 obtain⟨h1,h2,h3,h4⟩:=h;rcases hR.2.1 xs.toNat (by omega)with hf | hf
 ·have:=hf.1;omega
 ·exact hf
theorem zF7{p:zI}{s:zO}(h:ym p s):s.kn=0\/s.kn=8:=by
 rcases h.2 with h | h
 ·exact Or.inl h.1
 ·exact Or.inr h.1
theorem zCu{p:zI}{xs xb:Int}(hR:zt p)(h:zy p xs xb):(p.s xs.toNat).kn=0\/(p.s xs.toNat).kn=8:=zF7 (qq hR h)
theorem zBT{p:zI}{s:zO}(h:ym p s){i:Nat}(hi:i<8)(hn:¬Nil (zU s i) (zq s i)):zy p (zU s i) (zq s i)/\zq s i<=s.zOh:=by
 rcases h.2 with h2 | h2
 ·exact absurd ⟨zKl h2.1 i,zKk h2.1 i⟩ hn
 ·rw[zCX h2.1 hi,zDt h2.1 hi]at hn ⊢;rcases h2.2.2 i (by omega)with h3 | h3
  ·exact absurd h3 hn
  ·exact h3
theorem zMe{p:zI}{xs xb:Int}(hR:zt p)(h:zy p xs xb):zNq (p.s xs.toNat)↔(p.s xs.toNat).kn=0:=by
 have hf:=qq hR h;constructor
 ·exact fun h=>h.2.1
 ·intro h0;rcases hf.2 with h2 | h2
  ·exact⟨hf.1,h2⟩
  ·omega
theorem zJa{s:zO}(h:s.kn=0\/s.kn=8)(he:∃i,i<8/\¬Nil (zU s i) (zq s i)):s.kn=8:=by
 rcases h with h | h
 ·obtain⟨i,_,hi⟩:=he;exact absurd ⟨zKl h i,zKk h i⟩ hi
 ·exact h
theorem zCd{p:zI}{rs rb:Int}(hR:zt p)(h:zy p rs rb):∀x,x∈zY p rs rb->zy p x.1 x.2/\x.2<=rb:=by
 intro x hx;unfold zY at hx;split at hx
 ·simp at hx
 ·rw[List.mem_cons,zB2]at hx;rcases hx with rfl | ⟨i,hi,hx⟩
  ·exact⟨h,by simp⟩
  ·have hf:=qq hR h;have bA:(p.s rs.toNat).zOh=rb:=h.2.2.2;obtain⟨hn,hx⟩:=zCH.1 hx;have hk:=zBT hf hi hn;rcases hx with rfl | hx
   ·exact⟨hk.1,by rw[<-bA];exact hk.2⟩
   ·obtain⟨j,hj,rfl,dA⟩:=yZ.1 hx;have cA:=qq hR hk.1;have aA:=zBT cA hj dA;have e:(p.s (zU (p.s rs.toNat) i).toNat).zOh=zq (p.s rs.toNat) i:=hk.1.2.2.2;have:=hk.2;have:=aA.2;exact⟨aA.1,by show zq _ j<=rb;omega⟩
theorem zFL{p:zI}{l:List (Int×Int)}(h:∀x,x∈l->zy p x.1 x.2):(yG l).Nodup↔l.Nodup:=by
 unfold yG List.Nodup;rw[List.pairwise_map];constructor
 ·exact fun hp=>hp.imp (fun hne e=>hne (by rw[e]))
 ·intro hp;refine List.Pairwise.imp_of_mem ?_ hp;intro a b ha hb hne e;apply hne;have h1:=(h a ha).2.2.2;have h2:=(h b hb).2.2.2;rw[e]at h1;obtain⟨a1,a2⟩:=a;obtain⟨b1,b2⟩:=b;simp only[Prod.mk.injEq];exact⟨e,by simp only at h1 h2 e;rw[<-h1,<-h2]⟩
theorem zJg{p:zI}{rs rb:Int}(hR:zt p):zND p rs rb↔qQ p rs rb:=by
 by_cases hz:Nil rs rb
 ·exact⟨fun _=>Or.inl hz,fun _=>Or.inl hz⟩
 have bA:(rs,rb)∈zY p rs rb:=by unfold zY;rw[if_neg hz];simp
 have dA:∀i,i<8->¬Nil (zU (p.s rs.toNat) i) (zq (p.s rs.toNat) i)->(zU (p.s rs.toNat) i,zq (p.s rs.toNat) i)∈zY p rs rb:=fun i hi hn=>by
  unfold zY;rw[if_neg hz,List.mem_cons,zB2];exact Or.inr ⟨i,hi,zCH.2 ⟨hn,Or.inl rfl⟩⟩
 have eA:∀i,i<8->¬Nil (zU (p.s rs.toNat) i) (zq (p.s rs.toNat) i)->∀x,x∈zLK (p.s (zU (p.s rs.toNat) i).toNat)->x∈zY p rs rb:=fun i hi hn x hx=>by
  unfold zY;rw[if_neg hz,List.mem_cons,zB2];exact Or.inr ⟨i,hi,zCH.2 ⟨hn,Or.inr hx⟩⟩
 constructor
 ·rintro(h | ⟨hP,⟨he,hS⟩,hA⟩)
  ·exact Or.inl h
  ·right;have hf:=qq hR hP;have lA:=zJa (zF7 hf) he;refine⟨⟨hP,by omega,hA.2 _ bA⟩,⟨fun i hi=>?_,he⟩,(zFL (fun x hx=>(zCd hR hP x hx).1)).2 hA.1⟩;by_cases hn:Nil (zU (p.s rs.toNat) i) (zq (p.s rs.toNat) i)
   ·exact Or.inl hn
   ·right;have hk:=zBT hf hi hn;have gA:=qq hR hk.1;obtain⟨fA,iA⟩:zLw p (p.s (zU (p.s rs.toNat) i).toNat):=by
     rcases hS i hi with h | h
     ·exact absurd h hn
     ·exact h
    have kA:=zJa (zF7 gA) fA;refine⟨⟨hk.1,by omega,hA.2 _ (dA i hi hn)⟩,fun j hj=>?_,fA⟩;by_cases aA:Nil (zU (p.s (zU (p.s rs.toNat) i).toNat) j) (zq (p.s (zU (p.s rs.toNat) i).toNat) j)
    ·exact Or.inl aA
    ·right;have jA:=zBT gA hj aA;refine⟨jA.1,?_,hA.2 _ (eA i hi hn _ (yZ.2 ⟨j,hj,rfl,aA⟩))⟩;rcases iA j hj with h | h
     ·exact absurd h aA
     ·exact h.2.1
 ·rintro(h | ⟨hN,⟨hM,he⟩,hD⟩)
  ·exact Or.inl h
  ·right;have hP:=hN.1;have hf:=qq hR hP;have cA:∀x,x∈zY p rs rb->¬Has p.hn p.h x.1:=fun x hx=>by
    unfold zY at hx;rw[if_neg hz,List.mem_cons,zB2]at hx;rcases hx with rfl | ⟨i,hi,hx⟩
    ·exact hN.2.2
    ·obtain⟨hn,hx⟩:=zCH.1 hx;rcases hM i hi with h | ⟨h1,h2⟩
     ·exact absurd h hn
     ·rcases hx with rfl | hx
      ·exact h1.2.2
      ·obtain⟨j,hj,rfl,aA⟩:=yZ.1 hx;rcases h2.1 j hj with h | h
       ·exact absurd h aA
       ·exact h.2.2
   refine⟨hP,⟨he,fun i hi=>?_⟩,(zFL (fun x hx=>(zCd hR hP x hx).1)).1 hD,cA⟩;rcases hM i hi with h | ⟨h1,h2,h3⟩
   ·exact Or.inl h
   ·refine Or.inr ⟨h3,fun j hj=>?_⟩;rcases h2 j hj with h | h
    ·exact Or.inl h
    ·exact Or.inr ((zMe hR h.1).2 h.2.1)
theorem zCj(v0 v1:Value)(lo hi:Nat)(p:zI)(xs xb:Int)(w:World)(h1:qm w lo hi v0 v1 p) :
  Calls Tryz.prog 169 #[.agg #[v0,v1],.agg #[.int .i64 xs,.int .i64 xb]] w fun e w'=>zK (zy p xs xb) e/\Below w.heap.size w w':=by
 obtain⟨⟨m1,a,c,rfl,mc,g1⟩,⟨_,a',c',rfl,_⟩⟩:=h1;unfold maxLen at m1;have G1:Hid (0<p.n->∃b off,a=some ⟨b,off,none⟩/\lo<=b/\b<hi/\∀i,i<p.n->∃v0 v1 v2,w.cell? ⟨b,off+i*3,none⟩=some v0/\w.cell? ⟨b,off+i*3+1,none⟩=some v1/\w.cell? ⟨b,off+i*3+2,none⟩=some v2/\zBP w lo hi v0 v1 v2 (p.s i)):=g1;clear g1;have bA:=((Below.refl w.heap.size w).alloc (Nat.le_refl _) (.cells #[.slice a p.n c,.slice a' p.hn c'] 36)).alloc (by simp) (.cells #[.int .i64 xs,.int .i64 xb] 99);have aA:Hid (Below w.heap.size w ((w.alloc (.cells #[.slice a p.n c,.slice a' p.hn c'] 36)).alloc (.cells #[.int .i64 xs,.int .i64 xb] 99))):=bA;clear bA;by_cases h1:1<=xb
 ·by_cases h2:0<=xs
  ·by_cases h3:xs<p.n
   ·obtain⟨x,rfl⟩:=Int.eq_ofNat_of_zero_le h2;have cA:x<p.n:=(by omega);obtain⟨b,off,rfl,_,_,k1⟩:=G1.out (by omega);obtain⟨x0,x1,x2,c0,c1,c2,hs⟩:=k1 x cA;obtain⟨rfl,_⟩:=hs;have hlt:=zD c0;clear k1 G1 c1 c2;by_cases h4:(p.s x).zOh=xb
    ·have H:Hid (zy p x xb):=⟨h1,h2,h3,by rw[Int.toNat_natCast];exact h4⟩;have e4:((p.s x).zOh == xb)=true:=(by simp[h4]);clear h4;go_enter Tryz.func169,Tryz.ntmps169;go_wp2_with fail
     go_quiet (fail)
     go_wp2;go_ret;exact⟨zK.yes H.out,zV aA.out _⟩
    ·have H:Hid (¬zy p x xb):=fun h=>h4 (by have:=h.2.2.2;rw[Int.toNat_natCast]at this;exact this)
     have e4:((p.s x).zOh == xb)=false:=(by simp[h4]);clear h4;go_enter Tryz.func169,Tryz.ntmps169;go_wp2_with fail
     go_quiet (fail)
     go_wp2;go_ret;exact⟨zK.no H.out,zV aA.out _⟩
   ·have H:Hid (¬zy p xs xb):=fun h=>h3 h.2.2.1
    have e3:decide (xs<(p.n:Int))=false:=(by simpa using h3);go_enter Tryz.func169,Tryz.ntmps169;go_wp2_with fail
    go_quiet (fail)
    go_wp2;go_ret;exact⟨zK.no H.out,zV aA.out _⟩
  ·have H:Hid (¬zy p xs xb):=fun h=>h2 h.2.1
   have e3:decide (0<=xs)=false:=(by simpa using h2);go_enter Tryz.func169,Tryz.ntmps169;go_wp2_with fail
   go_quiet (fail)
   go_wp2;go_ret;exact⟨zK.no H.out,zV aA.out _⟩
 ·have H:Hid (¬zy p xs xb):=fun h=>h1 h.1
  have e3:decide (1<=xb)=false:=(by simpa using h1);go_enter Tryz.func169,Tryz.ntmps169;go_wp2_with fail
  go_quiet (fail)
  go_wp2;go_ret;exact⟨zK.no H.out,zV aA.out _⟩
theorem zk.two(w:World)(v0 v1:Value)(t:TypeId)(o:Obj):zk ((w.alloc (.cells #[v0,v1] t)).alloc o) w.heap.size v0 v1:=(zk.zOY w v0 v1 t).zOU (zC _ _)
theorem qP.second(w:World)(v0 v1 v2:Value)(t:TypeId)(o:Obj):qP ((w.alloc o).alloc (.cells #[v0,v1,v2] t)) (w.heap.size+1) v0 v1 v2:=by
 have:=qP.zOY (w.alloc o) v0 v1 v2 t;rw[World.size_alloc]at this;exact this
theorem zFh(v0 v1 s0 s1 s2:Value)(lo hi cB vA:Nat)(p:zI)(s:zO)(w:World)(h1:qm w lo hi v0 v1 p)(h2:zBP w cB vA s0 s1 s2 s) :
  Calls Tryz.prog 117 #[.agg #[v0,v1],.agg #[s0,s1,s2]] w fun e w'=>zK (ym p s) e/\Below w.heap.size w w':=by
 have Hp:Hid (qm w lo hi v0 v1 p):=h1;obtain⟨⟨m1,a,c,rfl,_⟩,⟨_,a',c',rfl,_⟩⟩:=h1;obtain⟨rfl,hk,rfl,m3⟩:=h2;obtain⟨m2,ka,kc,rfl,jB,g1⟩:=hk;have G1:Hid (0<s.kn->∃b off,ka=some ⟨b,off,none⟩/\cB<=b/\b<vA/\∀i,i<s.kn->w.cell? ⟨b,off+i*2,none⟩=some (.int .i64 (s.ks i))/\w.cell? ⟨b,off+i*2+1,none⟩=some (.int .i64 (s.kb i))):=g1;clear g1;unfold maxLen at m1 m2 m3;have tA:=((Below.refl w.heap.size w).alloc (Nat.le_refl _) (.cells #[.slice a p.n c,.slice a' p.hn c'] 36)).alloc (by simp) (.cells #[.int .i64 s.zOh,.slice ka s.kn kc,.string s.data] 128);have dA:Hid (Below w.heap.size w ((w.alloc (.cells #[.slice a p.n c,.slice a' p.hn c'] 36)).alloc (.cells #[.int .i64 s.zOh,.slice ka s.kn kc,.string s.data] 128))):=tA;clear tA;by_cases hB:zAQ s.zOh
 ·by_cases cA:s.kn=0
  ·have e2:((s.kn:Int) == 0)=true:=(by simp[cA]);by_cases hd:s.data.size=16
   ·have H:Hid (ym p s):=⟨hB,Or.inl ⟨cA,hd⟩⟩;have HB:Hid (zAQ s.zOh):=hB;have e3:((s.data.size:Int) == 16)=true:=(by simp[hd]);clear cA hd hB;go_enter Tryz.func117,Tryz.ntmps117;go_wp2_with (go_at_call 168;refine(yR _ _).mono ?_;rintro e w' ⟨⟨t,rfl,ht⟩,rfl⟩;obtain rfl:t=true:=ht.2 HB.out;clear ht);go_ret;exact⟨zK.yes H.out,dA.out⟩
   ·have H:Hid (¬ym p s):=fun h=>by
     rcases h.2 with h | h
     ·exact hd h.2
     ·omega
    have HB:Hid (zAQ s.zOh):=hB;have e3:((s.data.size:Int) == 16)=false:=(by simp;omega);clear cA hd hB;go_enter Tryz.func117,Tryz.ntmps117;go_wp2_with (go_at_call 168;refine(yR _ _).mono ?_;rintro e w' ⟨⟨t,rfl,ht⟩,rfl⟩;obtain rfl:t=true:=ht.2 HB.out;clear ht);go_ret;exact⟨zK.no H.out,dA.out⟩
  ·have e2:((s.kn:Int) == 0)=false:=(by simp;omega);by_cases iA:s.kn=8
   ·by_cases hd:s.data.toList.isEmpty=true
    ·have HB:Hid (zAQ s.zOh):=hB;have e3:((s.kn:Int) != 8)=false:=(by simp;omega);have H8:Hid (s.kn=8):=iA;have fB:(s.kn:Int)<=8:=(by omega);clear iA hB cA;have HD:Hid (s.data.toList.isEmpty=true):=hd;go_enter Tryz.func117,Tryz.ntmps117;go_wp2_with (go_at_call 168;refine(yR _ _).mono ?_;rintro e w' ⟨⟨t,rfl,ht⟩,rfl⟩;obtain rfl:t=true:=ht.2 HB.out;clear ht)
     go_loopw [5] (fun i wr=>∃k:Nat,k<=s.kn/\i = .int .i64 k/\(∀j,j<k->zGF p s.zOh (s.ks j) (s.kb j))/\zk wr w.heap.size (.slice a p.n c) (.slice a' p.hn c')/\qP wr (w.heap.size+1) (.int .i64 s.zOh) (.slice ka s.kn kc) (.string s.data)/\Below w.heap.size w wr) (fun i _=>s.kn - (intOf i).toNat)
     case atStart=>exact⟨0,Nat.zero_le _,rfl,fun j hj=>absurd hj (Nat.not_lt_zero _),zk.two _ _ _ _ _,qP.second _ _ _ _ _ _,dA.out⟩
     case round=>
      obtain⟨k,hk,rfl,hall,aB,bB,hb⟩:=hrel;have bA:Hid (∀j,j<k->zGF p s.zOh (s.ks j) (s.kb j)):=hall;have kA:Hid (zk wr w.heap.size (.slice a p.n c) (.slice a' p.hn c')):=aB;have lA:Hid (qP wr (w.heap.size+1) (.int .i64 s.zOh) (.slice ka s.kn kc) (.string s.data)):=bB;clear hall aB bB;have hz0:w.heap.size<wr.heap.size:=kA.out.1.lt;have hz1:w.heap.size+1<wr.heap.size:=lA.out.1.lt;obtain⟨⟨y0,y1⟩,⟨y2,y3⟩⟩:=kA.out;obtain⟨⟨z0,z1⟩,⟨z2,z3⟩,⟨z4,z5⟩⟩:=lA.out;by_cases hlt:k<s.kn
      ·have gB:(k:Int)<(s.kn:Int):=(by omega);obtain⟨b,off,rfl,_,_,k1⟩:=G1.out (by omega);have hc1:=(hb.cell (zD (k1 k hlt).1)).trans (k1 k hlt).1;have hd1:=(hb.cell (zD (k1 k hlt).2)).trans (k1 k hlt).2;clear k1 G1;go_wp2_with fail;have mA:=zC wr (.cells #[.int .i64 (s.ks k),.int .i64 (s.kb k)] 99);refine(yN _ _ _).mono ?_;rintro e w1 ⟨⟨t,rfl,ht⟩,fA⟩;have jA:Hid (zk w1 w.heap.size (.slice a p.n c) (.slice a' p.hn c')):=(kA.out.zOU mA).zOU fA;have oA:Hid (qP w1 (w.heap.size+1) (.int .i64 s.zOh) (.slice (some ⟨b,off,none⟩) s.kn kc) (.string s.data)):=(lA.out.zOU mA).zOU fA;have pA:Hid (zk w1 wr.heap.size (.int .i64 (s.ks k)) (.int .i64 (s.kb k))):=(zk.zOY wr _ _ _).zOU fA;have nA:Below w.heap.size w w1:=zA (zA hb mA) fA;clear mA fA y0 y1 y2 y3 z0 z1 z2 z3 z4 z5 hc1 hd1 kA lA;by_cases aA:zGJ (s.ks k) (s.kb k) 0 0
       ·obtain rfl:t=true:=ht.2 aA;have HK:Hid (zGF p s.zOh (s.ks k) (s.kb k)):=Or.inl aA;clear ht aA;go_wp2;go_roundw
        case rel=>exact⟨k+1,by omega,by go_num,qE hlt bA.out HK.out,jA.out,oA.out,nA⟩
        case measure=>simp[intOf];omega
       ·obtain rfl:t=false:=Bool.eq_false_iff.2 (fun h=>aA (ht.1 h));have HN:Hid (¬zGJ (s.ks k) (s.kb k) 0 0):=aA;clear ht aA;obtain⟨⟨y0,y1⟩,⟨y2,y3⟩⟩:=jA.out;obtain⟨⟨q0,q1⟩,⟨q2,q3⟩⟩:=pA.out;go_wp2_with fail;refine(zCj _ _ lo hi p _ _ _ (Hp.out.zOU nA)).mono ?_;rintro e w2 ⟨⟨t,rfl,ht⟩,gA⟩;have dB:Hid (zk w2 w.heap.size (.slice a p.n c) (.slice a' p.hn c')):=jA.out.zOU gA;have sA:Hid (qP w2 (w.heap.size+1) (.int .i64 s.zOh) (.slice (some ⟨b,off,none⟩) s.kn kc) (.string s.data)):=oA.out.zOU gA;have eB:Hid (zk w2 wr.heap.size (.int .i64 (s.ks k)) (.int .i64 (s.kb k))):=pA.out.zOU gA;have rA:Below w.heap.size w w2:=zA nA gA;clear gA nA y0 y1 y2 y3 q0 q1 q2 q3 jA oA pA;by_cases eA:zy p (s.ks k) (s.kb k)
        ·obtain rfl:t=true:=ht.2 eA;have HP:Hid (zy p (s.ks k) (s.kb k)):=eA;clear ht eA;obtain⟨⟨q0,q1⟩,⟨q2,q3⟩⟩:=eB.out;obtain⟨⟨z0,z1⟩,⟨z2,z3⟩,⟨z4,z5⟩⟩:=sA.out;by_cases iB:s.zOh<s.kb k
         ·go_wp2;go_ret;refine⟨zK.no fun h=>?_,rA⟩;rcases h.2 with h | h
          ·omega
          ·rcases h.2.2 k hlt with h | h
           ·exact HN.out h
           ·have:=h.2;omega
         ·have HK:Hid (zGF p s.zOh (s.ks k) (s.kb k)):=Or.inr ⟨HP.out,by omega⟩;go_wp2;go_roundw
          case rel=>exact⟨k+1,by omega,by go_num,qE hlt bA.out HK.out,dB.out,sA.out,rA⟩
          case measure=>simp[intOf];omega
        ·obtain rfl:t=false:=Bool.eq_false_iff.2 (fun h=>eA (ht.1 h));have HP:Hid (¬zy p (s.ks k) (s.kb k)):=eA;clear ht eA;go_wp2;go_ret;refine⟨zK.no fun h=>?_,rA⟩;rcases h.2 with h | h
         ·omega
         ·rcases h.2.2 k hlt with h | h
          ·exact HN.out h
          ·exact HP.out h.1
      ·go_wp2;go_ret;exact⟨zK.yes ⟨HB.out,Or.inr ⟨H8.out,HD.out,fun i hi=>bA.out i (by omega)⟩⟩,hb⟩
    ·have H:Hid (¬ym p s):=fun h=>by
      rcases h.2 with h | h
      ·omega
      ·exact hd h.2.1
     have HB:Hid (zAQ s.zOh):=hB;have e3:((s.kn:Int) != 8)=false:=(by simp;omega);have e4:s.data.toList.isEmpty=false:=(by simpa using hd);clear iA hB cA hd;go_enter Tryz.func117,Tryz.ntmps117;go_wp2_with (go_at_call 168;refine(yR _ _).mono ?_;rintro e w' ⟨⟨t,rfl,ht⟩,rfl⟩;obtain rfl:t=true:=ht.2 HB.out;clear ht);go_ret;exact⟨zK.no H.out,dA.out⟩
   ·have H:Hid (¬ym p s):=fun h=>by
     rcases h.2 with h | h
     ·omega
     ·exact iA h.1
    have HB:Hid (zAQ s.zOh):=hB;have e3:((s.kn:Int) != 8)=true:=(by simp;omega);clear iA hB cA;go_enter Tryz.func117,Tryz.ntmps117;go_wp2_with (go_at_call 168;refine(yR _ _).mono ?_;rintro e w' ⟨⟨t,rfl,ht⟩,rfl⟩;obtain rfl:t=true:=ht.2 HB.out;clear ht);go_ret;exact⟨zK.no H.out,dA.out⟩
 ·have HB:Hid (¬zAQ s.zOh):=hB;clear hB;go_enter Tryz.func117,Tryz.ntmps117;go_wp2_with (go_at_call 168;refine(yR _ _).mono ?_;rintro e w' ⟨⟨t,rfl,ht⟩,rfl⟩;obtain rfl:t=false:=Bool.eq_false_iff.2 (fun h=>HB.out (ht.1 h));clear ht);go_ret;exact⟨zK.no fun h=>HB.out h.1,dA.out⟩
theorem yt(v0 v1:Value)(lo hi:Nat)(p:zI)(w:World)(h1:qm w lo hi v0 v1 p) :
  Calls Tryz.prog 61 #[.agg #[v0,v1]] w fun e w'=>zK (zt p) e/\Below w.heap.size w w':=by
 have Hp:Hid (qm w lo hi v0 v1 p):=h1;obtain⟨⟨m1,a,c,rfl,mc,g1⟩,⟨m2,a',c',rfl,nB,g2⟩⟩:=h1;unfold maxLen at m1 m2;clear g1 g2;have fB:Hid (Below w.heap.size w (w.alloc (.cells #[.slice a p.n c,.slice a' p.hn c'] 36))):=zC _ _;by_cases hn:(200:Int)<p.n
 ·have H:Hid (¬zt p):=fun h=>by have:=h.1;omega
  go_enter Tryz.func61,Tryz.ntmps61;go_wp2;go_ret;exact⟨zK.no H.out,fB.out⟩
 ·go_enter Tryz.func61,Tryz.ntmps61;go_wp2
  go_loopw [3] (fun i wr=>∃k:Nat,k<=p.n/\i = .int .i64 k/\(∀j,j<k->qJ (p.s j)\/ym p (p.s j))/\zk wr w.heap.size (.slice a p.n c) (.slice a' p.hn c')/\Below w.heap.size w wr) (fun i _=>p.n - (intOf i).toNat)
  case atStart=>exact⟨0,Nat.zero_le _,rfl,fun j hj=>absurd hj (Nat.not_lt_zero _),zk.zOY _ _ _ _,fB.out⟩
  case round=>
   obtain⟨k,hk,rfl,hall,hx,hb⟩:=hrel;have dA:Hid (∀j,j<k->qJ (p.s j)\/ym p (p.s j)):=hall;have Hx:Hid (zk wr w.heap.size (.slice a p.n c) (.slice a' p.hn c')):=hx;clear hall hx;obtain⟨⟨y0,y1⟩,⟨y2,y3⟩⟩:=Hx.out;by_cases hlt:k<p.n
   ·have dB:(k:Int)<(p.n:Int):=(by omega);obtain⟨b,off,ka,kc,rfl,hs⟩:=(Hp.out.1.zOU hb).cells hlt;have Hs:Hid (zBQ wr b (off+k*3) lo hi ka kc (p.s k)):=hs;obtain⟨q0,q1,q2,_⟩:=hs;by_cases hf:qJ (p.s k)
    ·have HF:Hid (qJ (p.s k)):=hf;clear hf;go_wp2_with fail
     first
      | (go_region_with (first | (go_at_call 65;refine(qb _ _ _ lo hi (p.s k) _ ?_).mono ?_;(exact Hs.out.slot.zOU ((Below.refl _ _).drew));rintro e w1 ⟨⟨t,rfl,hx⟩,cA⟩;obtain rfl:t=true:=hx.2 HF.out;clear hx;have bA:=zJ cA;have rA:=(Hx.out.zOU bA).1.1;have sA:=(Hx.out.zOU bA).2.1;have tA:=(Hs.out.zOU bA).c0;have vA:=(Hs.out.zOU bA).c1;have aB:=(Hs.out.zOU bA).c2)))
      | fail
     all_goals
      have eA:=zA hb bA;have HX:Hid (zk w1 w.heap.size (.slice (some ⟨b,off,none⟩) p.n c) (.slice a' p.hn c')):=Hx.out.zOU bA;clear cA bA rA sA tA vA aB q0 q1 q2 y0 y1 y2 y3 Hs Hx;go_wp2;go_roundw
      case rel=>exact⟨k+1,by omega,by go_num,qE hlt dA.out (Or.inl HF.out),HX.out,eA⟩
      case measure=>simp[intOf];omega
    ·have HF:Hid (¬qJ (p.s k)):=hf;clear hf;by_cases bB:ym p (p.s k)
     ·have HT:Hid (ym p (p.s k)):=bB;clear bB;go_wp2_with fail;go_region_held3 (fun w'=>w'.cell? ⟨w.heap.size,0,none⟩=some (.slice (some ⟨b,off,none⟩) p.n c)/\w'.cell? ⟨w.heap.size,1,none⟩=some (.slice a' p.hn c')/\w'.cell? ⟨b,off+k*3,none⟩=some (.int .i64 (p.s k).zOh)/\w'.cell? ⟨b,off+k*3+1,none⟩=some (.slice ka (p.s k).kn kc)/\w'.cell? ⟨b,off+k*3+2,none⟩=some (.string (p.s k).data)) (go_keep)
       (first
        | (go_at_call 65;refine(qb _ _ _ lo hi (p.s k) _ ?_).mono ?_;(exact Hs.out.slot.zOU ((Below.refl _ _).drew));rintro e w1 ⟨⟨t,rfl,hx⟩,cA⟩;obtain rfl:t=false:=zP hx HF.out;clear hx;have bA:=zJ cA;have rA:=(Hx.out.zOU bA).1.1;have sA:=(Hx.out.zOU bA).2.1;have tA:=(Hs.out.zOU bA).c0;have vA:=(Hs.out.zOU bA).c1;have aB:=(Hs.out.zOU bA).c2)
        | (go_at_call 117;refine(zFh _ _ _ _ _ lo hi lo hi p (p.s k) _ ?_ ?_).mono ?_;(exact Hp.out.zOU (zA hb bA));(exact Hs.out.slot.zOU bA);rintro e w2 ⟨⟨t2,rfl,fA⟩,nA⟩;obtain rfl:t2=true:=fA.2 HT.out;clear fA;have aA:=zA bA nA;have gA:=(Hx.out.zOU aA).1.1;have iA:=(Hx.out.zOU aA).2.1;have jA:=(Hs.out.zOU aA).c0;have kA:=(Hs.out.zOU aA).c1;have lA:=(Hs.out.zOU aA).c2))
      have eA:=zA hb aA;have HX:Hid (zk w2 w.heap.size (.slice (some ⟨b,off,none⟩) p.n c) (.slice a' p.hn c')):=Hx.out.zOU aA;clear cA bA rA sA tA vA aB q0 q1 q2 y0 y1 y2 y3 Hs Hx gA iA jA kA lA nA aA;go_wp2;go_roundw
      case rel=>exact⟨k+1,by omega,by go_num,qE hlt dA.out (Or.inr HT.out),HX.out,eA⟩
      case measure=>simp[intOf];omega
     ·have HT:Hid (¬ym p (p.s k)):=bB;clear bB;go_wp2_with fail;go_region_held3 (fun w'=>w'.cell? ⟨w.heap.size,0,none⟩=some (.slice (some ⟨b,off,none⟩) p.n c)/\w'.cell? ⟨w.heap.size,1,none⟩=some (.slice a' p.hn c')/\w'.cell? ⟨b,off+k*3,none⟩=some (.int .i64 (p.s k).zOh)/\w'.cell? ⟨b,off+k*3+1,none⟩=some (.slice ka (p.s k).kn kc)/\w'.cell? ⟨b,off+k*3+2,none⟩=some (.string (p.s k).data)) (go_keep)
       (first
        | (go_at_call 65;refine(qb _ _ _ lo hi (p.s k) _ ?_).mono ?_;(exact Hs.out.slot.zOU ((Below.refl _ _).drew));rintro e w1 ⟨⟨t,rfl,hx⟩,cA⟩;obtain rfl:t=false:=zP hx HF.out;clear hx;have bA:=zJ cA;have rA:=(Hx.out.zOU bA).1.1;have sA:=(Hx.out.zOU bA).2.1;have tA:=(Hs.out.zOU bA).c0;have vA:=(Hs.out.zOU bA).c1;have aB:=(Hs.out.zOU bA).c2)
        | (go_at_call 117;refine(zFh _ _ _ _ _ lo hi lo hi p (p.s k) _ ?_ ?_).mono ?_;(exact Hp.out.zOU (zA hb bA));(exact Hs.out.slot.zOU bA);rintro e w2 ⟨⟨t2,rfl,fA⟩,nA⟩;obtain rfl:t2=false:=zP fA HT.out;clear fA;have aA:=zA bA nA;have gA:=(Hx.out.zOU aA).1.1;have iA:=(Hx.out.zOU aA).2.1;have jA:=(Hs.out.zOU aA).c0;have kA:=(Hs.out.zOU aA).c1;have lA:=(Hs.out.zOU aA).c2))
      have eA:=zA hb aA;clear cA bA rA sA tA vA aB q0 q1 q2 y0 y1 y2 y3 Hs Hx gA iA jA kA lA nA aA;go_wp2;go_ret;refine⟨zK.no fun h=>?_,eA⟩;rcases h.2.1 k hlt with h | h
      ·exact HF.out h
      ·exact HT.out h
   ·obtain rfl:k=p.n:=(by omega);have jB:p.n<=200:=(by omega);have HX:Hid (zk wr w.heap.size (.slice a p.n c) (.slice a' p.hn c')):=Hx.out;have HB:Hid (Below w.heap.size w wr):=hb;have HA:Hid (∀j,j<p.n->qJ (p.s j)\/ym p (p.s j)):=dA.out;clear Hx hb dA;go_wp2;obtain⟨wo,gB⟩:∃wo:World,wo=wr:=⟨_,rfl⟩;rw[<-gB]at HX HB ⊢;clear gB y0 y1 y2 y3
    go_loopw [4] (fun i wr=>∃k:Nat,k<=p.hn/\i = .int .i64 k/\(∀j,j<k->zIC p j)/\zk wr w.heap.size (.slice a p.n c) (.slice a' p.hn c')/\Below w.heap.size w wr) (fun i _=>p.hn - (intOf i).toNat)
    case atStart=>exact⟨0,Nat.zero_le _,rfl,fun j hj=>absurd hj (Nat.not_lt_zero _),HX.out,HB.out⟩
    case round=>
     obtain⟨k,hk,rfl,hall,hx,hb⟩:=hrel;have dA:Hid (∀j,j<k->zIC p j):=hall;have Hx:Hid (zk wr w.heap.size (.slice a p.n c) (.slice a' p.hn c')):=hx;clear hall hx;obtain⟨⟨y0,y1⟩,⟨y2,y3⟩⟩:=Hx.out;by_cases hlt:k<p.hn
     ·have dB:(k:Int)<(p.hn:Int):=(by omega);have oA:=Hp.out.2.zOU hb;have cB:Hid (zAa wr lo hi (.slice a' p.hn c') p.hn p.h):=oA;obtain⟨_,a2,iB,hv2,_,fA⟩:=oA;simp only[Value.slice.injEq,true_and]at hv2;obtain⟨rfl,rfl⟩:=hv2;obtain⟨b,off,rfl,_,_,k1⟩:=fA (by omega);have hc1:=k1 k hlt;clear k1 fA;by_cases h1:p.h k<0
      ·go_wp2;go_ret;exact⟨zK.no fun h=>by have:=(h.2.2 k hlt).1;omega,hb⟩
      ·by_cases h2:(p.n:Int)<=p.h k
       ·go_wp2;go_ret;exact⟨zK.no fun h=>by have:=(h.2.2 k hlt).2.1;omega,hb⟩
       ·obtain⟨x,hx⟩:=Int.eq_ofNat_of_zero_le (show 0<=p.h k by omega);rw[hx]at hc1 h1 h2;have mA:Hid (p.h k=x):=hx;have lB:x<p.n:=(by omega);have kB:(x:Int)<(p.n:Int):=(by omega);clear hx;obtain⟨bs,pA,ka,kc,rfl,hs⟩:=(Hp.out.1.zOU hb).cells lB;have Hs:Hid (zBQ wr bs (pA+x*3) lo hi ka kc (p.s x)):=hs;obtain⟨q0,q1,q2,_⟩:=hs;by_cases hf:qJ (p.s x)
        ·have HF:Hid (qJ (p.s x)):=hf;clear hf;go_wp2_with fail;refine(qb _ _ _ lo hi (p.s x) _ Hs.out.slot).mono ?_;rintro e w1 ⟨⟨t,rfl,hx⟩,cA⟩;obtain rfl:t=true:=hx.2 HF.out;clear hx;have eA:=zA hb cA;clear cA q0 q1 q2 y0 y1 y2 y3;go_wp2;go_ret;refine⟨zK.no fun h=>?_,eA⟩;have:=(h.2.2 k hlt).2.2.1;rw[mA.out,Int.toNat_natCast]at this;exact this HF.out
        ·have HF:Hid (¬qJ (p.s x)):=hf;clear hf;go_wp2_with fail;refine(qb _ _ _ lo hi (p.s x) _ Hs.out.slot).mono ?_;rintro e w1 ⟨⟨t,rfl,hx⟩,cA⟩;obtain rfl:t=false:=zP hx HF.out;clear hx;have eA:=zA hb cA;have eB:Hid (zk w1 w.heap.size (.slice (some ⟨bs,pA,none⟩) p.n c) (.slice (some ⟨b,off,none⟩) p.hn c')):=Hx.out.zOU cA;have HI:Hid (zAa w1 lo hi (.slice (some ⟨b,off,none⟩) k c') k p.h):=(cB.out.zOU cA).take (by omega) (by omega);clear cA q0 q1 q2 y0 y1 y2 y3;obtain⟨⟨y0,y1⟩,⟨y2,y3⟩⟩:=eB.out;have mB:k<=c':=(by omega);go_wp2_with fail;refine(zAT _ k lo hi p.h _ _ HI.out).mono ?_;rintro e w2 ⟨⟨t,rfl,hx⟩,rfl⟩;clear y0 y1 y2 y3;by_cases hh:Has k p.h (x:Int)
         ·obtain rfl:t=true:=hx.2 hh;have HH:Hid (Has k p.h (x:Int)):=hh;clear hx hh;go_wp2;go_ret;refine⟨zK.no fun h=>?_,eA⟩;have:=(h.2.2 k hlt).2.2.2;rw[mA.out]at this;exact this HH.out
         ·obtain rfl:t=false:=zP hx hh;have HH:Hid (zIC p k):=by
           refine⟨by rw[mA.out];exact Int.natCast_nonneg _,by rw[mA.out];exact kB,by rw[mA.out,Int.toNat_natCast];exact HF.out,by rw[mA.out];exact hh⟩
          clear hx hh;go_wp2;go_roundw
          case rel=>exact⟨k+1,by omega,by go_num,qE hlt dA.out HH.out,eB.out,eA⟩
          case measure=>simp[intOf];omega
     ·obtain rfl:k=p.hn:=(by omega);go_wp2;go_ret;exact⟨zK.yes ⟨jB,HA.out,dA.out⟩,hb⟩
end Go.Proofs.YtgabgheflgjgiaaGreatDoor
