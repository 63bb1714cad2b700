/- A part of the proof. -/
import Derived.Test.YtddigaohmfpepaaGreatDoorF12
import Derived.WideKeyEntry
import Derived.Shelf.Abstract
set_option linter.unusedVariables false
set_option maxRecDepth 20000
set_option maxHeartbeats 4000000
namespace Go.Proofs.YtddigaohmfpepaaGreatDoor
noncomputable section
open Go.RowKit
variable{p:A7}{xs xb:Int}
theorem DT(a:¬Nil xs xb)(i:Nat):BU p xs xb i=AK (p.s xs.toNat) i/\Bf p xs xb i=AW (p.s xs.toNat) i:=⟨if_neg a,if_neg a⟩
variable{i:Nat}
theorem Nq(b:¬Nil xs xb){a:Nat}(d:a<8)(hn:¬Nil (AK (p.s xs.toNat) i) (AW (p.s xs.toNat) i)):BZ p xs xb (i*8+a)=AK (p.s (AK (p.s xs.toNat) i).toNat) a/\Bh p xs xb (i*8+a)=AW (p.s (AK (p.s xs.toNat) i).toNat) a:=by
 have q1:(i*8+a) / 8=i:=by omega
 have c:(i*8+a) % 8=a:=by omega
 unfold BZ Bh BV Bj;rw[q1,c,(DT b i).1,(DT b i).2];exact⟨if_neg hn,if_neg hn⟩
def Qc(p:A7)(xs xb:Int):Prop:=∀i,i<8->∀j,j<8->¬Nil (BU p xs xb i) (Bf p xs xb i)->¬Nil (BU p xs xb j) (Bf p xs xb j)->BU p xs xb j=BU p xs xb i->j=i
def Qd(p:A7)(xs xb:Int):Prop:=∀k,k<64->∀l,l<64->¬Nil (BZ p xs xb k) (Bh p xs xb k)->¬Nil (BZ p xs xb l) (Bh p xs xb l)->BZ p xs xb l=BZ p xs xb k->l=k
variable{k:Nat}
theorem Rk(h:¬Nil (BZ p xs xb k) (Bh p xs xb k)):¬Nil (BV p xs xb k) (Bj p xs xb k):=fun a=>h ⟨if_pos a,if_pos a⟩
theorem Ox(h:¬Nil (BU p xs xb i) (Bf p xs xb i)):¬Nil xs xb:=fun a=>h ⟨if_pos a,if_pos a⟩
theorem zES(b:¬Nil xs xb)(h:SD p (p.s xs.toNat)):Qc p xs xb/\Qd p xs xb:=by
 refine⟨fun i hi j q n o e=>?_,fun k r l t g m e=>?_⟩
 ·rw[(DT b i).1,(DT b i).2]at n;rw[(DT b j).1,(DT b j).2]at o;rw[(DT b i).1,(DT b j).1]at e;exact h.1 i hi j q n o e
 ·have mk:=Rk g;have f:=Rk m;rw[show BV p xs xb k=AK (p.s xs.toNat) (k / 8)from(DT b _).1,show Bj p xs xb k=AW (p.s xs.toNat) (k / 8)from(DT b _).2]at mk;rw[show BV p xs xb l=AK (p.s xs.toNat) (l / 8)from(DT b _).1,show Bj p xs xb l=AW (p.s xs.toNat) (l / 8)from(DT b _).2]at f;have c:=Nq b (a:=k % 8) (by omega) mk;have d:=Nq b (a:=l % 8) (by omega) f;rw[show k / 8*8+k % 8=k by omega]at c;rw[show l / 8*8+l % 8=l by omega]at d;rw[c.1,c.2]at g;rw[d.1,d.2]at m;rw[c.1,d.1]at e;have:=h.2 (k / 8) (by omega) (l / 8) (by omega) (k % 8) (by omega) (l % 8) (by omega) mk f g m e;omega
theorem zEw(b:¬Nil xs xb)(n:Qc p xs xb)(o:Qd p xs xb):SD p (p.s xs.toNat):=by
 refine⟨fun i hi j k d f e=>?_,fun i hi j k a q c r d f l m e=>?_⟩
 ·rw[<-(DT b i).1,<-(DT b i).2]at d;rw[<-(DT b j).1,<-(DT b j).2]at f;rw[<-(DT b i).1,<-(DT b j).1]at e;exact n i hi j k d f e
 ·have g:=Nq b q d;have h:=Nq b r f;rw[<-g.1,<-g.2]at l;rw[<-h.1,<-h.2]at m;rw[<-g.1,<-h.1]at e;have:=o (i*8+a) (by omega) (j*8+c) (by omega) l m e;omega
theorem Nv(e:As p xs xb):Qc p xs xb/\Qd p xs xb:=by
 by_cases a:Nil xs xb
 ·exact⟨fun i hi j h f=>absurd a (Ox f),fun k m l n g=>absurd a (Ox (Rk g))⟩
 ·obtain⟨b,c,d⟩:=e.2.resolve_left a;exact zES a ((Xp b c).1 d)
theorem KQ(c:As p xs xb)(hi:i<8)(h:¬Nil (BU p xs xb i) (Bf p xs xb i)):Db p (BU p xs xb i) (Bf p xs xb i)/\LI p (p.s (BU p xs xb i).toNat):=by
 have a:=Ox h;obtain⟨d,b,e⟩:=c.2.resolve_left a;rw[(DT a i).1,(DT a i).2]at h ⊢;exact(b.1 i hi).resolve_left h
theorem Pa(a:As p xs xb)(h:¬Nil xs xb):Db p xs xb:=(a.2.resolve_left h).1
theorem Yx(c:As p xs xb)(hi:i<8)(h:¬Nil (BU p xs xb i) (Bf p xs xb i)):BU p xs xb i≠xs:=by
 have a:=Ox h;obtain⟨d,b,e⟩:=c.2.resolve_left a;rw[(DT a i).1]at h ⊢;rw[(DT a i).2]at h;exact Vd b hi h
variable{x yb:Int}
theorem Ix{y:Int}(h:Fx p x)(a:B8 p y yb):x≠y:=fun e=>Ro a (e▸h)
variable{q:A7}{j:Nat}
theorem Ext.free(h:Ext p q)(a:Ah (q.s j)):Ah (p.s j):=Classical.byContradiction fun hn=>hn (by rw[h.s j hn]at a;exact a)
variable{f:Nat->Int}
theorem TR{g:Nat->Int}(h:¬Df f g):∃i,i<8/\¬Nil (f i) (g i):=some_ex h where
 some_ex {f g:Nat->Int} (h:¬Df f g):∃i,i<8/\¬Nil (f i) (g i):=Classical.byContradiction fun a=>h fun i hi=>Classical.byContradiction fun hn=>a ⟨i,hi,hn⟩
variable{b ys ms mb gs gb:Int}{n:Nat}
theorem New.ok(h:New p xs xb n b q ys yb ms mb gs gb)(c:As p xs xb)(hn:n<64):As q ys yb:=by
 refine⟨h.right,?_⟩;rcases id h.root with⟨J,_⟩ | ⟨r1,T,G,R⟩
 ·exact Or.inl J
 ·right;have M:=Oj r1;have B:¬Nil ms mb->Db q ms mb/\Fx p ms/\q.s ms.toNat=Bc (Ao p xs xb n 1 gs) (Am p xs xb n 1 gb) b/\¬Df (Ao p xs xb n 1 gs) (Am p xs xb n 1 gb):=fun A=>h.node.resolve_left (fun L=>A L.1)
  have D:¬Nil gs gb->Ep q gs gb/\Fx p gs:=fun K=>h.AM.resolve_left K
  have x:LL q (q.s ys.toNat):=by
   refine⟨fun i hi=>?_,?_⟩
   ·rw[G];unfold JN;rw[(Gi (Ao p xs xb n 0 ms) (Am p xs xb n 0 mb) b hi).1,(Gi (Ao p xs xb n 0 ms) (Am p xs xb n 0 mb) b hi).2];by_cases e:i=n / 8
    ·rw[show Ao p xs xb n 0 ms i=ms from if_pos e,show Am p xs xb n 0 mb i=mb from if_pos e];by_cases A:Nil ms mb
     ·exact Or.inl A
     ·obtain⟨O,S,P,Q⟩:=B A;refine Or.inr ⟨O,?_⟩;rw[P];refine⟨fun a d=>?_,?_⟩
      ·rw[(Gi (Ao p xs xb n 1 gs) (Am p xs xb n 1 gb) b d).1,(Gi (Ao p xs xb n 1 gs) (Am p xs xb n 1 gb) b d).2];by_cases y:a=n % 8
       ·rw[show Ao p xs xb n 1 gs a=gs from if_pos y,show Am p xs xb n 1 gb a=gb from if_pos y];exact h.AM.imp id And.left
       ·rw[(Ng y).1,(Ng y).2];have E:=Io c (n:=n / 8*8+a) (by omega);have H:BZ p xs xb (n / 8*8+a)=BU p (BV p xs xb n) (Bj p xs xb n) a:=by
         unfold BZ BV Bj;rw[show(n / 8*8+a) / 8=n / 8 by omega,show(n / 8*8+a) % 8=a by omega]
        have I:Bh p xs xb (n / 8*8+a)=Bf p (BV p xs xb n) (Bj p xs xb n) a:=by
         unfold Bh BV Bj;rw[show(n / 8*8+a) / 8=n / 8 by omega,show(n / 8*8+a) % 8=a by omega]
        rw[H,I]at E;exact E.imp id h.ext.AM
      ·obtain⟨a,d,C⟩:=TR Q;exact⟨a,d,by rw[(Gi _ _ b d).1,(Gi _ _ b d).2];exact C⟩
    ·rw[(EB e).1,(EB e).2];by_cases m:Nil (BU p xs xb i) (Bf p xs xb i)
     ·exact Or.inl m
     ·obtain⟨F,N⟩:=KQ c hi m;exact Or.inr ⟨h.ext.node F,by rw[h.ext.at F.1];exact h.ext.low N⟩
   ·obtain⟨a,d,C⟩:=TR R;exact⟨a,d,by rw[G,(Gi _ _ b d).1,(Gi _ _ b d).2];exact C⟩
  refine⟨r1,x,(Xp r1 x).2 (zEw M ?_ ?_)⟩
  ·intro i hi j v o f e;rw[(h.nodes hi).1,(h.nodes hi).2]at o;rw[(h.nodes v).1,(h.nodes v).2]at f;rw[(h.nodes hi).1,(h.nodes v).1]at e;by_cases ei:i=n / 8
   ·by_cases t:j=n / 8
    ·omega
    ·rw[show Ao p xs xb n 0 ms i=ms from if_pos ei]at o e;rw[show Am p xs xb n 0 mb i=mb from if_pos ei]at o;rw[(EB t).1]at f e;rw[(EB t).2]at f;exact absurd e.symm (Ix (B o).2.1 (KQ c v f).1.1)
   ·rw[(EB ei).1]at o e;rw[(EB ei).2]at o;by_cases t:j=n / 8
    ·rw[show Ao p xs xb n 0 ms j=ms from if_pos t]at f e;rw[show Am p xs xb n 0 mb j=mb from if_pos t]at f;exact absurd e (Ix (B f).2.1 (KQ c hi o).1.1)
    ·rw[(EB t).1]at f e;rw[(EB t).2]at f;exact(Nv c).1 i hi j v o f e
  ·intro k m l w r g e;rw[(h.pages c m).1,(h.pages c m).2]at r;rw[(h.pages c w).1,(h.pages c w).2]at g;rw[(h.pages c m).1,(h.pages c w).1]at e;by_cases z:k=n
   ·by_cases u:l=n
    ·omega
    ·rw[if_pos z]at r e;rw[if_pos z]at r;rw[if_neg u]at g e;rw[if_neg u]at g;exact absurd e.symm (Ix (D r).2 ((Io c w).resolve_left g).1)
   ·rw[if_neg z]at r e;rw[if_neg z]at r;by_cases u:l=n
    ·rw[if_pos u]at g e;rw[if_pos u]at g;exact absurd e (Ix (D g).2 ((Io c m).resolve_left r).1)
    ·rw[if_neg u]at g e;rw[if_neg u]at g;exact(Nv c).2 k m l w r g e
variable{z:Int×Int}
theorem KO:z∈BS p xs xb n 3↔(z=(BZ p xs xb n,Bh p xs xb n)/\¬Nil (BZ p xs xb n) (Bh p xs xb n))\/(z=(BV p xs xb n,Bj p xs xb n)/\¬Nil (BV p xs xb n) (Bj p xs xb n))\/(z=(xs,xb)/\¬Nil xs xb):=by
 unfold BS;rw[Gk];constructor
 ·rintro⟨i,hi,h⟩;rcases i with _ | _ | _ | i
  ·exact Or.inl h
  ·exact Or.inr (Or.inl h)
  ·exact Or.inr (Or.inr h)
  ·omega
 ·rintro(h | h | h)
  ·exact⟨0,by omega,h⟩
  ·exact⟨1,by omega,h⟩
  ·exact⟨2,by omega,h⟩
theorem N7(a:As p xs xb)(hn:n<64)(h:z∈BS p xs xb n 3):z∈AG p xs xb:=by
 rw[GA a];rcases KO.1 h with h | h | h
 ·exact Or.inr (Or.inr ⟨n,hn,h⟩)
 ·exact Or.inr (Or.inl ⟨n / 8,by omega,h⟩)
 ·exact Or.inl h
theorem zHW(a:As p xs xb)(h:z∈AG p xs xb):B8 p z.1 z.2:=by
 by_cases b:Nil xs xb
 ·unfold AG at h;rw[if_pos b]at h;simp at h
 ·exact(MN a.1 (Pa a b).1 z h).1
theorem New.gone(h:New p xs xb n b q ys yb ms mb gs gb)(f:As p xs xb)(hn:n<64)(t:z∈AG p xs xb):z∉AG q ys yb↔z∈BS p xs xb n 3:=by
 have r:=h.ok f hn;have l:=zHW f t;constructor
 ·intro m;rcases(GA f).1 t with a | ⟨i,hi,a,d⟩ | ⟨k,g,a,d⟩
  ·exact KO.2 (Or.inr (Or.inr a))
  ·by_cases e:i=n / 8
   ·subst e;exact KO.2 (Or.inr (Or.inl ⟨a,d⟩))
   ·refine absurd ((GA r).2 (Or.inr (Or.inl ⟨i,hi,?_,?_⟩))) m
    ·rw[(h.nodes hi).1,(h.nodes hi).2,(EB e).1,(EB e).2];exact a
    ·rw[(h.nodes hi).1,(h.nodes hi).2,(EB e).1,(EB e).2];exact d
  ·by_cases e:k=n
   ·subst e;exact KO.2 (Or.inl ⟨a,d⟩)
   ·refine absurd ((GA r).2 (Or.inr (Or.inr ⟨k,g,?_,?_⟩))) m
    ·rw[(h.pages f g).1,(h.pages f g).2,if_neg e,if_neg e];exact a
    ·rw[(h.pages f g).1,(h.pages f g).2,if_neg e,if_neg e];exact d
 ·intro s m;have v:¬Nil ms mb->Fx p ms:=fun y=>(h.node.resolve_left (fun m=>y m.1)).2.1
  have u:¬Nil gs gb->Fx p gs:=fun w=>(h.AM.resolve_left w).2
  rcases(GA r).1 m with⟨a,d⟩ | ⟨i,hi,a,d⟩ | ⟨k,g,a,d⟩
  ·have A:=h.root.resolve_left (fun x=>d x.1);exact Ix A.2.1 l (by rw[a])
  ·rw[(h.nodes hi).1,(h.nodes hi).2]at a d;by_cases e:i=n / 8
   ·rw[show Ao p xs xb n 0 ms i=ms from if_pos e,show Am p xs xb n 0 mb i=mb from if_pos e]at a d;exact Ix (v d) l (by rw[a])
   ·rw[(EB e).1,(EB e).2]at a d;rcases KO.1 s with⟨c,j⟩ | ⟨c,j⟩ | ⟨c,j⟩
    ·rw[a]at c;simp only[Prod.mk.injEq]at c;exact Gg (KQ f hi d).1 ((Io f hn).resolve_left j) c.1
    ·rw[a]at c;simp only[Prod.mk.injEq]at c;exact e ((Nv f).1 (n / 8) (by omega) i hi j d c.1)
    ·rw[a]at c;simp only[Prod.mk.injEq]at c;exact Yx f hi d c.1
  ·rw[(h.pages f g).1,(h.pages f g).2]at a d;by_cases e:k=n
   ·rw[if_pos e,if_pos e]at a d;exact Ix (u d) l (by rw[a])
   ·rw[if_neg e,if_neg e]at a d;have o:=(Io f g).resolve_left d;rcases KO.1 s with⟨c,j⟩ | ⟨c,j⟩ | ⟨c,j⟩
    ·rw[a]at c;simp only[Prod.mk.injEq]at c;exact e ((Nv f).2 n hn k g j d c.1)
    ·rw[a]at c;simp only[Prod.mk.injEq]at c;exact Gg (KQ f (i:=n / 8) (by omega) j).1 o c.1.symm
    ·rw[a]at c;simp only[Prod.mk.injEq]at c;exact Gg (Pa f j) o c.1.symm
variable{l:List (Int×Int)}
theorem zCt(h:(Bk l).Nodup):l.Nodup:=by
 unfold Bk List.Nodup at *;rw[List.pairwise_map]at h;exact h.imp (fun a e=>a (by rw[e]))
theorem VX(a:As p xs xb)(hn:n<64):(BS p xs xb n 3).Nodup:=by
 apply zCt;unfold BS;rw[Ou];intro i hi j d c b;rcases i with _ | _ | _ | i
 ·omega
 ·obtain rfl:j=0:=(by omega);exact fun e=>Gg (KQ a (i:=n / 8) (by omega) c).1 ((Io a hn).resolve_left b) e.symm
 ·rcases j with _ | _ | j
  ·exact fun e=>Gg (Pa a c) ((Io a hn).resolve_left b) e.symm
  ·exact Yx a (i:=n / 8) (by omega) b
  ·omega
 ·omega
theorem ZO(b:AZ p){i:Nat}(h:Ba p.n p.s i):¬Has p.hn p.h (i:Int):=by
 rintro⟨j,c,e⟩;have a:=(b.2.2 j c).2.2.1;rw[e,Int.toNat_natCast]at a;exact a h.2.1
theorem Vq{s:AH}(a:AZ p)(h:Ba p.n p.s i)(hs:C5 p s)(b:s.kn=0):Ep (Au p i s) (i:Int) s.birth:=
 ⟨MG h hs.1.1,by rw[Int.toNat_natCast,J1];exact b,ZO a h⟩
theorem Vp{s:AH}(a:AZ p)(h:Ba p.n p.s i)(hs:C5 p s)(b:0<s.kn):Db (Au p i s) (i:Int) s.birth:=
 ⟨MG h hs.1.1,by rw[Int.toNat_natCast,J1];exact b,ZO a h⟩
theorem QP(h:Ext p q)(hi:Ba q.n q.s i):Fx p (i:Int):=by
 unfold Fx;rw[Int.toNat_natCast];exact h.free hi.2.1
variable{d:ByteArray}
theorem zDk{i0 i1 i2:Nat}(k:As p xs xb)(hn:n<64)(a:C8 xb b)(q:d.size=16)(c:Ba p.n p.s i0)(h:Ba p.n (Bg p b d i0).s i1)(m:Ba p.n (Cz p xs xb n b d i0 i1).s i2) :
 New p xs xb n b (IS p xs xb n b d i0 i1 i2) (i2:Int) b (i1:Int) b (i0:Int) b:=by
 have f:Ext p (Bg p b d i0):=Ext.set c.2.1 _;have g:Ext (Bg p b d i0) (Cz p xs xb n b d i0 i1):=Ext.set h.2.1 _;have l:Ext (Cz p xs xb n b d i0 i1) (IS p xs xb n b d i0 i1 i2):=Ext.set m.2.1 _;have r1:=OW (d:=d) k a q c;have u:=RR (n:=n) k hn a q c h;have v:C5 p (BM b d):=Gd a.1 q;have w:=I3 (n:=n) (d:=d) k hn a c;have r:=Lv (d:=d) k hn a c h;have y:Ep (Bg p b d i0) (i0:Int) b:=Vq k.1 c v rfl;have t:Db (Cz p xs xb n b d i0 i1) (i1:Int) b:=Vp (p:=Bg p b d i0) r1 h w (by show 0<8;omega);have rt:Db (IS p xs xb n b d i0 i1 i2) (i2:Int) b:=Vp (p:=Cz p xs xb n b d i0 i1) u m r (by show 0<8;omega);have x:(Cz p xs xb n b d i0 i1).s (i1:Int).toNat=Bc (Ao p xs xb n 1 (i0:Int)) (Am p xs xb n 1 b) b:=by rw[Int.toNat_natCast];exact J1 _ _ _
 refine⟨(f.trans g).trans l,OK (p:=Cz p xs xb n b d i0 i1) u m r,Or.inr ⟨l.AM (g.AM y),QP (Ext.refl p) c⟩,Or.inr ⟨l.node t,QP f h,?_,OV hn a.1.1⟩,Or.inr ⟨rt,QP (f.trans g) m,?_,OV hn a.1.1⟩,Or.inr rfl,fun j=>?_⟩
 ·rw[l.at t.1];exact x
 ·rw[Int.toNat_natCast];exact J1 _ _ _
 ·have o:∀i:Nat,¬Nil (i:Int) b:=fun i e=>by have:=a.1.1;have:=e.2;omega
  by_cases g:j=i2
  ·exact .inr (.inr (.inr ⟨by rw[g],o _⟩))
  by_cases f:j=i1
  ·exact .inr (.inr (.inl ⟨by rw[f],o _⟩))
  by_cases e0:j=i0
  ·exact .inr (.inl ⟨by rw[e0],o _⟩)
  ·exact .inl ((J2 _ _ g).trans ((J2 _ _ f).trans (J2 _ _ e0)))
theorem zAC{i0 i1 i2:Nat}(j:As p xs xb)(hn:n<64)(i:C8 xb b)(k:d.size=16)(f:Ba p.n p.s i0)(g:Ba p.n (Bg p b d i0).s i1)(h:Ba p.n (Cz p xs xb n b d i0 i1).s i2) :
 ((IS p xs xb n b d i0 i1 i2).s (i0:Int).toNat).data=d:=by
 have a:Ext (Bg p b d i0) (Cz p xs xb n b d i0 i1):=Ext.set g.2.1 _;have c:Ext (Cz p xs xb n b d i0 i1) (IS p xs xb n b d i0 i1 i2):=Ext.set h.2.1 _;have e:C5 p (BM b d):=Gd i.1 k;have l:Ep (Bg p b d i0) (i0:Int) b:=Vq j.1 f e rfl;rw[(a.trans c).at l.1,Int.toNat_natCast,show(Bg p b d i0).s i0=BM b d from J1 _ _ _];rfl
theorem Vy{AM:Int}(e:(CF p xs xb AM d b).code=0) :
 As p xs xb/\∃n:Nat,n<64/\AM=(n:Int)/\d.size=16/\(CF p xs xb AM d b).old=BS p xs xb n 3/\∃ms mb gs gb,New p xs xb n b (CF p xs xb AM d b).pool (CF p xs xb AM d b).rs (CF p xs xb AM d b).rb ms mb gs gb/\¬Nil gs gb/\((CF p xs xb AM d b).pool.s gs.toNat).data=d:=by
 by_cases h:8000<d.size
 ·rw[Oc h]at e;exact absurd e (by decide)
 by_cases a:As p xs xb/\C8 xb b
 ·by_cases c:EY AM/\d.size=16
  ·obtain⟨n,rfl⟩:=Int.eq_ofNat_of_zero_le c.1.1;have hn:n<64:=(by have:=c.1.2;omega);by_cases k:roomN p.s p.n<3
   ·rw[Xr a.1 hn a.2 c.2 k]at e;exact absurd e (by decide)
   ·obtain⟨i0,g⟩:=IE (f:=p.s) (n:=p.n) (by omega);have o:roomN (Bg p b d i0).s p.n+1=roomN p.s p.n:=Km (s:=BM b d) g (Gd a.2.1 c.2);obtain⟨i,q1⟩:=IE (f:=(Bg p b d i0).s) (n:=p.n) (by omega);have q:roomN (Cz p xs xb n b d i0 i).s p.n+1=roomN (Bg p b d i0).s p.n:=Km (p:=Bg p b d i0) q1 (I3 a.1 hn a.2 g);obtain⟨m,j⟩:=IE (f:=(Cz p xs xb n b d i0 i).s) (n:=p.n) (by omega);rw[UR a.1 hn a.2 c.2 g q1 j];refine⟨a.1,n,hn,rfl,c.2,rfl,(i:Int),b,(i0:Int),b,zDk a.1 hn a.2 c.2 g q1 j,fun l=>?_,zAC a.1 hn a.2 c.2 g q1 j⟩;have:=a.2.1.1;have:=l.2;omega
  ·rw[MO h a c]at e;exact absurd e (by decide)
 ·rw[MK h a]at e;exact absurd e (by decide)
theorem Uo(p:A7)(xs xb:Int)(n:Nat)(b:Int)(o:Dr):Ap (CJ p xs xb n b o).pool<=Ap o.pool+16/\(CJ p xs xb n b o).old.length<=3:=by
 have c:=R1 p xs xb n b o 2;have a:(BS p xs xb n 3).length<=3:=IB _ _ 3;unfold CJ;split
 ·exact⟨Nat.zero_le _,Nat.zero_le _⟩
 ·split
  ·exact⟨Nat.zero_le _,Nat.zero_le _⟩
  ·exact⟨by show Ap (layS p xs xb n b o 2).pool<=_;omega,a⟩
theorem Of(p:A7)(xs xb AM:Int)(d:ByteArray)(b:Int):Ap (CF p xs xb AM d b).pool<=Ap p+40/\(CF p xs xb AM d b).old.length<=3:=by
 unfold CF;split
 ·exact⟨Nat.zero_le _,Nat.zero_le _⟩
 ·split
  ·split
   ·rename_i e
    split
    ·have a:=Uo p xs xb AM.toNat b ⟨(Bv p (BM b d)).pool,(Bv p (BM b d)).ps,(Bv p (BM b d)).pb,0⟩;have f:=RU p (BM b d);have g:Ce (BM b d)=16:=(by show 0+d.size=16;rw[e.2]);exact⟨by have c:=a.1;simp only at c;omega,a.2⟩
    ·exact⟨Nat.zero_le _,Nat.zero_le _⟩
   ·exact⟨Nat.zero_le _,Nat.zero_le _⟩
  ·exact⟨Nat.zero_le _,Nat.zero_le _⟩
theorem RW(p:A7)(xs xb AM b:Int):Ap (FW p xs xb AM b).pool<=Ap p+40/\(FW p xs xb AM b).old.length<=3:=by
 unfold FW;split
 ·split
  ·split
   ·exact⟨Nat.zero_le _,Nat.zero_le _⟩
   ·have a:=Uo p xs xb AM.toNat b ⟨p,0,0,0⟩;exact⟨by have c:=a.1;simp only at c;omega,a.2⟩
  ·exact⟨Nat.zero_le _,Nat.zero_le _⟩
 ·exact⟨Nat.zero_le _,Nat.zero_le _⟩
def JW(c:Int):Prop:=c=0\/∃i,i<7/\c=Ca i
theorem Vo(p:A7)(s:AH):JW (Bv p s).code:=by
 unfold Bv;split
 ·split
  ·exact Or.inl rfl
  ·exact Or.inr ⟨4,by omega,rfl⟩
 ·exact Or.inr ⟨0,by omega,rfl⟩
theorem VJ(p:A7)(xs xb:Int)(n:Nat)(b:Int)(o:Dr)(h:JW o.code)(L:Nat):JW (layS p xs xb n b o L).code:=by
 cases L with
 | zero=>exact h
 | succ L=>
  unfold layS;unfold JI GP;split
  ·exact Or.inl rfl
  ·exact Vo _ _
theorem zDR(p:A7)(xs xb:Int)(n:Nat)(b:Int)(o:Dr)(h:JW o.code):JW (CJ p xs xb n b o).code:=by
 unfold CJ;split
 ·exact VJ p xs xb n b o h 1
 ·split
  ·exact VJ p xs xb n b o h 2
  ·exact Or.inl rfl
theorem zAA(p:A7)(xs xb AM:Int)(d:ByteArray)(b:Int):JW (CF p xs xb AM d b).code:=by
 unfold CF;split
 ·exact Or.inr ⟨1,by omega,rfl⟩
 ·split
  ·split
   ·split
    ·exact zDR _ _ _ _ _ _ (Or.inl rfl)
    ·exact Vo _ _
   ·exact Or.inr ⟨6,by omega,rfl⟩
  ·exact Or.inr ⟨0,by omega,rfl⟩
theorem zDm(h:l.Nodup)(hi:∀x,x∈l->∀y,y∈l->x.1=y.1->x=y):(l.map Prod.fst).Nodup:=by
 unfold List.Nodup at h ⊢;rw[List.pairwise_map];exact h.imp_of_mem (fun {a b} d f c e=>c (hi a d b f e))
theorem New.hold(h:New p xs xb n b q ys yb ms mb gs gb)(a:As p xs xb)(hn:n<64):CT q (BS p xs xb n 3):=by
 have f:=CT.tree a.1 a.2;refine⟨h.right,fun x g=>?_,zDm (VX a hn) (fun x g y k e=>?_)⟩
 ·obtain⟨c,d⟩:=f.2.1 x (N7 a hn g);exact⟨h.ext.points c,fun j=>d ((h.ext.has x.1).1 j)⟩
 ·have c:=(f.2.1 x (N7 a hn g)).1.2.2.2;have d:=(f.2.1 y (N7 a hn k)).1.2.2.2;have i:x.2=y.2:=(by rw[<-c,<-d,e]);exact Prod.ext e i
def Ms(y:D9):Prop:=JW y.code/\y.old.length<=3/\(y.code=0->CT y.pool y.old)
theorem zAB(p:A7)(xs xb AM:Int)(d:ByteArray)(b:Int):Ms (CF p xs xb AM d b):=⟨zAA _ _ _ _ _ _,(Of _ _ _ _ _ _).2,fun e=>by
 obtain⟨c,n,hn,-,-,f,ms,mb,gs,gb,a,-,-⟩:=Vy e;rw[f];exact a.hold c hn⟩
def DZ(W:A6)(k:Nat)(y:D9):List (Int×Int):=Bl (AN y.old) (AP y.old) (AI W (W.A2 k).A8).time y.old.length
def L3(W:A6)(k:Nat)(y:D9):List (Int×Int):=C6 (AN y.old) (AP y.old) (AI W (W.A2 k).A8).time y.old.length
def CV(W:A6)(k:Nat)(y:D9):List (Int×Int):=Bu (W.A2 k).dn (W.A2 k).ds (W.A2 k).db ++ L3 W k y
def Fd(W:A6)(k:Nat)(y:D9):Ab:={W.A2 k with rs:=y.rs,rb:=y.rb,dn:=(CV W k y).length,ds:=AN (CV W k y),db:=AP (CV W k y)}
def Cy(W:A6)(k:Nat)(y:D9):A6:={W with pool:=BJ y.pool (DZ W k y),A2:=fun j=>if j=k then Fd W k y else W.A2 j}
open Classical in
def Dc(W:A6)(k:Nat)(y:D9):Bm:=if y.code=0 then⟨Cy W k y,0,((DZ W k y).length:Int),0⟩else BP y.code
variable{W:A6}
theorem zF6{y:D9}(h:Ms y)(a:y.code=0):CT y.pool (DZ W k y):=by
 refine(h.2.2 a).sub ?_;have:=MD (AN y.old) (AP y.old) (AI W (W.A2 k).A8).time y.old.length
 rwa [Vf]at this
open Go.Maps
def Ds(f:Nat->Int)(x:Int):Nat->Nat
 | 0=>0
 | k+1=>Ds f x k+(if f k=x then 1 else 0)
theorem VH(h:f k=x):Ds f x (k+1)=Ds f x k+1:=by simp[Ds,h]
theorem Tt(h:¬f k=x):Ds f x (k+1)=Ds f x k:=by simp[Ds,h]
def Ml(W:A6)(x:Int):Nat:=Ds (fun i=>(W.A2 i).A8) x W.sn+Ds (fun i=>(W.A3 i).A8) x W.pn
def E3(w:World)(v:Value)(n:Nat)(f:Nat->ByteArray):Prop:=
 n<=1000/\∃a c,v = .slice a n c/\(∀i,i<n->(f i).size<=maxLen)/\(0<n->∃b off,a=some ⟨b,off,none⟩/\∀i,i<n->w.cell? ⟨b,off+i,none⟩=some (.string (f i)))
variable{w w':World}{v:Value}{f:Nat->ByteArray}
theorem E3.A1(h:E3 w v n f)(t:Below w.heap.size w w'):E3 w' v n f:=by
 obtain⟨m,a,c,hv,hs,j⟩:=h;refine⟨m,a,c,hv,hs,fun e=>?_⟩;obtain⟨b,off,g,d⟩:=j e;exact⟨b,off,g,fun i hi=>(t.cell (AV (d i hi))).trans (d i hi)⟩
variable{c:Nat}
theorem E3.cells{a:Option Addr}(h:E3 w (.slice a n c) n f)(hi:i<n):∃b off,a=some ⟨b,off,none⟩/\w.cell? ⟨b,off+i,none⟩=some (.string (f i)):=by
 obtain⟨m,j,c0,hv,hs,g⟩:=h;simp only[Value.slice.injEq,true_and]at hv;obtain⟨rfl,rfl⟩:=hv;obtain⟨b,off,d,e⟩:=g (by omega);exact⟨b,off,d,e i hi⟩
theorem zDV(s:ByteArray)(w:World)(hs:s.size<=maxLen):Calls Tryz.prog 112 #[.string s] w fun e w'=>AJ (8000<s.size) e/\Below w.heap.size w w':=by
 unfold maxLen at hs;by_cases h:8000<s.size
 ·have a:(8000:Int)<(s.size:Int):=(by omega);have H:=AQ h;clear h;go_enter Tryz.func112,Tryz.ntmps112;go_wp2;go_ret;exact⟨AJ.yes H.out,Below.refl _ _⟩
 ·have a:¬(8000:Int)<(s.size:Int):=(by omega);have H:=AQ h;clear h;go_enter Tryz.func112,Tryz.ntmps112;go_wp2;go_ret;exact⟨AJ.no H.out,Below.refl _ _⟩
theorem zEW(s:ByteArray)(w:World)(hs:s.size<=maxLen):Calls Tryz.prog 113 #[.string s] w fun e w'=>AJ (¬BX s) e/\Below w.heap.size w w':=by
 go_enter Tryz.func113,Tryz.ntmps113;go_wp2_with fail;refine(Ra s w hs).mono ?_;rintro e d ⟨⟨t,rfl,b⟩,rfl⟩;by_cases a:BX s
 ·obtain rfl:t=true:=b.2 a;have c:=AQ a;clear b a;go_wp2;go_ret;exact⟨AJ.no (fun h=>h c.out),Below.refl _ _⟩
 ·obtain rfl:t=false:=BQ b a;have c:=AQ a;clear b a;go_wp2;go_ret;exact⟨AJ.yes c.out,Below.refl _ _⟩
theorem zBP(v:Value)(n:Nat)(f:Nat->ByteArray)(w:World)(h:E3 w v n f) :
 Calls Tryz.prog 153 #[v,.func (.func 112) #[] #[]] w fun e w'=>((∃i:Nat,i<n/\8000<(f i).size/\e = .returned (A0 (i:Int)))\/((∀j,j<n->¬8000<(f j).size)/\e = .returned (A0 (-1))))/\Below w.heap.size w w':=by
 have z:=AQ h;obtain⟨D,a,c,rfl,hs,-⟩:=h;have A:=AQ hs;clear hs;go_enter Tryz.func153,Tryz.ntmps153;go_wp2
 go_loopw [8] (fun i wr=>∃k:Nat,k<=n/\i=A0 k/\(∀j,j<k->¬8000<(f j).size)/\Below w.heap.size w wr) (fun i _=>n - (intOf i).toNat)
 case atStart=>exact⟨0,Nat.zero_le _,rfl,fun j x=>absurd x (Nat.not_lt_zero _),Below.refl _ _⟩
 case round=>
  obtain⟨k,C,rfl,g,s⟩:=hrel;have d:=AQ g;clear g;by_cases l:k<n
  ·have y:(k:Int)<(n:Int):=(by omega);obtain⟨b,off,rfl,B⟩:=(z.out.A1 s).cells l;have u:=A.out k l;go_wp2_with fail;refine(zDV (f k) _ u).mono ?_;rintro e E ⟨⟨t,rfl,q⟩,o⟩;have p:=A9 s o;clear o B;by_cases m:8000<(f k).size
   ·obtain rfl:t=true:=q.2 m;have r:=AQ m;clear q m;go_wp2;go_ret;exact⟨Or.inl ⟨k,l,r.out,rfl⟩,p⟩
   ·obtain rfl:t=false:=BQ q m;have r:=AQ m;clear q m;go_wp2;go_roundw
    case rel=>
     refine⟨k+1,by omega,by go_num,fun j x=>?_,p⟩;by_cases e:j=k
     ·subst e;exact r.out
     ·exact d.out j (by omega)
    case measure=>simp[intOf];omega
  ·obtain rfl:k=n:=(by omega);go_wp2;go_ret;exact⟨Or.inr ⟨d.out,rfl⟩,s⟩
theorem zp(v:Value)(n:Nat)(f:Nat->ByteArray)(w:World)(h:E3 w v n f) :
 Calls Tryz.prog 111 #[v,.func (.func 112) #[] #[]] w fun e w'=>AJ (∃i,i<n/\8000<(f i).size) e/\Below w.heap.size w w':=by
 have k:=AQ h;obtain⟨o,a,c,rfl,hs,-⟩:=h;go_enter Tryz.func111,Tryz.ntmps111;go_wp2_with fail;refine(zBP _ n f w k.out).mono ?_;rintro e p ⟨l,b⟩;rcases l with⟨i,hi,j,rfl⟩ | ⟨d,rfl⟩
 ·have g:=AQ (show ∃i,i<n/\8000<(f i).size from⟨i,hi,j⟩);have m:(0:Int)<=(i:Int):=(by omega);clear j;go_wp2;go_ret;exact⟨AJ.yes g.out,b⟩
 ·have g:=AQ d;clear d;go_wp2;go_ret;exact⟨AJ.no fun ⟨i,hi,hq⟩=>g.out i hi hq,b⟩
theorem zBQ(v:Value)(n:Nat)(f:Nat->ByteArray)(w:World)(h:E3 w v n f) :
 Calls Tryz.prog 153 #[v,.func (.func 113) #[] #[]] w fun e w'=>((∃i:Nat,i<n/\¬BX (f i)/\e = .returned (A0 (i:Int)))\/((∀j,j<n->¬¬BX (f j))/\e = .returned (A0 (-1))))/\Below w.heap.size w w':=by
 have z:=AQ h;obtain⟨D,a,c,rfl,hs,-⟩:=h;have A:=AQ hs;clear hs;go_enter Tryz.func153,Tryz.ntmps153;go_wp2
 go_loopw [8] (fun i wr=>∃k:Nat,k<=n/\i=A0 k/\(∀j,j<k->¬¬BX (f j))/\Below w.heap.size w wr) (fun i _=>n - (intOf i).toNat)
 case atStart=>exact⟨0,Nat.zero_le _,rfl,fun j x=>absurd x (Nat.not_lt_zero _),Below.refl _ _⟩
 case round=>
  obtain⟨k,C,rfl,g,s⟩:=hrel;have d:=AQ g;clear g;by_cases l:k<n
  ·have y:(k:Int)<(n:Int):=(by omega);obtain⟨b,off,rfl,B⟩:=(z.out.A1 s).cells l;have u:=A.out k l;go_wp2_with fail;refine(zEW (f k) _ u).mono ?_;rintro e E ⟨⟨t,rfl,q⟩,o⟩;have p:=A9 s o;clear o B;by_cases m:¬BX (f k)
   ·obtain rfl:t=true:=q.2 m;have r:=AQ m;clear q m;go_wp2;go_ret;exact⟨Or.inl ⟨k,l,r.out,rfl⟩,p⟩
   ·obtain rfl:t=false:=BQ q m;have r:=AQ m;clear q m;go_wp2;go_roundw
    case rel=>
     refine⟨k+1,by omega,by go_num,fun j x=>?_,p⟩;by_cases e:j=k
     ·subst e;exact r.out
     ·exact d.out j (by omega)
    case measure=>simp[intOf];omega
  ·obtain rfl:k=n:=(by omega);go_wp2;go_ret;exact⟨Or.inr ⟨d.out,rfl⟩,s⟩
theorem zq(v:Value)(n:Nat)(f:Nat->ByteArray)(w:World)(h:E3 w v n f) :
 Calls Tryz.prog 111 #[v,.func (.func 113) #[] #[]] w fun e w'=>AJ (∃i,i<n/\¬BX (f i)) e/\Below w.heap.size w w':=by
 have k:=AQ h;obtain⟨o,a,c,rfl,hs,-⟩:=h;go_enter Tryz.func111,Tryz.ntmps111;go_wp2_with fail;refine(zBQ _ n f w k.out).mono ?_;rintro e p ⟨l,b⟩;rcases l with⟨i,hi,j,rfl⟩ | ⟨d,rfl⟩
 ·have g:=AQ (show ∃i,i<n/\¬BX (f i)from⟨i,hi,j⟩);have m:(0:Int)<=(i:Int):=(by omega);clear j;go_wp2;go_ret;exact⟨AJ.yes g.out,b⟩
 ·have g:=AQ d;clear d;go_wp2;go_ret;exact⟨AJ.no fun ⟨i,hi,hq⟩=>g.out i hi hq,b⟩
open Go.ChangeMaps Go.MapKept
open Go.WideElems (Fit rd rg pl rd_val elemAt findIdx_arr findIdx_born modify_last set_self)
open Go.WideMaps (KeyLaw)
theorem zCf(w:World)(b:Nat)(o o':Obj):setBlock (setBlock w b o) b o'=setBlock w b o':=by simp[setBlock]
variable{b:Nat}
theorem zCO{o:Obj}(h:w.heap[b]?=some o):setBlock w b o=w:=by
 have e:w.heap.setIfInBounds b o=w.heap:=by
  apply Array.ext_getElem?;intro i;by_cases hi:i=b
  ·subst hi;rw[Array.getElem?_setIfInBounds_self_of_lt (Array.getElem?_eq_some_iff.1 h).1];exact h.symm
  ·rw[Array.getElem?_setIfInBounds_ne (fun e=>hi e.symm)]
 unfold setBlock;rw[e]
theorem zCw{es a:Array MapEntry}{c':Nat}(d:w.heap[b]?=some (.map es c)):w.grownBy (setBlock w b (.map a c')) (some b):=
 ⟨rfl,rfl,rfl,by simp[setBlock],fun i _ hi=>heap_setBlock_other d _ (fun e=>hi (by rw[e]))⟩
variable{P:Program}{D:DataW Value}
theorem XO{k e t:TypeId}(h:w.ownsMap P k D7 b n D)(l:KeyLaw P k)(i:P.underlying t=some (.map k e))(hn:n<maxLen){z:Value}(I:∀u:World,(zeroValue e).run P u = .ok z u){key val:Value} {kl:Lit} (a:keyOf P k key=some kl) (S:D.atKey kl (.held z) = .held v) :
 ∃(v0:Value) (Q:Nat) (J w2:World),(Instr.mapEntry t (.map (some b)) key).run P w = .ok (.tuple #[v0,goInt Q]) J/\(Instr.lookup t (.map (some b)) key false).run P J = .ok v J/\(Instr.entryStore t (.map (some b)) (goInt Q) val).run P J = .ok () w2/\w2.ownsMap P k D7 b (n+1) (D.put kl (.held val))/\w.grownBy J (some b)/\w.grownBy w2 (some b):=by
 have K:=Keyed.of_law l;obtain⟨w',E,q,U⟩:=h.update K i hn a (GW val);obtain⟨wz,G,r,pA⟩:=h.update K i hn a (GW z);have o:=h.lookup K i (I w) (GW z) a;obtain⟨m,c,f,F,hs,hD⟩:=h;obtain⟨v0,Q,d,c1,g,sA,aA⟩:=WideElems.entry_then_store l i I f F a;have T:(setBlock w b (.map d c1)).heap[b]?=some (.map d c1):=heap_setBlock_same f _;obtain⟨R,c2,Z,bA⟩:=aA _ val T;have e2:setBlock (setBlock w b (.map d c1)) b (.map R c2)=w':=by
  rw[zCf];rw[bA]at E;injection E
 refine⟨v0,Q,setBlock w b (.map d c1),w',g,?_,by rw[<-e2];exact Z,q,zCw f,U⟩;obtain⟨v',ps,B,cA⟩:=o;have ev:v'=v:=by
  have L:=Ls cA;rw[S]at L;injection L with L;exact L.symm
 subst ev
 suffices hh:∀x:World,x=setBlock w b (.map d c1)->(Instr.lookup t (.map (some b)) key false).run P x = .ok v' x from hh _ rfl
 intro x H;rcases l.find w a m.toList F.keys with⟨N,A⟩ | ⟨j,e0,N,A,h3⟩
 ·
  have eA:setBlock w b (.map d c1)=wz:=by
   have p:(Instr.mapEntry t (.map (some b)) key).run P w = .ok (.tuple #[z,goInt c]) (setBlock w b (.map (m.push ⟨key,z,c⟩) (c+1))):=by
    simp[Instr.mapEntry,run_underlying i,MapKept.run_getObj_map f,l.check w false a,N,I,MapKept.run_setObj_map _ f,Result.andThen,setBlock]
   have O:(Instr.mapUpdate t (.map (some b)) key z).run P w = .ok () (setBlock w b (.map (m.push ⟨key,z,c⟩) (c+1))):=by
    simp[Instr.mapUpdate,run_underlying i,MapKept.run_getObj_map f,l.check w false a,N,MapKept.run_setObj_map _ f,Result.andThen,setBlock]
   rw[g]at p;rw[G]at O;injection p with _ p;injection O with _ O;rw[p,O]
  obtain rfl:x=wz:=H.trans eA;obtain⟨v2,tA,X,dA⟩:=r.lookup K i (I _) (GW z) a;have M:=Ls dA;rw[atKey_put_same (show IsMap D from⟨_,hD⟩) (K.key a)]at M;replace M:=DataW.held.inj M;have e4:v'=z:=by
   have W:(Instr.lookup t (.map (some b)) key false).run P w = .ok z w:=by
    rcases Maps.fit_look false K i (I w) f F a with⟨C,_,_⟩ | ⟨e0,y,Y,V,_,_,_,_⟩
    ·exact C
    ·exact absurd V (A e0 Y)
   rw[W]at B;injection B with B _;exact B.symm
  subst M;subst e4;exact X
 ·
  have hj:m[j]?=some e0:=(by simpa using A);have s:m.modify j (fun e=>{e with key:=key})=m:=by
   apply Array.ext';rw[Array.toList_modify,modify_eq_set _ _ _ _ A];have:({e0 with key:=key}:MapEntry)=e0:=(by rw[<-h3]);rw[this];exact set_self _ _ _ A
  have p:(Instr.mapEntry t (.map (some b)) key).run P w = .ok (.tuple #[e0.val,goInt e0.born]) (setBlock w b (.map m c)):=by
   simp[Instr.mapEntry,run_underlying i,MapKept.run_getObj_map f,l.check w false a,N,hj,h3,l.stays w a,s,MapKept.run_setObj_map _ f,Result.andThen,setBlock]
  rw[g,zCO f]at p;obtain rfl:x=w:=H.trans (Result.ok.inj p).2;exact B
theorem Xt (W : A6) (m : Cq) : (Cg W m).length <= 73 := by
 unfold Cg EA treeM;exact Nat.le_trans (List.length_filter_le _ _) (Dh _ _ _)
theorem XZ (W : A6) : ∀ k, (B7 W k).length <= 73 * k
 | 0 => by simp[B7]
 | k + 1 => by
   have a := XZ W k;have b := Xt W (AA W k);unfold B7;rw[List.length_append];omega
theorem Xa (W : A6) {k : Nat} : ∀ {n : Nat}, k <= n -> ∃ l, B7 W n = B7 W k ++ l
 | 0, h => ⟨[], by obtain rfl : k = 0 := by omega
                   simp⟩
 | n + 1, h => by
   by_cases e : k = n + 1
   · subst e;exact ⟨[], by simp⟩
   · obtain ⟨l, a⟩ := Xa W (k := k) (n := n) (by omega)
     exact ⟨l ++ Cg W (AA W n), by rw[show B7 W (n + 1) = B7 W n ++ Cg W (AA W n) from rfl, a, List.append_assoc]⟩
theorem zEC (W : A6) (c : k < n) (a : j < (Cg W (AA W k)).length) : (B7 W k).length + j < (B7 W n).length /\ (B7 W n).getD ((B7 W k).length + j) (0, 0) = (Cg W (AA W k)).getD j (0, 0) := by
 obtain ⟨l, b⟩ := Xa W (k := k + 1) (n := n) (by omega);rw[b, show B7 W (k + 1) = B7 W k ++ Cg W (AA W k) from rfl];constructor
 · simp only[List.length_append];omega
 · rw[List.getD_eq_getElem?_getD, List.getD_eq_getElem?_getD, List.append_assoc, List.getElem?_append_right (by omega), show (B7 W k).length + j - (B7 W k).length = j by omega, List.getElem?_append_left a]
def LA (x : Int × Int) : Value := .agg #[A0 x.1, A0 x.2]
/-- The keys of the homes, one behind the other. -/
structure Ee (W : A6) (key : Nat -> Lit) : Prop where
 ok : Gv key
 at_ : ∀ i, i < (B7 W (memN W)).length -> keyOf Tryz.prog 38 (LA ((B7 W (memN W)).getD i (0, 0))) = some (key i)
variable{x:Int × Int}
theorem zCC (a : AZ W.pool) (b : ∀ i, i < memN W -> B3 W.pool (AA W i).rs (AA W i).rb) (c : x ∈ B7 W (memN W)) : B8 W.pool x.1 x.2 := by
 obtain ⟨i, hi, h⟩ := M7.1 c;unfold Cg EA treeM at h;exact (ED a (b i hi) (List.mem_filter.1 h).1).1
theorem zEl {l : List (Int × Int)} (h : i < l.length) : l.getD i (0, 0) ∈ l := by
 rw[List.getD_eq_getElem?_getD, List.getElem?_eq_getElem h, Option.getD_some];exact List.getElem_mem h
theorem zF (b : AZ W.pool) (j : ∀ i, i < memN W -> B3 W.pool (AA W i).rs (AA W i).rb) : ∃ key, Ee W key := by
 have a : ∀ i, ∃ l, WideAt.IsKeyLit l /\ (i < (B7 W (memN W)).length -> keyOf Tryz.prog 38 (LA ((B7 W (memN W)).getD i (0, 0))) = some l) := fun i => by
  by_cases hi' : i < (B7 W (memN W)).length
  · have c := zCC b j (zEl hi')
    generalize (B7 W (memN W)).getD i (0, 0) = x at c ⊢;have e := (Ey b c).1;have d := b.1;obtain ⟨n, o, p, g⟩ := c;rw[g]at e;obtain ⟨k, m⟩ := e;obtain ⟨l, f⟩ := zGs (x := x.1) (y := x.2) (WalkArith.wf_i64 (by omega)) (WalkArith.wf_i64 (by omega));exact ⟨l, SI.key f, fun _ => f⟩
  · exact ⟨.string [], trivial, fun h => absurd h hi'⟩
 exact ⟨fun i => (a i).choose, fun i => (a i).choose_spec.1, fun i => (a i).choose_spec.2⟩
theorem zDq{y:Int × Int} (h : LA x = LA y) : x = y := by
 unfold LA at h;simp only[Value.agg.injEq, Array.mk.injEq, List.cons.injEq, Value.int.injEq, true_and, and_true]at h;exact Prod.ext h.1 h.2
variable{key:Nat -> Lit}
theorem Ee.same (h : Ee W key) (hi : i < (B7 W (memN W)).length) (c : j < (B7 W (memN W)).length) : key i = key j ↔ (B7 W (memN W)).getD i (0, 0) = (B7 W (memN W)).getD j (0, 0) := by
 have a := h.at_ i hi;have b := h.at_ j c;constructor
 · intro e
   rw[e]at a;exact zDq (SI.inj a b)
 · intro e
   rw[e, b]at a;exact (Option.some.inj a).symm
theorem Ee.dist (h : Ee W key) : Gq (B7 W (memN W)).length key ↔ (B7 W (memN W)).Nodup := by
 rw[List.Nodup, List.pairwise_iff_getElem];have a : ∀ i (hi : i < (B7 W (memN W)).length), (B7 W (memN W)).getD i (0, 0) = (B7 W (memN W))[i] := fun i hi => by rw[List.getD_eq_getElem?_getD, List.getElem?_eq_getElem hi, Option.getD_some]
 constructor
 · intro b i j hi d c e
   refine b j d i c ((h.same hi d).2 ?_);rw[a i hi, a j d];exact e
 · intro b i hi k f e
   have := (h.same (by omega) hi).1 e;rw[a k (by omega), a i hi]at this;exact b k i (by omega) hi f this
/-- The map behind the first p homes. -/
def KD (key : Nat -> Lit) (p : Nat) : DataW Value := putD key (fun _ => A0 1) p
variable{p:Nat}
theorem Ee.new (hn : ∀ i, i < p -> key i ≠ key p) (h : Ee W key) : (KD key p).atKey (key p) (.held (A0 0)) = .held (A0 0) := Ql h.ok _ hn _
theorem Ee.old (hi : i < p) (d : key i = key p) (c : Gq p key) (h : Ee W key) : (KD key p).atKey (key p) (.held (A0 0)) = .held (A0 1) := by
 rw[<- d];exact PZ h.ok _ _ p i hi (fun j a b e => c j b i a e.symm)
theorem Ee.put (h : Ee W key) (p : Nat) (v : Value) : ((KD key p).put (key p) (.held v)).atKey (key p) (.held (A0 0)) = .held v := atKey_put_same (Kk h.ok _ p).isMap (h.ok p) _ _
theorem Ee.not_nodup (hi : i < p) (b : p < (B7 W (memN W)).length) (a : key i = key p) (h : Ee W key) : ¬ (B7 W (memN W)).Nodup := fun hn => h.dist.2 hn p b i hi a
theorem Ee.size (h : Ee W key) (a : Gq p key) : Maps.size (KD key p) = p := (Qm h.ok _ p).2.2 a
theorem zDA(A v1:Value)(lo hi:Nat)(p:A7)(w:World)(E:CD w lo hi A v1 p) :
 Calls Tryz.prog 133 #[.agg #[A,v1]] w fun e w'=>e = .returned (A0 (Mh p))/\Below w.heap.size w w':=by
 have B:Hid (CD w lo hi A v1 p):=E;obtain⟨⟨N,a,c,rfl,X,K⟩,⟨O,D,c',rfl,P,L⟩⟩:=E;unfold maxLen at N O;clear K L;have v:=AB w (.cells #[.slice a p.n c,.slice D p.hn c'] 26);go_enter Tryz.func133,Tryz.ntmps133;go_wp2_with fail;refine(MR _ _ lo hi p _ (B.out.A1 v)).mono ?_;rintro e H ⟨⟨t,rfl,f⟩,d⟩;have J:Hid (Ad H w.heap.size (.slice a p.n c) (.slice D p.hn c')):=(Ad.new w _ _ _).A1 d;have j:=A9 v d;clear v d;by_cases g:AZ p
 ·obtain rfl:t=true:=f.2 g;have r:Hid (AZ p):=g;have z:(p.n:Int)<=200:=(by have:=g.1;omega);clear f g;obtain⟨⟨S,T⟩,⟨U,V⟩⟩:=J.out;have u:Hid (Mh p=(roomN p.s p.n:Int)):=if_pos r.out;have I:Hid (Below w.heap.size w H):=j;go_wp2;clear S T U V j
  go_loopw [3,12] (fun m i wr=>∃k:Nat,k<=p.n/\i=A0 k/\m=A0 (roomN p.s k:Int)/\Below w.heap.size w wr) (fun _ i _=>p.n - (intOf i).toNat)
  case atStart=>exact⟨0,Nat.zero_le _,rfl,rfl,I.out⟩
  case round=>
   obtain⟨k,W,rfl,rfl,x⟩:=hrel;have M:=Ns p.s k;by_cases y:k<p.n
   ·have F:(k:Int)<(p.n:Int):=(by omega);obtain⟨b,off,G,kc,rfl,hs⟩:=(B.out.1.A1 x).cells y;have C:Hid (Jn wr b (off+k*3) lo hi G kc (p.s k)):=hs;obtain⟨Q,q1,R,_⟩:=hs;go_wp2_with fail;have h:=AB wr (.cells #[A0 (p.s k).birth,.slice G (p.s k).kn kc,.string (p.s k).data] 94);refine(Kr _ _ _ lo hi (p.s k) _ (C.out.slot.A1 h)).mono ?_;rintro e Y ⟨⟨t,rfl,f⟩,d⟩;have o:=A9 x (A9 h d);clear d Q q1 R C h;by_cases l:Ah (p.s k)
    ·obtain rfl:t=true:=f.2 l;have q:Hid (Ah (p.s k)):=l;clear f l;go_wp2;go_roundw
     case rel=>exact⟨k+1,by omega,by go_num,congrArg (Value.int .i64) (by rw[Jl q.out];omega),o⟩
     case measure=>simp[intOf];omega
    ·obtain rfl:t=false:=BQ f l;have q:Hid (¬Ah (p.s k)):=l;clear f l;go_wp2;go_roundw
     case rel=>exact⟨k+1,by omega,by go_num,congrArg (Value.int .i64) (by rw[J0 q.out]),o⟩
     case measure=>simp[intOf];omega
   ·obtain rfl:k=p.n:=(by omega);go_wp2;go_ret;exact⟨by rw[u.out];rfl,x⟩
 ·obtain rfl:t=false:=BQ f g;have r:Hid (¬AZ p):=g;clear f g;go_wp2;go_ret;refine⟨?_,j⟩;have e:Mh p=0:=if_neg r.out;rw[e];rfl
variable{w1:World}{M:Nat}
theorem Jp{k:TypeId}{g o:Nat}(c:w.grownBy w1 (some M))(d:w.ownsMap P k D7 M n D)(h:w.cell? ⟨g,o,none⟩=some v):w1.cell? ⟨g,o,none⟩=some v:=by
 refine(c.cell_far ⟨g,o,none⟩ (AV h) ?_).trans h;intro e;simp only[Option.some.injEq]at e;subst e;obtain⟨f,a,b,-⟩:=d;simp[World.cell?,b]at h
theorem Kw{w2:World}{row:Option Nat}(h:w.grownBy w1 row)(k:w1.grownBy w2 row):w.grownBy w2 row:=
 ⟨k.os.trans h.os,k.tape.trans h.tape,k.output.trans h.output,Nat.le_trans h.size k.size,fun i hi a=>(k.block i (Nat.lt_of_lt_of_le hi h.size) a).trans (h.block i hi a)⟩
theorem JY.side{kt:TypeId}{lo hi:Nat}{vd:Nat->Value}(h:JY w lo hi v W vd)(a:w.grownBy w1 (some M))(b:w.ownsMap P kt D7 M n D)(i:Nat)(hi':i<memN W) :
 ∃g c,v = .slice (some ⟨g,0,none⟩) (memN W) c/\w1.cell? ⟨g,i*5,none⟩=some (A0 (AA W i).A8)/\w1.cell? ⟨g,i*5+1,none⟩=some (A0 (AA W i).time)/\w1.cell? ⟨g,i*5+2,none⟩=some (A0 (AA W i).rs)/\w1.cell? ⟨g,i*5+3,none⟩=some (A0 (AA W i).rb)/\w1.cell? ⟨g,i*5+4,none⟩=some (vd i):=by
 obtain⟨g,c,e,d,f,j,k,l⟩:=h.cells i hi';exact⟨g,c,e,Jp a b d,Jp a b f,Jp a b j,Jp a b k,Jp a b l⟩
theorem At.side{a0 a1 a2 a3 a4 a5:Value}(h:At w b a0 a1 a2 a3 a4 a5)(d:w.grownBy w1 (some M))(c:b≠M):At w1 b a0 a1 a2 a3 a4 a5:=by
 obtain⟨f,g,i,j,k,l⟩:=h;have a:∀{o:Nat} {v:Value},AO w b o v->AO w1 b o v:=fun a=>⟨(d.cell_far _ (AV a.1) (fun e=>c (Option.some.inj e))).trans a.1,(d.frozen_far _ (AV a.1) (fun e=>c (Option.some.inj e))).trans a.2⟩
 exact⟨a f,a g,a i,a j,a k,a l⟩
theorem zAY(v:Value)(s:Aa)(w:World):(Instr.field 41 (DI v s) 4).run Tryz.prog w = .ok (A0 s.time) w:=by kernel_rfl
theorem qj:Go.WideMaps.KeyLaw Tryz.prog 38:=deep_law_laid S5 (m:=5) (by decide) (S6 (by kernel_rfl)) (by kernel_rfl) (by kernel_rfl)
theorem LS:Tryz.prog.underlying 172=some (.map 38 2):=by kernel_rfl
theorem SB(w:World):(zeroValue 2).run Tryz.prog w = .ok (A0 0) w:=by kernel_rfl
theorem wrap_small{n:Int}(c:-9223372036854775808<=n)(d:n<9223372036854775808):IntKind.i64.wrap n=n:=by
 unfold IntKind.wrap;simp only[IntKind.signed,IntKind.bits,Bool.true_and];split
 ·rename_i a
  have b:=of_decide_eq_true a;omega
 ·rename_i a
  have b:=of_decide_eq_false (Bool.eq_false_iff.2 a);omega
theorem zAe{N r h:Nat}(d:r<=n)(hn:n<=200)(c:h<=9223372036854775807):((N:Int) == IntKind.i64.wrap (IntKind.i64.wrap ((n:Int) - (r:Int)) - (h:Int)))=true↔N+r+h=n:=by
 have a:IntKind.i64.wrap ((n:Int) - (r:Int))=(n:Int) - (r:Int):=wrap_small (by omega) (by omega);rw[a];have b:IntKind.i64.wrap ((n:Int) - (r:Int) - (h:Int))=(n:Int) - (r:Int) - (h:Int):=wrap_small (by omega) (by omega);rw[b,beq_iff_eq];omega
theorem Ny{ky:Value}{kl:Lit}(h:w.ownsMap Tryz.prog 38 D7 b n D)(a:keyOf Tryz.prog 38 ky=some kl)(d:D.atKey kl (.held (A0 0)) = .held v):(Instr.lookup 172 (.map (some b)) ky false).run Tryz.prog w = .ok v w:=by
 obtain⟨f,ps,c,hv⟩:=h.lookup SI LS (SB w) (GW _) a;have e:=Ls hv;rw[d]at e;obtain rfl:=DataW.held.inj e;exact c
theorem zCx(R v1 T U:Value)(lo hi:Nat)(W:A6)(A:Nat)(w:World)(h:C7 w lo hi R v1 T U W)(hs:W.sn<=8)(hp:W.pn<=20)(hA:G3 w lo hi W A)(hD:Hj W)(vC:G4 W)(hR:AZ W.pool)(hT:Q1 W)(gB:∀i,i<memN W->B3 W.pool (AA W i).rs (AA W i).rb) :
 Calls Tryz.prog 69 #[Cc R v1 T U W,KK A] w fun e w'=>AJ (Lh W) e/\Below w.heap.size w w':=by
 obtain⟨key,hK⟩:=zF hR gB;have X:=A4 hK;have Hp:=A4 h;have HA:=A4 hA;have HD:=A4 hD;have aE:=A4 vC;have HR:=A4 hR;have nD:=A4 hT;have oD:=A4 gB;clear h hA hD vC hR hT gB hK;have ha:=AB w (.cells #[R,v1,A0 W.time,A0 W.next,T,U] 30);have HB:=A4 (At.new w R v1 (A0 W.time) (A0 W.next) T U 30);have sB:(w.alloc (.cells #[R,v1,A0 W.time,A0 W.next,T,U] 30)).heap.size=w.heap.size+1:=World.size_alloc _ _;have hm:=World.ownsMap_made (w.alloc (.cells #[R,v1,A0 W.time,A0 W.next,T,U] 30)) Tryz.prog 38 D7;rw[sB]at hm;have HM:=A4 hm;have Z:=A4 (HB.out.A1 (AB _ (.map #[] 0)));have aA:=A4 (A9 ha (AB _ (.map #[] 0)));have sG:=@run_makeMap Tryz.prog;obtain⟨x0,x2,x4,x6,x8,sE⟩:=Z.out.c;clear hm;go_enter Tryz.func69,Tryz.ntmps69;go_wp2_with fail;go_step3;go_wp2_with fail;go_step3;go_wp2_with fail;clear x0 x2 x4 x6 x8 sE ha HB;have fB:=A4 (show((w.alloc (.cells #[R,v1,A0 W.time,A0 W.next,T,U] 30)).alloc (.map #[] 0)).heap.size=w.heap.size+2 by rw[World.size_alloc,sB]);clear sB;generalize (w.alloc (.cells #[R,v1,A0 W.time,A0 W.next,T,U] 30)).alloc (.map #[] 0)=W0 at HM Z aA fB ⊢;refine(Ri R v1 T U lo hi W W0 (Hp.out.A1 aA.out) hs hp).mono ?_;rintro e w1 ⟨vm,vd,rfl,hm,J⟩;have aC:=A4 hm;have bC:=A4 (Z.out.A1 J);have vB:=A4 (HM.out.kept (EK J none) (by simp));have dE:=A9 aA.out J;have hz:w.heap.size+2<=w1.heap.size:=by have h1:=J.size;have h2:=fB.out;omega
 obtain⟨am,cm,rfl,oG⟩:=id hm.form;have tG:memN W<=28:=by unfold memN;omega
 clear J hm Z aA HM fB;go_wp2
 go_loopw [6,15] (fun s i wr=>∃k:Nat,k<=memN W/\s = .bool true/\i=A0 k/\wr.ownsMap Tryz.prog 38 D7 (w.heap.size+1) (B7 W k).length (KD key (B7 W k).length)/\Gq (B7 W k).length key/\w1.grownBy wr (some (w.heap.size+1))/\Below w.heap.size w wr) (fun _ i _=>memN W - (intOf i).toNat)
 case atStart=>exact⟨0,Nat.zero_le _,rfl,rfl,vB.out,fun i hi=>absurd hi (Nat.not_lt_zero _),World.grownBy.refl _ _,dE⟩
 case round=>
  obtain⟨k,hk,rfl,rfl,z,L,M,hb⟩:=hrel;have b:=A4 z;have B:=A4 L;have d:=A4 M;clear z L M;by_cases O:k<memN W;rotate_left
  ·obtain rfl:k=memN W:=(by omega);obtain⟨⟨m0,a0,c0,rfl,rH,-⟩,⟨m1,a1,c1,rfl,sH,-⟩⟩:=id Hp.out.pool;have rB:=X.out.size B.out;have pC:=(b.out.kept (EK ((Below.refl _ _).drew) none) (by simp)).len LS 3;rw[rB]at pC;have vD:=A4 rB;clear rB;have P:=Ns W.pool.s W.pool.n;have oA:=HR.out.1;unfold maxLen at m0 m1;have l:=A4 (bC.out.side d.out (by omega));obtain⟨x0,x1,x2,x3,x4,x5⟩:=l.out.c;have lD:=A4 (X.out.dist.1 B.out);have mE:Mh W.pool=(roomN W.pool.s W.pool.n:Int):=if_pos HR.out;generalize hN:(B7 W (memN W)).length=N at *;have HN:=A4 hN;clear hN;go_wp2_with fail;go_region_held3 (fun w'=>w'.cell? ⟨w.heap.size,0,none⟩=some (.slice a0 W.pool.n c0)/\w'.cell? ⟨w.heap.size,1,none⟩=some (.slice a1 W.pool.hn c1)/\(Builtin.len_ #[172] 3 #[.map (some (w.heap.size+1))]).run Tryz.prog w' = .ok (A0 (N:Nat)) w') (go_keep)
    (first
     | (go_at_call 133;refine(zDA _ _ lo hi W.pool _ ((Hp.out.A1 hb).pool.A1 (Below.refl _ _).drew)).mono ?_;rintro e w5 ⟨rfl,eA⟩;have u:=Cp eA;obtain⟨⟨k0,_⟩,⟨k1,_⟩,_⟩:=l.out.A1 u;have oC:=(b.out.kept (EK u none) (by simp)).len LS 3;rw[vD.out]at oC))
   have rA:=zAe (N:=N) P oA (by omega:W.pool.hn<=9223372036854775807);have iC:=A4 rA;have gE:=A9 hb u;clear rA pC oC mE P oA;go_wp2
   try rw[Exit.noGoto_ret]
   go_ret;refine⟨⟨_,rfl,?_⟩,gE⟩;rw[iC.out];unfold Lh;rw[HN.out];exact⟨fun Y=>⟨lD.out,Y⟩,fun Y=>Y.2⟩
  have iF:(k:Int)<(memN W:Int):=(by omega);obtain⟨g,cg,e,q0,q1,q2,q3,q4⟩:=aC.out.side d.out vB.out k O;obtain⟨-,ad,cd,tC,-,-⟩:=id (aC.out.dead k O);rw[tC]at q4;cases e;have m:=AB wr (.cells #[A0 (AA W k).A8,A0 (AA W k).time,A0 (AA W k).rs,A0 (AA W k).rb,.slice ad (AA W k).dn cd] 169);have H:=A4 (Fw.new wr (A0 (AA W k).A8) (A0 (AA W k).time) (A0 (AA W k).rs) (A0 (AA W k).rb) (.slice ad (AA W k).dn cd) 169);have l:=A4 ((bC.out.side d.out (by omega)).A1 m);have dA:=A9 hb m;have C:=A4 (b.out.kept (EK m none) (by simp));have G:=A4 (Kw d.out (EK m (some (w.heap.size+1))));have sA:=A4 (HA.out.A1 dA);have bB:=A4 (Hp.out.A1 dA);have bE:=A4 (aE.out k O);have vA:=A4 (oD.out k O);have cB:=A4 (nD.out (AA W k).A8);have eB:=A4 (show Cg W (AA W k)=EA (AG W.pool (AA W k).rs (AA W k).rb) (AI W (AA W k).A8).time from rfl);have mA:=A4 (show(B7 W (k+1)).length=(B7 W k).length+(Cg W (AA W k)).length from List.length_append);have pD:=A4 (fun (j:Nat) (hj:j<(Cg W (AA W k)).length)=>zEC W (k:=k) (n:=memN W) O hj);have cE:=A4 (Xt W (AA W k));have sD:=A4 (XZ W k);clear tC m d b;generalize AA W k=mk at *;go_wp2_with fail;clear q0 q1 q2 q3 q4;have I:=A4 (show w.heap.size+2<=(wr.alloc (.cells #[A0 mk.A8,A0 mk.time,A0 mk.rs,A0 mk.rb,.slice ad mk.dn cd] 169)).heap.size from Nat.le_trans hz G.out.size);generalize wr.alloc (.cells #[A0 mk.A8,A0 mk.time,A0 mk.rs,A0 mk.rb,.slice ad mk.dn cd] 169)=W2 at H l sA bB dA C G I ⊢;generalize wr.heap.size=V at H ⊢;obtain⟨⟨y0,-⟩,⟨y1,-⟩,⟨y2,-⟩,⟨y3,-⟩,⟨y4,-⟩⟩:=H.out;obtain⟨x0,x1,x2,x3,x4,x5⟩:=l.out.c;have nE:=Dh W.pool mk.rs mk.rb;have tA:=A4 (show Cf (AG W.pool mk.rs mk.rb).length (AN (AG W.pool mk.rs mk.rb)) (AP (AG W.pool mk.rs mk.rb))from Ky HR.out (fun x Y=>(ED HR.out vA.out Y).1) (L0 HR.out vA.out) (by omega));have iE:=Y5;have jE:=zAY;generalize jC:AI W mk.A8=S at cB eB ⊢;have jD:=A4 jC;clear jC;generalize kC:AG W.pool mk.rs mk.rb=tree at tA nE eB ⊢;have mD:=A4 kC;clear kC;go_region_held3 (fun w'=>w'.cell? ⟨w.heap.size,0,none⟩=some R/\w'.cell? ⟨w.heap.size,1,none⟩=some v1/\w'.cell? ⟨w.heap.size,2,none⟩=some (A0 W.time)/\w'.cell? ⟨w.heap.size,3,none⟩=some (A0 W.next)/\w'.cell? ⟨w.heap.size,4,none⟩=some T/\w'.cell? ⟨w.heap.size,5,none⟩=some U/\w'.cell? ⟨V,0,none⟩=some (A0 mk.A8)/\w'.cell? ⟨V,2,none⟩=some (A0 mk.rs)/\w'.cell? ⟨V,3,none⟩=some (A0 mk.rb)) (go_keep)
   (first
    | (go_at_call 132;refine(Ku R v1 T U lo hi W mk.rs mk.rb _ ?_ HR.out vA.out).mono ?_;(exact bB.out.A1 (Below.refl _ _).drew);rintro e w5 ⟨vt,rfl,iA,eA⟩;rw[mD.out]at iA;obtain⟨fG,gG,rfl,-⟩:=Bw iA;have u:=Cp eA;obtain⟨⟨k0,_⟩,⟨k1,_⟩,⟨k2,_⟩,⟨k3,_⟩,⟨k4,_⟩,⟨k5,_⟩⟩:=l.out.A1 u;obtain⟨⟨l0,_⟩,_,⟨l2,_⟩,⟨l3,_⟩,_⟩:=H.out.A1 u)
    | (go_at_call 126;refine(Jo lo hi W A mk.A8 _ (sA.out.A1 u) HD.out bE.out hp).mono ?_;rintro e w6 ⟨aa,ca,rfl,lE,iB⟩;rw[jD.out];have cA:=A9 u iB;obtain⟨⟨f0,_⟩,⟨f1,_⟩,⟨f2,_⟩,⟨f3,_⟩,⟨f4,_⟩,⟨f5,_⟩⟩:=l.out.A1 cA;obtain⟨⟨g0,_⟩,_,⟨g2,_⟩,⟨g3,_⟩,_⟩:=H.out.A1 cA)
    | (go_at_call 131;refine(Rh _ tree.length 0 _ (AN tree) (AP tree) S.time _ ((iA.A1 iB).atW (by omega))).mono ?_;rintro e w7 ⟨vy,vz,ly,lz,rfl,hY,-,hy,-,-,lC⟩;rw[(hY.1 ⟨tA.out,cB.out⟩).trans (QJ tree S.time)]at hy;rw[<-eB.out]at hy;obtain⟨ay,cy,rfl,pG⟩:=Bw hy;have y:=A9 cA lC;obtain⟨⟨m0,_⟩,⟨m1,_⟩,⟨m2,_⟩,⟨m3,_⟩,⟨m4,_⟩,⟨m5,_⟩⟩:=l.out.A1 y;obtain⟨⟨n0,_⟩,_,⟨n2,_⟩,⟨n3,_⟩,_⟩:=H.out.A1 y))
  have HY:=A4 hy;have D:=A4 (C.out.kept (EK y none) (by simp));have cC:=A4 (Kw G.out (EK y (some (w.heap.size+1))));have bG:=A4 (l.out.A1 y);have E:=A9 dA y;have dH:w.heap.size+2<=w7.heap.size:=Nat.le_trans I.out y.size;have bH:=cE.out;have rG:=sD.out;clear hy y lC cA iB u eA iA lE hY l H sA bB C G I tA cB iE jE x0 x1 x2 x3 x4 x5 y0 y1 y2 y3 y4 k0 k1 k2 k3 k4 k5 l0 l2 l3 f0 f1 f2 f3 f4 f5 g0 g2 g3 m0 m1 m2 m3 m4 m5 n0 n2 n3;generalize aH:Cg W mk=yl at *;go_wp2_with fail
  go_loopw [6,31] (fun s i wr=>∃j:Nat,j<=yl.length/\s = .bool true/\i=A0 j/\wr.ownsMap Tryz.prog 38 D7 (w.heap.size+1) ((B7 W k).length+j) (KD key ((B7 W k).length+j))/\Gq ((B7 W k).length+j) key/\w7.grownBy wr (some (w.heap.size+1))/\Below w.heap.size w wr) (fun _ i _=>yl.length - (intOf i).toNat)
  case atStart=>exact⟨0,Nat.zero_le _,rfl,rfl,D.out,B.out,World.grownBy.refl _ _,E⟩
  case round=>
   clear E;obtain⟨j,hj,rfl,rfl,z,mC,M,E⟩:=hrel;have b:=A4 z;have bA:=A4 mC;have d:=A4 M;clear z mC M;by_cases lB:j<yl.length;rotate_left
   ·obtain rfl:j=yl.length:=(by omega);go_wp2;go_roundw
    case rel=>
     refine⟨k+1,by omega,rfl,by go_num,?_,?_,Kw cC.out d.out,E⟩
     ·rw[mA.out];exact b.out
     ·rw[mA.out];exact bA.out
    case measure=>simp[intOf];omega
   have gF:(j:Int)<(yl.length:Int):=(by omega);obtain⟨-,a7,c7,e7,-,K⟩:=id (HY.out.atW (by omega));cases e7;obtain⟨b7,o7,rfl,-,-,K⟩:=K (by omega);have q0:=Jp d.out D.out (K j lB).1;have q1:=Jp d.out D.out (K j lB).2;clear K;obtain⟨pB,rC⟩:=pD.out j lB;have pA:keyOf Tryz.prog 38 (.agg #[A0 (AN yl j),A0 (AP yl j)])=some (key ((B7 W k).length+j)):=by
    have:=X.out.at_ _ pB;rw[rC]at this;exact this
   have tD:=A4 pB;have r:=A4 pA;clear rC pB pA;have m:=AB wr (.cells #[A0 (AN yl j),A0 (AP yl j)] 38);have H:=A4 (Ad.new wr (A0 (AN yl j)) (A0 (AP yl j)) 38);have f:=A4 ((b.out.kept (EK m none) (by simp)).kept (EK ((Below.refl _ _).drew) none) (by simp));have lA:=A4 (Kw d.out (EK m (some (w.heap.size+1))));have F:=A9 E m;have v:=A4 (show w.heap.size+1<wr.heap.size by have:=d.out.size;omega);clear m d b;have vG:(B7 W k).length+j<=3000:=(by omega);generalize sC:(B7 W k).length+j=p at *;have fC:=A4 sC;clear sC;generalize AN yl j=xs at *;generalize AP yl j=xb at *;go_wp2_with fail;clear q0 q1;generalize wr.alloc (.cells #[A0 xs,A0 xb] 38)=W3 at H f lA F ⊢;generalize wr.heap.size=V at H v ⊢;by_cases t:∀i,i<p->key i≠key p
   ·have mB:=Ny f.out r.out (X.out.new t);obtain⟨ev,st,wa,wb,he,nB,Q,a,kB,o⟩:=XO f.out qj LS (by unfold maxLen;omega) SB r.out (X.out.new t) (val:=A0 1);obtain⟨⟨y0,-⟩,⟨y1,-⟩⟩:=H.out.A1 ((Below.refl _ _).drew);have z0:=(o.cell_far _ (AV y0) (fun e=>by have h1:=Option.some.inj e;have h2:=v.out;simp only at h1;omega)).trans y0;have z1:=(o.cell_far _ (AV y1) (fun e=>by have h1:=Option.some.inj e;have h2:=v.out;simp only at h1;omega)).trans y1;have kE:=Ny a r.out (X.out.put p _);have aB:=A4 a;have rD:=A4 (Kw (Kw lA.out (EK ((Below.refl _ _).drew) (some (w.heap.size+1)))) o);have jB:=F.drew.grown o (Nat.le_trans F.size (Nat.le_refl _)) (fun q e=>by cases e;omega);have dC:=A4 t;clear a kB o t F E;unfold goInt at he Q;go_region;clear mB nB he Q y0 y1;go_wp2;go_roundw
    case rel=>exact⟨j+1,by omega,rfl,by go_num,by rw[show(B7 W k).length+(j+1)=p+1 by have:=fC.out;omega];exact aB.out,by rw[show(B7 W k).length+(j+1)=p+1 by have:=fC.out;omega];exact RE.2 ⟨bA.out,dC.out⟩,rD.out,jB⟩
    case measure=>simp[intOf];omega
   ·obtain⟨i0,gA,fA⟩:∃i,i<p/\key i=key p:=by
     by_cases Y:∃i,i<p/\key i=key p
     ·exact Y
     ·exact absurd (fun i hi e=>Y ⟨i,hi,e⟩) t
    have eC:=A4 (X.out.not_nodup gA tD.out fA);have mB:=Ny f.out r.out (X.out.old gA fA bA.out);obtain⟨ev,st,wa,wb,he,nB,Q,a,kB,o⟩:=XO f.out qj LS (by unfold maxLen;omega) SB r.out (X.out.old gA fA bA.out) (val:=A0 2);obtain⟨⟨y0,-⟩,⟨y1,-⟩⟩:=H.out.A1 ((Below.refl _ _).drew);have z0:=(o.cell_far _ (AV y0) (fun e=>by have h1:=Option.some.inj e;have h2:=v.out;simp only at h1;omega)).trans y0;have z1:=(o.cell_far _ (AV y1) (fun e=>by have h1:=Option.some.inj e;have h2:=v.out;simp only at h1;omega)).trans y1;have kE:=Ny a r.out (X.out.put p _);have jB:=F.drew.grown o (Nat.le_trans F.size (Nat.le_refl _)) (fun q e=>by cases e;omega);clear a kB o t F E gA fA;unfold goInt at he Q;go_region;clear mB nB he Q y0 y1;go_wp2_with fail;go_region;go_wp2;rw[Exit.noGoto_ret];go_ret;exact⟨AJ.no fun Y=>eC.out Y.1,jB.drew⟩
theorem ZS(p v1 q r:Value)(lo hi:Nat)(W:A6)(w:World)(h:C7 w lo hi p v1 q r W)(P:G4 W) :
 Calls Tryz.prog 25 #[Cc p v1 q r W] w fun e w'=>AJ (DE W) e/\Below w.heap.size w w':=by
 have t:=A4 h;have u:=A4 P;clear h P;have M:=AB w (.cells #[p,v1,A0 W.time,A0 W.next,q,r] 30);have S:=A4 (At.new w p v1 (A0 W.time) (A0 W.next) q r 30);obtain⟨j,k,l,m,n,o⟩:=S.out.c;go_enter Tryz.func25,Tryz.ntmps25;go_wp2_with fail;generalize w.alloc (.cells #[p,v1,A0 W.time,A0 W.next,q,r] 30)=W0 at M S j k l m n o ⊢;refine(ZN W.time W0).mono ?_;rintro e w1 ⟨⟨f,rfl,b⟩,rfl⟩;have a:=A4 b;clear b;cases f
 ·have g:=A4 (show ¬DE W from fun i=>absurd (a.out.2 i.Aq.time) (by simp));clear a;go_wp2;go_ret;exact⟨AJ.no g.out,M⟩
 have H1:=A4 (a.out.1 rfl);clear a;go_wp2_with fail;refine(ZN W.next _).mono ?_;rintro e w1 ⟨⟨f,rfl,b⟩,rfl⟩;have a:=A4 b;clear b;cases f
 ·have g:=A4 (show ¬DE W from fun i=>absurd (a.out.2 i.Aq.next) (by simp));clear a;go_wp2;go_ret;exact⟨AJ.no g.out,M⟩
 have H2:=A4 (a.out.1 rfl);clear a;go_wp2_with fail;refine(zCP q W.sn lo hi W.A2 _ (t.out.A1 M).A2).mono ?_;rintro e w2 ⟨⟨f,rfl,b⟩,d⟩;have a:=A4 b;have v:=A9 M d;have G:=A4 (S.out.A1 d);clear b d j k l m n o;obtain⟨j,k,l,m,n,o⟩:=G.out.c;cases f
 ·have g:=A4 (show ¬DE W from fun i=>absurd (a.out.2 i.Aq.A2) (by simp));clear a;go_wp2;go_ret;exact⟨AJ.no g.out,v⟩
 have V:=A4 (a.out.1 rfl);clear a;have hs:=V.out.1;go_wp2_with fail;refine(zCh p v1 q r lo hi W _ (t.out.A1 v) hs).mono ?_;rintro e w3 ⟨⟨f,rfl,b⟩,d⟩;have a:=A4 b;have x:=A9 v d;have H:=A4 (G.out.A1 d);clear b d j k l m n o;obtain⟨j,k,l,m,n,o⟩:=H.out.c;cases f
 ·have g:=A4 (show ¬DE W from fun i=>absurd (a.out.2 i.Aq.A3) (by simp));clear a;go_wp2;go_ret;exact⟨AJ.no g.out,x⟩
 have X:=A4 (a.out.1 rfl);clear a;have O:=X.out.1;have s:=A4 (show Eo W from⟨H1.out,H2.out,V.out,X.out⟩);go_wp2_with fail;refine(MR p v1 lo hi W.pool _ (t.out.A1 x).pool).mono ?_;rintro e w4 ⟨⟨f,rfl,b⟩,d⟩;have a:=A4 b;have y:=A9 x d;have I:=A4 (H.out.A1 d);clear b d j k l m n o;obtain⟨j,k,l,m,n,o⟩:=I.out.c;cases f
 ·have g:=A4 (show ¬DE W from fun i=>absurd (a.out.2 i.right) (by simp));clear a;go_wp2;go_ret;exact⟨AJ.no g.out,y⟩
 have Q:=A4 (a.out.1 rfl);clear a;go_wp2_with fail;refine(Yd p v1 q r lo hi W _ (t.out.A1 y) O s.out.idsWf).mono ?_;rintro e w5 ⟨A,rfl,hA,d⟩;have D:=A4 hA;have N:=A9 y d;have J:=A4 (I.out.A1 d);clear hA d j k l m n o;obtain⟨j,k,l,m,n,o⟩:=J.out.c;go_wp2_with fail;refine(zCe p v1 q r lo hi W A _ (t.out.A1 N) hs O D.out s.out.dist u.out).mono ?_;rintro e w6 ⟨⟨f,rfl,b⟩,d⟩;have a:=A4 b;have z:=A9 N d;have K:=A4 (J.out.A1 d);have E:=A4 (D.out.A1 d);clear b d j k l m n o;obtain⟨j,k,l,m,n,o⟩:=K.out.c;cases f
 ·have g:=A4 (show ¬DE W from fun i=>absurd (a.out.2 i.prevs) (by simp));clear a;go_wp2;go_ret;exact⟨AJ.no g.out,z⟩
 have Y:=A4 (a.out.1 rfl);clear a;go_wp2_with fail;refine(zCy p v1 q r lo hi W A _ (t.out.A1 z) O hs E.out s.out.dist (s.out.ER Y.out)).mono ?_;rintro e w7 ⟨⟨f,rfl,b⟩,d⟩;have a:=A4 b;have B:=A9 z d;have L:=A4 (K.out.A1 d);have F:=A4 (E.out.A1 d);clear b d j k l m n o;obtain⟨j,k,l,m,n,o⟩:=L.out.c;cases f
 ·have g:=A4 (show ¬DE W from fun i=>absurd (a.out.2 i.lines) (by simp));clear a;go_wp2;go_ret;exact⟨AJ.no g.out,B⟩
 have H8:=A4 (a.out.1 rfl);clear a;go_wp2_with fail;refine(zCj p v1 q r lo hi W A _ (t.out.A1 B) hs O F.out s.out.dist u.out Q.out s.out.times).mono ?_;rintro e w8 ⟨⟨f,rfl,b⟩,d⟩;have a:=A4 b;have C:=A9 B d;have T:=A4 (L.out.A1 d);have R:=A4 (F.out.A1 d);clear b d j k l m n o;obtain⟨j,k,l,m,n,o⟩:=T.out.c;cases f
 ·have g:=A4 (show ¬DE W from fun i=>absurd (a.out.2 i.trees) (by simp));clear a;go_wp2;go_ret;exact⟨AJ.no g.out,C⟩
 have Z:=A4 (a.out.1 rfl);clear a;go_wp2_with fail;refine(zCx p v1 q r lo hi W A _ (t.out.A1 C) hs O R.out s.out.dist u.out Q.out s.out.times Z.out.1).mono ?_;rintro e w9 ⟨⟨f,rfl,b⟩,d⟩;have a:=A4 b;have U:=A9 C d;clear b d;have g:=A4 (show f=true↔DE W from⟨fun e=>⟨s.out,Q.out,Y.out,H8.out,Z.out,a.out.1 e⟩,fun i=>a.out.2 i.homes⟩);clear a;go_wp2;go_ret;exact⟨⟨f,rfl,g.out⟩,U⟩
def JC(w:World)(b:Nat)(v0 v1 v2 v3:Value):Prop:=AO w b 0 v0/\AO w b 1 v1/\AO w b 2 v2/\AO w b 3 v3
theorem JC.A1{v0 v1 v2 v3:Value}(h:JC w b v0 v1 v2 v3)(t:Below w.heap.size w w'):JC w' b v0 v1 v2 v3:=⟨h.1.A1 t,h.2.1.A1 t,h.2.2.1.A1 t,h.2.2.2.A1 t⟩
theorem JC.new(w:World)(b v1 c d:Value)(t:TypeId):JC (w.alloc (.cells #[b,v1,c,d] t)) w.heap.size b v1 c d:=by
 have a:(w.alloc (.cells #[b,v1,c,d] t)).heap[w.heap.size]?=some (.cells #[b,v1,c,d] t):=heap_alloc_new _ _;exact⟨Az a rfl,Az a rfl,Az a rfl,Az a rfl⟩
def It(w:World)(p:Nat->Addr)(v:Value)(m:Nat)(g:Nat->Nat)(lb:Nat->Array Value)(ei:Nat->Nat):Prop:=
 m<=1000/\∃a c,v = .slice a m c/\(0<m->∃b off,a=some ⟨b,off,none⟩/\∀i,i<m->w.cell? ⟨b,off+i*2,none⟩=some (.func (.func (g i)) #[] (lb i))/\w.cell? ⟨b,off+i*2+1,none⟩=some (Af (p (ei i))))
variable{p:Nat->Addr}{g ei:Nat->Nat}{lb:Nat->Array Value}
theorem It.A1{m:Nat}(h:It w p v m g lb ei)(t:Below w.heap.size w w'):It w' p v m g lb ei:=by
 obtain⟨k,a,c,hv,j⟩:=h;refine⟨k,a,c,hv,fun e=>?_⟩;obtain⟨b,off,f,d⟩:=j e;exact⟨b,off,f,fun i hi=>⟨(t.cell (AV (d i hi).1)).trans (d i hi).1,(t.cell (AV (d i hi).2)).trans (d i hi).2⟩⟩
theorem It.cells{a:Option Addr}{m:Nat}(h:It w p (.slice a m c) m g lb ei)(hi:i<m):∃b off,a=some ⟨b,off,none⟩/\w.cell? ⟨b,off+i*2,none⟩=some (.func (.func (g i)) #[] (lb i))/\w.cell? ⟨b,off+i*2+1,none⟩=some (Af (p (ei i))):=by
 obtain⟨k,j,c0,hv,f⟩:=h;simp only[Value.slice.injEq,true_and]at hv;obtain⟨rfl,rfl⟩:=hv;obtain⟨b,off,d,e⟩:=f (by omega);exact⟨b,off,d,e i hi⟩
def FN(W:A6)(long bad:Prop)(m:Nat)(Q:Nat->Prop)(ei:Nat->Nat)(r:Option Nat):Prop:=
 (long/\r=some 1)\/(¬long/\(¬DE W\/bad)/\r=some 0)\/(¬long/\DE W/\¬bad/\∃i,i<m/\¬Q i/\(∀j,j<i->Q j)/\r=some (ei i))\/(¬long/\DE W/\¬bad/\(∀j,j<m->Q j)/\r=none)
def SO(p:Nat->Addr):Option Nat->Value
 | none=>.nilIface
 | some i=>Af (p i)
theorem zBK(p:Nat->Addr)(tv nv qv dv:Value)(A z m:Nat)(tx nx:Nat->ByteArray)(g:Nat->Nat)(P:Nat->Array Value)(ei:Nat->Nat)(Q:Nat->Prop)(J v1 K L:Value)(lo hi:Nat)(W:A6)(w:World)(hE:D8 w p)(h:C7 w lo hi J v1 K L W)(fB:G4 W)
 (ht:E3 w tv A tx) (hn:E3 w nv z nx) (hq:It w p qv m g P ei) (eg:∀i,i<m->Enters Tryz.prog (g i))
 (hQ:∀i,i<m->∀w',Below w.heap.size w w'->DE W->(∀j,j<i->Q j)->Calls Tryz.prog (g i) (#[Cc J v1 K L W] ++ P i) w' fun e iB=>AJ (Q i) e/\Below w'.heap.size w' iB) :
 Calls Tryz.prog 58 #[.agg #[tv,nv,qv,dv],Cc J v1 K L W] w fun e w'=>∃r,e = .returned (SO p r)/\FN W (∃i,i<A/\8000<(tx i).size) (∃i,i<z/\¬BX (nx i)) m Q ei r/\Below w.heap.size w w':=by
 have Hp:=AQ h;have HE:=AQ hE;have Ht:=AQ ht;have Hn:=AQ hn;have Hq:=AQ hq;have HQ:=AQ hQ;have Hg:=AQ eg;obtain⟨t1,ta,tc,rfl,-⟩:=ht;obtain⟨n1,na,nc,rfl,-⟩:=hn;obtain⟨m1,qa,qc,rfl,-⟩:=hq;clear h hE hQ eg;have bA:=AB w (.cells #[.slice ta A tc,.slice na z nc,.slice qa m qc,dv] 70);have I:=AB (w.alloc (.cells #[.slice ta A tc,.slice na z nc,.slice qa m qc,dv] 70)) (.cells #[J,v1,A0 W.time,A0 W.next,K,L] 30);have C:=A9 bA I;have hd:=(JC.new w (.slice ta A tc) (.slice na z nc) (.slice qa m qc) (dv) 70).A1 I;have hx:=At.new (w.alloc (.cells #[.slice ta A tc,.slice na z nc,.slice qa m qc,dv] 70)) (J) (v1) (A0 W.time) (A0 W.next) (K) (L) 30;rw[World.size_alloc]at hx;have HD:=AQ hd;have HX:=AQ hx;clear hd hx;obtain⟨⟨U,-⟩,⟨X,-⟩,⟨Y,-⟩,⟨Z,-⟩⟩:=HD.out;go_enter Tryz.func58,Tryz.ntmps58;go_wp2_with fail;clear U X Y Z;generalize ((w.alloc (.cells #[.slice ta A tc,.slice na z nc,.slice qa m qc,dv] 70)).alloc (.cells #[J,v1,A0 W.time,A0 W.next,K,L] 30))=W1 at C HD HX ⊢;clear bA I;refine(zp _ A tx W1 (Ht.out.A1 C)).mono ?_;rintro e w2 ⟨⟨t,rfl,d⟩,q⟩;have n:=A9 C q;have R:=AQ (HD.out.A1 q);have E:=AQ (HX.out.A1 q);clear q C HD HX;by_cases l:∃i,i<A/\8000<(tx i).size
 ·obtain rfl:t=true:=d.2 l;have M:=AQ l;have cA:w2.cell? ⟨3,0,none⟩=some (Af (p 1)):=(HE.out.A1 n).cell 1 (by omega);clear d l;go_wp2;go_ret;exact⟨some 1,rfl,Or.inl ⟨M.out,rfl⟩,n⟩
 obtain rfl:t=false:=BQ d l;have M:=AQ l;clear d l;obtain⟨x0,x1,x2,x3,x4,x5⟩:=E.out.c;go_wp2_with fail;clear x0 x1 x2 x3 x4 x5;refine(ZS _ _ _ _ lo hi W w2 (Hp.out.A1 n) fB).mono ?_;rintro e w3 ⟨⟨t,rfl,d⟩,s⟩;have o:=A9 n s;have D:=AQ (R.out.A1 s);have T:=AQ (E.out.A1 s);clear s n R E;by_cases O:DE W;rotate_left
 ·obtain rfl:t=false:=BQ d O;have S:=AQ O;have cA:w3.cell? ⟨4,0,none⟩=some (Af (p 0)):=(HE.out.A1 o).cell 0 (by omega);clear d O;go_wp2;go_ret;exact⟨some 0,rfl,Or.inr (Or.inl ⟨M.out,Or.inl S.out,rfl⟩),o⟩
 obtain rfl:t=true:=d.2 O;have S:=AQ O;clear d O;obtain⟨⟨U,-⟩,⟨X,-⟩,⟨Y,-⟩,⟨Z,-⟩⟩:=D.out;go_wp2_with fail;clear U X Y Z;refine(zq _ z nx w3 (Hn.out.A1 o)).mono ?_;rintro e w4 ⟨⟨t,rfl,d⟩,u⟩;have G:=A9 o u;have pA:=AQ (D.out.A1 u);have aB:=AQ (T.out.A1 u);clear u o D T;by_cases l:∃i,i<z/\¬BX (nx i)
 ·obtain rfl:t=true:=d.2 l;have HN:=AQ l;have cA:w4.cell? ⟨4,0,none⟩=some (Af (p 0)):=(HE.out.A1 G).cell 0 (by omega);clear d l;go_wp2;go_ret;exact⟨some 0,rfl,Or.inr (Or.inl ⟨M.out,Or.inr HN.out,rfl⟩),G⟩
 obtain rfl:t=false:=BQ d l;have HN:=AQ l;clear d l;obtain⟨⟨U,-⟩,⟨X,-⟩,⟨Y,-⟩,⟨Z,-⟩⟩:=pA.out;go_wp2;clear U X Y Z
 go_loopw [23] (fun i wr=>∃k:Nat,k<=m/\i=A0 k/\(∀j,j<k->Q j)/\At wr (w.heap.size+1) (J) (v1) (A0 W.time) (A0 W.next) (K) (L)/\Below w.heap.size w wr) (fun i _=>m - (intOf i).toNat)
 case atStart=>exact⟨0,Nat.zero_le _,rfl,fun j hj=>absurd hj (Nat.not_lt_zero _),aB.out,G⟩
 case round=>
  obtain⟨k,hk,rfl,B,hX,C⟩:=hrel;have f:=AQ B;have cB:=AQ hX;clear B hX;by_cases y:k<m
  ·have bC:(k:Int)<(m:Int):=(by omega);obtain⟨b,off,rfl,q0,q1⟩:=(Hq.out.A1 C).cells y;have H:=AB wr (.cells #[.func (.func (g k)) #[] (P k),Af (p (ei k))] 61);have HV:=AQ (Ad.new wr (.func (.func (g k)) #[] (P k)) (Af (p (ei k))) 61);have F:=AQ (cB.out.A1 H);have x:=A9 C H;have e0:∀(args:Array Value) (w:World),(callFunc (g k) args).run Tryz.prog w = .ok (.enter (g k) args) w:=Hg.out k y;have eB:=fun (w:World) (a:Addr)=>run_store Tryz.prog w a (.func (.func (g k)) #[] (P k)) .plain rfl
   obtain⟨⟨z0,-⟩,⟨z1,-⟩⟩:=HV.out;obtain⟨x0,x1,x2,x3,x4,x5⟩:=F.out.c;go_wp2_with fail;clear x0 x1 x2 x3 x4 x5 z0 z1 q0 q1 eB;generalize wr.alloc (.cells #[.func (.func (g k)) #[] (P k),Af (p (ei k))] 61)=W5 at HV F x ⊢;generalize wr.heap.size=V at HV ⊢;refine(HQ.out k y W5 x S.out f.out).mono ?_;rintro e w6 ⟨⟨t,rfl,d⟩,v⟩;have aA:=A9 x v;have tA:=AQ (HV.out.A1 v);have bB:=AQ (F.out.A1 v);clear v x H e0;by_cases N:Q k
   ·obtain rfl:t=true:=d.2 N;have HF:=AQ N;clear d N;go_wp2;go_roundw
    case rel=>
     refine⟨k+1,by omega,by go_num,fun j hj=>?_,bB.out,aA⟩;by_cases e:j=k
     ·subst e;exact HF.out
     ·exact f.out j (by omega)
    case measure=>simp[intOf];omega
   ·obtain rfl:t=false:=BQ d N;have HF:=AQ N;clear d N;obtain⟨⟨z0,-⟩,⟨z1,-⟩⟩:=tA.out;go_wp2;go_ret;exact⟨some (ei k),rfl,Or.inr (Or.inr (Or.inl ⟨M.out,S.out,HN.out,k,y,HF.out,f.out,rfl⟩)),aA⟩
  ·obtain rfl:k=m:=(by omega);go_wp2;go_ret;exact⟨none,rfl,Or.inr (Or.inr (Or.inr ⟨M.out,S.out,HN.out,f.out,rfl⟩)),C⟩
theorem zCY(g:Nat)(D:Array Value)(z:Enters Tryz.prog g)(P:Nat->Prop)(v:Value)(n lo hi:Nat)(f:Nat->Aa)(w:World)(h:EE w lo hi v n f)(hn:n<=1000)
 (A:∀i,i<n->∀a c w',Below w.heap.size w w'->BG w' lo hi (.slice a (f i).dn c) (f i).dn (f i).ds (f i).db->Calls Tryz.prog g (#[.agg #[A0 (f i).id,.string (f i).name,.string (f i).set,A0 (f i).A8,A0 (f i).time,A0 (f i).rs,A0 (f i).rb,.slice a (f i).dn c]] ++ D) w' fun e x=>AJ (P i) e/\Below w'.heap.size w' x) :
 Calls Tryz.prog 152 #[v,.func (.func g) #[] D] w fun e w'=>((∃i:Nat,i<n/\P i/\(∀j,j<i->¬P j)/\e = .returned (A0 (i:Int)))\/((∀j,j<n->¬P j)/\e = .returned (A0 (-1))))/\Below w.heap.size w w':=by
 have F:=A4 h;obtain⟨-,a,c,rfl,-,-⟩:=h;have E:=A4 A;clear A;have e0:∀(args:Array Value) (w:World),(callFunc g args).run Tryz.prog w = .ok (.enter g args) w:=z;clear z;go_enter Tryz.func152,Tryz.ntmps152;go_wp2
 go_loopw [8] (fun i wr=>∃k:Nat,k<=n/\i=A0 k/\(∀j,j<k->¬P j)/\Below w.heap.size w wr) (fun i _=>n - (intOf i).toNat)
 case atStart=>exact⟨0,Nat.zero_le _,rfl,fun j B=>absurd B (Nat.not_lt_zero _),Below.refl _ _⟩
 case round=>
  obtain⟨k,Q,rfl,l,r⟩:=hrel;have d:=A4 l;clear l;by_cases m:k<n
  ·have C:(k:Int)<(n:Int):=(by omega);obtain⟨b,off,vd,rfl,hs⟩:=(F.out.A1 r).cells m;obtain⟨-,G,H,rfl,-,-⟩:=id hs.dead;have y:=A4 hs.dead;obtain⟨I,q1,J,K,L,M,N,O,-,-⟩:=hs;go_wp2_with fail;clear I q1 J K L M N O;refine(E.out k m G H wr r y.out).mono ?_;rintro e R ⟨⟨t,rfl,s⟩,p⟩;have q:=A9 r p;clear p y;by_cases o:P k
   ·obtain rfl:t=true:=s.2 o;have u:=A4 o;clear s o;go_wp2;go_ret;exact⟨Or.inl ⟨k,m,u.out,d.out,rfl⟩,q⟩
   ·obtain rfl:t=false:=BQ s o;have u:=A4 o;clear s o;go_wp2;go_roundw
    case rel=>
     refine⟨k+1,by omega,by go_num,fun j B=>?_,q⟩;by_cases e:j=k
     ·subst e;exact u.out
     ·exact d.out j (by omega)
    case measure=>simp[intOf];omega
  ·obtain rfl:k=n:=(by omega);go_wp2;go_ret;exact⟨Or.inr ⟨d.out,rfl⟩,r⟩
theorem zCB(g:Nat)(k:Array Value)(r:Enters Tryz.prog g)(P:Nat->Prop)(v:Value)(n lo hi:Nat)(f:Nat->Aa)(w:World)(h:EE w lo hi v n f)(hn:n<=1000)
 (m:∀i,i<n->∀a c w',Below w.heap.size w w'->BG w' lo hi (.slice a (f i).dn c) (f i).dn (f i).ds (f i).db->Calls Tryz.prog g (#[.agg #[A0 (f i).id,.string (f i).name,.string (f i).set,A0 (f i).A8,A0 (f i).time,A0 (f i).rs,A0 (f i).rb,.slice a (f i).dn c]] ++ k) w' fun e l=>AJ (P i) e/\Below w'.heap.size w' l) :
 Calls Tryz.prog 109 #[v,.func (.func g) #[] k] w fun e w'=>AJ (∃i,i<n/\P i) e/\Below w.heap.size w w':=by
 have q:=A4 h;have p:=A4 m;obtain⟨-,a,c,rfl,-,-⟩:=h;clear m;go_enter Tryz.func109,Tryz.ntmps109;go_wp2_with fail;refine(zCY g k r P _ n lo hi f w q.out hn p.out).mono ?_;rintro e u ⟨s,b⟩;rcases s with⟨i,hi,o,-,rfl⟩ | ⟨d,rfl⟩
 ·have j:=A4 (show ∃i,i<n/\P i from⟨i,hi,o⟩);have t:(0:Int)<=(i:Int):=(by omega);clear o;go_wp2;go_ret;exact⟨AJ.yes j.out,b⟩
 ·have j:=A4 d;clear d;go_wp2;go_ret;exact⟨AJ.no fun ⟨i,hi,hq⟩=>j.out i hi hq,b⟩
theorem zCE(g:Nat)(D:Array Value)(z:Enters Tryz.prog g)(P:Nat->Prop)(v:Value)(n lo hi:Nat)(f:Nat->Ab)(w:World)(h:EJ w lo hi v n f)(hn:n<=1000)
 (A:∀i,i<n->∀a c w',Below w.heap.size w w'->BG w' lo hi (.slice a (f i).dn c) (f i).dn (f i).ds (f i).db->Calls Tryz.prog g (#[.agg #[.string (f i).name,A0 (f i).origin,A0 (f i).A8,A0 (f i).rs,A0 (f i).rb,.slice a (f i).dn c]] ++ D) w' fun e x=>AJ (P i) e/\Below w'.heap.size w' x) :
 Calls Tryz.prog 81 #[v,.func (.func g) #[] D] w fun e w'=>((∃i:Nat,i<n/\P i/\(∀j,j<i->¬P j)/\e = .returned (A0 (i:Int)))\/((∀j,j<n->¬P j)/\e = .returned (A0 (-1))))/\Below w.heap.size w w':=by
 have F:=A4 h;obtain⟨-,a,c,rfl,-,-⟩:=h;have E:=A4 A;clear A;have e0:∀(args:Array Value) (w:World),(callFunc g args).run Tryz.prog w = .ok (.enter g args) w:=z;clear z;go_enter Tryz.func81,Tryz.ntmps81;go_wp2
 go_loopw [8] (fun i wr=>∃k:Nat,k<=n/\i=A0 k/\(∀j,j<k->¬P j)/\Below w.heap.size w wr) (fun i _=>n - (intOf i).toNat)
 case atStart=>exact⟨0,Nat.zero_le _,rfl,fun j B=>absurd B (Nat.not_lt_zero _),Below.refl _ _⟩
 case round=>
  obtain⟨k,N,rfl,l,r⟩:=hrel;have d:=A4 l;clear l;by_cases m:k<n
  ·have C:(k:Int)<(n:Int):=(by omega);obtain⟨b,off,vd,rfl,hs⟩:=(F.out.A1 r).cells m;obtain⟨-,G,H,rfl,-,-⟩:=id hs.dead;have y:=A4 hs.dead;obtain⟨I,q1,J,K,L,M,-,-⟩:=hs;go_wp2_with fail;clear I q1 J K L M;refine(E.out k m G H wr r y.out).mono ?_;rintro e O ⟨⟨t,rfl,s⟩,p⟩;have q:=A9 r p;clear p y;by_cases o:P k
   ·obtain rfl:t=true:=s.2 o;have u:=A4 o;clear s o;go_wp2;go_ret;exact⟨Or.inl ⟨k,m,u.out,d.out,rfl⟩,q⟩
   ·obtain rfl:t=false:=BQ s o;have u:=A4 o;clear s o;go_wp2;go_roundw
    case rel=>
     refine⟨k+1,by omega,by go_num,fun j B=>?_,q⟩;by_cases e:j=k
     ·subst e;exact u.out
     ·exact d.out j (by omega)
    case measure=>simp[intOf];omega
  ·obtain rfl:k=n:=(by omega);go_wp2;go_ret;exact⟨Or.inr ⟨d.out,rfl⟩,r⟩
theorem Re(a:Option Addr)(n c:Nat)(xs:List Value)(w:World)(G:xs.length=n*6)(m:∀u∈xs,u.oneCell'=true)(hn:n<=1048576)
 (E:0<n->∃b off,a=some ⟨b,off,none⟩/\∀j u,xs[j]?=some u->w.cell? ⟨b,off+j,none⟩=some u) :
 Calls Tryz.prog 116 #[.slice a n c] w fun e w'=>∃o,e = .returned o/\w'.ownsRow w.heap.size 46 6 o n xs/\Below w.heap.size w w'/\(n=0->∃a,o = .slice a 0 0):=by
 have D:Hid (0<n->∃b off,a=some ⟨b,off,none⟩/\∀j u,xs[j]?=some u->w.cell? ⟨b,off+j,none⟩=some u):=E;have x:Hid (xs.length=n*6/\∀u∈xs,u.oneCell'=true):=⟨G,m⟩;clear E G m;have J:=fun w=>Lib.run_eql_slice_nil (P:=Tryz.prog) w 27 46 a n c 0 0 (by kernel_rfl)
 cases a with
 | none=>
  have A:n=0:=by
   by_cases h:0<n
   ·obtain⟨b,off,y,_⟩:=D.out h;simp at y
   ·omega
  subst A;have B:xs = []:=List.eq_nil_of_length_eq_zero (by simpa using x.out.1);subst B;go_enter Tryz.func116,Tryz.ntmps116;go_wp2;go_ret;exact⟨_,rfl,World.ownsRow_nil _ _ _ _,Below.refl _ _,fun _=>⟨_,rfl⟩⟩
 | some ad=>
  obtain⟨i0,hi,t⟩:=Option.map_eq_some_iff.1 zEG;simp only[Prod.mk.injEq]at t;obtain⟨H,hs,s⟩:=t;have v:Hid (Tryz.prog.info? 46=some i0/\i0.zero=some (.agg #[.string ⟨#[]⟩,A0 0,A0 0,A0 0,A0 0,A5])/\i0.size=6/\i0.bytes=72):=⟨hi,H,hs,s⟩;have d:Hid ((w.alloc (.cells #[] 46)).ownsRow w.heap.size 46 6 (.slice (some ⟨w.heap.size,0,none⟩) 0 0) 0 []):=World.ownsRow_made w #[] 0 (Nat.le_refl _) (Nat.zero_le _) (by simp);clear hi H hs s;go_enter Tryz.func116,Tryz.ntmps116;go_wp2_with (first
   | (at_builtin;refine Jt rfl _ _ 27 rfl w.heap.size 46 i0 (.agg #[.string ⟨#[]⟩,A0 0,A0 0,A0 0,A0 0,A5]) 6 72 (by kernel_rfl) v.out.1 v.out.2.1 v.out.2.2.1 v.out.2.2.2 rfl (by decide) _ _ _ rfl d.out (some ad) n c xs rfl x.out.1 x.out.2 ?c1 ?c3 ?c4 ?c5 ?_))
  case c1=>
   intro I;obtain⟨b,off,y,f⟩:=D.out I;exact⟨b,off,y,fun j u F=>(((Below.refl _ _).alloc (Nat.le_refl _) _).cell (AV (f j u F))).trans (f j u F)⟩
  case c3=>unfold maxLen;omega
  case c4=>omega
  case c5=>simp
  intro o C i g l;have z:Below w.heap.size w C:=((Below.refl _ _).alloc (Nat.le_refl _) _).grown g (by simp) (fun q K=>by have:=d.out.lt q K;omega);have k:C.ownsRow w.heap.size 46 6 o n xs:=(by simpa using i);have p:Hid (C.ownsRow w.heap.size 46 6 o n xs):=k;have r:Hid (n=0->o = .slice (some ⟨w.heap.size,0,none⟩) 0 0):=l;clear i k g l;go_wp2;go_ret;exact⟨o,rfl,p.out,z,fun e=>⟨_,r.out e⟩⟩
theorem P0(a:Option Addr)(n c:Nat)(xs:List Value)(w:World)(G:xs.length=n*8)(m:∀u∈xs,u.oneCell'=true)(hn:n<=1048576)
 (E:0<n->∃b off,a=some ⟨b,off,none⟩/\∀j u,xs[j]?=some u->w.cell? ⟨b,off+j,none⟩=some u) :
 Calls Tryz.prog 117 #[.slice a n c] w fun e w'=>∃o,e = .returned o/\w'.ownsRow w.heap.size 41 8 o n xs/\Below w.heap.size w w'/\(n=0->∃a,o = .slice a 0 0):=by
 have D:Hid (0<n->∃b off,a=some ⟨b,off,none⟩/\∀j u,xs[j]?=some u->w.cell? ⟨b,off+j,none⟩=some u):=E;have x:Hid (xs.length=n*8/\∀u∈xs,u.oneCell'=true):=⟨G,m⟩;clear E G m;have J:=fun w=>Lib.run_eql_slice_nil (P:=Tryz.prog) w 28 41 a n c 0 0 (by kernel_rfl)
 cases a with
 | none=>
  have A:n=0:=by
   by_cases h:0<n
   ·obtain⟨b,off,y,_⟩:=D.out h;simp at y
   ·omega
  subst A;have B:xs = []:=List.eq_nil_of_length_eq_zero (by simpa using x.out.1);subst B;go_enter Tryz.func117,Tryz.ntmps117;go_wp2;go_ret;exact⟨_,rfl,World.ownsRow_nil _ _ _ _,Below.refl _ _,fun _=>⟨_,rfl⟩⟩
 | some ad=>
  obtain⟨i0,hi,t⟩:=Option.map_eq_some_iff.1 Xd;simp only[Prod.mk.injEq]at t;obtain⟨H,hs,s⟩:=t;have v:Hid (Tryz.prog.info? 41=some i0/\i0.zero=some (.agg #[A0 0,.string ⟨#[]⟩,.string ⟨#[]⟩,A0 0,A0 0,A0 0,A0 0,A5])/\i0.size=8/\i0.bytes=96):=⟨hi,H,hs,s⟩;have d:Hid ((w.alloc (.cells #[] 41)).ownsRow w.heap.size 41 8 (.slice (some ⟨w.heap.size,0,none⟩) 0 0) 0 []):=World.ownsRow_made w #[] 0 (Nat.le_refl _) (Nat.zero_le _) (by simp);clear hi H hs s;go_enter Tryz.func117,Tryz.ntmps117;go_wp2_with (first
   | (at_builtin;refine Jt rfl _ _ 28 rfl w.heap.size 41 i0 (.agg #[A0 0,.string ⟨#[]⟩,.string ⟨#[]⟩,A0 0,A0 0,A0 0,A0 0,A5]) 8 96 (by kernel_rfl) v.out.1 v.out.2.1 v.out.2.2.1 v.out.2.2.2 rfl (by decide) _ _ _ rfl d.out (some ad) n c xs rfl x.out.1 x.out.2 ?c1 ?c3 ?c4 ?c5 ?_))
  case c1=>
   intro I;obtain⟨b,off,y,f⟩:=D.out I;exact⟨b,off,y,fun j u F=>(((Below.refl _ _).alloc (Nat.le_refl _) _).cell (AV (f j u F))).trans (f j u F)⟩
  case c3=>unfold maxLen;omega
  case c4=>omega
  case c5=>simp
  intro o C i g l;have z:Below w.heap.size w C:=((Below.refl _ _).alloc (Nat.le_refl _) _).grown g (by simp) (fun q K=>by have:=d.out.lt q K;omega);have k:C.ownsRow w.heap.size 41 8 o n xs:=(by simpa using i);have p:Hid (C.ownsRow w.heap.size 41 8 o n xs):=k;have r:Hid (n=0->o = .slice (some ⟨w.heap.size,0,none⟩) 0 0):=l;clear i k g l;go_wp2;go_ret;exact⟨o,rfl,p.out,z,fun e=>⟨_,r.out e⟩⟩
theorem ZL(v:Value)(n lo hi:Nat)(f g:Nat->Int)(w:World)(S:BG w lo hi v n f g)(hn:n<=1048576) :
 Calls Tryz.prog 118 #[v] w fun e w'=>(∃y x,e = .returned y/\CN w' 38 2 y n/\CS w' x y n f g/\(0<n->w.heap.size<=x/\x<w'.heap.size))/\Below w.heap.size w w':=by
 obtain⟨Q,a,c,rfl,X,L⟩:=S;have G:Hid (0<n->∃b off,a=some ⟨b,off,none⟩/\lo<=b/\b<hi/\∀i,i<n->w.cell? ⟨b,off+i*2,none⟩=some (A0 (f i))/\w.cell? ⟨b,off+i*2+1,none⟩=some (A0 (g i))):=L;have R:Hid (n<=maxLen):=Q;clear L Q;have V:=fun w=>Lib.run_eql_slice_nil (P:=Tryz.prog) w 39 38 a n c 0 0 (by kernel_rfl)
 cases a with
 | none=>
  have J:n=0:=by
   by_cases h:0<n
   ·obtain⟨b,off,r,_⟩:=G.out h;simp at r
   ·omega
  subst J;go_enter Tryz.func118,Tryz.ntmps118;go_wp2;go_ret;exact⟨⟨_,0,rfl,Or.inl ⟨rfl,_,rfl⟩,⟨Nat.zero_le _,none,0,rfl,Nat.le_refl _,fun h=>absurd h (Nat.lt_irrefl _)⟩,fun h=>absurd h (Nat.lt_irrefl _)⟩,Below.refl _ _⟩
 | some ad=>
  obtain⟨i0,hi,C⟩:=Option.map_eq_some_iff.1 Lw;simp only[Prod.mk.injEq]at C;obtain⟨O,hs,B⟩:=C;have t:∀(w':World),Below w.heap.size w w'->∀j u,(kc f g n)[j]?=some u->w'.cell? (ad.add j)=some u:=fun w' T j u F=>by
   by_cases A:0<n
   ·obtain⟨b,off,r,_,_,U⟩:=G.out A;simp only[Option.some.injEq]at r;subst r;have:=Ui U j u F;have l:(⟨b,off,none⟩:Addr).add j=⟨b,off+j,none⟩:=(by unfold Addr.add;split<;>simp_all);rw[l]at this ⊢;exact(T.cell (AV this)).trans this
   ·obtain rfl:n=0:=(by omega);simp[kc]at F
  have z:Hid (∀(w':World),Below w.heap.size w w'->∀j u,(kc f g n)[j]?=some u->w'.cell? (ad.add j)=some u):=t;have E:Hid (Tryz.prog.info? 38=some i0/\i0.zero=some (.agg #[A0 0,A0 0])/\i0.size=2/\i0.bytes=16):=⟨hi,O,hs,B⟩;have p:(w.alloc (.cells #[] 38)).ownsRow w.heap.size 38 2 (.slice (some ⟨w.heap.size,0,none⟩) 0 0) 0 []:=World.ownsRow_made w #[] 0 (Nat.le_refl _) (Nat.zero_le _) (by simp);have k:Hid ((w.alloc (.cells #[] 38)).ownsRow w.heap.size 38 2 (.slice (some ⟨w.heap.size,0,none⟩) 0 0) 0 []):=p;clear hi O hs B t p;go_enter Tryz.func118,Tryz.ntmps118;go_wp2_with (first
   | (at_builtin;refine Jt rfl _ _ 39 rfl w.heap.size 38 i0 (.agg #[A0 0,A0 0]) 2 16 (by kernel_rfl) E.out.1 E.out.2.1 E.out.2.2.1 E.out.2.2.2 rfl (by decide) _ _ _ rfl k.out (some ad) n c (kc f g n) rfl (KH f g n) (Zq f g n) ?c1 ?c3 ?c4 ?c5 ?_))
  case c1=>
   intro A;obtain⟨b,off,r,_,_,_⟩:=G.out A;simp only[Option.some.injEq]at r;refine⟨b,off,by rw[r],fun j u F=>?_⟩;have:=z.out _ ((Below.refl _ _).alloc (Nat.le_refl _) (.cells #[] 38)) j u F;have l:(⟨b,off,none⟩:Addr).add j=⟨b,off+j,none⟩:=(by unfold Addr.add;split<;>simp_all);rw[r,l]at this;exact this
  case c3=>unfold maxLen;omega
  case c4=>omega
  case c5=>simp
  intro y D o m s;have I:Below w.heap.size w D:=((Below.refl _ _).alloc (Nat.le_refl _) _).grown m (by simp) (fun q W=>by have:=k.out.lt q W;omega);have d:D.ownsRow w.heap.size 38 2 y n (kc f g n):=(by simpa using o);obtain⟨x,N,M⟩:=Yv R.out d;have H:Hid (CN D 38 2 y n):=J8 d (fun A=>⟨_,s A⟩);have K:Hid (CS D x y n f g/\(0<n->w.heap.size<=x/\x<D.heap.size)):=⟨N,M⟩;clear N M o d m s;go_wp2;go_ret;exact⟨⟨y,x,rfl,H.out,K.out.1,K.out.2⟩,I⟩
end
end Go.Proofs.YtddigaohmfpepaaGreatDoor
