/- A part of the proof. -/
import Derived.Test.YtddigaohmfpepaaGreatDoorF14
import Derived.WideKeyEntry
set_option linter.unusedVariables false
set_option maxRecDepth 20000
set_option maxHeartbeats 4000000
namespace Go.Proofs.YtddigaohmfpepaaGreatDoor
noncomputable section
open Go.RowKit
structure Bm where
 world:A6
 id:Int
 many:Int
 code:Int
abbrev zJG(v0 v1 v2 v3:Value)(o:Bm):Value:=.agg #[v0,v1,A0 o.world.time,A0 o.world.next,v2,v3,A0 o.id,A0 o.many,A0 o.code]
def Iv(o:Bm)(w:World)(e:Ending)(w':World):Prop:=∃v0 v1 v2 v3,e = .returned (zJG v0 v1 v2 v3 o)/\EL w' w.heap.size w'.heap.size v0 v1 v2 v3 o.world/\Below w.heap.size w w'
variable{w:World}
theorem Bb.six{b:Nat}{v0 v1 v2 v3 v4 v5 v6 v7 v8:Value}(h:Bb w b v0 v1 v2 v3 v4 v5 v6 v7 v8)(d f u2 u3 u4 g:Value):Bb (put6 w b d f u2 u3 u4 g) b d f u2 u3 u4 g v6 v7 v8:=
 have H (i j:Nat) (u v:Value) (e:[d,f,u2,u3,u4,g][i]?=some u) (a:0+i=j) (c:AO w b j v):AO (Ma w b 0 [d,f,u2,u3,u4,g]) b j u:=LY [d,f,u2,u3,u4,g] w 0 i j e a c;have K (j:Nat) (v:Value) (a:j<0\/6<=j) (c:AO w b j v):AO (Ma w b 0 [d,f,u2,u3,u4,g]) b j v:=Q4 [d,f,u2,u3,u4,g] w 0 c a
 ⟨H 0 0 _ _ rfl rfl h.1,H 1 1 _ _ rfl rfl h.2.1,H 2 2 _ _ rfl rfl h.2.2.1,H 3 3 _ _ rfl rfl h.2.2.2.1,H 4 4 _ _ rfl rfl h.2.2.2.2.1,H 5 5 _ _ rfl rfl h.2.2.2.2.2.1,K 6 _ (by omega) h.2.2.2.2.2.2.1,K 7 _ (by omega) h.2.2.2.2.2.2.2.1,K 8 _ (by omega) h.2.2.2.2.2.2.2.2⟩
variable{v:Value}
theorem AO.under{w':World}{B b o:Nat}(h:AO w b o v)(t:Below B w w')(a:b<B):AO w' b o v:=⟨(t.cell (p:=⟨b,o,none⟩) a).trans h.1,(t.frozen (p:=⟨b,o,none⟩) a).trans h.2⟩
def BP(c:Int):Bm:=⟨noW,0,0,c⟩
def Ez(r:Option Nat)(o:Bm):Bm:=match r with
 | some i=>BP (Ca i)
 | none=>o
variable{l:List (Int×Int)}{i:Nat}
theorem ye(hi:i<l.length):(AN l i,AP l i)=l[i]:=by
 unfold AN AP;rw[List.getD_eq_getElem?_getD,List.getElem?_eq_getElem hi];rfl
variable{p:A7}
theorem CT.ptrs(h:CT p l)(r:l.length<=200):Cf l.length (AN l) (AP l):=by
 refine⟨by omega,fun i hi=>?_,fun i hi k q e=>?_⟩
 ·have m:(AN l i,AP l i)∈l:=(by rw[ye hi];exact List.getElem_mem hi);have a:=(h.2.1 _ m).1;have g:=Ey h.1 a;have f:=g.1;have n:=h.1.1;unfold B8 at a;unfold DS at f;unfold FU;dsimp only at a f ⊢;have o:=a.2.2.2;omega
 ·have hn:=h.2.2;have hi':i<(l.map Prod.fst).length:=(by rw[List.length_map];exact hi);have c:k<(l.map Prod.fst).length:=(by rw[List.length_map];omega);have d:∀j (b:j<(l.map Prod.fst).length),(l.map Prod.fst)[j]=AN l j:=fun j b=>by
   rw[List.length_map]at b;rw[List.getElem_map];unfold AN;rw[List.getD_eq_getElem?_getD,List.getElem?_eq_getElem b];rfl
  have:=(List.getElem_inj (h₀:=c) (h₁:=hi') hn).1 (by rw[d,d];exact e);omega
theorem Vd(l:List (Int×Int)):((List.range l.length).map fun i=>(AN l i,AP l i))=l:=by
 refine List.ext_getElem (by simp) (fun i b a=>?_);rw[List.getElem_map,List.getElem_range];exact ye a
def Bu(n:Nat)(f g:Nat->Int):List (Int×Int):=(List.range n).map fun i=>(f i,g i)
theorem Jm(n:Nat)(f g:Nat->Int):(Bu n f g).length=n:=by
 unfold Bu;rw[List.length_map,List.length_range]
variable{n:Nat}
theorem Q6(f g:Nat->Int)(hi:i<n):AN (Bu n f g) i=f i/\AP (Bu n f g) i=g i:=by
 unfold AN AP Bu;rw[List.getD_eq_getElem?_getD,List.getElem?_map,List.getElem?_range hi];exact⟨rfl,rfl⟩
theorem Ux(f g:Nat->Int)(t:Int):∀n,(C6 f g t n).length<=n
 | 0=>Nat.le_refl _
 | n+1=>by
  have:=Ux f g t n;unfold C6;split
  ·omega
  ·rw[List.length_append,List.length_singleton];omega
variable{x:Int}
theorem J7:x∈Bk l↔∃y,(x,y)∈l:=by
 unfold Bk;rw[List.mem_map];constructor
 ·rintro⟨⟨a,b⟩,h,rfl⟩;exact⟨b,h⟩
 ·rintro⟨y,h⟩;exact⟨(x,y),h,rfl⟩
variable{xs xb:Int}
theorem ZF:x∈Bk (one xs xb)↔x=xs/\¬Nil xs xb:=by
 rw[J7];constructor
 ·rintro⟨y,h⟩;obtain⟨e,hn⟩:=Pk.1 h;simp only[Prod.mk.injEq]at e;exact⟨e.1,hn⟩
 ·rintro⟨rfl,hn⟩;exact⟨xb,Pk.2 ⟨rfl,hn⟩⟩
variable{k:Nat}
theorem Oo{ks kb:Nat->Int}:x∈Bk (kidsUp ks kb k)↔∃i,i<k/\x=ks i/\¬Nil (ks i) (kb i):=by
 rw[J7];constructor
 ·rintro⟨y,h⟩;obtain⟨i,hi,e,hn⟩:=Gk.1 h;simp only[Prod.mk.injEq]at e;exact⟨i,hi,e.1,hn⟩
 ·rintro⟨i,hi,rfl,hn⟩;exact⟨kb i,Gk.2 ⟨i,hi,rfl,hn⟩⟩
theorem zDp(xs xb:Int):(Bk (one xs xb)).Nodup:=by
 unfold one Bk;split<;>simp
theorem Og{ks kb:Nat->Int}:∀{k:Nat},(Bk (kidsUp ks kb k)).Nodup↔∀i,i<k->∀j,j<i->¬Nil (ks i) (kb i)->¬Nil (ks j) (kb j)->ks j≠ks i
 | 0=>by simp[kidsUp,Bk]
 | k+1=>by
  rw[kidsUp,L2,List.nodup_append,Og (k:=k)];constructor
  ·rintro⟨g,_,l⟩ i hi j c f d;by_cases e:i=k
   ·subst e;exact l _ (Oo.2 ⟨j,c,rfl,d⟩) _ (ZF.2 ⟨rfl,f⟩)
   ·exact g i (by omega) j c f d
  ·intro h;refine⟨fun i hi j c=>h i (by omega) j c,zDp _ _,fun a m b n=>?_⟩;obtain⟨j,c,rfl,d⟩:=Oo.1 m;obtain⟨rfl,o⟩:=ZF.1 n;exact h k (Nat.lt_succ_self k) j c o d
theorem YT{p:A7}{s:AH}:∀{k:Nat},(Bk (CR p s k)).Nodup↔(∀i,i<k->(Bk (Ck p (AK s i) (AW s i))).Nodup)/\∀i,i<k->∀j,j<i->∀x,x∈Bk (Ck p (AK s j) (AW s j))->∀y,y∈Bk (Ck p (AK s i) (AW s i))->x≠y
 | 0=>by simp[CR,Bk]
 | k+1=>by
  rw[CR,L2,List.nodup_append,YT (k:=k)];constructor
  ·rintro⟨⟨c,d⟩,n,o⟩;refine⟨fun i hi=>?_,fun i hi j f x l y m=>?_⟩
   ·by_cases e:i=k
    ·subst e;exact n
    ·exact c i (by omega)
   ·by_cases e:i=k
    ·subst e;obtain⟨z,g⟩:=J7.1 l;exact o x (J7.2 ⟨z,Gf.2 ⟨j,f,g⟩⟩) y m
    ·exact d i (by omega) j f x l y m
  ·rintro⟨c,d⟩;refine⟨⟨fun i hi=>c i (by omega),fun i hi=>d i (by omega)⟩,c k (Nat.lt_succ_self k),fun a q b r=>?_⟩;obtain⟨z,g⟩:=J7.1 q;obtain⟨j,f,h⟩:=Gf.1 g;exact d k (Nat.lt_succ_self k) j f a (J7.2 ⟨z,h⟩) b r
variable{yb:Int}
theorem Gg{y:Int}(h:Db p x xb)(a:Ep p y yb):x≠y:=fun e=>by
 subst e;have:=h.2.1;have:=a.2.1;omega
theorem OW(h:Db p x xb):¬Nil x xb:=fun e=>by
 have:=h.1.1;have:=e.2;omega
theorem Vb{rs:Int}(a:LJ p (p.s rs.toNat))(hi:i<8)(hn:¬Nil (AK (p.s rs.toNat) i) (AW (p.s rs.toNat) i)):AK (p.s rs.toNat) i≠rs:=fun e=>by
 have b:=(a.1 i hi).resolve_left hn;rw[e]at b;obtain⟨j,c,d⟩:=a.2;have f:=((a.1 j c).resolve_left d).1;have g:=(b.2.1 j c).resolve_left d;exact Gg f g rfl
def SB(p:A7)(s:AH):Prop:=
 (∀i,i<8->∀j,j<8->¬Nil (AK s i) (AW s i)->¬Nil (AK s j) (AW s j)->AK s j=AK s i->j=i)/\
 ∀i,i<8->∀j,j<8->∀a,a<8->∀c,c<8->¬Nil (AK s i) (AW s i)->¬Nil (AK s j) (AW s j)->
  ¬Nil (AK (p.s (AK s i).toNat) a) (AW (p.s (AK s i).toNat) a)->¬Nil (AK (p.s (AK s j).toNat) c) (AW (p.s (AK s j).toNat) c)->
  AK (p.s (AK s j).toNat) c=AK (p.s (AK s i).toNat) a->j=i/\c=a
theorem Fj:x∈Bk (Ck p xs xb)↔¬Nil xs xb/\(x=xs\/∃a,a<8/\x=AK (p.s xs.toNat) a/\¬Nil (AK (p.s xs.toNat) a) (AW (p.s xs.toNat) a)):=by
 unfold Ck;by_cases h:Nil xs xb
 ·rw[if_pos h];simp[Bk,h]
 ·rw[if_neg h];show x∈xs :: Bk (Eh (p.s xs.toNat))↔_;rw[List.mem_cons];unfold Eh;rw[Oo];exact⟨fun b=>⟨h,b⟩,fun b=>b.2⟩
theorem Xo{rs rb:Int}(E:Db p rs rb)(A:LJ p (p.s rs.toNat)):(Bk (AG p rs rb)).Nodup↔SB p (p.s rs.toNat):=by
 have D:=OW E;have k:∀i,i<8->¬Nil (AK (p.s rs.toNat) i) (AW (p.s rs.toNat) i)->Db p (AK (p.s rs.toNat) i) (AW (p.s rs.toNat) i):=fun i hi hn=>((A.1 i hi).resolve_left hn).1
 have d:∀i,i<8->¬Nil (AK (p.s rs.toNat) i) (AW (p.s rs.toNat) i)->∀a,a<8->¬Nil (AK (p.s (AK (p.s rs.toNat) i).toNat) a) (AW (p.s (AK (p.s rs.toNat) i).toNat) a)->Ep p (AK (p.s (AK (p.s rs.toNat) i).toNat) a) (AW (p.s (AK (p.s rs.toNat) i).toNat) a):=fun i hi hn a g f=>(((A.1 i hi).resolve_left hn).2.1 a g).resolve_left f
 unfold AG;rw[if_neg D];show(rs :: Bk (CR p (p.s rs.toNat) 8)).Nodup↔_;rw[List.nodup_cons,YT];constructor
 ·rintro⟨_,v,q⟩;refine⟨fun i hi j t b l e=>?_,fun i hi j t a g c r b l f n e=>?_⟩
  ·rcases Nat.lt_trichotomy j i with h | h | h
   ·exact absurd e (q i hi j h _ (Fj.2 ⟨l,Or.inl rfl⟩) _ (Fj.2 ⟨b,Or.inl rfl⟩))
   ·exact h
   ·exact absurd e.symm (q j t i h _ (Fj.2 ⟨b,Or.inl rfl⟩) _ (Fj.2 ⟨l,Or.inl rfl⟩))
  ·rcases Nat.lt_trichotomy j i with h | h | h
   ·exact absurd e (q i hi j h _ (Fj.2 ⟨l,Or.inr ⟨c,r,rfl,n⟩⟩) _ (Fj.2 ⟨b,Or.inr ⟨a,g,rfl,f⟩⟩))
   ·subst h;refine⟨rfl,?_⟩;have w:=v j t;unfold Ck at w;rw[if_neg l]at w;have u:(Bk (Eh (p.s (AK (p.s rs.toNat) j).toNat))).Nodup:=(List.nodup_cons.1 w).2;unfold Eh at u;rw[Og]at u;rcases Nat.lt_trichotomy c a with h | h | h
    ·exact absurd e (u a g c h f n)
    ·exact h
    ·exact absurd e.symm (u c r a h n f)
   ·exact absurd e.symm (q j t i h _ (Fj.2 ⟨b,Or.inr ⟨a,g,rfl,f⟩⟩) _ (Fj.2 ⟨l,Or.inr ⟨c,r,rfl,n⟩⟩))
 ·rintro⟨v,q⟩;refine⟨fun B=>?_,fun i hi=>?_,fun i hi j t x C y F e=>?_⟩
  ·obtain⟨z,D⟩:=J7.1 B;obtain⟨i,hi,C⟩:=Gf.1 D;obtain⟨b,h | ⟨a,g,h,f⟩⟩:=Fj.1 (J7.2 ⟨z,C⟩)
   ·exact Vb A hi b h.symm
   ·exact Gg E (d i hi b a g f) h
  ·by_cases b:Nil (AK (p.s rs.toNat) i) (AW (p.s rs.toNat) i)
   ·unfold Ck;rw[if_pos b];simp[Bk]
   ·unfold Ck;rw[if_neg b];show(AK (p.s rs.toNat) i :: Bk (Eh _)).Nodup;rw[List.nodup_cons];unfold Eh;refine⟨fun B=>?_,?_⟩
    ·obtain⟨a,g,h,f⟩:=Oo.1 B;exact Gg (k i hi b) (d i hi b a g f) h
    ·rw[Og];intro a g c r f n e;have:=(q i hi i hi a g c (by omega) b b f n e).2;omega
  ·have m:j<8:=(by omega);subst e;obtain⟨l,h | ⟨c,r,h,n⟩⟩:=Fj.1 C
   ·obtain⟨b,o | ⟨a,g,o,f⟩⟩:=Fj.1 F
    ·have:=v i hi j m b l (by rw[<-h,<-o]);omega
    ·exact Gg (k j m l) (d i hi b a g f) (h▸o)
   ·obtain⟨b,o | ⟨a,g,o,f⟩⟩:=Fj.1 F
    ·exact Gg (k i hi b) (d j m l c r n) (o▸h)
    ·have:=(q i hi j m a g c r b l f n (by rw[<-h,<-o])).1;omega
structure Ext (p q:A7):Prop where
 n:q.n=p.n
 hn:q.hn=p.hn
 h:q.h=p.h
 s:∀j,¬Ah (p.s j)->q.s j=p.s j
theorem Ext.refl(p:A7):Ext p p:=⟨rfl,rfl,rfl,fun _ _=>rfl⟩
variable{q:A7}
theorem Ext.trans{r:A7}(h:Ext p q)(k:Ext q r):Ext p r:=⟨k.n.trans h.n,k.hn.trans h.hn,k.h.trans h.h,fun j a=>(k.s j (by rw[h.s j a];exact a)).trans (h.s j a)⟩
theorem Ext.set(hi:Ah (p.s i))(s:AH):Ext p (Au p i s):=⟨rfl,rfl,rfl,fun j a=>J2 p s (fun e=>a (e▸hi))⟩
theorem Re(h:B8 p xs xb):¬Ah (p.s xs.toNat):=fun a=>by
 have:=a.1;have:=h.1;have:=h.2.2.2;omega
theorem Ext.at(h:Ext p q)(a:B8 p xs xb):q.s xs.toNat=p.s xs.toNat:=h.s _ (Re a)
theorem Ext.points(h:Ext p q)(a:B8 p xs xb):B8 q xs xb:=⟨a.1,a.2.1,by rw[h.n];exact a.2.2.1,by rw[h.at a];exact a.2.2.2⟩
theorem Ext.has(h:Ext p q)(x:Int):Has q.hn q.h x↔Has p.hn p.h x:=by rw[h.hn,h.h]
theorem Ext.node(h:Ext p q)(a:Db p xs xb):Db q xs xb:=⟨h.points a.1,by rw[h.at a.1];exact a.2.1,fun e=>a.2.2 ((h.has xs).1 e)⟩
theorem Ext.AM(h:Ext p q)(a:Ep p xs xb):Ep q xs xb:=⟨h.points a.1,by rw[h.at a.1];exact a.2.1,fun e=>a.2.2 ((h.has xs).1 e)⟩
variable{s:AH}
theorem Ext.low(h:Ext p q)(a:LG p s):LG q s:=⟨fun i hi=>(a.1 i hi).imp id h.AM,a.2⟩
theorem Ext.kid(h:Ext p q)(b:Nil xs xb\/B8 p xs xb)(i:Nat):BU q xs xb i=BU p xs xb i/\Be q xs xb i=Be p xs xb i:=by
 unfold BU Be;by_cases a:Nil xs xb
 ·simp only[if_pos a];exact⟨trivial,trivial⟩
 ·simp only[if_neg a];rw[h.at (b.resolve_left a)];exact⟨rfl,rfl⟩
theorem YX(b:B3 p xs xb):Nil xs xb\/B8 p xs xb:=b.imp id (fun a=>a.1.1)
theorem Yt(a:As p xs xb)(hi:i<8):Nil (BU p xs xb i) (Be p xs xb i)\/B8 p (BU p xs xb i) (Be p xs xb i):=(LX a hi).imp id And.left
theorem Ext.pages(h:Ext p q)(a:As p xs xb)(b:k<64):BZ q xs xb k=BZ p xs xb k/\Bg q xs xb k=Bg p xs xb k:=by
 unfold BZ Bg BV Bj;rw[(h.kid (YX a.2) (k / 8)).1,(h.kid (YX a.2) (k / 8)).2];exact h.kid (Yt a (by omega)) (k % 8)
def Fx(p:A7)(x:Int):Prop:=Ah (p.s x.toNat)
structure New (p:A7) (xs xb:Int) (n:Nat) (b:Int) (q:A7) (ys yb ms mb gs gb:Int):Prop where
 ext:Ext p q
 right:AZ q
 AM:Nil gs gb\/(Ep q gs gb/\Fx p gs)
 node:(Nil ms mb/\Df (Ao p xs xb n 1 gs) (Am p xs xb n 1 gb))\/(Db q ms mb/\Fx p ms/\q.s ms.toNat=Bc (Ao p xs xb n 1 gs) (Am p xs xb n 1 gb) b/\¬Df (Ao p xs xb n 1 gs) (Am p xs xb n 1 gb))
 root:(Nil ys yb/\Df (Ao p xs xb n 0 ms) (Am p xs xb n 0 mb))\/(Db q ys yb/\Fx p ys/\q.s ys.toNat=Bc (Ao p xs xb n 0 ms) (Am p xs xb n 0 mb) b/\¬Df (Ao p xs xb n 0 ms) (Am p xs xb n 0 mb))
 born:Nil gs gb\/gb=b
 only:∀j,q.s j=p.s j\/((j:Int)=gs/\¬Nil gs gb)\/((j:Int)=ms/\¬Nil ms mb)\/((j:Int)=ys/\¬Nil ys yb)
theorem Gi(f g:Nat->Int)(b:Int)(hi:i<8):AK (Bc f g b) i=f i/\AW (Bc f g b) i=g i:=⟨FE rfl hi,FD rfl hi⟩
variable{b ys ms mb gs gb:Int}
theorem New.nodes(h:New p xs xb n b q ys yb ms mb gs gb)(hi:i<8):BU q ys yb i=Ao p xs xb n 0 ms i/\Be q ys yb i=Am p xs xb n 0 mb i:=by
 unfold BU Be;rcases h.root with⟨a,c⟩ | ⟨a,c,d,e⟩
 ·simp only[if_pos a];exact⟨(c i hi).1.symm,(c i hi).2.symm⟩
 ·simp only[if_neg (OW a)];rw[d];exact Gi _ _ _ hi
theorem New.lows(h:New p xs xb n b q ys yb ms mb gs gb)(hi:i<8):BU q ms mb i=Ao p xs xb n 1 gs i/\Be q ms mb i=Am p xs xb n 1 gb i:=by
 unfold BU Be;rcases h.node with⟨a,c⟩ | ⟨a,c,d,e⟩
 ·simp only[if_pos a];exact⟨(c i hi).1.symm,(c i hi).2.symm⟩
 ·simp only[if_neg (OW a)];rw[d];exact Gi _ _ _ hi
theorem EB(hi:i≠n / 8):Ao p xs xb n 0 x i=BU p xs xb i/\Am p xs xb n 0 x i=Be p xs xb i:=⟨if_neg hi,if_neg hi⟩
theorem NU(hi:i≠n % 8):Ao p xs xb n 1 x i=BU p (BV p xs xb n) (Bj p xs xb n) i/\Am p xs xb n 1 x i=Be p (BV p xs xb n) (Bj p xs xb n) i:=⟨if_neg hi,if_neg hi⟩
theorem New.pages(h:New p xs xb n b q ys yb ms mb gs gb)(d:As p xs xb)(m:k<64):BZ q ys yb k=(if k=n then gs else BZ p xs xb k)/\Bg q ys yb k=(if k=n then gb else Bg p xs xb k):=by
 obtain⟨j,l⟩:=h.nodes (i:=k / 8) (by omega);unfold BZ Bg;rw[show BV q ys yb k=Ao p xs xb n 0 ms (k / 8)from j,show Bj q ys yb k=Am p xs xb n 0 mb (k / 8)from l];by_cases e:k / 8=n / 8
 ·rw[show Ao p xs xb n 0 ms (k / 8)=ms from if_pos e,show Am p xs xb n 0 mb (k / 8)=mb from if_pos e];obtain⟨f,g⟩:=h.lows (i:=k % 8) (by omega);rw[f,g];by_cases c:k % 8=n % 8
  ·have a:k=n:=(by omega);rw[if_pos a,if_pos a];exact⟨if_pos c,if_pos c⟩
  ·have a:k≠n:=fun h=>c (by rw[h])
   rw[if_neg a,if_neg a,(NU c).1,(NU c).2];unfold BV Bj;rw[e];exact⟨rfl,rfl⟩
 ·have a:k≠n:=fun h=>e (by rw[h])
  rw[if_neg a,if_neg a,(EB e).1,(EB e).2];exact h.ext.kid (Yt d (by omega)) (k % 8)
variable{z:Int×Int}
theorem GA(o:As p xs xb):z∈AG p xs xb↔(z=(xs,xb)/\¬Nil xs xb)\/(∃i,i<8/\z=(BU p xs xb i,Be p xs xb i)/\¬Nil (BU p xs xb i) (Be p xs xb i))\/∃k,k<64/\z=(BZ p xs xb k,Bg p xs xb k)/\¬Nil (BZ p xs xb k) (Bg p xs xb k):=by
 by_cases c:Nil xs xb
 ·have e0:∀i,BU p xs xb i=0/\Be p xs xb i=0:=fun i=>⟨if_pos c,if_pos c⟩
  have d:∀k,Nil (BZ p xs xb k) (Bg p xs xb k):=fun k=>by
   have hn:Nil (BV p xs xb k) (Bj p xs xb k):=e0 (k / 8);exact⟨if_pos hn,if_pos hn⟩
  unfold AG;rw[if_pos c];constructor
  ·intro h;simp at h
  ·rintro(⟨_,h⟩ | ⟨i,_,_,h⟩ | ⟨k,_,_,h⟩)
   ·exact absurd c h
   ·exact absurd (e0 i) h
   ·exact absurd (d k) h
 ·have e0:∀i,BU p xs xb i=AK (p.s xs.toNat) i/\Be p xs xb i=AW (p.s xs.toNat) i:=fun i=>⟨if_neg c,if_neg c⟩
  unfold AG;rw[if_neg c,List.mem_cons,Gf];constructor
  ·rintro(h | ⟨i,hi,h⟩)
   ·exact Or.inl ⟨h,c⟩
   ·obtain⟨hn,h⟩:=I5.1 h;rw[<-(e0 i).1,<-(e0 i).2]at hn;rcases h with h | h
    ·exact Or.inr (Or.inl ⟨i,hi,by rw[(e0 i).1,(e0 i).2];exact h,hn⟩)
    ·obtain⟨a,q,h,n⟩:=Gk.1 h;have q1:(i*8+a) / 8=i:=(by omega);have l:(i*8+a) % 8=a:=(by omega);have d:BZ p xs xb (i*8+a)=AK (p.s (AK (p.s xs.toNat) i).toNat) a:=by
      unfold BZ BV Bj;rw[q1,l];unfold BU at hn ⊢;rw[if_neg c]at hn ⊢;rw[if_neg hn]
     have f:Bg p xs xb (i*8+a)=AW (p.s (AK (p.s xs.toNat) i).toNat) a:=by
      have e:=hn;rw[(e0 i).1,(e0 i).2]at e;unfold Bg BV Bj;rw[q1,l,(e0 i).1,(e0 i).2];exact if_neg e
     exact Or.inr (Or.inr ⟨i*8+a,by omega,by rw[d,f];exact h,by rw[d,f];exact n⟩)
  ·rintro(⟨h,_⟩ | ⟨i,hi,h,hn⟩ | ⟨k,r,h,hn⟩)
   ·exact Or.inl h
   ·rw[(e0 i).1,(e0 i).2]at h hn;exact Or.inr ⟨i,hi,I5.2 ⟨hn,Or.inl h⟩⟩
   ·have b:¬Nil (BV p xs xb k) (Bj p xs xb k):=fun j=>hn ⟨if_pos j,if_pos j⟩
    have d:BZ p xs xb k=AK (p.s (BV p xs xb k).toNat) (k % 8):=if_neg b;have f:Bg p xs xb k=AW (p.s (BV p xs xb k).toNat) (k % 8):=if_neg b;rw[d,f]at h hn;have g:BV p xs xb k=AK (p.s xs.toNat) (k / 8):=(e0 (k / 8)).1;have m:Bj p xs xb k=AW (p.s xs.toNat) (k / 8):=(e0 (k / 8)).2;rw[g]at h hn;rw[g,m]at b;exact Or.inr ⟨k / 8,by omega,I5.2 ⟨b,Or.inr (Gk.2 ⟨k % 8,by omega,h,hn⟩)⟩⟩
theorem DT(a:¬Nil xs xb)(i:Nat):BU p xs xb i=AK (p.s xs.toNat) i/\Be p xs xb i=AW (p.s xs.toNat) i:=⟨if_neg a,if_neg a⟩
theorem Nf(b:¬Nil xs xb){a:Nat}(d:a<8)(hn:¬Nil (AK (p.s xs.toNat) i) (AW (p.s xs.toNat) i)):BZ p xs xb (i*8+a)=AK (p.s (AK (p.s xs.toNat) i).toNat) a/\Bg p xs xb (i*8+a)=AW (p.s (AK (p.s xs.toNat) i).toNat) a:=by
 have q1:(i*8+a) / 8=i:=by omega
 have c:(i*8+a) % 8=a:=by omega
 unfold BZ Bg BV Bj;rw[q1,c,(DT b i).1,(DT b i).2];exact⟨if_neg hn,if_neg hn⟩
def QT(p:A7)(xs xb:Int):Prop:=∀i,i<8->∀j,j<8->¬Nil (BU p xs xb i) (Be p xs xb i)->¬Nil (BU p xs xb j) (Be p xs xb j)->BU p xs xb j=BU p xs xb i->j=i
def QU(p:A7)(xs xb:Int):Prop:=∀k,k<64->∀l,l<64->¬Nil (BZ p xs xb k) (Bg p xs xb k)->¬Nil (BZ p xs xb l) (Bg p xs xb l)->BZ p xs xb l=BZ p xs xb k->l=k
theorem Ra(h:¬Nil (BZ p xs xb k) (Bg p xs xb k)):¬Nil (BV p xs xb k) (Bj p xs xb k):=fun a=>h ⟨if_pos a,if_pos a⟩
theorem Oi(h:¬Nil (BU p xs xb i) (Be p xs xb i)):¬Nil xs xb:=fun a=>h ⟨if_pos a,if_pos a⟩
theorem zES(b:¬Nil xs xb)(h:SB p (p.s xs.toNat)):QT p xs xb/\QU p xs xb:=by
 refine⟨fun i hi j q n o e=>?_,fun k r l t g m e=>?_⟩
 ·rw[(DT b i).1,(DT b i).2]at n;rw[(DT b j).1,(DT b j).2]at o;rw[(DT b i).1,(DT b j).1]at e;exact h.1 i hi j q n o e
 ·have mk:=Ra g;have f:=Ra m;rw[show BV p xs xb k=AK (p.s xs.toNat) (k / 8)from(DT b _).1,show Bj p xs xb k=AW (p.s xs.toNat) (k / 8)from(DT b _).2]at mk;rw[show BV p xs xb l=AK (p.s xs.toNat) (l / 8)from(DT b _).1,show Bj p xs xb l=AW (p.s xs.toNat) (l / 8)from(DT b _).2]at f;have c:=Nf b (a:=k % 8) (by omega) mk;have d:=Nf b (a:=l % 8) (by omega) f;rw[show k / 8*8+k % 8=k by omega]at c;rw[show l / 8*8+l % 8=l by omega]at d;rw[c.1,c.2]at g;rw[d.1,d.2]at m;rw[c.1,d.1]at e;have:=h.2 (k / 8) (by omega) (l / 8) (by omega) (k % 8) (by omega) (l % 8) (by omega) mk f g m e;omega
theorem zEw(b:¬Nil xs xb)(n:QT p xs xb)(o:QU p xs xb):SB p (p.s xs.toNat):=by
 refine⟨fun i hi j k d f e=>?_,fun i hi j k a q c r d f l m e=>?_⟩
 ·rw[<-(DT b i).1,<-(DT b i).2]at d;rw[<-(DT b j).1,<-(DT b j).2]at f;rw[<-(DT b i).1,<-(DT b j).1]at e;exact n i hi j k d f e
 ·have g:=Nf b q d;have h:=Nf b r f;rw[<-g.1,<-g.2]at l;rw[<-h.1,<-h.2]at m;rw[<-g.1,<-h.1]at e;have:=o (i*8+a) (by omega) (j*8+c) (by omega) l m e;omega
theorem Nk(e:As p xs xb):QT p xs xb/\QU p xs xb:=by
 by_cases a:Nil xs xb
 ·exact⟨fun i hi j h f=>absurd a (Oi f),fun k m l n g=>absurd a (Oi (Ra g))⟩
 ·obtain⟨b,c,d⟩:=e.2.resolve_left a;exact zES a ((Xo b c).1 d)
theorem KR(c:As p xs xb)(hi:i<8)(h:¬Nil (BU p xs xb i) (Be p xs xb i)):Db p (BU p xs xb i) (Be p xs xb i)/\LG p (p.s (BU p xs xb i).toNat):=by
 have a:=Oi h;obtain⟨d,b,e⟩:=c.2.resolve_left a;rw[(DT a i).1,(DT a i).2]at h ⊢;exact(b.1 i hi).resolve_left h
theorem PQ(a:As p xs xb)(h:¬Nil xs xb):Db p xs xb:=(a.2.resolve_left h).1
theorem Yx(c:As p xs xb)(hi:i<8)(h:¬Nil (BU p xs xb i) (Be p xs xb i)):BU p xs xb i≠xs:=by
 have a:=Oi h;obtain⟨d,b,e⟩:=c.2.resolve_left a;rw[(DT a i).1]at h ⊢;rw[(DT a i).2]at h;exact Vb b hi h
theorem Ix{y:Int}(h:Fx p x)(a:B8 p y yb):x≠y:=fun e=>Re a (e▸h)
variable{j:Nat}
theorem Ext.free(h:Ext p q)(a:Ah (q.s j)):Ah (p.s j):=Classical.byContradiction fun hn=>hn (by rw[h.s j hn]at a;exact a)
variable{f:Nat->Int}
theorem TB{g:Nat->Int}(h:¬Df f g):∃i,i<8/\¬Nil (f i) (g i):=some_ex h
where
 some_ex {f g:Nat->Int} (h:¬Df f g):∃i,i<8/\¬Nil (f i) (g i):=Classical.byContradiction fun a=>h fun i hi=>Classical.byContradiction fun hn=>a ⟨i,hi,hn⟩
theorem New.ok(h:New p xs xb n b q ys yb ms mb gs gb)(c:As p xs xb)(hn:n<64):As q ys yb:=by
 refine⟨h.right,?_⟩;rcases id h.root with⟨J,_⟩ | ⟨r1,T,G,R⟩
 ·exact Or.inl J
 ·right;have M:=OW r1;have B:¬Nil ms mb->Db q ms mb/\Fx p ms/\q.s ms.toNat=Bc (Ao p xs xb n 1 gs) (Am p xs xb n 1 gb) b/\¬Df (Ao p xs xb n 1 gs) (Am p xs xb n 1 gb):=fun A=>h.node.resolve_left (fun L=>A L.1)
  have D:¬Nil gs gb->Ep q gs gb/\Fx p gs:=fun K=>h.AM.resolve_left K
  have x:LJ q (q.s ys.toNat):=by
   refine⟨fun i hi=>?_,?_⟩
   ·rw[G];unfold JN;rw[(Gi (Ao p xs xb n 0 ms) (Am p xs xb n 0 mb) b hi).1,(Gi (Ao p xs xb n 0 ms) (Am p xs xb n 0 mb) b hi).2];by_cases e:i=n / 8
    ·rw[show Ao p xs xb n 0 ms i=ms from if_pos e,show Am p xs xb n 0 mb i=mb from if_pos e];by_cases A:Nil ms mb
     ·exact Or.inl A
     ·obtain⟨O,S,P,Q⟩:=B A;refine Or.inr ⟨O,?_⟩;rw[P];refine⟨fun a d=>?_,?_⟩
      ·rw[(Gi (Ao p xs xb n 1 gs) (Am p xs xb n 1 gb) b d).1,(Gi (Ao p xs xb n 1 gs) (Am p xs xb n 1 gb) b d).2];by_cases y:a=n % 8
       ·rw[show Ao p xs xb n 1 gs a=gs from if_pos y,show Am p xs xb n 1 gb a=gb from if_pos y];exact h.AM.imp id And.left
       ·rw[(NU y).1,(NU y).2];have E:=Io c (n:=n / 8*8+a) (by omega);have H:BZ p xs xb (n / 8*8+a)=BU p (BV p xs xb n) (Bj p xs xb n) a:=by
         unfold BZ BV Bj;rw[show(n / 8*8+a) / 8=n / 8 by omega,show(n / 8*8+a) % 8=a by omega]
        have I:Bg p xs xb (n / 8*8+a)=Be p (BV p xs xb n) (Bj p xs xb n) a:=by
         unfold Bg BV Bj;rw[show(n / 8*8+a) / 8=n / 8 by omega,show(n / 8*8+a) % 8=a by omega]
        rw[H,I]at E;exact E.imp id h.ext.AM
      ·obtain⟨a,d,C⟩:=TB Q;exact⟨a,d,by rw[(Gi _ _ b d).1,(Gi _ _ b d).2];exact C⟩
    ·rw[(EB e).1,(EB e).2];by_cases m:Nil (BU p xs xb i) (Be p xs xb i)
     ·exact Or.inl m
     ·obtain⟨F,N⟩:=KR c hi m;exact Or.inr ⟨h.ext.node F,by rw[h.ext.at F.1];exact h.ext.low N⟩
   ·obtain⟨a,d,C⟩:=TB R;exact⟨a,d,by rw[G,(Gi _ _ b d).1,(Gi _ _ b d).2];exact C⟩
  refine⟨r1,x,(Xo r1 x).2 (zEw M ?_ ?_)⟩
  ·intro i hi j v o f e;rw[(h.nodes hi).1,(h.nodes hi).2]at o;rw[(h.nodes v).1,(h.nodes v).2]at f;rw[(h.nodes hi).1,(h.nodes v).1]at e;by_cases ei:i=n / 8
   ·by_cases t:j=n / 8
    ·omega
    ·rw[show Ao p xs xb n 0 ms i=ms from if_pos ei]at o e;rw[show Am p xs xb n 0 mb i=mb from if_pos ei]at o;rw[(EB t).1]at f e;rw[(EB t).2]at f;exact absurd e.symm (Ix (B o).2.1 (KR c v f).1.1)
   ·rw[(EB ei).1]at o e;rw[(EB ei).2]at o;by_cases t:j=n / 8
    ·rw[show Ao p xs xb n 0 ms j=ms from if_pos t]at f e;rw[show Am p xs xb n 0 mb j=mb from if_pos t]at f;exact absurd e (Ix (B f).2.1 (KR c hi o).1.1)
    ·rw[(EB t).1]at f e;rw[(EB t).2]at f;exact(Nk c).1 i hi j v o f e
  ·intro k m l w r g e;rw[(h.pages c m).1,(h.pages c m).2]at r;rw[(h.pages c w).1,(h.pages c w).2]at g;rw[(h.pages c m).1,(h.pages c w).1]at e;by_cases z:k=n
   ·by_cases u:l=n
    ·omega
    ·rw[if_pos z]at r e;rw[if_pos z]at r;rw[if_neg u]at g e;rw[if_neg u]at g;exact absurd e.symm (Ix (D r).2 ((Io c w).resolve_left g).1)
   ·rw[if_neg z]at r e;rw[if_neg z]at r;by_cases u:l=n
    ·rw[if_pos u]at g e;rw[if_pos u]at g;exact absurd e (Ix (D g).2 ((Io c m).resolve_left r).1)
    ·rw[if_neg u]at g e;rw[if_neg u]at g;exact(Nk c).2 k m l w r g e
theorem KP:z∈BS p xs xb n 3↔(z=(BZ p xs xb n,Bg p xs xb n)/\¬Nil (BZ p xs xb n) (Bg p xs xb n))\/(z=(BV p xs xb n,Bj p xs xb n)/\¬Nil (BV p xs xb n) (Bj p xs xb n))\/(z=(xs,xb)/\¬Nil xs xb):=by
 unfold BS;rw[Gk];constructor
 ·rintro⟨i,hi,h⟩;rcases i with _ | _ | _ | i
  ·exact Or.inl h
  ·exact Or.inr (Or.inl h)
  ·exact Or.inr (Or.inr h)
  ·omega
 ·rintro(h | h | h)
  ·exact⟨0,by omega,h⟩
  ·exact⟨1,by omega,h⟩
  ·exact⟨2,by omega,h⟩
theorem N4(a:As p xs xb)(hn:n<64)(h:z∈BS p xs xb n 3):z∈AG p xs xb:=by
 rw[GA a];rcases KP.1 h with h | h | h
 ·exact Or.inr (Or.inr ⟨n,hn,h⟩)
 ·exact Or.inr (Or.inl ⟨n / 8,by omega,h⟩)
 ·exact Or.inl h
theorem zHW(a:As p xs xb)(h:z∈AG p xs xb):B8 p z.1 z.2:=by
 by_cases b:Nil xs xb
 ·unfold AG at h;rw[if_pos b]at h;simp at h
 ·exact(MN a.1 (PQ a b).1 z h).1
theorem New.gone(h:New p xs xb n b q ys yb ms mb gs gb)(f:As p xs xb)(hn:n<64)(t:z∈AG p xs xb):z∉AG q ys yb↔z∈BS p xs xb n 3:=by
 have r:=h.ok f hn;have l:=zHW f t;constructor
 ·intro m;rcases(GA f).1 t with a | ⟨i,hi,a,d⟩ | ⟨k,g,a,d⟩
  ·exact KP.2 (Or.inr (Or.inr a))
  ·by_cases e:i=n / 8
   ·subst e;exact KP.2 (Or.inr (Or.inl ⟨a,d⟩))
   ·refine absurd ((GA r).2 (Or.inr (Or.inl ⟨i,hi,?_,?_⟩))) m
    ·rw[(h.nodes hi).1,(h.nodes hi).2,(EB e).1,(EB e).2];exact a
    ·rw[(h.nodes hi).1,(h.nodes hi).2,(EB e).1,(EB e).2];exact d
  ·by_cases e:k=n
   ·subst e;exact KP.2 (Or.inl ⟨a,d⟩)
   ·refine absurd ((GA r).2 (Or.inr (Or.inr ⟨k,g,?_,?_⟩))) m
    ·rw[(h.pages f g).1,(h.pages f g).2,if_neg e,if_neg e];exact a
    ·rw[(h.pages f g).1,(h.pages f g).2,if_neg e,if_neg e];exact d
 ·intro s m;have v:¬Nil ms mb->Fx p ms:=fun y=>(h.node.resolve_left (fun m=>y m.1)).2.1
  have u:¬Nil gs gb->Fx p gs:=fun w=>(h.AM.resolve_left w).2
  rcases(GA r).1 m with⟨a,d⟩ | ⟨i,hi,a,d⟩ | ⟨k,g,a,d⟩
  ·have A:=h.root.resolve_left (fun x=>d x.1);exact Ix A.2.1 l (by rw[a])
  ·rw[(h.nodes hi).1,(h.nodes hi).2]at a d;by_cases e:i=n / 8
   ·rw[show Ao p xs xb n 0 ms i=ms from if_pos e,show Am p xs xb n 0 mb i=mb from if_pos e]at a d;exact Ix (v d) l (by rw[a])
   ·rw[(EB e).1,(EB e).2]at a d;rcases KP.1 s with⟨c,j⟩ | ⟨c,j⟩ | ⟨c,j⟩
    ·rw[a]at c;simp only[Prod.mk.injEq]at c;exact Gg (KR f hi d).1 ((Io f hn).resolve_left j) c.1
    ·rw[a]at c;simp only[Prod.mk.injEq]at c;exact e ((Nk f).1 (n / 8) (by omega) i hi j d c.1)
    ·rw[a]at c;simp only[Prod.mk.injEq]at c;exact Yx f hi d c.1
  ·rw[(h.pages f g).1,(h.pages f g).2]at a d;by_cases e:k=n
   ·rw[if_pos e,if_pos e]at a d;exact Ix (u d) l (by rw[a])
   ·rw[if_neg e,if_neg e]at a d;have o:=(Io f g).resolve_left d;rcases KP.1 s with⟨c,j⟩ | ⟨c,j⟩ | ⟨c,j⟩
    ·rw[a]at c;simp only[Prod.mk.injEq]at c;exact e ((Nk f).2 n hn k g j d c.1)
    ·rw[a]at c;simp only[Prod.mk.injEq]at c;exact Gg (KR f (i:=n / 8) (by omega) j).1 o c.1.symm
    ·rw[a]at c;simp only[Prod.mk.injEq]at c;exact Gg (PQ f j) o c.1.symm
theorem zD0(h:(Bk l).Nodup):l.Nodup:=by
 unfold Bk List.Nodup at *;rw[List.pairwise_map]at h;exact h.imp (fun a e=>a (by rw[e]))
theorem VV(a:As p xs xb)(hn:n<64):(BS p xs xb n 3).Nodup:=by
 apply zD0;unfold BS;rw[Og];intro i hi j d c b;rcases i with _ | _ | _ | i
 ·omega
 ·obtain rfl:j=0:=(by omega);exact fun e=>Gg (KR a (i:=n / 8) (by omega) c).1 ((Io a hn).resolve_left b) e.symm
 ·rcases j with _ | _ | j
  ·exact fun e=>Gg (PQ a c) ((Io a hn).resolve_left b) e.symm
  ·exact Yx a (i:=n / 8) (by omega) b
  ·omega
 ·omega
theorem ZO(b:AZ p){i:Nat}(h:Ba p.n p.s i):¬Has p.hn p.h (i:Int):=by
 rintro⟨j,c,e⟩;have a:=(b.2.2 j c).2.2.1;rw[e,Int.toNat_natCast]at a;exact a h.2.1
theorem Vo(a:AZ p)(h:Ba p.n p.s i)(hs:C5 p s)(b:s.kn=0):Ep (Au p i s) (i:Int) s.birth:=
 ⟨MG h hs.1.1,by rw[Int.toNat_natCast,J1];exact b,ZO a h⟩
theorem Vn(a:AZ p)(h:Ba p.n p.s i)(hs:C5 p s)(b:0<s.kn):Db (Au p i s) (i:Int) s.birth:=
 ⟨MG h hs.1.1,by rw[Int.toNat_natCast,J1];exact b,ZO a h⟩
theorem QG(h:Ext p q)(hi:Ba q.n q.s i):Fx p (i:Int):=by
 unfold Fx;rw[Int.toNat_natCast];exact h.free hi.2.1
variable{d:ByteArray}
theorem zDk{i0 i1 i2:Nat}(k:As p xs xb)(hn:n<64)(a:C8 xb b)(q:d.size=16)(c:Ba p.n p.s i0)(h:Ba p.n (Bf p b d i0).s i1)(m:Ba p.n (Cz p xs xb n b d i0 i1).s i2) :
 New p xs xb n b (IR p xs xb n b d i0 i1 i2) (i2:Int) b (i1:Int) b (i0:Int) b:=by
 have f:Ext p (Bf p b d i0):=Ext.set c.2.1 _;have g:Ext (Bf p b d i0) (Cz p xs xb n b d i0 i1):=Ext.set h.2.1 _;have l:Ext (Cz p xs xb n b d i0 i1) (IR p xs xb n b d i0 i1 i2):=Ext.set m.2.1 _;have r1:=OL (d:=d) k a q c;have u:=RH (n:=n) k hn a q c h;have v:C5 p (BM b d):=Gd a.1 q;have w:=I3 (n:=n) (d:=d) k hn a c;have r:=Lu (d:=d) k hn a c h;have y:Ep (Bf p b d i0) (i0:Int) b:=Vo k.1 c v rfl;have t:Db (Cz p xs xb n b d i0 i1) (i1:Int) b:=Vn (p:=Bf p b d i0) r1 h w (by show 0<8;omega);have rt:Db (IR p xs xb n b d i0 i1 i2) (i2:Int) b:=Vn (p:=Cz p xs xb n b d i0 i1) u m r (by show 0<8;omega);have x:(Cz p xs xb n b d i0 i1).s (i1:Int).toNat=Bc (Ao p xs xb n 1 (i0:Int)) (Am p xs xb n 1 b) b:=by rw[Int.toNat_natCast];exact J1 _ _ _
 refine⟨(f.trans g).trans l,O9 (p:=Cz p xs xb n b d i0 i1) u m r,Or.inr ⟨l.AM (g.AM y),QG (Ext.refl p) c⟩,Or.inr ⟨l.node t,QG f h,?_,OK hn a.1.1⟩,Or.inr ⟨rt,QG (f.trans g) m,?_,OK hn a.1.1⟩,Or.inr rfl,fun j=>?_⟩
 ·rw[l.at t.1];exact x
 ·rw[Int.toNat_natCast];exact J1 _ _ _
 ·have o:∀i:Nat,¬Nil (i:Int) b:=fun i e=>by have:=a.1.1;have:=e.2;omega
  by_cases g:j=i2
  ·exact .inr (.inr (.inr ⟨by rw[g],o _⟩))
  by_cases f:j=i1
  ·exact .inr (.inr (.inl ⟨by rw[f],o _⟩))
  by_cases e0:j=i0
  ·exact .inr (.inl ⟨by rw[e0],o _⟩)
  ·exact .inl ((J2 _ _ g).trans ((J2 _ _ f).trans (J2 _ _ e0)))
theorem zAJ{i0 i1 i2:Nat}(j:As p xs xb)(hn:n<64)(i:C8 xb b)(k:d.size=16)(f:Ba p.n p.s i0)(g:Ba p.n (Bf p b d i0).s i1)(h:Ba p.n (Cz p xs xb n b d i0 i1).s i2) :
 ((IR p xs xb n b d i0 i1 i2).s (i0:Int).toNat).data=d:=by
 have a:Ext (Bf p b d i0) (Cz p xs xb n b d i0 i1):=Ext.set g.2.1 _;have c:Ext (Cz p xs xb n b d i0 i1) (IR p xs xb n b d i0 i1 i2):=Ext.set h.2.1 _;have e:C5 p (BM b d):=Gd i.1 k;have l:Ep (Bf p b d i0) (i0:Int) b:=Vo j.1 f e rfl;rw[(a.trans c).at l.1,Int.toNat_natCast,show(Bf p b d i0).s i0=BM b d from J1 _ _ _];rfl
theorem Vw{AM:Int}(e:(CF p xs xb AM d b).code=0) :
 As p xs xb/\∃n:Nat,n<64/\AM=(n:Int)/\d.size=16/\(CF p xs xb AM d b).old=BS p xs xb n 3/\∃ms mb gs gb,New p xs xb n b (CF p xs xb AM d b).pool (CF p xs xb AM d b).rs (CF p xs xb AM d b).rb ms mb gs gb/\¬Nil gs gb/\((CF p xs xb AM d b).pool.s gs.toNat).data=d:=by
 by_cases h:8000<d.size
 ·rw[OQ h]at e;exact absurd e (by decide)
 by_cases a:As p xs xb/\C8 xb b
 ·by_cases c:EY AM/\d.size=16
  ·obtain⟨n,rfl⟩:=Int.eq_ofNat_of_zero_le c.1.1;have hn:n<64:=(by have:=c.1.2;omega);by_cases k:roomN p.s p.n<3
   ·rw[Xq a.1 hn a.2 c.2 k]at e;exact absurd e (by decide)
   ·obtain⟨i0,g⟩:=IE (f:=p.s) (n:=p.n) (by omega);have o:roomN (Bf p b d i0).s p.n+1=roomN p.s p.n:=Km (s:=BM b d) g (Gd a.2.1 c.2);obtain⟨i,q1⟩:=IE (f:=(Bf p b d i0).s) (n:=p.n) (by omega);have q:roomN (Cz p xs xb n b d i0 i).s p.n+1=roomN (Bf p b d i0).s p.n:=Km (p:=Bf p b d i0) q1 (I3 a.1 hn a.2 g);obtain⟨m,j⟩:=IE (f:=(Cz p xs xb n b d i0 i).s) (n:=p.n) (by omega);rw[UM a.1 hn a.2 c.2 g q1 j];refine⟨a.1,n,hn,rfl,c.2,rfl,(i:Int),b,(i0:Int),b,zDk a.1 hn a.2 c.2 g q1 j,fun l=>?_,zAJ a.1 hn a.2 c.2 g q1 j⟩;have:=a.2.1.1;have:=l.2;omega
  ·rw[MO h a c]at e;exact absurd e (by decide)
 ·rw[MK h a]at e;exact absurd e (by decide)
theorem Ui(p:A7)(xs xb:Int)(n:Nat)(b:Int)(o:Dr):Ap (CJ p xs xb n b o).pool<=Ap o.pool+16/\(CJ p xs xb n b o).old.length<=3:=by
 have c:=Qr p xs xb n b o 2;have a:(BS p xs xb n 3).length<=3:=IB _ _ 3;unfold CJ;split
 ·exact⟨Nat.zero_le _,Nat.zero_le _⟩
 ·split
  ·exact⟨Nat.zero_le _,Nat.zero_le _⟩
  ·exact⟨by show Ap (layS p xs xb n b o 2).pool<=_;omega,a⟩
theorem OV(p:A7)(xs xb AM:Int)(d:ByteArray)(b:Int):Ap (CF p xs xb AM d b).pool<=Ap p+40/\(CF p xs xb AM d b).old.length<=3:=by
 unfold CF;split
 ·exact⟨Nat.zero_le _,Nat.zero_le _⟩
 ·split
  ·split
   ·rename_i e
    split
    ·have a:=Ui p xs xb AM.toNat b ⟨(Bv p (BM b d)).pool,(Bv p (BM b d)).ps,(Bv p (BM b d)).pb,0⟩;have f:=RK p (BM b d);have g:Ce (BM b d)=16:=(by show 0+d.size=16;rw[e.2]);exact⟨by have c:=a.1;simp only at c;omega,a.2⟩
    ·exact⟨Nat.zero_le _,Nat.zero_le _⟩
   ·exact⟨Nat.zero_le _,Nat.zero_le _⟩
  ·exact⟨Nat.zero_le _,Nat.zero_le _⟩
theorem RM(p:A7)(xs xb AM b:Int):Ap (FW p xs xb AM b).pool<=Ap p+40/\(FW p xs xb AM b).old.length<=3:=by
 unfold FW;split
 ·split
  ·split
   ·exact⟨Nat.zero_le _,Nat.zero_le _⟩
   ·have a:=Ui p xs xb AM.toNat b ⟨p,0,0,0⟩;exact⟨by have c:=a.1;simp only at c;omega,a.2⟩
  ·exact⟨Nat.zero_le _,Nat.zero_le _⟩
 ·exact⟨Nat.zero_le _,Nat.zero_le _⟩
def JW(c:Int):Prop:=c=0\/∃i,i<7/\c=Ca i
theorem Vm(p:A7)(s:AH):JW (Bv p s).code:=by
 unfold Bv;split
 ·split
  ·exact Or.inl rfl
  ·exact Or.inr ⟨4,by omega,rfl⟩
 ·exact Or.inr ⟨0,by omega,rfl⟩
theorem X3(p:A7)(xs xb:Int)(n:Nat)(b:Int)(o:Dr)(h:JW o.code)(L:Nat):JW (layS p xs xb n b o L).code:=by
 cases L with
 | zero=>exact h
 | succ L=>
  unfold layS;unfold JH GP;split
  ·exact Or.inl rfl
  ·exact Vm _ _
theorem zG(p:A7)(xs xb:Int)(n:Nat)(b:Int)(o:Dr)(h:JW o.code):JW (CJ p xs xb n b o).code:=by
 unfold CJ;split
 ·exact X3 p xs xb n b o h 1
 ·split
  ·exact X3 p xs xb n b o h 2
  ·exact Or.inl rfl
theorem zAH(p:A7)(xs xb AM:Int)(d:ByteArray)(b:Int):JW (CF p xs xb AM d b).code:=by
 unfold CF;split
 ·exact Or.inr ⟨1,by omega,rfl⟩
 ·split
  ·split
   ·split
    ·exact zG _ _ _ _ _ _ (Or.inl rfl)
    ·exact Vm _ _
   ·exact Or.inr ⟨6,by omega,rfl⟩
  ·exact Or.inr ⟨0,by omega,rfl⟩
theorem zDm(h:l.Nodup)(hi:∀x,x∈l->∀y,y∈l->x.1=y.1->x=y):(l.map Prod.fst).Nodup:=by
 unfold List.Nodup at h ⊢;rw[List.pairwise_map];exact h.imp_of_mem (fun {a b} d f c e=>c (hi a d b f e))
theorem New.hold(h:New p xs xb n b q ys yb ms mb gs gb)(a:As p xs xb)(hn:n<64):CT q (BS p xs xb n 3):=by
 have f:=CT.tree a.1 a.2;refine⟨h.right,fun x g=>?_,zDm (VV a hn) (fun x g y k e=>?_)⟩
 ·obtain⟨c,d⟩:=f.2.1 x (N4 a hn g);exact⟨h.ext.points c,fun j=>d ((h.ext.has x.1).1 j)⟩
 ·have c:=(f.2.1 x (N4 a hn g)).1.2.2.2;have d:=(f.2.1 y (N4 a hn k)).1.2.2.2;have i:x.2=y.2:=(by rw[<-c,<-d,e]);exact Prod.ext e i
def Mq(y:D9):Prop:=JW y.code/\y.old.length<=3/\(y.code=0->CT y.pool y.old)
theorem zAI(p:A7)(xs xb AM:Int)(d:ByteArray)(b:Int):Mq (CF p xs xb AM d b):=⟨zAH _ _ _ _ _ _,(OV _ _ _ _ _ _).2,fun e=>by
 obtain⟨c,n,hn,-,-,f,ms,mb,gs,gb,a,-,-⟩:=Vw e;rw[f];exact a.hold c hn⟩
def DZ(W:A6)(k:Nat)(y:D9):List (Int×Int):=Bl (AN y.old) (AP y.old) (AI W (W.A2 k).A8).time y.old.length
def Ju(W:A6)(k:Nat)(y:D9):List (Int×Int):=C6 (AN y.old) (AP y.old) (AI W (W.A2 k).A8).time y.old.length
def CV(W:A6)(k:Nat)(y:D9):List (Int×Int):=Bu (W.A2 k).dn (W.A2 k).ds (W.A2 k).db ++ Ju W k y
def Fd(W:A6)(k:Nat)(y:D9):Ab:={W.A2 k with rs:=y.rs,rb:=y.rb,dn:=(CV W k y).length,ds:=AN (CV W k y),db:=AP (CV W k y)}
def Cy(W:A6)(k:Nat)(y:D9):A6:={W with pool:=BJ y.pool (DZ W k y),A2:=fun j=>if j=k then Fd W k y else W.A2 j}
open Classical in
def Dc(W:A6)(k:Nat)(y:D9):Bm:=if y.code=0 then⟨Cy W k y,0,((DZ W k y).length:Int),0⟩else BP y.code
variable{W:A6}
theorem zF6{y:D9}(h:Mq y)(a:y.code=0):CT y.pool (DZ W k y):=by
 refine(h.2.2 a).sub ?_;have:=MD (AN y.old) (AP y.old) (AI W (W.A2 k).A8).time y.old.length
 rwa [Vd]at this
open Go.Maps
def Ds(f:Nat->Int)(x:Int):Nat->Nat
 | 0=>0
 | k+1=>Ds f x k+(if f k=x then 1 else 0)
theorem VF(h:f k=x):Ds f x (k+1)=Ds f x k+1:=by simp[Ds,h]
theorem Tj(h:¬f k=x):Ds f x (k+1)=Ds f x k:=by simp[Ds,h]
def Mj(W:A6)(x:Int):Nat:=Ds (fun i=>(W.A2 i).A8) x W.sn+Ds (fun i=>(W.A3 i).A8) x W.pn
def E3(w:World)(v:Value)(n:Nat)(f:Nat->ByteArray):Prop:=
 n<=1000/\∃a c,v = .slice a n c/\(∀i,i<n->(f i).size<=maxLen)/\(0<n->∃b off,a=some ⟨b,off,none⟩/\∀i,i<n->w.cell? ⟨b,off+i,none⟩=some (.string (f i)))
variable{f:Nat->ByteArray}
theorem E3.A1{w':World}(h:E3 w v n f)(t:Below w.heap.size w w'):E3 w' v n f:=by
 obtain⟨m,a,c,hv,hs,j⟩:=h;refine⟨m,a,c,hv,hs,fun e=>?_⟩;obtain⟨b,off,g,d⟩:=j e;exact⟨b,off,g,fun i hi=>(t.cell (AV (d i hi))).trans (d i hi)⟩
theorem E3.cells{a:Option Addr}{c:Nat}(h:E3 w (.slice a n c) n f)(hi:i<n):∃b off,a=some ⟨b,off,none⟩/\w.cell? ⟨b,off+i,none⟩=some (.string (f i)):=by
 obtain⟨m,j,c0,hv,hs,g⟩:=h;simp only[Value.slice.injEq,true_and]at hv;obtain⟨rfl,rfl⟩:=hv;obtain⟨b,off,d,e⟩:=g (by omega);exact⟨b,off,d,e i hi⟩
theorem zK(s:ByteArray)(w:World)(hs:s.size<=maxLen):Calls Tryz.prog 112 #[.string s] w fun e w'=>AJ (8000<s.size) e/\Below w.heap.size w w':=by
 unfold maxLen at hs;by_cases h:8000<s.size
 ·have a:(8000:Int)<(s.size:Int):=(by omega);have H:=AQ h;clear h;go_enter Tryz.func112,Tryz.ntmps112;go_wp2;go_ret;exact⟨AJ.yes H.out,Below.refl _ _⟩
 ·have a:¬(8000:Int)<(s.size:Int):=(by omega);have H:=AQ h;clear h;go_enter Tryz.func112,Tryz.ntmps112;go_wp2;go_ret;exact⟨AJ.no H.out,Below.refl _ _⟩
theorem zEW(s:ByteArray)(w:World)(hs:s.size<=maxLen):Calls Tryz.prog 113 #[.string s] w fun e w'=>AJ (¬BX s) e/\Below w.heap.size w w':=by
 go_enter Tryz.func113,Tryz.ntmps113;go_wp2_with fail;refine(RQ s w hs).mono ?_;rintro e d ⟨⟨t,rfl,b⟩,rfl⟩;by_cases a:BX s
 ·obtain rfl:t=true:=b.2 a;have c:=AQ a;clear b a;go_wp2;go_ret;exact⟨AJ.no (fun h=>h c.out),Below.refl _ _⟩
 ·obtain rfl:t=false:=BQ b a;have c:=AQ a;clear b a;go_wp2;go_ret;exact⟨AJ.yes c.out,Below.refl _ _⟩
theorem zBV(v:Value)(n:Nat)(f:Nat->ByteArray)(w:World)(h:E3 w v n f) :
 Calls Tryz.prog 153 #[v,.func (.func 112) #[] #[]] w fun e w'=>((∃i:Nat,i<n/\8000<(f i).size/\e = .returned (A0 (i:Int)))\/((∀j,j<n->¬8000<(f j).size)/\e = .returned (A0 (-1))))/\Below w.heap.size w w':=by
 have z:=AQ h;obtain⟨D,a,c,rfl,hs,-⟩:=h;have A:=AQ hs;clear hs;go_enter Tryz.func153,Tryz.ntmps153;go_wp2
 go_loopw [8] (fun i wr=>∃k:Nat,k<=n/\i=A0 k/\(∀j,j<k->¬8000<(f j).size)/\Below w.heap.size w wr) (fun i _=>n - (intOf i).toNat)
 case atStart=>exact⟨0,Nat.zero_le _,rfl,fun j x=>absurd x (Nat.not_lt_zero _),Below.refl _ _⟩
 case round=>
  obtain⟨k,C,rfl,g,s⟩:=hrel;have d:=AQ g;clear g;by_cases l:k<n
  ·have y:(k:Int)<(n:Int):=(by omega);obtain⟨b,off,rfl,B⟩:=(z.out.A1 s).cells l;have u:=A.out k l;go_wp2_with fail;refine(zK (f k) _ u).mono ?_;rintro e E ⟨⟨t,rfl,q⟩,o⟩;have p:=A9 s o;clear o B;by_cases m:8000<(f k).size
   ·obtain rfl:t=true:=q.2 m;have r:=AQ m;clear q m;go_wp2;go_ret;exact⟨Or.inl ⟨k,l,r.out,rfl⟩,p⟩
   ·obtain rfl:t=false:=BQ q m;have r:=AQ m;clear q m;go_wp2;go_roundw
    case rel=>
     refine⟨k+1,by omega,by go_num,fun j x=>?_,p⟩;by_cases e:j=k
     ·subst e;exact r.out
     ·exact d.out j (by omega)
    case measure=>simp[intOf];omega
  ·obtain rfl:k=n:=(by omega);go_wp2;go_ret;exact⟨Or.inr ⟨d.out,rfl⟩,s⟩
theorem zo(v:Value)(n:Nat)(f:Nat->ByteArray)(w:World)(h:E3 w v n f) :
 Calls Tryz.prog 111 #[v,.func (.func 112) #[] #[]] w fun e w'=>AJ (∃i,i<n/\8000<(f i).size) e/\Below w.heap.size w w':=by
 have k:=AQ h;obtain⟨o,a,c,rfl,hs,-⟩:=h;go_enter Tryz.func111,Tryz.ntmps111;go_wp2_with fail;refine(zBV _ n f w k.out).mono ?_;rintro e p ⟨l,b⟩;rcases l with⟨i,hi,j,rfl⟩ | ⟨d,rfl⟩
 ·have g:=AQ (show ∃i,i<n/\8000<(f i).size from⟨i,hi,j⟩);have m:(0:Int)<=(i:Int):=(by omega);clear j;go_wp2;go_ret;exact⟨AJ.yes g.out,b⟩
 ·have g:=AQ d;clear d;go_wp2;go_ret;exact⟨AJ.no fun ⟨i,hi,hq⟩=>g.out i hi hq,b⟩
theorem zBW(v:Value)(n:Nat)(f:Nat->ByteArray)(w:World)(h:E3 w v n f) :
 Calls Tryz.prog 153 #[v,.func (.func 113) #[] #[]] w fun e w'=>((∃i:Nat,i<n/\¬BX (f i)/\e = .returned (A0 (i:Int)))\/((∀j,j<n->¬¬BX (f j))/\e = .returned (A0 (-1))))/\Below w.heap.size w w':=by
 have z:=AQ h;obtain⟨D,a,c,rfl,hs,-⟩:=h;have A:=AQ hs;clear hs;go_enter Tryz.func153,Tryz.ntmps153;go_wp2
 go_loopw [8] (fun i wr=>∃k:Nat,k<=n/\i=A0 k/\(∀j,j<k->¬¬BX (f j))/\Below w.heap.size w wr) (fun i _=>n - (intOf i).toNat)
 case atStart=>exact⟨0,Nat.zero_le _,rfl,fun j x=>absurd x (Nat.not_lt_zero _),Below.refl _ _⟩
 case round=>
  obtain⟨k,C,rfl,g,s⟩:=hrel;have d:=AQ g;clear g;by_cases l:k<n
  ·have y:(k:Int)<(n:Int):=(by omega);obtain⟨b,off,rfl,B⟩:=(z.out.A1 s).cells l;have u:=A.out k l;go_wp2_with fail;refine(zEW (f k) _ u).mono ?_;rintro e E ⟨⟨t,rfl,q⟩,o⟩;have p:=A9 s o;clear o B;by_cases m:¬BX (f k)
   ·obtain rfl:t=true:=q.2 m;have r:=AQ m;clear q m;go_wp2;go_ret;exact⟨Or.inl ⟨k,l,r.out,rfl⟩,p⟩
   ·obtain rfl:t=false:=BQ q m;have r:=AQ m;clear q m;go_wp2;go_roundw
    case rel=>
     refine⟨k+1,by omega,by go_num,fun j x=>?_,p⟩;by_cases e:j=k
     ·subst e;exact r.out
     ·exact d.out j (by omega)
    case measure=>simp[intOf];omega
  ·obtain rfl:k=n:=(by omega);go_wp2;go_ret;exact⟨Or.inr ⟨d.out,rfl⟩,s⟩
theorem zp(v:Value)(n:Nat)(f:Nat->ByteArray)(w:World)(h:E3 w v n f) :
 Calls Tryz.prog 111 #[v,.func (.func 113) #[] #[]] w fun e w'=>AJ (∃i,i<n/\¬BX (f i)) e/\Below w.heap.size w w':=by
 have k:=AQ h;obtain⟨o,a,c,rfl,hs,-⟩:=h;go_enter Tryz.func111,Tryz.ntmps111;go_wp2_with fail;refine(zBW _ n f w k.out).mono ?_;rintro e p ⟨l,b⟩;rcases l with⟨i,hi,j,rfl⟩ | ⟨d,rfl⟩
 ·have g:=AQ (show ∃i,i<n/\¬BX (f i)from⟨i,hi,j⟩);have m:(0:Int)<=(i:Int):=(by omega);clear j;go_wp2;go_ret;exact⟨AJ.yes g.out,b⟩
 ·have g:=AQ d;clear d;go_wp2;go_ret;exact⟨AJ.no fun ⟨i,hi,hq⟩=>g.out i hi hq,b⟩
open Go.ChangeMaps Go.MapKept
open Go.WideElems (Fit rd rg pl rd_val elemAt findIdx_arr findIdx_born modify_last set_self)
open Go.WideMaps (KeyLaw)
theorem zCk(w:World)(b:Nat)(o o':Obj):setBlock (setBlock w b o) b o'=setBlock w b o':=by simp[setBlock]
variable{b:Nat}
theorem zCT{o:Obj}(h:w.heap[b]?=some o):setBlock w b o=w:=by
 have e:w.heap.setIfInBounds b o=w.heap:=by
  apply Array.ext_getElem?;intro i;by_cases hi:i=b
  ·subst hi;rw[Array.getElem?_setIfInBounds_self_of_lt (Array.getElem?_eq_some_iff.1 h).1];exact h.symm
  ·rw[Array.getElem?_setIfInBounds_ne (fun e=>hi e.symm)]
 unfold setBlock;rw[e]
theorem zD2{es a:Array MapEntry}{c c':Nat}(d:w.heap[b]?=some (.map es c)):w.grownBy (setBlock w b (.map a c')) (some b):=
 ⟨rfl,rfl,rfl,by simp[setBlock],fun i _ hi=>heap_setBlock_other d _ (fun e=>hi (by rw[e]))⟩
theorem XM{P:Program}{k e t:TypeId}{D:DataW Value}(h:w.ownsMap P k D7 b n D)(l:KeyLaw P k)(i:P.underlying t=some (.map k e))(hn:n<maxLen){z:Value}(I:∀u:World,(zeroValue e).run P u = .ok z u){key val:Value} {kl:Lit} (a:keyOf P k key=some kl) (S:D.atKey kl (.held z) = .held v) :
 ∃(v0:Value) (Q:Nat) (J w2:World),(Instr.mapEntry t (.map (some b)) key).run P w = .ok (.tuple #[v0,goInt Q]) J/\(Instr.lookup t (.map (some b)) key false).run P J = .ok v J/\(Instr.entryStore t (.map (some b)) (goInt Q) val).run P J = .ok () w2/\w2.ownsMap P k D7 b (n+1) (D.put kl (.held val))/\w.grownBy J (some b)/\w.grownBy w2 (some b):=by
 have K:=Keyed.of_law l;obtain⟨w',E,q,U⟩:=h.update K i hn a (GW val);obtain⟨wz,G,r,pA⟩:=h.update K i hn a (GW z);have o:=h.lookup K i (I w) (GW z) a;obtain⟨m,c,f,F,hs,hD⟩:=h;obtain⟨v0,Q,d,c1,g,sA,aA⟩:=WideElems.entry_then_store l i I f F a;have T:(setBlock w b (.map d c1)).heap[b]?=some (.map d c1):=heap_setBlock_same f _;obtain⟨R,c2,Z,bA⟩:=aA _ val T;have e2:setBlock (setBlock w b (.map d c1)) b (.map R c2)=w':=by
  rw[zCk];rw[bA]at E;injection E
 refine⟨v0,Q,setBlock w b (.map d c1),w',g,?_,by rw[<-e2];exact Z,q,zD2 f,U⟩;obtain⟨v',ps,B,cA⟩:=o;have ev:v'=v:=by
  have L:=Lr cA;rw[S]at L;injection L with L;exact L.symm
 subst ev
 suffices hh:∀x:World,x=setBlock w b (.map d c1)->(Instr.lookup t (.map (some b)) key false).run P x = .ok v' x from hh _ rfl
 intro x H;rcases l.find w a m.toList F.keys with⟨N,A⟩ | ⟨j,e0,N,A,h3⟩
 ·-- it was not there: behind the entry it is there with the zero value
  have eA:setBlock w b (.map d c1)=wz:=by
   have p:(Instr.mapEntry t (.map (some b)) key).run P w = .ok (.tuple #[z,goInt c]) (setBlock w b (.map (m.push ⟨key,z,c⟩) (c+1))):=by
    simp[Instr.mapEntry,run_underlying i,MapKept.run_getObj_map f,l.check w false a,N,I,MapKept.run_setObj_map _ f,Result.andThen,setBlock]
   have O:(Instr.mapUpdate t (.map (some b)) key z).run P w = .ok () (setBlock w b (.map (m.push ⟨key,z,c⟩) (c+1))):=by
    simp[Instr.mapUpdate,run_underlying i,MapKept.run_getObj_map f,l.check w false a,N,MapKept.run_setObj_map _ f,Result.andThen,setBlock]
   rw[g]at p;rw[G]at O;injection p with _ p;injection O with _ O;rw[p,O]
  obtain rfl:x=wz:=H.trans eA;obtain⟨v2,tA,X,dA⟩:=r.lookup K i (I _) (GW z) a;have M:=Lr dA;rw[atKey_put_same (show IsMap D from⟨_,hD⟩) (K.key a)]at M;replace M:=DataW.held.inj M;have e4:v'=z:=by
   have W:(Instr.lookup t (.map (some b)) key false).run P w = .ok z w:=by
    rcases Maps.fit_look false K i (I w) f F a with⟨C,_,_⟩ | ⟨e0,y,Y,V,_,_,_,_⟩
    ·exact C
    ·exact absurd V (A e0 Y)
   rw[W]at B;injection B with B _;exact B.symm
  subst M;subst e4;exact X
 ·-- it was there: the entry leaves the map as it was
  have hj:m[j]?=some e0:=(by simpa using A);have s:m.modify j (fun e=>{e with key:=key})=m:=by
   apply Array.ext';rw[Array.toList_modify,modify_eq_set _ _ _ _ A];have:({e0 with key:=key}:MapEntry)=e0:=(by rw[<-h3]);rw[this];exact set_self _ _ _ A
  have p:(Instr.mapEntry t (.map (some b)) key).run P w = .ok (.tuple #[e0.val,goInt e0.born]) (setBlock w b (.map m c)):=by
   simp[Instr.mapEntry,run_underlying i,MapKept.run_getObj_map f,l.check w false a,N,hj,h3,l.stays w a,s,MapKept.run_setObj_map _ f,Result.andThen,setBlock]
  rw[g,zCT f]at p;obtain rfl:x=w:=H.trans (Result.ok.inj p).2;exact B
theorem Xs (W : A6) (m : Cq) : (Cg W m).length <= 73 := by
 unfold Cg EA treeM;exact Nat.le_trans (List.length_filter_le _ _) (Dh _ _ _)
theorem XX (W : A6) : ∀ k, (B7 W k).length <= 73 * k
 | 0 => by simp[B7]
 | k + 1 => by
   have a := XX W k;have b := Xs W (AA W k);unfold B7;rw[List.length_append];omega
theorem XY (W : A6) {k : Nat} : ∀ {n : Nat}, k <= n -> ∃ l, B7 W n = B7 W k ++ l
 | 0, h => ⟨[], by obtain rfl : k = 0 := by omega
                   simp⟩
 | n + 1, h => by
   by_cases e : k = n + 1
   · subst e;exact ⟨[], by simp⟩
   · obtain ⟨l, a⟩ := XY W (k := k) (n := n) (by omega)
     exact ⟨l ++ Cg W (AA W n), by rw[show B7 W (n + 1) = B7 W n ++ Cg W (AA W n) from rfl, a, List.append_assoc]⟩
theorem zEK (W : A6) (c : k < n) (a : j < (Cg W (AA W k)).length) : (B7 W k).length + j < (B7 W n).length /\ (B7 W n).getD ((B7 W k).length + j) (0, 0) = (Cg W (AA W k)).getD j (0, 0) := by
 obtain ⟨l, b⟩ := XY W (k := k + 1) (n := n) (by omega);rw[b, show B7 W (k + 1) = B7 W k ++ Cg W (AA W k) from rfl];constructor
 · simp only[List.length_append];omega
 · rw[List.getD_eq_getElem?_getD, List.getD_eq_getElem?_getD, List.append_assoc, List.getElem?_append_right (by omega), show (B7 W k).length + j - (B7 W k).length = j by omega, List.getElem?_append_left a]
def L9 (x : Int × Int) : Value := .agg #[A0 x.1, A0 x.2]
/-- The keys of the homes, one behind the other. -/
structure Ee (W : A6) (key : Nat -> Lit) : Prop where
 ok : Gv key
 at_ : ∀ i, i < (B7 W (memN W)).length -> keyOf Tryz.prog 38 (L9 ((B7 W (memN W)).getD i (0, 0))) = some (key i)
variable{x:Int × Int}
theorem zCG (a : AZ W.pool) (b : ∀ i, i < memN W -> B3 W.pool (AA W i).rs (AA W i).rb) (c : x ∈ B7 W (memN W)) : B8 W.pool x.1 x.2 := by
 obtain ⟨i, hi, h⟩ := M7.1 c;unfold Cg EA treeM at h;exact (ED a (b i hi) (List.mem_filter.1 h).1).1
theorem zEl {l : List (Int × Int)} (h : i < l.length) : l.getD i (0, 0) ∈ l := by
 rw[List.getD_eq_getElem?_getD, List.getElem?_eq_getElem h, Option.getD_some];exact List.getElem_mem h
theorem zr (b : AZ W.pool) (j : ∀ i, i < memN W -> B3 W.pool (AA W i).rs (AA W i).rb) : ∃ key, Ee W key := by
 have a : ∀ i, ∃ l, WideAt.IsKeyLit l /\ (i < (B7 W (memN W)).length -> keyOf Tryz.prog 38 (L9 ((B7 W (memN W)).getD i (0, 0))) = some l) := fun i => by
  by_cases hi' : i < (B7 W (memN W)).length
  · have c := zCG b j (zEl hi')
    generalize (B7 W (memN W)).getD i (0, 0) = x at c ⊢;have e := (Ey b c).1;have d := b.1;obtain ⟨n, o, p, g⟩ := c;rw[g]at e;obtain ⟨k, m⟩ := e;obtain ⟨l, f⟩ := zGs (x := x.1) (y := x.2) (WalkArith.wf_i64 (by omega)) (WalkArith.wf_i64 (by omega));exact ⟨l, SG.key f, fun _ => f⟩
  · exact ⟨.string [], trivial, fun h => absurd h hi'⟩
 exact ⟨fun i => (a i).choose, fun i => (a i).choose_spec.1, fun i => (a i).choose_spec.2⟩
theorem zDq{y:Int × Int} (h : L9 x = L9 y) : x = y := by
 unfold L9 at h;simp only[Value.agg.injEq, Array.mk.injEq, List.cons.injEq, Value.int.injEq, true_and, and_true]at h;exact Prod.ext h.1 h.2
variable{key:Nat -> Lit}
theorem Ee.same (h : Ee W key) (hi : i < (B7 W (memN W)).length) (c : j < (B7 W (memN W)).length) : key i = key j ↔ (B7 W (memN W)).getD i (0, 0) = (B7 W (memN W)).getD j (0, 0) := by
 have a := h.at_ i hi;have b := h.at_ j c;constructor
 · intro e
   rw[e]at a;exact zDq (SG.inj a b)
 · intro e
   rw[e, b]at a;exact (Option.some.inj a).symm
theorem Ee.dist (h : Ee W key) : Gq (B7 W (memN W)).length key ↔ (B7 W (memN W)).Nodup := by
 rw[List.Nodup, List.pairwise_iff_getElem];have a : ∀ i (hi : i < (B7 W (memN W)).length), (B7 W (memN W)).getD i (0, 0) = (B7 W (memN W))[i] := fun i hi => by rw[List.getD_eq_getElem?_getD, List.getElem?_eq_getElem hi, Option.getD_some]
 constructor
 · intro b i j hi d c e
   refine b j d i c ((h.same hi d).2 ?_);rw[a i hi, a j d];exact e
 · intro b i hi k f e
   have := (h.same (by omega) hi).1 e;rw[a k (by omega), a i hi]at this;exact b k i (by omega) hi f this
/-- The map behind the first p homes. -/
def KE (key : Nat -> Lit) (p : Nat) : DataW Value := putD key (fun _ => A0 1) p
variable{p:Nat}
theorem Ee.new (hn : ∀ i, i < p -> key i ≠ key p) (h : Ee W key) : (KE key p).atKey (key p) (.held (A0 0)) = .held (A0 0) := Qb h.ok _ hn _
theorem Ee.old (hi : i < p) (d : key i = key p) (c : Gq p key) (h : Ee W key) : (KE key p).atKey (key p) (.held (A0 0)) = .held (A0 1) := by
 rw[<- d];exact PP h.ok _ _ p i hi (fun j a b e => c j b i a e.symm)
theorem Ee.put (h : Ee W key) (p : Nat) (v : Value) : ((KE key p).put (key p) (.held v)).atKey (key p) (.held (A0 0)) = .held v := atKey_put_same (Kk h.ok _ p).isMap (h.ok p) _ _
theorem Ee.not_nodup (hi : i < p) (b : p < (B7 W (memN W)).length) (a : key i = key p) (h : Ee W key) : ¬ (B7 W (memN W)).Nodup := fun hn => h.dist.2 hn p b i hi a
theorem Ee.size (h : Ee W key) (a : Gq p key) : Maps.size (KE key p) = p := (Qc h.ok _ p).2.2 a
theorem zDH(A v1:Value)(lo hi:Nat)(p:A7)(w:World)(E:CD w lo hi A v1 p) :
 Calls Tryz.prog 133 #[.agg #[A,v1]] w fun e w'=>e = .returned (A0 (Ml p))/\Below w.heap.size w w':=by
 have B:Hid (CD w lo hi A v1 p):=E;obtain⟨⟨N,a,c,rfl,X,K⟩,⟨O,D,c',rfl,P,L⟩⟩:=E;unfold maxLen at N O;clear K L;have v:=AB w (.cells #[.slice a p.n c,.slice D p.hn c'] 26);go_enter Tryz.func133,Tryz.ntmps133;go_wp2_with fail;refine(MR _ _ lo hi p _ (B.out.A1 v)).mono ?_;rintro e H ⟨⟨t,rfl,f⟩,d⟩;have J:Hid (Ad H w.heap.size (.slice a p.n c) (.slice D p.hn c')):=(Ad.new w _ _ _).A1 d;have j:=A9 v d;clear v d;by_cases g:AZ p
 ·obtain rfl:t=true:=f.2 g;have r:Hid (AZ p):=g;have z:(p.n:Int)<=200:=(by have:=g.1;omega);clear f g;obtain⟨⟨S,T⟩,⟨U,V⟩⟩:=J.out;have u:Hid (Ml p=(roomN p.s p.n:Int)):=if_pos r.out;have I:Hid (Below w.heap.size w H):=j;go_wp2;clear S T U V j
  go_loopw [3,12] (fun m i wr=>∃k:Nat,k<=p.n/\i=A0 k/\m=A0 (roomN p.s k:Int)/\Below w.heap.size w wr) (fun _ i _=>p.n - (intOf i).toNat)
  case atStart=>exact⟨0,Nat.zero_le _,rfl,rfl,I.out⟩
  case round=>
   obtain⟨k,W,rfl,rfl,x⟩:=hrel;have M:=Nh p.s k;by_cases y:k<p.n
   ·have F:(k:Int)<(p.n:Int):=(by omega);obtain⟨b,off,G,kc,rfl,hs⟩:=(B.out.1.A1 x).cells y;have C:Hid (Jn wr b (off+k*3) lo hi G kc (p.s k)):=hs;obtain⟨Q,q1,R,_⟩:=hs;go_wp2_with fail;have h:=AB wr (.cells #[A0 (p.s k).birth,.slice G (p.s k).kn kc,.string (p.s k).data] 94);refine(Kr _ _ _ lo hi (p.s k) _ (C.out.slot.A1 h)).mono ?_;rintro e Y ⟨⟨t,rfl,f⟩,d⟩;have o:=A9 x (A9 h d);clear d Q q1 R C h;by_cases l:Ah (p.s k)
    ·obtain rfl:t=true:=f.2 l;have q:Hid (Ah (p.s k)):=l;clear f l;go_wp2;go_roundw
     case rel=>exact⟨k+1,by omega,by go_num,congrArg (Value.int .i64) (by rw[Jl q.out];omega),o⟩
     case measure=>simp[intOf];omega
    ·obtain rfl:t=false:=BQ f l;have q:Hid (¬Ah (p.s k)):=l;clear f l;go_wp2;go_roundw
     case rel=>exact⟨k+1,by omega,by go_num,congrArg (Value.int .i64) (by rw[J0 q.out]),o⟩
     case measure=>simp[intOf];omega
   ·obtain rfl:k=p.n:=(by omega);go_wp2;go_ret;exact⟨by rw[u.out];rfl,x⟩
 ·obtain rfl:t=false:=BQ f g;have r:Hid (¬AZ p):=g;clear f g;go_wp2;go_ret;refine⟨?_,j⟩;have e:Ml p=0:=if_neg r.out;rw[e];rfl
end
end Go.Proofs.YtddigaohmfpepaaGreatDoor
