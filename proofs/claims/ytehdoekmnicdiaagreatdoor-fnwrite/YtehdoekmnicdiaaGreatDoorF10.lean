/- A part of the proof. -/
import Derived.Test.YtehdoekmnicdiaaGreatDoorF9
import Derived.Deep.OwnRows
import Derived.Deep.RegionHeld
import Derived.Deep.RegionWith
import Derived.Laws.OwnMore
import Derived.Lib.SliceRun
import Derived.Deep.AppendLies
set_option linter.unusedVariables false
set_option maxRecDepth 20000
set_option maxHeartbeats 4000000
namespace Go.Proofs.YtehdoekmnicdiaaGreatDoor
open Go.RowKit
def Nil(xs xb:Int):Prop:=xs=0/\xb=0
instance (xs xb:Int):Decidable (Nil xs xb):=inferInstanceAs (Decidable (xs=0/\xb=0))
def one(xs xb:Int):List (Int×Int):=if Nil xs xb then [] else [(xs,xb)]
def kidsUp(ks kb:Nat->Int):Nat->List (Int×Int)
 | 0=>[]
 | k+1=>kidsUp ks kb k ++ one (ks k) (kb k)
def AH(s:AG)(i:Nat):Int:=BB s (i*2)
def AT(s:AG)(i:Nat):Int:=BB s (i*2+1)
def Ec(s:AG):List (Int×Int):=kidsUp (AH s) (AT s) 8
def Cg(p:A5)(xs xb:Int):List (Int×Int):=if Nil xs xb then [] else(xs,xb) :: Ec (p.s xs.toNat)
def CN(p:A5)(s:AG):Nat->List (Int×Int)
 | 0=>[]
 | k+1=>CN p s k ++ Cg p (AH s k) (AT s k)
def AF(p:A5)(rs rb:Int):List (Int×Int):=if Nil rs rb then [] else(rs,rb) :: CN p (p.s rs.toNat) 8
variable{s:AG}{i:Nat}
theorem F8(h:s.kn=8)(hi:i<8):AH s i=s.ks i:=by
 unfold AH BB;rw[show i*2 / 2=i by omega,if_pos (by omega),if_pos (by omega)]
theorem F7(h:s.kn=8)(hi:i<8):AT s i=s.kb i:=by
 unfold AT BB;rw[show(i*2+1) / 2=i by omega,if_pos (by omega),if_neg (by omega)]
theorem Tt(h:s.kn=0)(i:Nat):AH s i=0:=by
 unfold AH BB;rw[if_neg (by omega)]
theorem Ts(h:s.kn=0)(i:Nat):AT s i=0:=by
 unfold AT BB;rw[if_neg (by omega)]
variable{xs xb:Int}{x:Int×Int}
theorem Q7:x∈one xs xb↔x=(xs,xb)/\¬Nil xs xb:=by
 unfold one;by_cases h:Nil xs xb
 ·rw[if_pos h];simp[h]
 ·rw[if_neg h];simp[h]
theorem Gn{ks kb:Nat->Int}{x:Int×Int}:∀{k:Nat},x∈kidsUp ks kb k↔∃i,i<k/\x=(ks i,kb i)/\¬Nil (ks i) (kb i)
 | 0=>by simp[kidsUp]
 | k+1=>by
  rw[kidsUp,List.mem_append,Gn,Q7];constructor
  ·rintro(⟨i,hi,h⟩ | h)
   ·exact⟨i,by omega,h⟩
   ·exact⟨k,by omega,h⟩
  ·rintro⟨i,hi,h⟩;by_cases e:i=k
   ·subst e;exact Or.inr h
   ·exact Or.inl ⟨i,by omega,h⟩
variable{p:A5}
theorem IB:x∈Cg p xs xb↔¬Nil xs xb/\(x=(xs,xb)\/x∈Ec (p.s xs.toNat)):=by
 unfold Cg;by_cases h:Nil xs xb
 ·rw[if_pos h];simp[h]
 ·rw[if_neg h];simp[h]
theorem Gj{p:A5}{s:AG}{x:Int×Int}:∀{k:Nat},x∈CN p s k↔∃i,i<k/\x∈Cg p (AH s i) (AT s i)
 | 0=>by simp[CN]
 | k+1=>by
  rw[CN,List.mem_append,Gj];constructor
  ·rintro(⟨i,hi,h⟩ | h)
   ·exact⟨i,by omega,h⟩
   ·exact⟨k,by omega,h⟩
  ·rintro⟨i,hi,h⟩;by_cases e:i=k
   ·subst e;exact Or.inr h
   ·exact Or.inl ⟨i,by omega,h⟩
theorem II(b a:Nat->Int):∀k,(kidsUp b a k).length<=k
 | 0=>Nat.le_refl _
 | k+1=>by
  have:=II b a k;unfold kidsUp one;split<;>simp<;>omega
theorem Ud(p:A5)(xs xb:Int):(Cg p xs xb).length<=9:=by
 unfold Cg;have:=II (AH (p.s xs.toNat)) (AT (p.s xs.toNat)) 8;split
 ·simp
 ·show(Ec _).length+1<=9;unfold Ec;omega
theorem OP(p:A5)(s:AG):∀k,(CN p s k).length<=9*k
 | 0=>Nat.le_refl _
 | k+1=>by
  have:=OP p s k;have:=Ud p (AH s k) (AT s k);unfold CN;rw[List.length_append];omega
theorem DX(p:A5)(rs rb:Int):(AF p rs rb).length<=73:=by
 unfold AF;have:=OP p (p.s rs.toNat) 8;split
 ·simp
 ·show(CN _ _ _).length+1<=73;omega
def DO(p:A5)(xs xb:Int):Prop:=B5 p xs xb/\0<(p.s xs.toNat).kn/\¬Has p.hn p.h xs
def El(p:A5)(xs xb:Int):Prop:=B5 p xs xb/\(p.s xs.toNat).kn=0/\¬Has p.hn p.h xs
def LP(p:A5)(s:AG):Prop:=(∀i,i<8->Nil (AH s i) (AT s i)\/El p (AH s i) (AT s i))/\∃i,i<8/\¬Nil (AH s i) (AT s i)
def JT(p:A5)(s:AG)(i:Nat):Prop:=Nil (AH s i) (AT s i)\/(DO p (AH s i) (AT s i)/\LP p (p.s (AH s i).toNat))
def Bi(l:List (Int×Int)):List Int:=l.map Prod.fst
def LQ(p:A5)(s:AG):Prop:=(∀i,i<8->JT p s i)/\∃i,i<8/\¬Nil (AH s i) (AT s i)
def Ay(p:A5)(rs rb:Int):Prop:=Nil rs rb\/(DO p rs rb/\LQ p (p.s rs.toNat)/\(Bi (AF p rs rb)).Nodup)
def Ai(p:A5)(rs rb:Int):Prop:=AY p/\Ay p rs rb
def NI(p:A5)(s:AG):Prop:=(∃i,i<8/\¬Nil (AH s i) (AT s i))/\∀i,i<8->Nil (AH s i) (AT s i)\/FF (p.s (AH s i).toNat)
def NH(p:A5)(s:AG):Prop:=(∃i,i<8/\¬Nil (AH s i) (AT s i))/\∀i,i<8->Nil (AH s i) (AT s i)\/NI p (p.s (AH s i).toNat)
def Rz(p:A5)(l:List (Int×Int)):Prop:=l.Nodup/\∀x,x∈l->¬Has p.hn p.h x.1
def Pn(p:A5)(rs rb:Int):Prop:=Nil rs rb\/(B5 p rs rb/\NH p (p.s rs.toNat)/\Rz p (AF p rs rb))
theorem Er(b:AY p)(h:B5 p xs xb):Bm p (p.s xs.toNat):=by
 obtain⟨c,d,e,f⟩:=h;rcases b.2.1 xs.toNat (by omega)with a | a
 ·have:=a.1;omega
 ·exact a
theorem Ld(h:Bm p s):s.kn=0\/s.kn=8:=by
 rcases h.2 with h | h
 ·exact Or.inl h.1
 ·exact Or.inr h.1
theorem Qy(a:AY p)(h:B5 p xs xb):(p.s xs.toNat).kn=0\/(p.s xs.toNat).kn=8:=Ld (Er a h)
theorem J6(h:Bm p s)(hi:i<8)(hn:¬Nil (AH s i) (AT s i)):B5 p (AH s i) (AT s i)/\AT s i<=s.birth:=by
 rcases h.2 with a | a
 ·exact absurd ⟨Tt a.1 i,Ts a.1 i⟩ hn
 ·rw[F8 a.1 hi,F7 a.1 hi]at hn ⊢;rcases a.2.2 i (by omega)with b | b
  ·exact absurd b hn
  ·exact b
theorem zFf(c:AY p)(h:B5 p xs xb):FF (p.s xs.toNat)↔(p.s xs.toNat).kn=0:=by
 have b:=Er c h;constructor
 ·exact fun h=>h.2.1
 ·intro d;rcases b.2 with a | a
  ·exact⟨b.1,a⟩
  ·omega
theorem UN(h:s.kn=0\/s.kn=8)(a:∃i,i<8/\¬Nil (AH s i) (AT s i)):s.kn=8:=by
 rcases h with h | h
 ·obtain⟨i,_,hi⟩:=a;exact absurd ⟨Tt h i,Ts h i⟩ hi
 ·exact h
theorem MY{rs rb:Int}(k:AY p)(h:B5 p rs rb):∀x,x∈AF p rs rb->B5 p x.1 x.2/\x.2<=rb:=by
 intro x a;unfold AF at a;split at a
 ·simp at a
 ·rw[List.mem_cons,Gj]at a;rcases a with rfl | ⟨i,hi,a⟩
  ·exact⟨h,by simp⟩
  ·have l:=Er k h;have d:(p.s rs.toNat).birth=rb:=h.2.2.2;obtain⟨hn,a⟩:=IB.1 a;have b:=J6 l hi hn;rcases a with rfl | a
   ·exact⟨b.1,by rw[<-d];exact b.2⟩
   ·obtain⟨j,m,rfl,g⟩:=Gn.1 a;have f:=Er k b.1;have c:=J6 f m g;have e:(p.s (AH (p.s rs.toNat) i).toNat).birth=AT (p.s rs.toNat) i:=b.1.2.2.2;have:=b.2;have:=c.2;exact⟨c.1,by show AT _ j<=rb;omega⟩
variable{l:List (Int×Int)}
theorem Qw(h:∀x,x∈l->B5 p x.1 x.2):(Bi l).Nodup↔l.Nodup:=by
 unfold Bi List.Nodup;rw[List.pairwise_map];constructor
 ·exact fun f=>f.imp (fun c e=>c (by rw[e]))
 ·intro f;refine List.Pairwise.imp_of_mem ?_ f;intro a b i j c e;apply c;have d:=(h a i).2.2.2;have g:=(h b j).2.2.2;rw[e]at d;obtain⟨k,m⟩:=a;obtain⟨n,o⟩:=b;simp only[Prod.mk.injEq];exact⟨e,by simp only at d g e;rw[<-d,<-g]⟩
theorem O3{rs rb:Int}(f:AY p):Pn p rs rb↔Ay p rs rb:=by
 by_cases g:Nil rs rb
 ·exact⟨fun _=>Or.inl g,fun _=>Or.inl g⟩
 have e:(rs,rb)∈AF p rs rb:=by unfold AF;rw[if_neg g];simp
 have m:∀i,i<8->¬Nil (AH (p.s rs.toNat) i) (AT (p.s rs.toNat) i)->(AH (p.s rs.toNat) i,AT (p.s rs.toNat) i)∈AF p rs rb:=fun i hi hn=>by
  unfold AF;rw[if_neg g,List.mem_cons,Gj];exact Or.inr ⟨i,hi,IB.2 ⟨hn,Or.inl rfl⟩⟩
 have n:∀i,i<8->¬Nil (AH (p.s rs.toNat) i) (AT (p.s rs.toNat) i)->∀x,x∈Ec (p.s (AH (p.s rs.toNat) i).toNat)->x∈AF p rs rb:=fun i hi hn x a=>by
  unfold AF;rw[if_neg g,List.mem_cons,Gj];exact Or.inr ⟨i,hi,IB.2 ⟨hn,Or.inr a⟩⟩
 constructor
 ·rintro(h | ⟨c,⟨q,E⟩,o⟩)
  ·exact Or.inl h
  ·right;have u:=Er f c;have F:=UN (Ld u) q;refine⟨⟨c,by omega,o.2 _ e⟩,⟨fun i hi=>?_,q⟩,(Qw (fun x a=>(MY f c x a).1)).2 o.1⟩;by_cases hn:Nil (AH (p.s rs.toNat) i) (AT (p.s rs.toNat) i)
   ·exact Or.inl hn
   ·right;have A:=J6 u hi hn;have l:=Er f A.1;obtain⟨k,t⟩:NI p (p.s (AH (p.s rs.toNat) i).toNat):=by
     rcases E i hi with h | h
     ·exact absurd h hn
     ·exact h
    have B:=UN (Ld l) k;refine⟨⟨A.1,by omega,o.2 _ (m i hi hn)⟩,fun j d=>?_,k⟩;by_cases b:Nil (AH (p.s (AH (p.s rs.toNat) i).toNat) j) (AT (p.s (AH (p.s rs.toNat) i).toNat) j)
    ·exact Or.inl b
    ·right;have v:=J6 l d b;refine⟨v.1,?_,o.2 _ (n i hi hn _ (Gn.2 ⟨j,d,rfl,b⟩))⟩;rcases t j d with h | h
     ·exact absurd h b
     ·exact h.2.1
 ·rintro(h | ⟨z,⟨y,q⟩,D⟩)
  ·exact Or.inl h
  ·right;have c:=z.1;have u:=Er f c;have held:∀x,x∈AF p rs rb->¬Has p.hn p.h x.1:=fun x a=>by
    unfold AF at a;rw[if_neg g,List.mem_cons,Gj]at a;rcases a with rfl | ⟨i,hi,a⟩
    ·exact z.2.2
    ·obtain⟨hn,a⟩:=IB.1 a;rcases y i hi with h | ⟨w,r⟩
     ·exact absurd h hn
     ·rcases a with rfl | a
      ·exact w.2.2
      ·obtain⟨j,d,rfl,b⟩:=Gn.1 a;rcases r.1 j d with h | h
       ·exact absurd h b
       ·exact h.2.2
   refine⟨c,⟨q,fun i hi=>?_⟩,(Qw (fun x a=>(MY f c x a).1)).1 D,held⟩;rcases y i hi with h | ⟨w,r,C⟩
   ·exact Or.inl h
   ·refine Or.inr ⟨C,fun j d=>?_⟩;rcases r j d with h | h
    ·exact Or.inl h
    ·exact Or.inr ((zFf f h.1).2 h.2.1)
def FU(bs:Nat)(kb:Nat->Nat)(n:Nat)(f:Nat->AG)(k:Nat):Prop:=(0<n/\k=bs)\/∃i,i<n/\0<(f i).kn/\k=kb i
def Bo(w:World)(lo hi:Nat)(v0 v1:Value)(p:A5):Prop:=
 ∃(bs hb:Nat) (kb:Nat->Nat) (kv:Nat->Value),F9 w bs kb kv v0 p.n p.s/\MA kb p.n p.s/\FZ w hb v1 p.hn p.h/\(0<p.hn->¬FU bs kb p.n p.s hb)/\
  ∀k,FU bs kb p.n p.s k\/(0<p.hn/\k=hb)->lo<=k/\k<hi
variable{w:World}{lo hi:Nat}{v0 v1:Value}
theorem Bo.at(h:Bo w lo hi v0 v1 p):C6 w lo hi v0 v1 p:=by
 obtain⟨e,j,k,kv,c,f,d,g,b⟩:=h;exact⟨c.at fun a=>⟨b _ (Or.inl (Or.inl ⟨a,rfl⟩)),fun i hi h=>b _ (Or.inl (Or.inr ⟨i,hi,h,rfl⟩))⟩,d.at fun a=>b _ (Or.inr ⟨a,rfl⟩)⟩
variable{w':World}
theorem Bo.A0(h:Bo w lo hi v0 v1 p)(t:Below w.heap.size w w'):Bo w' lo hi v0 v1 p:=by
 obtain⟨a,g,i,kv,b,c,d,e,f⟩:=h;exact⟨a,g,i,kv,b.A0 t,c,d.A0 t,e,f⟩
theorem Bo.AD{S:Nat->Prop}(h:Bo w lo hi v0 v1 p)(t:AE S w w')(hs:∀k,S k->k<lo\/hi<=k):Bo w' lo hi v0 v1 p:=by
 obtain⟨d,f,g,kv,j,l,m,o,e⟩:=h;have out:∀k,FU d g p.n p.s k\/(0<p.hn/\k=f)->¬S k:=fun k q r=>by
  have a:=e k q;have b:=hs k r;omega
 exact⟨d,f,g,kv,j.AD t (fun c=>out _ (Or.inl (Or.inl ⟨c,rfl⟩))) (fun i hi h=>out _ (Or.inl (Or.inr ⟨i,hi,h,rfl⟩))),l,m.AD t (fun c=>out _ (Or.inr ⟨c,rfl⟩)),o,e⟩
theorem Bo.wide{lo' hi':Nat}(h:Bo w lo hi v0 v1 p)(l:lo'<=lo)(m:hi<=hi'):Bo w lo' hi' v0 v1 p:=by
 obtain⟨a,g,j,kv,b,c,d,e,f⟩:=h;exact⟨a,g,j,kv,b,c,d,e,fun k i=>by have:=f k i;omega⟩
theorem Bo.form(h:Bo w lo hi v0 v1 p):∃a c b c',v0 = .slice a p.n c/\v1 = .slice b p.hn c':=by
 obtain⟨f,k,l,kv,⟨_,a,c,d,_⟩,g,⟨_,b,c',e,_,_⟩,i,j⟩:=h;exact⟨a,c,b,c',d,e⟩
theorem C6.form(h:C6 w lo hi v0 v1 p):∃a c b c',v0 = .slice a p.n c/\v1 = .slice b p.hn c':=by
 obtain⟨⟨_,a,c,d,_⟩,⟨_,b,c',e,_⟩⟩:=h;exact⟨a,c,b,c',d,e⟩
def Tu(p:A5)(w:World)(e:Ending)(w':World):Prop:=∃v0 v1,e = .returned (.agg #[v0,v1])/\Bo w' w.heap.size w'.heap.size v0 v1 p/\Below w.heap.size w w'
def EQ:AG:={birth:=0,kn:=0,ks:=fun _=>0,kb:=fun _=>0,data:=⟨#[]⟩}
def Ck(n:Nat):A5:={n:=n,s:=fun _=>EQ,hn:=0,h:=fun _=>0}
variable{kb:Nat->Nat}{n:Nat}
theorem zBb{bs:Nat}{k:Nat}:FU bs kb n (fun _=>EQ) k↔0<n/\k=bs:=by
 constructor
 ·rintro(h | ⟨i,_,a,_⟩)
  ·exact h
  ·exact absurd a (by simp[EQ])
 ·exact Or.inl
theorem zF0{g:Nat}(hn:n<=maxLen)(hv:∃a cap,v0 = .slice a n cap/\n<=cap/\(0<n->a=some ⟨g,0,none⟩/\lo<=g/\g<hi))
 (d:∀i,i<n->AN w g (0+i*3) (.int .i64 0)/\AN w g (0+i*3+1) (.slice none 0 0)/\AN w g (0+i*3+2) (.string ⟨#[]⟩)) :
 Bo w lo hi v0 (.slice none 0 0) (Ck n):=by
 obtain⟨a,cap,rfl,c,e⟩:=hv;refine⟨g,0,fun _=>0,fun _=>.slice none 0 0,⟨hn,a,cap,rfl,c,fun b=>⟨0,(e b).1,fun i hi=>?_⟩⟩,fun i j _ _ _ b _=>absurd b (by simp[Ck,EQ]),⟨Nat.zero_le _,none,0,rfl,Nat.le_refl _,fun h=>absurd h (Nat.lt_irrefl _),fun h=>absurd h (Nat.lt_irrefl _)⟩,fun h=>absurd h (Nat.lt_irrefl _),?_⟩
 ·exact⟨(d i hi).1,(d i hi).2.1,(d i hi).2.2,⟨Nat.zero_le _,none,0,rfl,Nat.le_refl _,fun h=>absurd h (Nat.lt_irrefl _)⟩,Nat.zero_le _,fun h=>absurd h (Nat.lt_irrefl _)⟩
 ·rintro k (h | h)
  ·obtain⟨b,rfl⟩:=zBb.1 h;exact(e b).2
  ·exact absurd h.1 (Nat.lt_irrefl _)
def Cf(s:AG):Nat:=s.kn+s.data.size
def D9(f:Nat->AG):Nat->Nat
 | 0=>0
 | k+1=>D9 f k+Cf (f k)
def An(p:A5):Nat:=p.n+D9 p.s p.n+p.hn
theorem UC(f:Nat->AG){j:Nat}(h:j<n):Cf (f j)<=D9 f n:=by
 induction n with
 | zero=>omega
 | succ n ih=>
  show _<=D9 f n+Cf (f n);by_cases e:j=n
  ·subst e;omega
  ·have:=ih (by omega);omega
theorem Vg:(Tryz.prog.info? 2).map (fun i=>(i.zero,i.size,i.bytes))=some (some (.int .i64 0),1,8):=by kernel_rfl
theorem zG7:(Tryz.prog.info? 38).map (fun i=>(i.zero,i.size,i.bytes))=some (some (.agg #[.int .i64 0,.int .i64 0]),2,16):=by kernel_rfl
theorem Vh:(Tryz.prog.info? 86).map (fun i=>(i.zero,i.size,i.bytes))=some (some (.agg #[.int .i64 0,.slice none 0 0,.string ⟨#[]⟩]),3,48):=by kernel_rfl
def Fx(zs:Array Value)(n:Nat):Array Value:=madeCells zs (n*zs.size)
theorem zBP(t e:TypeId)(z:Value)(size bytes:Nat)(l:Tryz.prog.underlying t=some (.slice e))(a:(Tryz.prog.info? e).map (fun i=>(i.zero,i.size,i.bytes))=some (some z,size,bytes))(hs:z.cells.size=size)
 (n:Nat) (hn:n<=1048576) (k:bytes<=1000) (w:World):(Instr.makeSlice t (.int .i64 (n:Int)) (.int .i64 (n:Int))).run Tryz.prog w = .ok (.slice (some ⟨w.heap.size,0,none⟩) n n) (w.alloc (.cells (Fx z.cells n) e)):=by
 obtain⟨i,hi,b⟩:=Option.map_eq_some_iff.1 a;simp only[Prod.mk.injEq]at b;obtain⟨m,g,c⟩:=b;have d:(bytes:Int)*(n:Int)<=281474976710656:=by
  have h:bytes*n<=1000*1048576:=Nat.mul_le_mul k hn;have j:((bytes*n:Nat):Int)<=((1000*1048576:Nat):Int):=Int.ofNat_le.2 h;rw[Int.natCast_mul]at j;omega
 have f:=run_make (P:=Tryz.prog) w t e i z l hi m .i64 .i64 n n (by omega) (Int.le_refl _) (by rw[c];exact d) (by omega);rw[g,<-hs]at f;simp only[Int.toNat_natCast]at f;exact f
variable{α:Type}
theorem s1(l:List α)(i:Nat)(a:α):l.toArray.setIfInBounds i a=(l.set i a).toArray:=List.setIfInBounds_toArray ..
theorem s2(x:α)(l:List α)(a:α):(x :: l).set 0 a=a :: l:=rfl
theorem s3(x:α)(l:List α)(i:Nat)(a:α):(x :: l).set (i+1) a=x :: l.set i a:=rfl
def JD:List Oper->Nat->Option Oper
 | [],_=>none
 | o :: _,0=>some o
 | _ :: l,n+1=>JD l n
theorem X3:∀(l:List Oper) (i:Nat),l[i]?=JD l i
 | [],_=>rfl
 | _ :: _,0=>rfl
 | _ :: l,n+1=>by simpa[JD]using X3 l n
theorem DZ{a:Array Oper}{o:Oper}(h:JD a.toList i=some o):a[i]?=some o:=by
 rw[<-h,<-X3,Array.getElem?_toList]
section
variable {P : Program} {md : Region.Mode} {ops : Array Oper} {Q : Exit -> Act -> World -> Prop} {S : World -> Prop}
variable{o:Oper}{b l':Array Bool}{a:Act}
theorem tk(i:Nat){v:Value}{d:Nat}{a':Act}(hi:JD ops.toList i=some o:=by exact rfl)
 (e:(Region.noSelect ops && (Region.free md ops b i && (Region.ready md ops b).contains i))=true:=by kernel_rfl)
 (m:Region.wanted o (yielded ops a.tmps)=true:=by exact rfl) (j:S w:=by assumption)
 (n:∀w,S w->(execOp a.eval o).run P w = .ok (.value v) w:=by(intro w f;(try dsimp only at f);go_simp;try with_reducible rfl))
 (l:b.setIfInBounds i true=l':=by((try simp only[s1,s2,s3]);exact rfl))
 (k:a.put o.dst v=a':=by((try simp only[Act.put,s1,s2,s3]);exact rfl))
 (g:∀c a w,Q (.panic c) (a.put o.dst v) w->Q (.panic c) a w:=by exact fun _ _ _ h=>h)
 (h:wpAnyH P md ops Q S d l' a' w):wpAnyH P md ops Q S (d+1) b a w:=by
 simp only[Bool.and_eq_true]at e;subst l k;exact wpAnyH_take (DZ hi) e.1 e.2.1 e.2.2 g (Or.inl ⟨m,n⟩) j h
theorem ts(i:Nat){d:Nat}{a':Act}(hi:JD ops.toList i=some o:=by exact rfl)
 (e:(Region.noSelect ops && (Region.free md ops b i && (Region.ready md ops b).contains i))=true:=by kernel_rfl)
 (l:Region.wanted o (yielded ops a.tmps)=false:=by exact rfl) (g:S w:=by assumption)
 (k:b.setIfInBounds i true=l':=by((try simp only[s1,s2,s3]);exact rfl))
 (j:a.put o.dst undef=a':=by((try simp only[Act.put,s1,s2,s3]);exact rfl))
 (f:∀c a w,Q (.panic c) (a.put o.dst undef) w->Q (.panic c) a w:=by exact fun _ _ _ h=>h)
 (h:wpAnyH P md ops Q S d l' a' w):wpAnyH P md ops Q S (d+1) b a w:=by
 simp only[Bool.and_eq_true]at e;subst k j;exact wpAnyH_take (DZ hi) e.1 e.2.1 e.2.2 f (Or.inr ⟨l,rfl⟩) g h
variable{c:Nat}
theorem rd(rs:List Nat)(h:AllReadyH P md ops Q S c b a w rs)
 (e:Region.ready md ops b=rs:=by kernel_rfl) (d:rs≠[]:=by simp):wpAnyH P md ops Q S (c+1) b a w:=wpAnyH_ready e d h
theorem rc{rs:List Nat}
 (h:∀d:Act->World->Prop,Shut (∀a w,S w->(S w->wpAnyH P md ops Q S c (b.setIfInBounds i true) a w)->d a w)->if Region.wanted o (yielded ops a.tmps)=true then Oper.wp P o a w d Q else d (a.put o.dst undef) w)
 (hs:AllReadyH P md ops Q S c b a w rs) (e:JD ops.toList i=some o:=by exact rfl):AllReadyH P md ops Q S c b a w (i :: rs):=AllReadyH.cons (DZ e) h hs
end
structure zIN (p:Prop):Prop where
 out:p
theorem zF2{A B:Prop}(f:zIN A->B)(h:A):B:=f ⟨h⟩
theorem A9{P:Prop}(h:P):Hid P:=h
theorem Sk(w:World)(a b d e:Value)(c f:TypeId) :
 Ac ((w.alloc (.cells #[a,b] c)).alloc (.cells #[d,e] f)) w.heap.size a b/\Ac ((w.alloc (.cells #[a,b] c)).alloc (.cells #[d,e] f)) (w.heap.size+1) d e/\
 Below w.heap.size w ((w.alloc (.cells #[a,b] c)).alloc (.cells #[d,e] f))/\((w.alloc (.cells #[a,b] c)).alloc (.cells #[d,e] f)).heap.size=w.heap.size+2:=by
 refine⟨(Ac.new w a b c).A0 (AC _ _),?_,A7 (AC _ _) (AC _ _),by simp⟩;have:=Ac.new (w.alloc (.cells #[a,b] c)) d e f;rw[World.size_alloc]at this;exact this
def zq(p:A5)(Low:AG->Prop)(s:AG):Prop:=(∃i,i<8/\¬Nil (AH s i) (AT s i))/\∀i,i<8->Nil (AH s i) (AT s i)\/Low (p.s (AH s i).toNat)
def Lk(p:A5)(L:Int)(Low:AG->Prop):Prop:=∀(v:Value) (lo hi:Nat) (xs xb:Int) (w:World),CD w lo hi v p.n p.s->B5 p xs xb->
 Calls Tryz.prog 160 #[v,.agg #[.int .i64 xs,.int .i64 xb],.int .i64 L] w fun e w'=>AL (Low (p.s xs.toNat)) e/\Below w.heap.size w w'
theorem Va(s:AG):Es (BB s) (fun _=>0)=true↔¬∃i,i<8/\¬Nil (AH s i) (AT s i):=by
 rw[Qc];constructor
 ·rintro h ⟨i,hi,hn⟩;exact hn (h i hi)
 ·intro h i hi;by_cases hn:Nil (AH s i) (AT s i)
  ·exact hn
  ·exact absurd ⟨i,hi,hn⟩ h
theorem zAS(p:A5):Lk p 2 FF:=by
 intro v lo hi xs xb w hs h;have o:=A9 hs;obtain⟨_,a,c,rfl,_⟩:=id hs;obtain⟨k,rfl⟩:=Int.eq_ofNat_of_zero_le h.2.1;have r:k<p.n:=by have:=h.2.2.1;omega
 have u:(k:Int)<(p.n:Int):=by omega
 have i:=AC w (.cells #[.int .i64 (k:Int),.int .i64 xb] 38);obtain⟨⟨B,C⟩,⟨D,E⟩⟩:=Ac.new w (.int .i64 (k:Int)) (.int .i64 xb) 38;obtain⟨b,off,x,kc,rfl,g⟩:=(o.out.A0 i).cells r;have l:=A9 g;obtain⟨y,q1,z,_⟩:=g;clear hs h;go_enter Tryz.func160,Tryz.ntmps160;go_wp2_with fail;have d:=AC (w.alloc (.cells #[.int .i64 (k:Int),.int .i64 xb] 38)) (.cells #[.int .i64 (p.s k).birth,.slice x (p.s k).kn kc,.string (p.s k).data] 86);refine(YZ _ _ _ lo hi (p.s k) _ (l.out.slot.A0 d)).mono ?_;rintro e A ⟨⟨t,rfl,j⟩,f⟩;have q:=A7 (A7 i d) f;have m:=A9 j;clear j f;go_wp2;go_ret;refine⟨⟨t,rfl,?_⟩,q⟩;rw[Int.toNat_natCast];exact m.out
theorem Y2(p:A5)(L:Int)(x:AG->Prop)(Q:AY p)(hL:0<=L/\L<2)(u:Lk p (L+1) x):Lk p L (zq p x):=by
 intro v lo hi xs xb w hs C;have A:=A9 u;have HR:=A9 Q;have V:=A9 hs;have HP:=A9 C;have O:=A9 (Er Q C);obtain⟨_,a,c,rfl,_⟩:=id hs;obtain⟨k,rfl⟩:=Int.eq_ofNat_of_zero_le C.2.1;rw[Int.toNat_natCast]at O;have hk:k<p.n:=by have:=C.2.2.1;omega
 have gA:(k:Int)<(p.n:Int):=by omega
 have eA:(L == 2)=false:=by simp;omega
 have R:=AC w (.cells #[.int .i64 (k:Int),.int .i64 xb] 38);obtain⟨⟨x0,x1⟩,⟨x2,x3⟩⟩:=Ac.new w (.int .i64 (k:Int)) (.int .i64 xb) 38;obtain⟨b,off,ka,kc,rfl,F⟩:=(V.out.A0 R).cells hk;have T:=A9 F;obtain⟨q0,q1,q2,_⟩:=F;clear hs C u Q;go_enter Tryz.func160,Tryz.ntmps160;go_wp2_with fail;have y:=AC (w.alloc (.cells #[.int .i64 (k:Int),.int .i64 xb] 38)) (.cells #[.int .i64 (p.s k).birth,.slice ka (p.s k).kn kc,.string (p.s k).data] 86);refine(OS _ _ _ lo hi (p.s k) _ (T.out.slot.A0 y) (Ld O.out)).mono ?_;rintro e g ⟨rfl,D⟩;have X:=A7 (A7 R y) D;clear D R y x0 x1 x2 x3 q0 q1 q2 T;have d:Hid ((Tryz.prog.info? 108).map (·.size)=some (B6 (p.s k)).size):=by
  show _=_;rw[B6,Cy];exact GZ
 have W:Hid ((#[Value.int .i64 0,Value.int .i64 0,Value.int .i64 0,Value.int .i64 0,Value.int .i64 0,Value.int .i64 0,Value.int .i64 0,Value.int .i64 0,Value.int .i64 0,Value.int .i64 0,Value.int .i64 0,Value.int .i64 0,Value.int .i64 0,Value.int .i64 0,Value.int .i64 0,Value.int .i64 0]:Array Value)=Aj (fun _=>0)):=rfl;have Y:∀w,(binOp .eql 108 (.agg (B6 (p.s k))) (.agg #[Value.int .i64 0,Value.int .i64 0,Value.int .i64 0,Value.int .i64 0,Value.int .i64 0,Value.int .i64 0,Value.int .i64 0,Value.int .i64 0,Value.int .i64 0,Value.int .i64 0,Value.int .i64 0,Value.int .i64 0,Value.int .i64 0,Value.int .i64 0,Value.int .i64 0,Value.int .i64 0])).run Tryz.prog w = .ok (.bool (Es (BB (p.s k)) (fun _=>0))) w:=fun w=>Ps (BB (p.s k)) (fun _=>0) w
 have r:(g.alloc (.cells (B6 (p.s k)) 108)).heap[g.heap.size]?=some (.cells (B6 (p.s k)) 108 (0,0)):=heap_alloc_last _ _;have J:=A9 r;have B:=A7 X (AC g (.cells (B6 (p.s k)) 108));clear r X;by_cases I:Es (BB (p.s k)) (fun _=>0)=true
 ·have N:=A9 ((Va _).1 I);go_wp2_with (first
   | (refine wpList_store_row rfl 108 (.tmp 8) (.tmp 20) rfl g.heap.size (B6 (p.s k)) rfl rfl 108 #[Value.int .i64 0,Value.int .i64 0,Value.int .i64 0,Value.int .i64 0,Value.int .i64 0,Value.int .i64 0,Value.int .i64 0,Value.int .i64 0,Value.int .i64 0,Value.int .i64 0,Value.int .i64 0,Value.int .i64 0,Value.int .i64 0,Value.int .i64 0,Value.int .i64 0,Value.int .i64 0] (heap_alloc_last _ _) d.out (by rw[B6,Cy];rfl) (IE _) ?_;rw[World.setRow_alloc_new])
   | (refine wpList_load_row rfl 108 (.tmp 8) rfl g.heap.size rfl 108 (B6 (p.s k)) (0,0) _ J.out FI rfl d.out ?_))
  go_ret;exact⟨AL.no fun h=>N.out (by rw[Int.toNat_natCast]at h;exact h.1),B⟩
 ·have N:Hid (∃i,i<8/\¬Nil (AH (p.s k) i) (AT (p.s k) i)):=by
   by_cases h:∃i,i<8/\¬Nil (AH (p.s k) i) (AT (p.s k) i)
   ·exact h
   ·exact absurd ((Va _).2 h) I
  have jA:Es (BB (p.s k)) (fun _=>0)=false:=(by simpa using I);clear I;go_wp2_with (first
   | (refine wpList_store_row rfl 108 (.tmp 8) (.tmp 20) rfl g.heap.size (B6 (p.s k)) rfl rfl 108 #[Value.int .i64 0,Value.int .i64 0,Value.int .i64 0,Value.int .i64 0,Value.int .i64 0,Value.int .i64 0,Value.int .i64 0,Value.int .i64 0,Value.int .i64 0,Value.int .i64 0,Value.int .i64 0,Value.int .i64 0,Value.int .i64 0,Value.int .i64 0,Value.int .i64 0,Value.int .i64 0] (heap_alloc_last _ _) d.out (by rw[B6,Cy];rfl) (IE _) ?_;rw[World.setRow_alloc_new])
   | (refine wpList_load_row rfl 108 (.tmp 8) rfl g.heap.size rfl 108 (B6 (p.s k)) (0,0) _ J.out FI rfl d.out ?_))
  have kA:g.heap.size<(g.alloc (.cells (B6 (p.s k)) 108)).heap.size:=by rw[World.size_alloc];exact Nat.lt_succ_self _
  go_loopw [24] (fun i wr=>∃j:Nat,j<=8/\i = .int .i64 j/\(∀m,m<j->Nil (AH (p.s k) m) (AT (p.s k) m)\/x (p.s (AH (p.s k) m).toNat))/\wr.heap[g.heap.size]?=some (.cells (B6 (p.s k)) 108 (0,0))/\Below w.heap.size w wr) (fun i _=>8 - (intOf i).toNat)
  case atStart=>exact⟨0,Nat.zero_le _,rfl,fun m hm=>absurd hm (Nat.not_lt_zero _),J.out,B⟩
  case round=>
   obtain⟨j,hj,rfl,q,hK,H⟩:=hrel;have f:=A9 q;have l:=A9 hK;have G:g.heap.size<wr.heap.size:=(Array.getElem?_eq_some_iff.1 hK).1;clear q hK;by_cases o:j<8
   ·have Z:(j:Int)<8:=(by omega);obtain⟨y0,y1⟩:=Au (i:=j*2) l.out (ED (BB (p.s k)) (by omega));obtain⟨y2,y3⟩:=Au (i:=j*2+1) l.out (ED (BB (p.s k)) (by omega));by_cases hn:Nil (AH (p.s k) j) (AT (p.s k) j)
    ·have M:=A9 hn;rw[show BB (p.s k) (j*2)=0 from hn.1]at y0;rw[show BB (p.s k) (j*2+1)=0 from hn.2]at y2;clear hn;go_wp2;go_roundw
     case rel=>exact⟨j+1,by omega,by go_num,Bu (n:=8) o f.out (Or.inl M.out),l.out,H⟩
     case measure=>simp[intOf];omega
    ·have M:=A9 hn;have S:=A9 (J6 O.out o hn).1;have e0:(BB (p.s k) (j*2) == 0)=false\/(BB (p.s k) (j*2) == 0)=true/\(BB (p.s k) (j*2+1) == 0)=false:=by
      by_cases h:BB (p.s k) (j*2)=0
      ·right;refine⟨by simp[h],?_⟩;have:BB (p.s k) (j*2+1)≠0:=fun h'=>hn ⟨h,h'⟩
       simp[this]
      ·left;simp[h]
     clear hn;rcases e0 with e0 | ⟨e0,e1⟩
     all_goals
      go_wp2_with fail;refine(A.out _ lo hi (BB (p.s k) (j*2)) (BB (p.s k) (j*2+1)) _ (V.out.A0 H) S.out).mono ?_;rintro e w2 ⟨⟨t,rfl,ht⟩,z⟩;have U:=A9 ht;have K:=A9 ((z.block _ G).trans l.out);have E:=A7 H z;clear ht z y0 y1 y2 y3;cases t
      ·go_wp2;go_ret;refine⟨AL.no fun h=>?_,E⟩;rw[Int.toNat_natCast]at h;rcases h.2 j o with P | P
       ·exact M.out P
       ·exact absurd (U.out.2 P) (by simp)
      ·go_wp2;go_roundw
       case rel=>exact⟨j+1,by omega,by go_num,Bu (n:=8) o f.out (Or.inr (U.out.1 trivial)),K.out,E⟩
       case measure=>simp[intOf];omega
   ·obtain rfl:j=8:=(by omega);go_wp2;go_ret;exact⟨AL.yes (by rw[Int.toNat_natCast];exact⟨N.out,f.out⟩),H⟩
theorem zAR(p:A5)(a:AY p):Lk p 1 (NI p):=Y2 p 1 FF a (by omega) (zAS p)
theorem Y1(p:A5)(a:AY p):Lk p 0 (NH p):=Y2 p 0 (NI p) a (by omega) (zAR p a)
def zGP(s:AG)(w:World)(e:Ending)(w':World):Prop:=
 ∃kv kb,e = .returned (.agg #[.int .i64 s.birth,kv,.string s.data])/\Ca w' kb kv s.kn s.ks s.kb/\(0<s.kn->w.heap.size<=kb/\kb<w'.heap.size)/\Below w.heap.size w w'
def kc(f g:Nat->Int):Nat->List Value
 | 0=>[]
 | k+1=>kc f g k ++ [.int .i64 (f k),.int .i64 (g k)]
theorem KK(f g:Nat->Int)(k:Nat):(kc f g k).length=k*2:=by
 induction k with
 | zero=>rfl
 | succ k ih=>simp[kc,ih];omega
theorem SD(f g:Nat->Int)(k i r:Nat)(hi:i<k)(a:r<2):(kc f g k)[i*2+r]? = [Value.int .i64 (f i),.int .i64 (g i)][r]?:=by
 induction k with
 | zero=>omega
 | succ k ih=>
  unfold kc;by_cases e:i<k
  ·rw[List.getElem?_append_left (by rw[KK];omega)];exact ih e
  ·obtain rfl:i=k:=(by omega);rw[List.getElem?_append_right (by rw[KK];omega),KK];congr 1;omega
theorem Zy(f g:Nat->Int)(k:Nat):∀u∈kc f g k,u.oneCell'=true:=by
 induction k with
 | zero=>intro u a;simp[kc]at a
 | succ k ih=>
  intro u a;simp only[kc,List.mem_append,List.mem_cons,List.not_mem_nil,or_false]at a;rcases a with a | rfl | rfl
  ·exact ih u a
  ·rfl
  ·rfl
variable{b:Nat}{f g:Nat->Int}
theorem Uw{off:Nat}(h:∀i,i<n->w.cell? ⟨b,off+i*2,none⟩=some (.int .i64 (f i))/\w.cell? ⟨b,off+i*2+1,none⟩=some (.int .i64 (g i))) :
 ∀j u,(kc f g n)[j]?=some u->w.cell? ((⟨b,off,none⟩:Addr).add j)=some u:=by
 intro j u d;have k:j<n*2:=by
  have:=(List.getElem?_eq_some_iff.1 d).1
  rwa [KK]at this
 have a:(⟨b,off,none⟩:Addr).add j=⟨b,off+j,none⟩:=by unfold Addr.add;split<;>simp_all
 rw[a];obtain⟨c0,c1⟩:=h (j / 2) (by omega);have e:=SD f g n (j / 2) (j % 2) (by omega) (by omega);rw[show j / 2*2+j % 2=j by omega,d]at e;rcases(by omega:j % 2=0\/j % 2=1)with c | c
 ·rw[c]at e;simp at e;subst e;rw[show off+j=off+j / 2*2 by omega];exact c0
 ·rw[c]at e;simp at e;subst e;rw[show off+j=off+j / 2*2+1 by omega];exact c1
variable{base e:Nat}{v:Value}
theorem Z8(l:n<=maxLen)(h:w.ownsRow base e 2 v n (kc f g n)):∃k,Ca w k v n f g/\(0<n->base<=k/\k<w.heap.size):=by
 by_cases d:0<n
 ·obtain⟨gb,cap,rfl,c,m,j,b⟩:=Fj h d;refine⟨gb,⟨l,_,cap,rfl,c,fun _=>⟨0,rfl,fun i hi=>⟨?_,?_⟩⟩⟩,fun _=>⟨m,j⟩⟩
  ·have:=b (i*2+0) _ (SD f g n i 0 hi (by omega));simpa using this
  ·have:=b (i*2+1) _ (SD f g n i 1 hi (by omega));simpa using this
 ·obtain⟨a,cap,rfl,c⟩:=Bh h;exact⟨0,⟨l,a,cap,rfl,c,fun h=>absurd h d⟩,fun h=>absurd h d⟩
variable{P:Program}
theorem Rx(base:Nat)(t ty e:TypeId)(i:TypeInfo)(size c:Nat)(b:Option Addr)(f:P.underlying t=some (.slice e))(hi:P.info? e=some i)
 (v:Value) (n:Nat) (xs:List Value) (a:w.ownsRow base e size v n xs) :
 (Builtin.append_ #[t,t] ty #[v,.slice b 0 c]).run P w = .ok v w:=by
 rcases a.2 with⟨rfl,rfl⟩ | ⟨g,cap,h,rfl,_,_,d,_⟩
 ·cases b<;>simp[Builtin.append_,run_underlying f,sizeOf,typeInfo,hi,Builtin.lenOf,Builtin.firstCells,loadCells,loadCellsFrom]
 ·cases b<;>simp[Builtin.append_,run_underlying f,sizeOf,typeInfo,hi,Builtin.lenOf,Builtin.firstCells,d,storeCells,loadCells,loadCellsFrom]
variable{rest:List Oper}{Q:Exit->Act->World->Prop}
theorem zDQ{f:Array Oper}{o:Oper}{a:Act}(g:o.guard=none)(s x:Operand)(t:TypeId)
 (l:o.op = .call {callee:=.builtin .append,args:=#[s,x],argTypes:=#[t,t]})
 (base:Nat) (e:TypeId) (i:TypeInfo) (size c m:Nat) (j:Option Addr) (p:P.underlying t=some (.slice e)) (hi:P.info? e=some i)
 (v:Value) (n:Nat) (xs:List Value) (hs:a.eval s=v) (b:w.ownsRow base e size v n xs) (k:m=0) (q:a.eval x = .slice j m c)
 (h:wpList P f Q rest (a.put o.dst v) w):wpList P f Q (o :: rest) a w:=by
 subst k;refine wpList_plain g fun K hK=>?_
 have d:=Rx (P:=P) (w:=w) base t o.type e i size c j p hi v n xs b;unfold Oper.wp;simp[execOp,l,resolve,invoke,builtin,hs,q,d,Result.andThen];exact hK _ _ h
theorem Ls:(Tryz.prog.info? 38).map (fun i=>(i.zero,i.size,i.bytes))=some (some (.agg #[.int .i64 0,.int .i64 0]),2,16):=by kernel_rfl
def sc(f:Nat->AG)(kv:Nat->Value):Nat->List Value
 | 0=>[]
 | k+1=>sc f kv k ++ [.int .i64 (f k).birth,kv k,.string (f k).data]
theorem Gz(f:Nat->AG)(kv:Nat->Value)(k:Nat):(sc f kv k).length=k*3:=by
 induction k with
 | zero=>rfl
 | succ k ih=>simp[sc,ih];omega
theorem IU(f:Nat->AG)(kv:Nat->Value)(k i r:Nat)(hi:i<k)(a:r<3):(sc f kv k)[i*3+r]? = [Value.int .i64 (f i).birth,kv i,.string (f i).data][r]?:=by
 induction k with
 | zero=>omega
 | succ k ih=>
  unfold sc;by_cases e:i<k
  ·rw[List.getElem?_append_left (by rw[Gz];omega)];exact ih e
  ·obtain rfl:i=k:=(by omega);rw[List.getElem?_append_right (by rw[Gz];omega),Gz];congr 1;omega
theorem qi(f:Nat->AG)(kv:Nat->Value)(k:Nat)(h:∀i,i<k->(kv i).oneCell'=true):∀u∈sc f kv k,u.oneCell'=true:=by
 induction k with
 | zero=>intro u a;simp[sc]at a
 | succ k ih=>
  intro u a;simp only[sc,List.mem_append,List.mem_cons,List.not_mem_nil,or_false]at a;rcases a with a | rfl | rfl | rfl
  ·exact ih (fun i hi=>h i (by omega)) u a
  ·rfl
  ·exact h k (by omega)
  ·rfl
variable{w1:World}
theorem ZR(h:Below w.heap.size w w1)(row:Option Nat):w.grownBy w1 row:=⟨h.os,h.tape,h.output,h.size,fun k a _=>h.block k a⟩
def ic(f:Nat->Int):Nat->List Value
 | 0=>[]
 | k+1=>ic f k ++ [.int .i64 (f k)]
theorem Ie(f:Nat->Int)(k:Nat):(ic f k).length=k*1:=by
 induction k with
 | zero=>rfl
 | succ k ih=>simp[ic,ih]
theorem SB(f:Nat->Int)(k i:Nat)(hi:i<k):(ic f k)[i]?=some (Value.int .i64 (f i)):=by
 induction k with
 | zero=>omega
 | succ k ih=>
  unfold ic;by_cases e:i<k
  ·rw[List.getElem?_append_left (by rw[Ie];omega)];exact ih e
  ·obtain rfl:i=k:=(by omega);rw[List.getElem?_append_right (by rw[Ie];omega),Ie];simp
theorem zHs(f:Nat->Int)(k:Nat):∀u∈ic f k,u.oneCell'=true:=by
 induction k with
 | zero=>intro u a;simp[ic]at a
 | succ k ih=>
  intro u a;simp only[ic,List.mem_append,List.mem_cons,List.not_mem_nil,or_false]at a;rcases a with a | rfl
  ·exact ih u a
  ·rfl
theorem add_lit(b off j:Nat):(⟨b,off,none⟩:Addr).add j=⟨b,off+j,none⟩:=by unfold Addr.add;split<;>simp_all
theorem zEq{off:Nat}(h:∀i,i<n->w.cell? ⟨b,off+i,none⟩=some (.int .i64 (f i))) :
 ∀j u,(ic f n)[j]?=some u->w.cell? ((⟨b,off,none⟩:Addr).add j)=some u:=by
 intro j u c;have a:j<n:=by
  have:=(List.getElem?_eq_some_iff.1 c).1;rw[Ie]at this;omega
 rw[SB f n j a]at c;rw[add_lit,h j a];exact c
variable{xs:List Value}
theorem U8{g cap:Nat}(h:w.ownsRow base e 1 (.slice (some ⟨g,0,none⟩) n cap) n xs)(c:0<n):0<n/\(some ⟨g,0,none⟩:Option Addr)=some ⟨g,0,none⟩/\cap<=maxLen/\∃a,w.heap[g]?=some (.cells a e (0,0))/\a.size=cap:=by
 obtain⟨_,⟨h,rfl⟩ | ⟨g',b,a,hv,_,i,_,d,f,_⟩⟩:=h
 ·omega
 ·simp only[Value.slice.injEq,Option.some.injEq,Addr.mk.injEq,and_true,true_and]at hv;obtain⟨rfl,rfl⟩:=hv;exact⟨c,rfl,d,a,i,by simpa using f⟩
theorem zCU(j:n<=maxLen)(h:w.ownsRow base 2 1 v n (ic f n))(l:n=0->∃a,v = .slice a 0 0):∃d,FZ w d v n f/\(0<n->base<=d/\d<w.heap.size):=by
 by_cases g:0<n
 ·obtain⟨gb,cap,rfl,c,d,e,b⟩:=Fj h g;refine⟨gb,⟨j,_,cap,rfl,c,fun _=>⟨0,rfl,fun i hi=>?_⟩,fun _=>?_⟩,fun _=>⟨d,e⟩⟩
  ·have:=b i _ (SB f n i hi);simpa using this
  ·exact U8 h g
 ·obtain⟨a,cap,rfl,c⟩:=Bh h;exact⟨0,⟨j,a,cap,rfl,c,fun h=>absurd h g,fun e=>by obtain⟨m,k⟩:=l (by omega);simp only[Value.slice.injEq]at k;omega⟩,fun h=>absurd h g⟩
theorem AR{P:Prop}(h:P):Hid P:=h
theorem Jx{y:Array Oper}{o:Oper}{a:Act}(r:o.guard=none)(s x:Operand)(t:TypeId)
 (L:o.op = .call {callee:=.builtin .append,args:=#[s,x],argTypes:=#[t,t]})
 (base:Nat) (e:TypeId) (i:TypeInfo) (z:Value) (size bytes:Nat) (M:P.underlying t=some (.slice e)) (hi:P.info? e=some i) (V:i.zero=some z)
 (q:i.size=size) (E:i.bytes=bytes) (J:z.cells.size=size) (I:0<size)
 (v:Value) (n:Nat) (xs:List Value) (hs:a.eval s=v) (g:w.ownsRow base e size v n xs)
 (B:Option Addr) (m c:Nat) (d:List Value) (N:a.eval x = .slice B m c) (F:d.length=m*size) (T:∀u∈d,u.oneCell'=true)
 (f:0<m->∃b off,B=some ⟨b,off,none⟩/\∀j u,d[j]?=some u->w.cell? ⟨b,off+j,none⟩=some u)
 (D:n+m<=maxLen) (k:(n+m)*bytes<=140737488355328) (p:base<=w.heap.size)
 (h:∀A w',w'.ownsRow base e size A (n+m) (xs ++ d)->w.grownBy w' v.ownBlock->(m=0->A=v)->wpList P y Q rest (a.put o.dst A) w'):wpList P y Q (o :: rest) a w:=by
 by_cases l:m=0
 ·have H:d = []:=List.eq_nil_of_length_eq_zero (by rw[F,l,Nat.zero_mul]);exact zDQ r s x t L base e i size c m B M hi v n xs hs g l N (h v w (by subst l;subst H;simpa using g) ⟨rfl,rfl,rfl,Nat.le_refl _,fun _ _ _=>rfl⟩ (fun _=>rfl))
 cases B with
 | none=>
  obtain⟨b,off,C,_⟩:=f (by omega);simp at C
 | some ad=>
  refine wpList_append_own w r s x t L base e i z size bytes M hi V q E J I v n xs hs g ad m c d N F (fun j u K=>?_) T D k p (fun A w' O R _=>h A w' O R (fun e=>absurd e l));have S:0<m:=by
   have:=(List.getElem?_eq_some_iff.1 K).1;rw[F]at this;rcases Nat.eq_zero_or_pos m with G | G
   ·rw[G,Nat.zero_mul]at this;omega
   ·exact G
  obtain⟨b,off,C,U⟩:=f S;simp only[Option.some.injEq]at C;subst C;rw[add_lit];exact U j u K
theorem TM(h:D6 w lo hi v n f){a:Option Addr}{c:Nat}(hv:v = .slice a n c)(i:Below w.heap.size w w') :
 0<n->∃b off,a=some ⟨b,off,none⟩/\∀j u,(ic f n)[j]?=some u->w'.cell? ⟨b,off+j,none⟩=some u:=by
 obtain⟨_,m,c0,d,_,g⟩:=h;subst hv;simp only[Value.slice.injEq,true_and]at d;obtain⟨rfl,rfl⟩:=d;intro hn;obtain⟨b,off,e,_,_,k⟩:=g hn;refine⟨b,off,e,fun j u l=>?_⟩;have:=zEq k j u l;rw[add_lit]at this;exact(i.cell (AZ this)).trans this
theorem zIX(w:World)(x y z:Value)(t:TypeId):∀j u,[x,y,z][j]?=some u->(w.alloc (.cells #[x,y,z] t)).cell? ((⟨w.heap.size,0,none⟩:Addr).add j)=some u:=by
 intro j u a
 match j,a with
 | 0,a=>simp at a;subst a;simp[Addr.add]
 | 1,a=>simp at a;subst a;simp[Addr.add]
 | 2,a=>simp at a;subst a;simp[Addr.add]
 | (j+3),a=>simp at a
theorem zIy(x:Int)(a:Option Addr)(n c:Nat)(s:ByteArray):∀u∈[Value.int .i64 x,.slice a n c,.string s],u.oneCell'=true:=by
 intro u b;simp only[List.mem_cons,List.not_mem_nil,or_false]at b;rcases b with rfl | rfl | rfl<;>rfl
theorem zCk(j:n<=maxLen)(h:w.ownsRow base 2 1 v n (ic f n))(l:n=0->∃a,v = .slice a 0 0):∃e,FZ w e v n f/\(0<n->v.ownBlock=some e):=by
 by_cases d:0<n
 ·obtain⟨gb,cap,rfl,c,e,g,b⟩:=Fj h d;refine⟨gb,⟨j,_,cap,rfl,c,fun _=>⟨0,rfl,fun i hi=>?_⟩,fun _=>?_⟩,fun _=>rfl⟩
  ·have:=b i _ (SB f n i hi);simpa using this
  ·exact U8 h d
 ·obtain⟨a,cap,rfl,c⟩:=Bh h;exact⟨0,⟨j,a,cap,rfl,c,fun h=>absurd h d,fun g=>by obtain⟨m,k⟩:=l (by omega);simp only[Value.slice.injEq]at k;omega⟩,fun h=>absurd h d⟩
theorem zDl{B M bs:Nat}{kv:Nat->Value}(o:F9 w' bs kb kv v0 p.n p.s)(q:MA kb p.n p.s)(i:∀k,FU bs kb p.n p.s k->M<=k/\k<w'.heap.size)(t:p.hn<=maxLen)
 (j:w'.ownsRow base 2 1 v1 p.hn (ic p.h p.hn)) (l:∀k,v1.ownBlock=some k->B<=k/\(k<M\/w'.heap.size<=k\/(k<w'.heap.size/\¬FU bs kb p.n p.s k))) (v:B<=M) (u:p.hn=0->∃a,v1 = .slice a 0 0):Bo w' B w'.heap.size v0 v1 p:=by
 obtain⟨r,hi,d⟩:=zCk t j u;refine⟨bs,r,kb,kv,o,q,hi,fun e m=>?_,fun k g=>?_⟩
 ·have a:=i _ m;have b:=l _ (d e);rcases b.2 with f | f | f
  ·omega
  ·omega
  ·exact f.2 m
 ·rcases g with g | ⟨e,rfl⟩
  ·have:=i _ g;omega
  ·have b:=l _ (d e);have c:=j.lt _ (d e);exact⟨b.1,c.2⟩
theorem Nz{B B' size:Nat}(h:w.ownsRow B' e size v n xs)(d:B<=B'):w.ownsRow B e size v n xs:=
 ⟨h.1,h.2.imp id (fun ⟨g,cap,cur,a,b,c⟩=>⟨g,cap,cur,a,Nat.le_trans d b,c⟩)⟩
def pcl:List (Int×Int)->List Value
 | []=>[]
 | x :: l=>.int .i64 x.1 :: .int .i64 x.2 :: pcl l
theorem Iq:∀l,(pcl l).length=l.length*2
 | []=>rfl
 | x :: l=>by simp[pcl,Iq l];omega
theorem MT:∀l m,pcl (l ++ m)=pcl l ++ pcl m
 | [],m=>rfl
 | x :: l,m=>by simp[pcl,MT l m]
theorem Nf:∀l,∀u∈pcl l,u.oneCell'=true
 | [],u,a=>by simp[pcl]at a
 | x :: l,u,a=>by
  simp only[pcl,List.mem_cons]at a;rcases a with rfl | rfl | a
  ·rfl
  ·rfl
  ·exact Nf l u a
theorem Nd:∀(l:List (Int×Int)) i,i<l.length->(pcl l)[i*2]?=some (.int .i64 (l.getD i (0,0)).1)/\(pcl l)[i*2+1]?=some (.int .i64 (l.getD i (0,0)).2):=by
 intro l
 induction l with
 | nil=>intro i hi;simp at hi
 | cons x l ih=>
  intro i hi;cases i with
  | zero=>exact⟨rfl,rfl⟩
  | succ i=>
   have:=ih i (by simpa using hi);rw[show(i+1)*2=i*2+1+1 by omega];simpa[pcl]using this
def AK(l:List (Int×Int))(i:Nat):Int:=(l.getD i (0,0)).1
def AM(l:List (Int×Int))(i:Nat):Int:=(l.getD i (0,0)).2
theorem Nr:(Tryz.prog.info? 38).map (fun i=>(i.zero,i.size,i.bytes))=some (some (.agg #[.int .i64 0,.int .i64 0]),2,16):=by kernel_rfl
theorem EC(h:Below w.heap.size w w1)(row:Option Nat):w.grownBy w1 row:=⟨h.os,h.tape,h.output,h.size,fun k a _=>h.block k a⟩
def At(w:World)(base:Nat)(v:Value)(l:List (Int×Int)):Prop:=w.ownsRow base 38 2 v l.length (pcl l)
theorem At.A0(h:At w base v l)(a:Below w.heap.size w w1):At w1 base v l:=
 h.kept (EC a none) (by cases v.ownBlock<;>simp)
theorem At.AD{row:Option Nat}(h:At w base v l)(b:w.grownBy w1 row)(a:∀q,v.ownBlock=some q->row≠some q):At w1 base v l:=
 h.kept b (by
  cases hv:v.ownBlock with
  | none=>simp
  | some q=>exact Or.inr (fun e=>a q hv e.symm))
theorem At.nil(w:World)(base:Nat):At w base (.slice none 0 0) []:=World.ownsRow_nil _ _ _ _
theorem At.mono{a:Nat}(h:At w base v l)(f:a<=base):At w a v l:=by
 refine⟨h.1,h.2.imp id ?_⟩;rintro⟨g,cap,b,e,c,d⟩;exact⟨g,cap,b,e,Nat.le_trans f c,d⟩
theorem At.put{o:Nat}(h:At w base v l)(i:b<base)(u:Value):At (w.setCell ⟨b,o,none⟩ u) base v l:=by
 refine⟨h.1,h.2.imp id ?_⟩;rintro⟨g,cap,a,e,c,d,f⟩;exact⟨g,cap,a,e,c,(Below.heap_setCell _ _ _ _ (fun e=>by have:g=b:=e;omega)).trans d,f⟩
theorem At.lt(h:At w base v l){q:Nat}(a:v.ownBlock=some q):base<=q/\q<w.heap.size:=by
 rcases h.2 with⟨rfl,_⟩ | ⟨g,cap,b,rfl,c,d,_⟩
 ·simp[Value.ownBlock]at a
 ·simp only[Value.ownBlock,Option.some.injEq]at a;subst a;exact⟨c,(Array.getElem?_eq_some_iff.1 d).1⟩
theorem At.own(h:At w base v l)(j:l.length<=maxLen):∃b,Ca w b v l.length (AK l) (AM l)/\(0<l.length->v.ownBlock=some b/\base<=b/\b<w.heap.size):=by
 by_cases e:0<l.length
 ·obtain⟨g,cap,rfl,d,k,f,c⟩:=Fj h e;refine⟨g,⟨j,_,cap,rfl,d,fun _=>⟨0,rfl,fun i hi=>?_⟩⟩,fun _=>⟨rfl,k,f⟩⟩;rw[Nat.zero_add];exact⟨c _ _ (Nd l i hi).1,c _ _ (Nd l i hi).2⟩
 ·obtain⟨a,cap,rfl,d⟩:=Bh h;exact⟨0,⟨j,a,cap,rfl,d,fun h=>absurd h e⟩,fun h=>absurd h e⟩
def zHh(l:List (Int×Int))(w:World)(e:Ending)(w':World):Prop:=∃v,e = .returned v/\w'.ownsRow w.heap.size 38 2 v l.length (pcl l)/\Below w.heap.size w w'
def De(F:Int->Int->List (Int×Int))(s:AG):Nat->List (Int×Int)
 | 0=>[]
 | k+1=>De F s k ++ F (AH s k) (AT s k)
theorem Xd(s:AG):∀k,De one s k=kidsUp (AH s) (AT s) k
 | 0=>rfl
 | k+1=>by rw[De,kidsUp,Xd s k]
theorem Xc(p:A5)(s:AG):∀k,De (Cg p) s k=CN p s k
 | 0=>rfl
 | k+1=>by rw[De,CN,Xc p s k]
theorem Xb{F:Int->Int->List (Int×Int)}(hF:∀a b,(F a b).length<=9)(s:AG):∀k,(De F s k).length<=9*k
 | 0=>Nat.le_refl _
 | k+1=>by
  have:=Xb hF s k;have:=hF (AH s k) (AT s k);rw[De,List.length_append];omega
def IV(p:A5)(F:Int->Int->List (Int×Int))(xs xb:Int):List (Int×Int):=if Nil xs xb then [] else(xs,xb) :: De F (p.s xs.toNat) 8
def Lr(p:A5)(L:Int)(F:Int->Int->List (Int×Int)):Prop:=∀(v:Value) (lo hi:Nat) (xs xb:Int) (w:World),CD w lo hi v p.n p.s->(Nil xs xb\/B5 p xs xb)->
 Calls Tryz.prog 162 #[v,.agg #[.int .i64 xs,.int .i64 xb],.int .i64 L] w (zHh (F xs xb) w)
theorem zBZ{K:Nat}{cs:Array Value}(h:w.ownsRow base 38 2 v n xs)(hK:w.heap[K]?=some (.cells cs 108 (0,0))):v.ownBlock≠some K:=by
 intro e;rcases h.2 with⟨rfl,_⟩ | ⟨g,cap,b,rfl,_,a,_⟩
 ·simp[Value.ownBlock]at e
 ·simp only[Value.ownBlock,Option.some.injEq]at e;subst e;rw[hK]at a;simp only[Option.some.injEq,Obj.cells.injEq]at a;exact absurd a.2.1 (by decide)
theorem Ju{xs:Int}(h:¬Nil xs xb):(xs == 0)=false\/(xs == 0)=true/\(xb == 0)=false:=by
 by_cases a:xs=0
 ·right;refine⟨by simp[a],?_⟩;have:xb≠0:=fun b=>h ⟨a,b⟩
  simp[this]
 ·left;simp[a]
theorem zDp(p:A5):Lr p 2 one:=by
 intro v lo hi xs xb w hs j;obtain⟨_,a,c,rfl,_⟩:=id hs;have g:=AC w (.cells #[.int .i64 xs,.int .i64 xb] 38);obtain⟨⟨k,l⟩,⟨m,n⟩⟩:=Ac.new w (.int .i64 xs) (.int .i64 xb) 38;have b:=World.ownsRow_lit (e:=38) (size:=2) (base:=w.heap.size) (w.alloc (.cells #[.int .i64 xs,.int .i64 xb] 38)) #[.int .i64 xs,.int .i64 xb] 1 (by simp) (by unfold maxLen;omega) rfl;rw[World.size_alloc]at b;have d:=A9 b;have h:=A9 (A7 g (AC _ (.cells #[.int .i64 xs,.int .i64 xb] 38)));clear b;by_cases hn:Nil xs xb
 ·have f:=A9 hn;obtain⟨rfl,rfl⟩:=hn;go_enter Tryz.func162,Tryz.ntmps162;go_wp2;go_ret;exact⟨_,rfl,by rw[show one 0 0 = [] from if_pos f.out];exact World.ownsRow_nil _ _ _ _,g⟩
 ·have f:=A9 hn;have e0:=Ju hn;clear hn;rcases e0 with e0 | ⟨e0,i⟩
  all_goals
   go_enter Tryz.func162,Tryz.ntmps162;go_wp2;go_ret;exact⟨_,rfl,by rw[show one xs xb = [(xs,xb)] from if_neg f.out];exact d.out,h.out⟩
theorem X7(p:A5)(L:Int)(F:Int->Int->List (Int×Int))(hR:AY p)(hL:0<=L/\L<2)(hF:∀a b,(F a b).length<=9)(E:Lr p (L+1) F):Lr p L (IV p F):=by
 intro v lo hi xs xb w hs hP;have Hs:=A9 hs;obtain⟨_,a,c,rfl,_⟩:=id hs;have ha:=AC w (.cells #[.int .i64 xs,.int .i64 xb] 38);obtain⟨⟨x0,x1⟩,⟨x2,x3⟩⟩:=Ac.new w (.int .i64 xs) (.int .i64 xb) 38;have pB:(L == 2)=false:=by simp;omega
 clear hs;by_cases hn:Nil xs xb
 ·have HN:=A9 hn;obtain⟨rfl,rfl⟩:=hn;go_enter Tryz.func162,Tryz.ntmps162;go_wp2;go_ret;exact⟨_,rfl,by rw[show IV p F 0 0 = [] from if_pos HN.out];exact World.ownsRow_nil _ _ _ _,ha⟩
 ·have HN:=A9 hn;have e0:=Ju hn;have A:B5 p xs xb:=hP.resolve_left hn;have Hf:=A9 (Er hR A);have R:=A9 E;have HF:=A9 hF;obtain⟨k,rfl⟩:=Int.eq_ofNat_of_zero_le A.2.1;rw[Int.toNat_natCast]at Hf;have hk:k<p.n:=(by have:=A.2.2.1;omega);have sB:(k:Int)<(p.n:Int):=(by omega);clear hn hP A E hR hF;have x:=World.ownsRow_lit (e:=38) (size:=2) (base:=w.heap.size+1) (w.alloc (.cells #[.int .i64 (k:Int),.int .i64 xb] 38)) #[.int .i64 (k:Int),.int .i64 xb] 1 (by simp) (by unfold maxLen;omega) rfl;rw[World.size_alloc]at x;have C:=A9 x;have K:=AC (w.alloc (.cells #[.int .i64 (k:Int),.int .i64 xb] 38)) (.cells #[.int .i64 (k:Int),.int .i64 xb] 38);have J:=A7 ha K;have mA:=(Ac.new w (.int .i64 (k:Int)) (.int .i64 xb) 38).A0 K;clear x0 x1 x2 x3 x ha K;obtain⟨⟨x0,x1⟩,⟨x2,x3⟩⟩:=mA;obtain⟨b,off,ka,kc,rfl,X⟩:=(Hs.out.A0 J).cells hk;have HC:=A9 X;obtain⟨q0,q1,q2,_⟩:=X;obtain⟨y0,y1⟩:=(Ac.new w (.int .i64 (k:Int)) (.int .i64 xb) 38).1;obtain⟨y2,y3⟩:=(Ac.new w (.int .i64 (k:Int)) (.int .i64 xb) 38).2;rcases e0 with e0 | ⟨e0,e1⟩
  all_goals
   go_enter Tryz.func162,Tryz.ntmps162;go_wp2_with fail;refine(OS _ _ _ lo hi (p.s k) _ HC.out.slot (Ld Hf.out)).mono ?_;rintro e O ⟨rfl,B⟩;have T:=A7 J B;have y:=C.out.kept (ZR B none) (Or.inr (by simp[Value.ownBlock]));have Q:Hid ((Tryz.prog.info? 108).map (·.size)=some (B6 (p.s k)).size):=by
    show _=_;rw[B6,Cy];exact GZ
   have D:(O.alloc (.cells (B6 (p.s k)) 108)).heap[O.heap.size]?=some (.cells (B6 (p.s k)) 108 (0,0)):=heap_alloc_last _ _;have HK:=A9 D;have S:=A9 (y.alloc (.cells (B6 (p.s k)) 108));have gA:=A7 T (AC O (.cells (B6 (p.s k)) 108));have aC:w.heap.size+2<=O.heap.size:=(by have:=B.size;rw[World.size_alloc,World.size_alloc]at this;omega);obtain⟨i0,W,N⟩:=Option.map_eq_some_iff.1 Ls;simp only[Prod.mk.injEq]at N;have Z:=A9 (And.intro W N);clear B T y D J x0 x1 x2 x3 y0 y1 y2 y3 q0 q1 q2 HC C W N;go_wp2_with (first
    | (refine wpList_store_row rfl 108 (.tmp 8) (.tmp 23) rfl O.heap.size (B6 (p.s k)) rfl rfl 108 #[Value.int .i64 0,Value.int .i64 0,Value.int .i64 0,Value.int .i64 0,Value.int .i64 0,Value.int .i64 0,Value.int .i64 0,Value.int .i64 0,Value.int .i64 0,Value.int .i64 0,Value.int .i64 0,Value.int .i64 0,Value.int .i64 0,Value.int .i64 0,Value.int .i64 0,Value.int .i64 0] (heap_alloc_last _ _) Q.out (by rw[B6,Cy];rfl) (IE _) ?_;rw[World.setRow_alloc_new]))
   go_loopw [7,24] (fun o i wr=>∃(j:Nat) (oa:Option Addr) (oc:Nat),j<=8/\i = .int .i64 j/\o = .slice oa (((k:Int),xb) :: De F (p.s k) j).length oc/\wr.ownsRow (w.heap.size+1) 38 2 o (((k:Int),xb) :: De F (p.s k) j).length (pcl (((k:Int),xb) :: De F (p.s k) j))/\wr.heap[O.heap.size]?=some (.cells (B6 (p.s k)) 108 (0,0))/\Below w.heap.size w wr) (fun _ i _=>8 - (intOf i).toNat)
   case atStart=>exact⟨0,_,_,Nat.zero_le _,rfl,rfl,S.out,HK.out,gA⟩
   case round=>
    obtain⟨j,oa,oc,hj,rfl,rfl,G,hK,hb⟩:=hrel;have m:=A9 G;have z:=A9 hK;have Y:O.heap.size<wr.heap.size:=(Array.getElem?_eq_some_iff.1 hK).1;have lB:=Xb HF.out (p.s k) j;clear G hK;by_cases lA:j<8
    ·have mB:(j:Int)<8:=(by omega);obtain⟨y0,y1⟩:=Au (i:=j*2) z.out (ED (BB (p.s k)) (by omega));obtain⟨y2,y3⟩:=Au (i:=j*2+1) z.out (ED (BB (p.s k)) (by omega));have fA:Hid (Nil (BB (p.s k) (j*2)) (BB (p.s k) (j*2+1))\/B5 p (BB (p.s k) (j*2)) (BB (p.s k) (j*2+1))):=by
      by_cases hn:Nil (AH (p.s k) j) (AT (p.s k) j)
      ·exact Or.inl hn
      ·exact Or.inr (J6 Hf.out lA hn).1
     go_wp2_with fail;refine(R.out _ lo hi (BB (p.s k) (j*2)) (BB (p.s k) (j*2+1)) _ (Hs.out.A0 hb) fA.out).mono ?_;rintro e w2 ⟨v2,rfl,l,r⟩;obtain⟨na,nc,rfl,_⟩:=Bh l;have tB:=HF.out (BB (p.s k) (j*2)) (BB (p.s k) (j*2+1));have H:=A9 l;have h:=A9 (m.out.kept (ZR r none) (by cases hv:(Value.slice oa (((k:Int),xb) :: De F (p.s k) j).length oc).ownBlock<;>simp));have P:=A9 ((r.block _ Y).trans z.out);have U:=A7 hb r;have bC:=r.size;clear l r y0 y1 y2 y3 m z;go_wp2_with (first
      | (at_builtin;refine Jx rfl _ _ 39 rfl (w.heap.size+1) 38 i0 (.agg #[.int .i64 0,.int .i64 0]) 2 16 (by kernel_rfl) Z.out.1 Z.out.2.1 Z.out.2.2.1 Z.out.2.2.2 rfl (by decide) (.slice oa (((k:Int),xb) :: De F (p.s k) j).length oc) (((k:Int),xb) :: De F (p.s k) j).length (pcl (((k:Int),xb) :: De F (p.s k) j)) rfl ?c0 na (F (BB (p.s k) (j*2)) (BB (p.s k) (j*2+1))).length nc (pcl (F (BB (p.s k) (j*2)) (BB (p.s k) (j*2+1)))) rfl (Iq _) (Nf _) ?c1 ?c3 ?c4 ?c5 ?_))
     case c0=>exact h.out
     case c1=>
      intro h0;obtain⟨g,cap,e,_,_,_,M⟩:=Fj H.out h0;simp only[Value.slice.injEq,true_and]at e;exact⟨g,0,e.1,fun j u hj=>by rw[Nat.zero_add];exact(M j u hj).1⟩
     case c3=>rw[List.length_cons];unfold maxLen;omega
     case c4=>rw[List.length_cons];omega
     case c5=>omega
     intro v3 w3 f d _;have t:((k:Int),xb) :: De F (p.s k) (j+1)=(((k:Int),xb) :: De F (p.s k) j) ++ F (BB (p.s k) (j*2)) (BB (p.s k) (j*2+1)):=rfl;have V:(De F (p.s k) j).length+1+(F (BB (p.s k) (j*2)) (BB (p.s k) (j*2+1))).length=(((k:Int),xb) :: De F (p.s k) (j+1)).length:=(by rw[t,List.length_append,List.length_cons]);rw[<-MT,<-t,V]at f;have cA:=A9 ((d.block _ (by omega) (fun e=>zBZ h.out P.out e.symm)).trans P.out);have iA:=U.grown d U.size (fun q hq=>by have:=h.out.lt q hq;omega);obtain⟨nA,oA,rfl,_⟩:=Bh f;have I:=A9 f;clear f d t V;go_wp2;go_roundw
     case rel=>exact⟨j+1,nA,oA,by omega,by go_num,rfl,I.out,cA.out,iA⟩
     case measure=>simp[intOf];omega
    ·obtain rfl:j=8:=(by omega);go_wp2;go_ret;refine⟨_,rfl,?_,hb⟩;rw[show IV p F (k:Int) xb=((k:Int),xb) :: De F (p.s k) 8 by unfold IV;rw[if_neg HN.out,Int.toNat_natCast]];exact Nz m.out (by omega)
theorem zDo(p:A5)(c:AY p):Lr p 1 (Cg p):=by
 have h:=X7 p 1 one c (by omega) (fun a b=>by unfold one;split<;>simp) (zDp p);have e:IV p one=Cg p:=by
  funext xs xb;unfold IV Cg Ec;rw[Xd]
 rw[e]at h;exact h
theorem X6(p:A5)(a:AY p):Lr p 0 (AF p):=by
 have h:=X7 p 0 (Cg p) a (by omega) (Ud p) (zDo p a);have e:IV p (Cg p)=AF p:=by
  funext xs xb;unfold IV AF;rw[Xc]
 rw[e]at h;exact h
end Go.Proofs.YtehdoekmnicdiaaGreatDoor
