/- A part of the proof. -/
import Derived.Test.YtddigaohmfpepaaGreatDoorF9
set_option linter.unusedVariables false
set_option maxRecDepth 20000
set_option maxHeartbeats 4000000
namespace Go.Proofs.YtddigaohmfpepaaGreatDoor
noncomputable section
open Go.RowKit
open Classical in
def roomN(f:Nat->AH):Nat->Nat
 | 0=>0
 | k+1=>roomN f k+(if Ah (f k)then 1 else 0)
variable{f:Nat->AH}{k:Nat}
theorem Jl(h:Ah (f k)):roomN f (k+1)=roomN f k+1:=by simp[roomN,h]
theorem J0(h:¬Ah (f k)):roomN f (k+1)=roomN f k:=by simp[roomN,h]
theorem Nh(f:Nat->AH):∀k,roomN f k<=k
 | 0=>Nat.le_refl _
 | k+1=>by
  have:=Nh f k;by_cases h:Ah (f k)
  ·rw[Jl h];omega
  ·rw[J0 h];omega
open Classical in
def Ml(p:A7):Int:=if AZ p then(roomN p.s p.n:Int)else 0
theorem J1(p:A7)(i:Nat)(s:AH):(Au p i s).s i=s:=if_pos rfl
variable{i:Nat}
theorem J2(p:A7){j:Nat}(s:AH)(h:j≠i):(Au p i s).s j=p.s j:=if_neg h
variable{p:A7}{s:AH}{xs xb:Int}
theorem MI(hi:Ah (p.s i))(h:B8 p xs xb):B8 (Au p i s) xs xb:=by
 obtain⟨c,d,f,b⟩:=h;refine⟨c,d,f,?_⟩;have a:xs.toNat≠i:=fun e=>by
  rw[e]at b;have:=hi.1;omega
 rw[J2 p s a];exact b
theorem Uz{t:AH}(hi:Ah (p.s i))(h:C5 p t):C5 (Au p i s) t:=by
 refine⟨h.1,?_⟩;rcases h.2 with a | a
 ·exact Or.inl a
 ·refine Or.inr ⟨a.1,a.2.1,fun m c=>?_⟩;rcases a.2.2 m c with b | b
  ·exact Or.inl b
  ·exact Or.inr ⟨MI hi b.1,b.2⟩
theorem O9(a:AZ p)(hi:Ba p.n p.s i)(hs:C5 p s):AZ (Au p i s):=by
 refine⟨a.1,fun j b=>?_,fun j b=>?_⟩
 ·by_cases e:j=i
  ·rw[e,J1];exact Or.inr (Uz hi.2.1 hs)
  ·rw[J2 p s e];rcases a.2.1 j b with h | h
   ·exact Or.inl h
   ·exact Or.inr (Uz hi.2.1 h)
 ·obtain⟨f,g,d,k⟩:=a.2.2 j b;refine⟨f,g,?_,k⟩;have c:(p.h j).toNat≠i:=fun e=>d (by rw[e];exact hi.2.1)
  show ¬Ah ((Au p i s).s (p.h j).toNat);rw[J2 p s c];exact d
theorem GC(h:C5 p s):¬Ah s:=fun a=>by
 have:=a.1;have:=h.1.1;omega
theorem UO{p:A7}{i:Nat}{s:AH}(hi:Ah (p.s i))(hs:¬Ah s):∀n,roomN (Au p i s).s n+(if i<n then 1 else 0)=roomN p.s n
 | 0=>rfl
 | n+1=>by
  have f:=UO hi hs n;by_cases e:n=i
  ·subst e;rw[if_pos (by omega)];rw[if_neg (by omega)]at f;rw[J0 (by rw[J1];exact hs),Jl hi];omega
  ·have a:(Au p i s).s n=p.s n:=J2 p s e;have c:(if i<n+1 then 1 else 0)=(if i<n then 1 else 0):=by
    by_cases d:i<n
    ·rw[if_pos d,if_pos (by omega)]
    ·rw[if_neg d,if_neg (by omega)]
   rw[c];by_cases b:Ah (p.s n)
   ·rw[Jl (by rw[a];exact b),Jl b];omega
   ·rw[J0 (by rw[a];exact b),J0 b];exact f
def At(w:World)(b:Nat)(v0 v1 v2 v3 v4 v5:Value):Prop:=AO w b 0 v0/\AO w b 1 v1/\AO w b 2 v2/\AO w b 3 v3/\AO w b 4 v4/\AO w b 5 v5
variable{w:World}{b:Nat}{v0 v1 v2 v3 v4 v5:Value}
theorem At.c(h:At w b v0 v1 v2 v3 v4 v5):w.cell? ⟨b,0,none⟩=some v0/\w.cell? ⟨b,1,none⟩=some v1/\w.cell? ⟨b,2,none⟩=some v2/\w.cell? ⟨b,3,none⟩=some v3/\w.cell? ⟨b,4,none⟩=some v4/\w.cell? ⟨b,5,none⟩=some v5:=
 ⟨h.1.1,h.2.1.1,h.2.2.1.1,h.2.2.2.1.1,h.2.2.2.2.1.1,h.2.2.2.2.2.1⟩
variable{w':World}
theorem At.A1(h:At w b v0 v1 v2 v3 v4 v5)(t:Below w.heap.size w w'):At w' b v0 v1 v2 v3 v4 v5:=⟨h.1.A1 t,h.2.1.A1 t,h.2.2.1.A1 t,h.2.2.2.1.A1 t,h.2.2.2.2.1.A1 t,h.2.2.2.2.2.A1 t⟩
variable{S:Nat->Prop}
theorem At.AD(h:At w b v0 v1 v2 v3 v4 v5)(t:AC S w w')(hs:¬S b):At w' b v0 v1 v2 v3 v4 v5:=⟨h.1.AD t hs,h.2.1.AD t hs,h.2.2.1.AD t hs,h.2.2.2.1.AD t hs,h.2.2.2.2.1.AD t hs,h.2.2.2.2.2.AD t hs⟩
theorem At.new(w:World)(b v1 c d e f:Value)(t:TypeId):At (w.alloc (.cells #[b,v1,c,d,e,f] t)) w.heap.size b v1 c d e f:=by
 have a:(w.alloc (.cells #[b,v1,c,d,e,f] t)).heap[w.heap.size]?=some (.cells #[b,v1,c,d,e,f] t):=heap_alloc_new _ _;exact⟨Az a rfl,Az a rfl,Az a rfl,Az a rfl,Az a rfl,Az a rfl⟩
abbrev put6(w:World)(b:Nat)(u0 u1 u2 u3 u4 u5:Value):World:=(((((w.setCell ⟨b,0,none⟩ u0).setCell ⟨b,1,none⟩ u1).setCell ⟨b,2,none⟩ u2).setCell ⟨b,3,none⟩ u3).setCell ⟨b,4,none⟩ u4).setCell ⟨b,5,none⟩ u5
theorem At.put(h:At w b v0 v1 v2 v3 v4 v5)(a d u2 u3 u4 f:Value):At (put6 w b a d u2 u3 u4 f) b a d u2 u3 u4 f:=
 have H (i:Nat) (u v:Value) (e:[a,d,u2,u3,u4,f][i]?=some u) (c:AO w b i v):AO (put6 w b a d u2 u3 u4 f) b i u:=LY [a,d,u2,u3,u4,f] w 0 i i e (Nat.zero_add i) c
 ⟨H 0 _ _ rfl h.1,H 1 _ _ rfl h.2.1,H 2 _ _ rfl h.2.2.1,H 3 _ _ rfl h.2.2.2.1,H 4 _ _ rfl h.2.2.2.2.1,H 5 _ _ rfl h.2.2.2.2.2⟩
theorem AC.put6(w:World)(b:Nat)(a c u2 u3 u4 d:Value):AC (fun k=>k=b) w (put6 w b a c u2 u3 u4 d):=
 (((((AC.put w b 0 a).trans (AC.put _ b 1 c)).trans (AC.put _ b 2 u2)).trans (AC.put _ b 3 u3)).trans (AC.put _ b 4 u4)).trans (AC.put _ b 5 d)
def Ao(p:A7)(xs xb:Int)(n L:Nat)(x:Int)(i:Nat):Int:=if i=plc n L then x else BU p (BN p xs xb n L) (Bd p xs xb n L) i
def Am(p:A7)(xs xb:Int)(n L:Nat)(y:Int)(i:Nat):Int:=if i=plc n L then y else Be p (BN p xs xb n L) (Bd p xs xb n L) i
def JH(p:A7)(xs xb:Int)(n:Nat)(b:Int)(o:Dr)(L:Nat):Dr:=GP o.pool (Ao p xs xb n L o.ps) (Am p xs xb n L o.pb) b
def layS(p:A7)(xs xb:Int)(n:Nat)(b:Int)(o:Dr):Nat->Dr
 | 0=>o
 | k+1=>JH p xs xb n b (layS p xs xb n b o k) (1 - k)
theorem Xx:Ap (Cs 0)=0:=rfl
theorem RK(p:A7)(s:AH):Ap (Bv p s).pool<=Ap p+Ce s:=by
 unfold Bv;split
 ·split
  ·exact Vi _ _ _
  ·show Ap (Cs 0)<=_;rw[Xx];omega
 ·show Ap (Cs 0)<=_;rw[Xx];omega
theorem zAR(p:A7)(f g:Nat->Int)(b:Int):Ap (GP p f g b).pool<=Ap p+8:=by
 unfold GP;split
 ·show Ap p<=_;omega
 ·exact RK p (Bc f g b)
theorem Qr(p:A7)(xs xb:Int)(n:Nat)(b:Int)(o:Dr):∀k,Ap (layS p xs xb n b o k).pool<=Ap o.pool+8*k
 | 0=>Nat.le_refl _
 | k+1=>by
  have a:=Qr p xs xb n b o k;have c:=zAR (layS p xs xb n b o k).pool (Ao p xs xb n (1 - k) (layS p xs xb n b o k).ps) (Am p xs xb n (1 - k) (layS p xs xb n b o k).pb) b;show Ap (GP _ _ _ _).pool<=_;omega
variable{n L:Nat}
theorem zDT{M:Nat}{o:Value}{B:Nat}(b:L<2)(h:CC w B (BY p xs xb n 2 M o)):w.rangeAt B (2+L*16) (Aj (Cx p xs xb n L)).toList:=fun j v hv=>by
 have a:j<16:=by
  have:=(List.getElem?_eq_some_iff.1 hv).1;simpa[D4]using this
 have e:(Aj (Cx p xs xb n L)).toList[j]?=some (A0 (Cx p xs xb n L j)):=by rw[Array.getElem?_toList];exact EM (Cx p xs xb n L) a
 rw[e]at hv;simp only[Option.some.injEq]at hv;rw[<-hv,(h (2+L*16+j) (by omega)).1];unfold BY;rw[if_neg (by omega),if_pos (by omega),show(2+L*16+j - 2) / 16=L by omega,show(2+L*16+j - 2) % 16=j by omega,if_pos (by omega)]
theorem zGu(p:A7)(xs xb:Int)(n L:Nat)(x y:Int)(hn:n<64):Aj (fun j=>if j=plc n L*2 then x else if j=plc n L*2+1 then y else Cx p xs xb n L j)=Aj (mix (Ao p xs xb n L x) (Am p xs xb n L y)):=by
 refine X9 fun j d=>?_
 unfold mix Ao Am;by_cases a:j=plc n L*2
 ·rw[if_pos a,if_pos (by omega),if_pos (by omega)]
 rw[if_neg a];by_cases b:j=plc n L*2+1
 ·rw[if_pos b,if_neg (by omega),if_pos (by omega)]
 rw[if_neg b];unfold Cx BU Be AK AW;by_cases c:j % 2=0
 ·rw[if_pos c,if_neg (show ¬j / 2=plc n L by omega),show j / 2*2=j by omega]
 ·rw[if_neg c,if_neg (show ¬j / 2=plc n L by omega),show j / 2*2+1=j by omega]
structure D9 where
 pool:A7
 rs:Int
 rb:Int
 old:List (Int×Int)
 code:Int
def DM(c:Int):D9:=⟨Cs 0,0,0,[],c⟩
def Q0(t:D9)(w:World)(e:Ending)(w':World):Prop:=
 ∃v0 v1 vo lo hi,e = .returned (.agg #[v0,v1,A0 t.rs,A0 t.rb,vo,A0 t.code])/\w.heap.size<=lo/\hi<=w'.heap.size/\Bq w' lo hi v0 v1 t.pool/\Ax w' w.heap.size vo t.old/\(∀k,vo.ownBlock=some k->k<lo\/hi<=k)/\Below w.heap.size w w'
open Classical in
def CJ(p:A7)(xs xb:Int)(n:Nat)(b:Int)(o:Dr):D9:=
 if (layS p xs xb n b o 1).code≠0 then DM (layS p xs xb n b o 1).code
 else if (layS p xs xb n b o 2).code≠0 then DM (layS p xs xb n b o 2).code
 else⟨(layS p xs xb n b o 2).pool,(layS p xs xb n b o 2).ps,(layS p xs xb n b o 2).pb,BS p xs xb n 3,0⟩
variable{b:Int}{o:Dr}
theorem LW(d:k<2)(h:∀j,j<=k->(layS p xs xb n b o j).code=0)(a:(layS p xs xb n b o (k+1)).code≠0):CJ p xs xb n b o=DM (layS p xs xb n b o (k+1)).code:=by
 unfold CJ;rcases k with _ | _ | k
 ·rw[if_pos a]
 ·rw[if_neg (fun c=>c (h 1 (by omega))),if_pos a]
 ·omega
theorem NW(h:∀j,j<=2->(layS p xs xb n b o j).code=0):CJ p xs xb n b o=⟨(layS p xs xb n b o 2).pool,(layS p xs xb n b o 2).ps,(layS p xs xb n b o 2).pb,BS p xs xb n 3,0⟩:=by
 unfold CJ;rw[if_neg (fun a=>a (h 1 (by omega))),if_neg (fun a=>a (h 2 (by omega)))]
theorem zGH(w:World)(a b e g:Value)(f:Nat->Value)(c d h j:TypeId) :
 Ad ((((w.alloc (.cells #[a,b] c)).alloc (.cells (CW f) d)).alloc (.cells #[e,g] h)).alloc (.cells #[A5,A5,A0 0,A0 0,A5,A0 0] j)) w.heap.size a b/\
 CC ((((w.alloc (.cells #[a,b] c)).alloc (.cells (CW f) d)).alloc (.cells #[e,g] h)).alloc (.cells #[A5,A5,A0 0,A0 0,A5,A0 0] j)) (w.heap.size+1) f/\
 Ad ((((w.alloc (.cells #[a,b] c)).alloc (.cells (CW f) d)).alloc (.cells #[e,g] h)).alloc (.cells #[A5,A5,A0 0,A0 0,A5,A0 0] j)) (w.heap.size+1+1) e g/\
 At ((((w.alloc (.cells #[a,b] c)).alloc (.cells (CW f) d)).alloc (.cells #[e,g] h)).alloc (.cells #[A5,A5,A0 0,A0 0,A5,A0 0] j)) (w.heap.size+1+1+1) (A5) (A5) (A0 0) (A0 0) (A5) (A0 0)/\
 Below w.heap.size w ((((w.alloc (.cells #[a,b] c)).alloc (.cells (CW f) d)).alloc (.cells #[e,g] h)).alloc (.cells #[A5,A5,A0 0,A0 0,A5,A0 0] j))/\
 ((((w.alloc (.cells #[a,b] c)).alloc (.cells (CW f) d)).alloc (.cells #[e,g] h)).alloc (.cells #[A5,A5,A0 0,A0 0,A5,A0 0] j)).heap.size=w.heap.size+4:=by
 have o:=AB w (.cells #[a,b] c);have m:=AB (w.alloc (.cells #[a,b] c)) (.cells (CW f) d);have l:=AB ((w.alloc (.cells #[a,b] c)).alloc (.cells (CW f) d)) (.cells #[e,g] h);have k:=AB (((w.alloc (.cells #[a,b] c)).alloc (.cells (CW f) d)).alloc (.cells #[e,g] h)) (.cells #[A5,A5,A0 0,A0 0,A5,A0 0] j);refine⟨(((Ad.new w a b c).A1 m).A1 l).A1 k,?_,?_,?_,A9 (A9 (A9 o m) l) k,by simp⟩
 ·have p:CC ((w.alloc (.cells #[a,b] c)).alloc (.cells (CW f) d)) (w.heap.size+1) f:=fun i hi=>by
   have n:=heap_alloc_new (w.alloc (.cells #[a,b] c)) (.cells (CW f) d);rw[World.size_alloc]at n;refine Az (i:=i) n ?_;simp[CW,hi]
  exact(p.A1 l).A1 k
 ·have:=(Ad.new ((w.alloc (.cells #[a,b] c)).alloc (.cells (CW f) d)) e g h).A1 k;rw[World.size_alloc,World.size_alloc]at this;exact this
 ·have:=At.new (((w.alloc (.cells #[a,b] c)).alloc (.cells (CW f) d)).alloc (.cells #[e,g] h)) (A5) (A5) (A0 0) (A0 0) (A5) (A0 0) j;rw[World.size_alloc,World.size_alloc,World.size_alloc]at this;exact this
def yY(p:A7)(xs xb:Int)(n:Nat)(S:Nat->Dr)(o:Value)(w:World)(k:Nat)(wr:World):Prop:=
 (∀j,j<=k->(S j).code=0)/\∃s0 s1,Ad wr w.heap.size s0 s1/\CD wr 0 wr.heap.size s0 s1 (S k).pool/\(0<k->Bq wr (w.heap.size+5) wr.heap.size s0 s1 (S k).pool)/\
  Ad wr (w.heap.size+4) (A0 (S k).ps) (A0 (S k).pb)/\CC wr (w.heap.size+1) (BY p xs xb n 2 3 o)/\
  At wr (w.heap.size+1+1+1) (A5) (A5) (A0 0) (A0 0) (A5) (A0 0)/\w.heap.size+5<=wr.heap.size/\Below w.heap.size w wr
variable{lo hi:Nat}
theorem CL.all{v:Value}(h:CL w lo hi v n f):CL w 0 w.heap.size v n f:=by
 obtain⟨k,a,cap,hv,c,m⟩:=h;refine⟨k,a,cap,hv,c,fun hn=>?_⟩;obtain⟨b,off,l,o,p,d⟩:=m hn;refine⟨b,off,l,Nat.zero_le _,?_,fun i hi=>?_⟩
 ·obtain⟨e,v1,g,c0,_⟩:=d 0 hn;exact AV c0
 ·obtain⟨e,v1,g,c0,c1,j,hs⟩:=d i hi;exact⟨e,v1,g,c0,c1,j,hs.all⟩
theorem CD.all(h:CD w lo hi v0 v1 p):CD w 0 w.heap.size v0 v1 p:=⟨h.1.all,h.2.all⟩
theorem Yo(v0 v1:Value)(lo hi:Nat)(p q:A7)(xs xb x y b:Int)(n:Nat)(o:Value)(w:World)(h1:CD w lo hi v0 v1 q)(hn:n<64)(hq:Ap q+16<=1048576)(hr:Ax w 0 o (BS p xs xb n 3)) :
 Calls Tryz.prog 79 #[.agg #[v0,v1],.agg (CW (BY p xs xb n 2 3 o)),.agg #[A0 x,A0 y],A0 b] w fun e w'=>
  ((CJ p xs xb n b ⟨q,x,y,0⟩).code≠0/\e = .returned (.agg #[A5,A5,A0 0,A0 0,A5,A0 (CJ p xs xb n b ⟨q,x,y,0⟩).code])/\Below w.heap.size w w')\/
  ((CJ p xs xb n b ⟨q,x,y,0⟩).code=0/\∃s0 s1,e = .returned (.agg #[s0,s1,A0 (layS p xs xb n b ⟨q,x,y,0⟩ 2).ps,A0 (layS p xs xb n b ⟨q,x,y,0⟩ 2).pb,o,A0 0])/\Bq w' w.heap.size w'.heap.size s0 s1 (layS p xs xb n b ⟨q,x,y,0⟩ 2).pool/\Below w.heap.size w w'):=by
 have Hp:=AF h1;obtain⟨a,c,a',c',rfl,rfl⟩:=h1.form;have Hq:=AF hq;have Hr:=AF hr;clear h1 hq hr;have cD:=zGH w (.slice a q.n c) (.slice a' q.hn c') (A0 x) (A0 y) (BY p xs xb n 2 3 o) 26 125 38 81;go_enter Tryz.func79,Tryz.ntmps79;go_upto_region 1 with fail;generalize (((w.alloc (.cells #[.slice a q.n c,.slice a' q.hn c'] 26)).alloc (.cells (CW (BY p xs xb n 2 3 o)) 125)).alloc (.cells #[A0 x,A0 y] 38)).alloc (.cells #[A5,A5,A0 0,A0 0,A5,A0 0] 81)=W at cD ⊢;obtain⟨hB,hW,hX,hR,sB,hz⟩:=cD;have HB:=AF hB;have HW:=AF hW;have HR:=AF hR;obtain⟨⟨x0,x1⟩,⟨x2,x3⟩⟩:=hX;have g:=AB W (.cells #[A0 x,A0 y] 38);have kC:=AF (show Ad (W.alloc (.cells #[A0 x,A0 y] 38)) (w.heap.size+4) (A0 x) (A0 y)from hz▸Ad.new W (A0 x) (A0 y) 38);clear hB hW hR;go_wp2_with fail;have oC:Hid (yY p xs xb n (layS p xs xb n b ⟨q,x,y,0⟩) o w 0 (W.alloc (.cells #[A0 x,A0 y] 38))):=by
  refine⟨fun j hj=>?_,_,_,HB.out.A1 g,((Hp.out.A1 sB).A1 g).all,fun h=>absurd h (Nat.lt_irrefl _),kC.out,HW.out.A1 g,HR.out.A1 g,by rw[World.size_alloc];omega,A9 sB g⟩;obtain rfl:j=0:=(by omega);rfl
 have mD:=AF (Qr p xs xb n b ⟨q,x,y,0⟩);clear g kC HB HW HR x0 x1 x2 x3 sB hz
 go_loopw [15] (fun i wr=>∃k:Nat,k<=2/\i=A0 k/\yY p xs xb n (layS p xs xb n b ⟨q,x,y,0⟩) o w k wr) (fun i _=>2 - (intOf i).toNat)
 case atStart=>exact⟨0,by omega,rfl,oC.out⟩
 case round=>
  obtain⟨k,P,rfl,jA,s0,s1,rC,nB,tC,vC,bD,aD,aG,sA⟩:=hrel;have C:=AF jA;have lC:=AF nB;have mC:=AF tC;have jB:=AF rC;have kB:=AF vC;have nA:=AF bD;have lA:=AF aD;obtain⟨ra,bB,vA,aB,rfl,rfl⟩:=nB.form;clear jA nB tC rC vC bD aD oC;obtain⟨⟨x0,x1⟩,⟨x2,x3⟩⟩:=jB.out;obtain⟨⟨y0,y1⟩,⟨y2,y3⟩⟩:=kB.out;by_cases nD:k<2
  ·obtain⟨L,sC⟩:∃L,L=1 - k:=⟨_,rfl⟩;have hL:L<2:=(by omega);have rF:(L:Int)<2:=(by omega);have aF:(k:Int)<2:=(by omega);have vE:(1:Int) - (k:Int)=(L:Int):=(by omega);have jD:Hid (layS p xs xb n b ⟨q,x,y,0⟩ (k+1)=JH p xs xb n b (layS p xs xb n b ⟨q,x,y,0⟩ k) L):=(by rw[sC];rfl);have lD:=AF (mD.out k);have nC:Hid ((Tryz.prog.info? 121).map (·.size)=some (Aj (Cx p xs xb n L)).size):=by
    show _=_;rw[D4];exact GV
   have kD:Hid ((Tryz.prog.info? 121).map (·.size)=some (Aj (Cx p xs xb n L)).toList.length):=by
    show _=_;rw[GV];simp[Aj]
   clear sC;go_upto_region 7 with(first
    | (refine wpList_load_mid rfl 121 (.tmp 22) rfl (w.heap.size+1) (2+L*16) rfl (Aj (Cx p xs xb n L)).toList _ (zDT hL nA.out) FP rfl kD.out ?_)
    | (refine wpList_store_row rfl 121 (.tmp 12) (.tmp 23) rfl wr.heap.size (Aj (Cx p xs xb n L)) rfl rfl 121 #[Value.int .i64 0,Value.int .i64 0,Value.int .i64 0,Value.int .i64 0,Value.int .i64 0,Value.int .i64 0,Value.int .i64 0,Value.int .i64 0,Value.int .i64 0,Value.int .i64 0,Value.int .i64 0,Value.int .i64 0,Value.int .i64 0,Value.int .i64 0,Value.int .i64 0,Value.int .i64 0] (heap_alloc_last _ _) nC.out (by rw[D4];rfl) (I7 _) ?_;rw[World.setRow_alloc_new]))
   have g:=AB wr (.cells (Aj (Cx p xs xb n L)) 121);have dA:Hid ((wr.alloc (.cells (Aj (Cx p xs xb n L)) 121)).heap[wr.heap.size]?=some (.cells (Aj (Cx p xs xb n L)) 121)):=heap_alloc_last _ _;have pA:Hid (wr.heap.size<(wr.alloc (.cells (Aj (Cx p xs xb n L)) 121)).heap.size):=(by show _<_;rw[World.size_alloc];omega);have V:=AF (lC.out.A1 g);have U:=AF (jB.out.A1 g);have G:=AF (kB.out.A1 g);have I:=AF (nA.out.A1 g);have Z:=AF (lA.out.A1 g);have M:=A9 sA g;clear x0 x1 x2 x3 y0 y1 y2 y3 g sA lC mC jB kB nA lA;generalize wr.alloc (.cells (Aj (Cx p xs xb n L)) 121)=wA at dA pA V U G I Z M ⊢;have rD:=My (n:=n) (L:=L) hn;have bF:((plc n L:Nat):Int)<8:=(by omega);obtain⟨⟨y0,y1⟩,⟨y2,y3⟩⟩:=G.out;obtain⟨z0,_⟩:=I.out L (by omega);rw[Xp p xs xb n _ _ _ hL]at z0;obtain⟨c0,c1⟩:=Az (i:=plc n L*2) dA.out (EM (Cx p xs xb n L) (by omega));obtain⟨c2,c3⟩:=Az (i:=plc n L*2+1) dA.out (EM (Cx p xs xb n L) (by omega));have fA:Hid (∀(u v:Value) (s:World),s=((wA.drew.setCell ⟨wr.heap.size,plc n L*2,none⟩ u).setCell ⟨wr.heap.size,plc n L*2+1,none⟩ v)->(s.cell? ⟨w.heap.size+1,L,none⟩=some (A0 ((plc n L:Nat):Int))/\s.cell? ⟨w.heap.size+4,0,none⟩=some (A0 (layS p xs xb n b ⟨q,x,y,0⟩ k).ps)/\s.cell? ⟨w.heap.size+4,1,none⟩=some (A0 (layS p xs xb n b ⟨q,x,y,0⟩ k).pb))):=by
    intro u v s e5;have R:AC (fun k=>k=wr.heap.size) wA.drew ((wA.drew.setCell ⟨wr.heap.size,plc n L*2,none⟩ u).setCell ⟨wr.heap.size,plc n L*2+1,none⟩ v):=((AC.refl (fun k=>k=wr.heap.size) wA.drew).setCell (p:=⟨wr.heap.size,plc n L*2,none⟩) rfl _).setCell (p:=⟨wr.heap.size,plc n L*2+1,none⟩) rfl _;have vB:wr.heap.size<wA.drew.heap.size:=pA.out;rw[e5,R.cell (by omega) (by omega),R.cell (by omega) (by omega),R.cell (by omega) (by omega)];exact⟨z0,y0,y2⟩
   simp only[Act.put];refine wp_region_held_drew (S:=(fun w'=>w'.cell? ⟨w.heap.size+1,L,none⟩=some (A0 ((plc n L:Nat):Int))/\w'.cell? ⟨w.heap.size+4,0,none⟩=some (A0 (layS p xs xb n b ⟨q,x,y,0⟩ k).ps)/\w'.cell? ⟨w.heap.size+4,1,none⟩=some (A0 (layS p xs xb n b ⟨q,x,y,0⟩ k).pb))) (by kernel_rfl) ?_ (fun hHeld=>?_)
   ·(try dsimp only)
    go_keep
   refine tk 0 (h:=tk 1 (h:=tk 2 (h:=tk 3 (h:=tk 4 (h:=tk 5 (h:=?_))))));refine rd [6] (rc (fun K hK=>?_) .nil);go_simp
   (try go_wp2_with fail)
   refine hK.out _ _ (by(try dsimp only);exact fA.out _ _ _ rfl) ?_;clear hK K hHeld;intro hHeld
   try simp only[Act.put,s1,s2,s3]
   refine wpAnyH_done (by kernel_rfl) ?_ _;have R:AC (fun k=>k=wr.heap.size) wA ((wA.setCell ⟨wr.heap.size,plc n L*2,none⟩ (A0 (layS p xs xb n b ⟨q,x,y,0⟩ k).ps)).setCell ⟨wr.heap.size,plc n L*2+1,none⟩ (A0 (layS p xs xb n b ⟨q,x,y,0⟩ k).pb)).drew:=by
    have h:AC (fun k=>k=wr.heap.size) wA ((wA.setCell ⟨wr.heap.size,plc n L*2,none⟩ (A0 (layS p xs xb n b ⟨q,x,y,0⟩ k).ps)).setCell ⟨wr.heap.size,plc n L*2+1,none⟩ (A0 (layS p xs xb n b ⟨q,x,y,0⟩ k).pb)):=((AC.refl (fun k=>k=wr.heap.size) wA).setCell (p:=⟨wr.heap.size,plc n L*2,none⟩) rfl _).setCell (p:=⟨wr.heap.size,plc n L*2+1,none⟩) rfl _;exact⟨h.os,h.tape,h.output,h.size,h.block⟩
   have eA:Hid (((wA.setCell ⟨wr.heap.size,plc n L*2,none⟩ (A0 (layS p xs xb n b ⟨q,x,y,0⟩ k).ps)).setCell ⟨wr.heap.size,plc n L*2+1,none⟩ (A0 (layS p xs xb n b ⟨q,x,y,0⟩ k).pb)).drew.heap[wr.heap.size]?=some (.cells (Aj (mix (Ao p xs xb n L (layS p xs xb n b ⟨q,x,y,0⟩ k).ps) (Am p xs xb n L (layS p xs xb n b ⟨q,x,y,0⟩ k).pb))) 121 (0,0))):=by
    have:=Ok (o:=plc n L*2+1) (A0 (layS p xs xb n b ⟨q,x,y,0⟩ k).pb) (Ok (o:=plc n L*2) (A0 (layS p xs xb n b ⟨q,x,y,0⟩ k).ps) dA.out);rw[XA _ _ rD,zGu p xs xb n L _ _ hn]at this;exact this
   have vB:=pA.out;have X:=AF (V.out.same (R.same (lo:=0) (hi:=wr.heap.size) (by omega) (by intro k P;omega)));have E:=AF (U.out.AD R (by omega));have Y:=AF (G.out.AD R (by omega));have bA:=AF (I.out.AD R (by omega));have aA:=AF (Z.out.AD R (by omega));have iA:=M.trans (R.A1 (B:=w.heap.size) M.size (by intro k P;omega));have sD:=Nat.lt_of_lt_of_le vB R.size;clear R vB V U G I Z M dA pA fA y0 y1 y2 y3 z0 c0 c1 c2 c3;generalize ((wA.setCell ⟨wr.heap.size,plc n L*2,none⟩ (A0 (layS p xs xb n b ⟨q,x,y,0⟩ k).ps)).setCell ⟨wr.heap.size,plc n L*2+1,none⟩ (A0 (layS p xs xb n b ⟨q,x,y,0⟩ k).pb)).drew=wB at eA X E Y bA aA iA sD ⊢;have lB:Hid ((Tryz.prog.info? 121).map (·.size)=some (Aj (mix (Ao p xs xb n L (layS p xs xb n b ⟨q,x,y,0⟩ k).ps) (Am p xs xb n L (layS p xs xb n b ⟨q,x,y,0⟩ k).pb))).size):=by
    show _=_;rw[D4];exact GV
   obtain⟨⟨x0,x1⟩,⟨x2,x3⟩⟩:=E.out;go_wp2_with (first
    | (refine wpList_load_row rfl 121 (.tmp 12) rfl wr.heap.size rfl 121 (Aj (mix (Ao p xs xb n L (layS p xs xb n b ⟨q,x,y,0⟩ k).ps) (Am p xs xb n L (layS p xs xb n b ⟨q,x,y,0⟩ k).pb))) (0,0) _ eA.out FP rfl lB.out ?_)
    | fail)
   refine(zBk _ _ 0 wr.heap.size (layS p xs xb n b ⟨q,x,y,0⟩ k).pool _ _ b wB X.out (by have h1:=lD.out;have h2:=Hq.out;have h3:Ap (Dr.mk q x y 0).pool=Ap q:=rfl;omega)).mono ?_;rintro e wC ⟨t0,t1,rfl,tA,rB⟩;have D:Hid (layS p xs xb n b ⟨q,x,y,0⟩ (k+1)=GP (layS p xs xb n b ⟨q,x,y,0⟩ k).pool (Ao p xs xb n L (layS p xs xb n b ⟨q,x,y,0⟩ k).ps) (Am p xs xb n L (layS p xs xb n b ⟨q,x,y,0⟩ k).pb) b):=jD.out;generalize GP (layS p xs xb n b ⟨q,x,y,0⟩ k).pool (Ao p xs xb n L (layS p xs xb n b ⟨q,x,y,0⟩ k).ps) (Am p xs xb n L (layS p xs xb n b ⟨q,x,y,0⟩ k).pb) b=od at tA D ⊢;obtain⟨t,z,d,f,rfl,rfl⟩:=tA.form;have gA:=AB wC (.cells #[.slice t od.pool.n z,.slice d od.pool.hn f,A0 od.ps,A0 od.pb,A0 od.code] 117);have N:=A9 rB gA;have oA:=AF (tA.A1 gA);have mA:=AF (Du.new wC (.slice t od.pool.n z) (.slice d od.pool.hn f) (A0 od.ps) (A0 od.pb) (A0 od.code) 117);have F:=AF (E.out.A1 N);have H:=AF (Y.out.A1 N);have cA:=AF (bA.out.A1 N);have A:=AF (aA.out.A1 N);have m:=A9 iA N;have tD:=rB.size;have Q:wC.heap.size<(wC.alloc (.cells #[.slice t od.pool.n z,.slice d od.pool.hn f,A0 od.ps,A0 od.pb,A0 od.code] 117)).heap.size:=(by rw[World.size_alloc];omega);clear tA rB gA N x0 x1 x2 x3 eA X E Y bA aA iA;go_upto_region 9 with fail;generalize wC.alloc (.cells #[.slice t od.pool.n z,.slice d od.pool.hn f,A0 od.ps,A0 od.pb,A0 od.code] 117)=wD at oA mA F H cA A m Q ⊢;generalize wC.heap.size=T at oA mA tD Q ⊢;obtain⟨⟨t0,t1⟩,⟨t2,t3⟩,⟨t4,t5⟩,⟨t6,t7⟩,⟨t8,t9⟩⟩:=mA.out;by_cases hc:od.code=0
   ·have oD:(od.code != 0)=false:=(by simp[hc]);have Hc:=AF hc;clear hc;go_upto_region 11 with fail;obtain⟨⟨x0,x1⟩,⟨x2,x3⟩⟩:=F.out;obtain⟨⟨y0,y1⟩,⟨y2,y3⟩⟩:=H.out;have vF:w.heap.size≠w.heap.size+4:=(by omega);have r:Hid (∀(u v:Value) (s:World),s=((wD.drew.setCell ⟨w.heap.size,0,none⟩ u).setCell ⟨w.heap.size,1,none⟩ v)->(s.cell? ⟨T,0,none⟩=some (.slice t od.pool.n z)/\s.cell? ⟨T,1,none⟩=some (.slice d od.pool.hn f)/\s.cell? ⟨T,2,none⟩=some (A0 od.ps)/\s.cell? ⟨T,3,none⟩=some (A0 od.pb))):=by
     intro u v s e5;have dD:T<wD.drew.heap.size:=Q;have h:=fun o=>(Ir wD.drew w.heap.size u v).cell (b:=T) (o:=o) dD (by omega)
     rw[e5,h,h,h,h];exact⟨t0,t2,t4,t6⟩
    have J:Hid (∀(u v u' v':Value) (s:World),s=((((wD.drew.setCell ⟨w.heap.size,0,none⟩ u).setCell ⟨w.heap.size,1,none⟩ v).setCell ⟨w.heap.size+4,0,none⟩ u').setCell ⟨w.heap.size+4,1,none⟩ v')->(s.cell? ⟨T,0,none⟩=some (.slice t od.pool.n z)/\s.cell? ⟨T,1,none⟩=some (.slice d od.pool.hn f)/\s.cell? ⟨T,2,none⟩=some (A0 od.ps)/\s.cell? ⟨T,3,none⟩=some (A0 od.pb))):=by
     intro u v u' v' s e5;have dD:T<wD.drew.heap.size:=Q;have h1:=fun o=>(Ir ((wD.drew.setCell ⟨w.heap.size,0,none⟩ u).setCell ⟨w.heap.size,1,none⟩ v) (w.heap.size+4) u' v').cell (b:=T) (o:=o) (by simp;exact Q) (by omega)
     rw[e5,h1,h1,h1,h1];exact r.out u v _ rfl
    refine wp_region_held_drew (S:=(fun w'=>w'.cell? ⟨T,0,none⟩=some (.slice t od.pool.n z)/\w'.cell? ⟨T,1,none⟩=some (.slice d od.pool.hn f)/\w'.cell? ⟨T,2,none⟩=some (A0 od.ps)/\w'.cell? ⟨T,3,none⟩=some (A0 od.pb))) (by kernel_rfl) ?_ (fun hHeld=>?_)
    ·(try dsimp only)
     go_keep
    refine tk 0 (h:=tk 2 (h:=tk 1 (h:=tk 3 (h:=?_))));refine rd [4] (rc (fun K hK=>?_) .nil);go_simp
    (try go_wp2_with fail)
    refine hK.out _ _ (by(try dsimp only);exact r.out _ _ _ rfl) ?_;clear hK K hHeld;intro hHeld
    try simp only[Act.put,s1,s2,s3]
    refine rd [5] (rc (fun K hK=>?_) .nil);go_simp
    (try go_wp2_with fail)
    refine hK.out _ _ (by(try dsimp only);exact J.out _ _ _ _ _ rfl) ?_;clear hK K hHeld;intro hHeld
    try simp only[Act.put,s1,s2,s3]
    refine wpAnyH_done (by kernel_rfl) ?_ _;have O:AC (fun k=>k=w.heap.size\/k=w.heap.size+4) wD ((((wD.setCell ⟨w.heap.size,0,none⟩ (.slice t od.pool.n z)).setCell ⟨w.heap.size,1,none⟩ (.slice d od.pool.hn f)).setCell ⟨w.heap.size+4,0,none⟩ (A0 od.ps)).setCell ⟨w.heap.size+4,1,none⟩ (A0 od.pb)).drew:=by
     have h:=((Ir wD w.heap.size (.slice t od.pool.n z) (.slice d od.pool.hn f)).mono (T:=fun k=>k=w.heap.size\/k=w.heap.size+4) (fun k P=>Or.inl P)).trans ((Ir ((wD.setCell ⟨w.heap.size,0,none⟩ (.slice t od.pool.n z)).setCell ⟨w.heap.size,1,none⟩ (.slice d od.pool.hn f)) (w.heap.size+4) (A0 od.ps) (A0 od.pb)).mono (T:=fun k=>k=w.heap.size\/k=w.heap.size+4) (fun k P=>Or.inr P));exact⟨h.os,h.tape,h.output,h.size,h.block⟩
    have cB:Hid (Ad ((((wD.setCell ⟨w.heap.size,0,none⟩ (.slice t od.pool.n z)).setCell ⟨w.heap.size,1,none⟩ (.slice d od.pool.hn f)).setCell ⟨w.heap.size+4,0,none⟩ (A0 od.ps)).setCell ⟨w.heap.size+4,1,none⟩ (A0 od.pb)).drew w.heap.size (.slice t od.pool.n z) (.slice d od.pool.hn f)):=by
     have oB:=Ir ((wD.setCell ⟨w.heap.size,0,none⟩ (.slice t od.pool.n z)).setCell ⟨w.heap.size,1,none⟩ (.slice d od.pool.hn f)) (w.heap.size+4) (A0 od.ps) (A0 od.pb);have pB:=(F.out.put (.slice t od.pool.n z) (.slice d od.pool.hn f)).AD oB (by omega);exact pB
    have eB:Hid (Ad ((((wD.setCell ⟨w.heap.size,0,none⟩ (.slice t od.pool.n z)).setCell ⟨w.heap.size,1,none⟩ (.slice d od.pool.hn f)).setCell ⟨w.heap.size+4,0,none⟩ (A0 od.ps)).setCell ⟨w.heap.size+4,1,none⟩ (A0 od.pb)).drew (w.heap.size+4) (A0 od.ps) (A0 od.pb)):=by
     have oB:=Ir wD w.heap.size (.slice t od.pool.n z) (.slice d od.pool.hn f);have pB:=(H.out.AD oB (by omega)).put (A0 od.ps) (A0 od.pb);exact pB
    have mB:=AF ((oA.out.AD O (fun k P=>by rcases P with h | h<;>omega)).wide (lo':=w.heap.size+5) (hi':=T) (by omega) (Nat.le_refl _));have gB:=AF (cA.out.AD O (by omega));have fB:=AF (A.out.AD O (by omega));have iB:=m.trans (O.A1 (B:=w.heap.size) m.size (fun k P=>by rcases P with h | h<;>omega));have vD:=Nat.lt_of_lt_of_le Q O.size;clear O F H oA cA A m r J mA t0 t1 t2 t3 t4 t5 t6 t7 t8 t9 x0 x1 x2 x3 y0 y1 y2 y3;generalize ((((wD.setCell ⟨w.heap.size,0,none⟩ (.slice t od.pool.n z)).setCell ⟨w.heap.size,1,none⟩ (.slice d od.pool.hn f)).setCell ⟨w.heap.size+4,0,none⟩ (A0 od.ps)).setCell ⟨w.heap.size+4,1,none⟩ (A0 od.pb)).drew=wE at cB eB mB gB fB iB vD ⊢;go_wp2;go_roundw
    case rel=>
     refine⟨k+1,by omega,by go_num,fun j hj=>?_,.slice t od.pool.n z,.slice d od.pool.hn f,cB.out,?_,fun _=>?_,?_,gB.out,fB.out,by omega,iB⟩
     ·by_cases e:j=k+1
      ·rw[e,D.out];exact Hc.out
      ·exact C.out j (by omega)
     ·rw[D.out];exact mB.out.at.all
     ·rw[D.out];exact mB.out.wide (Nat.le_refl _) (by omega)
     ·rw[D.out];exact eB.out
    case measure=>simp[intOf];omega
   ·have oD:(od.code != 0)=true:=(by simp[hc]);have Hc:=AF hc;clear hc;obtain⟨⟨r0,r1⟩,⟨r2,r3⟩,⟨r4,r5⟩,⟨r6,r7⟩,⟨r8,r9⟩,⟨cE,dE⟩⟩:=A.out;go_wp2;have l:=A.out.put (A5) (A5) (A0 0) (A0 0) (A5) (A0 od.code);have kA:=AC.put6 wD (w.heap.size+1+1+1) (A5) (A5) (A0 0) (A0 0) (A5) (A0 od.code);have tB:=LW nD C.out (by rw[D.out];exact Hc.out);rw[D.out]at tB;refine bodyPost_ret (v:=.agg #[A5,A5,A0 0,A0 0,A5,A0 od.code]) (by simp[results,Tryz.results79,go_sem,l.1.1,l.2.1.1,l.2.2.1.1,l.2.2.2.1.1,l.2.2.2.2.1.1,l.2.2.2.2.2.1]) rfl (Or.inl ⟨?_,?_,?_⟩)
    ·rw[tB];exact Hc.out
    ·rw[tB];rfl
    ·exact m.trans (kA.A1 (B:=w.heap.size) m.size (by intro k P;omega))
  ·obtain rfl:k=2:=(by omega);obtain⟨oa,oc,ho,_⟩:=Bw Hr.out;have Ho:=AF ho;obtain⟨kE,_⟩:=nA.out 40 (by omega);rw[zGN,ho]at kE;clear ho;obtain⟨⟨r0,r1⟩,⟨r2,r3⟩,⟨r4,r5⟩,⟨r6,r7⟩,⟨r8,r9⟩,⟨cE,dE⟩⟩:=lA.out;go_wp2;have l:=lA.out.put (.slice ra (layS p xs xb n b ⟨q,x,y,0⟩ 2).pool.n bB) (.slice vA (layS p xs xb n b ⟨q,x,y,0⟩ 2).pool.hn aB) (A0 (layS p xs xb n b ⟨q,x,y,0⟩ 2).ps) (A0 (layS p xs xb n b ⟨q,x,y,0⟩ 2).pb) (.slice oa (BS p xs xb n 3).length oc) (A0 0);have kA:=AC.put6 wr (w.heap.size+1+1+1) (.slice ra (layS p xs xb n b ⟨q,x,y,0⟩ 2).pool.n bB) (.slice vA (layS p xs xb n b ⟨q,x,y,0⟩ 2).pool.hn aB) (A0 (layS p xs xb n b ⟨q,x,y,0⟩ 2).ps) (A0 (layS p xs xb n b ⟨q,x,y,0⟩ 2).pb) (.slice oa (BS p xs xb n 3).length oc) (A0 0);refine bodyPost_ret (v:=.agg #[.slice ra (layS p xs xb n b ⟨q,x,y,0⟩ 2).pool.n bB,.slice vA (layS p xs xb n b ⟨q,x,y,0⟩ 2).pool.hn aB,A0 (layS p xs xb n b ⟨q,x,y,0⟩ 2).ps,A0 (layS p xs xb n b ⟨q,x,y,0⟩ 2).pb,.slice oa (BS p xs xb n 3).length oc,A0 0]) (by simp[results,Tryz.results79,go_sem,l.1.1,l.2.1.1,l.2.2.1.1,l.2.2.2.1.1,l.2.2.2.2.1.1,l.2.2.2.2.2.1]) rfl (Or.inr ⟨?_,.slice ra (layS p xs xb n b ⟨q,x,y,0⟩ 2).pool.n bB,.slice vA (layS p xs xb n b ⟨q,x,y,0⟩ 2).pool.hn aB,?_,?_,?_⟩)
   ·rw[NW C.out]
   ·rw[<-Ho.out]
   ·exact((mC.out (by omega)).AD kA (by intro k P;omega)).wide (by omega) (by exact kA.size)
   ·exact sA.trans (kA.A1 (B:=w.heap.size) sA.size (by intro k P;omega))
theorem zDL(v v1:Value)(lo hi:Nat)(p:A7)(xs xb:Int)(w:World)(k:CD w lo hi v v1 p) :
 Calls Tryz.prog 75 #[.agg #[v,v1],.agg #[A0 xs,A0 xb]] w fun e w'=>AJ (As p xs xb) e/\Below w.heap.size w w':=by
 have x:=AF k;obtain⟨a,c,g,c',rfl,rfl⟩:∃a c g c',v = .slice a p.n c/\v1 = .slice g p.hn c':=by
  obtain⟨⟨_,a,c,k,_⟩,⟨_,g,c',B,_⟩⟩:=k;exact⟨a,c,g,c',k,B⟩
 clear k;have m:=SV w (.slice a p.n c) (.slice g p.hn c') (A0 xs) (A0 xb) 26 38;go_enter Tryz.func75,Tryz.ntmps75;go_wp2_with fail;generalize (w.alloc (.cells #[.slice a p.n c,.slice g p.hn c'] 26)).alloc (.cells #[A0 xs,A0 xb] 38)=W at m ⊢;obtain⟨y,z,f,L⟩:=m;refine(MR _ _ lo hi p _ (x.out.A1 f)).mono ?_;rintro e M ⟨⟨t,rfl,q⟩,b⟩;have r:=AF (y.A1 b);have s:=AF (z.A1 b);have d:=A9 f b;clear y z f b;by_cases i:AZ p
 ·obtain rfl:t=true:=q.2 i;have j:=AF i;clear q i;obtain⟨⟨D,E⟩,⟨F,G⟩⟩:=r.out;obtain⟨⟨H,I⟩,⟨J,K⟩⟩:=s.out;go_wp2_with fail;refine(Z8 _ _ lo hi p xs xb _ (x.out.A1 d) j.out).mono ?_;rintro e N ⟨⟨C,rfl,o⟩,l⟩;have A:=AF o;have u:=A9 d l;clear o l D E F G H I J K;go_wp2;go_ret;exact⟨⟨C,rfl,A.out.trans ((Nj j.out).trans ⟨fun h=>⟨j.out,h⟩,fun h=>h.2⟩)⟩,u⟩
 ·obtain rfl:t=false:=BQ q i;have j:=AF i;clear q i;go_wp2;go_ret;exact⟨AJ.no fun h=>j.out h.1,d⟩
def EY(n:Int):Prop:=0<=n/\n<=63
theorem Rd(n:Int)(w:World):Calls Tryz.prog 77 #[A0 n] w fun e w'=>AJ (EY n) e/\w'=w:=by
 by_cases a:0<=n
 ·by_cases b:n<64
  ·go_enter Tryz.func77,Tryz.ntmps77;go_wp2;go_ret;exact⟨AJ.yes ⟨a,by omega⟩,rfl⟩
  ·go_enter Tryz.func77,Tryz.ntmps77;go_wp2;go_ret;exact⟨AJ.no fun h=>by have:=h.2;omega,rfl⟩
 ·go_enter Tryz.func77,Tryz.ntmps77;go_wp2;go_ret;exact⟨AJ.no fun h=>by have:=h.1;omega,rfl⟩
theorem zF5(h:(CJ p xs xb n b o).code≠0):CJ p xs xb n b o=DM (CJ p xs xb n b o).code:=by
 unfold CJ at h ⊢;split
 ·rfl
 ·split
  ·rfl
  ·rename_i a h2
   rw[if_neg a,if_neg h2]at h;exact absurd rfl h
theorem zIA(h:(CJ p xs xb n b o).code=0):CJ p xs xb n b o=⟨(layS p xs xb n b o 2).pool,(layS p xs xb n b o 2).ps,(layS p xs xb n b o 2).pb,BS p xs xb n 3,0⟩:=by
 unfold CJ at h ⊢;split
 ·rename_i a
  rw[if_pos a]at h;exact absurd h a
 ·split
  ·rename_i a h2
   rw[if_neg a,if_pos h2]at h;exact absurd h h2
  ·rfl
theorem Ja{wr:World}{R:Nat}{c:Int}(d:w.heap.size<=R)(a:Below w.heap.size w wr) :
 Q0 (DM c) w (.returned (.agg #[A5,A5,A0 0,A0 0,A5,A0 c])) (put6 wr R (A5) (A5) (A0 0) (A0 0) (A5) (A0 c)):=by
 have t:=AC.put6 wr R (A5) (A5) (A0 0) (A0 0) (A5) (A0 c);exact⟨_,_,_,w.heap.size,w.heap.size,rfl,Nat.le_refl _,by have:=a.size;have:=t.size;omega,QB,Ax.nil _ _,fun k b=>by simp[Value.ownBlock]at b,a.trans (t.A1 (by have:=a.size;omega) (fun k b=>by omega))⟩
theorem zIU(w:World)(a b d e:Value)(c f g:TypeId) :
 Ad (((w.alloc (.cells #[a,b] c)).alloc (.cells #[d,e] f)).alloc (.cells #[A5,A5,A0 0,A0 0,A5,A0 0] g)) w.heap.size a b/\
 Ad (((w.alloc (.cells #[a,b] c)).alloc (.cells #[d,e] f)).alloc (.cells #[A5,A5,A0 0,A0 0,A5,A0 0] g)) (w.heap.size+1) d e/\
 At (((w.alloc (.cells #[a,b] c)).alloc (.cells #[d,e] f)).alloc (.cells #[A5,A5,A0 0,A0 0,A5,A0 0] g)) (w.heap.size+1+1) (A5) (A5) (A0 0) (A0 0) (A5) (A0 0)/\
 Below w.heap.size w (((w.alloc (.cells #[a,b] c)).alloc (.cells #[d,e] f)).alloc (.cells #[A5,A5,A0 0,A0 0,A5,A0 0] g))/\
 (((w.alloc (.cells #[a,b] c)).alloc (.cells #[d,e] f)).alloc (.cells #[A5,A5,A0 0,A0 0,A5,A0 0] g)).heap.size=w.heap.size+3:=by
 refine⟨((Ad.new w a b c).A1 (AB _ _)).A1 (AB _ _),?_,?_,A9 (A9 (AB _ _) (AB _ _)) (AB _ _),by simp⟩
 ·have:=(Ad.new (w.alloc (.cells #[a,b] c)) d e f).A1 (AB _ (.cells #[A5,A5,A0 0,A0 0,A5,A0 0] g));rw[World.size_alloc]at this;exact this
 ·have:=At.new ((w.alloc (.cells #[a,b] c)).alloc (.cells #[d,e] f)) (A5) (A5) (A0 0) (A0 0) (A5) (A0 0) g;rw[World.size_alloc,World.size_alloc]at this;exact this
open Classical in
def FW(p:A7)(xs xb AM b:Int):D9:=
 if As p xs xb/\C8 xb b then(if EY AM then(if Nil (BZ p xs xb AM.toNat) (Bg p xs xb AM.toNat)then DM 4 else CJ p xs xb AM.toNat b ⟨p,0,0,0⟩)else DM 8)else DM 1
variable{AM:Int}
theorem Vr(h:¬(As p xs xb/\C8 xb b)):FW p xs xb AM b=DM 1:=if_neg h
theorem zAF(h:As p xs xb/\C8 xb b)(a:¬EY AM):FW p xs xb AM b=DM 8:=(if_pos h).trans (if_neg a)
theorem zDS(h:As p xs xb/\C8 xb b)(a:EY AM)(c:Nil (BZ p xs xb AM.toNat) (Bg p xs xb AM.toNat)):FW p xs xb AM b=DM 4:=((if_pos h).trans (if_pos a)).trans (if_pos c)
theorem UE(h:As p xs xb/\C8 xb b)(a:EY AM)(c:¬Nil (BZ p xs xb AM.toNat) (Bg p xs xb AM.toNat)):FW p xs xb AM b=CJ p xs xb AM.toNat b ⟨p,0,0,0⟩:=((if_pos h).trans (if_pos a)).trans (if_neg c)
def BM(b:Int)(d:ByteArray):AH:={birth:=b,kn:=0,ks:=fun _=>0,kb:=fun _=>0,data:=d}
open Classical in
def CF(p:A7)(xs xb AM:Int)(d:ByteArray)(b:Int):D9:=
 if 8000<d.size then DM 2 else if As p xs xb/\C8 xb b then(if EY AM/\d.size=16 then(if (Bv p (BM b d)).code=0 then CJ p xs xb AM.toNat b ⟨(Bv p (BM b d)).pool,(Bv p (BM b d)).ps,(Bv p (BM b d)).pb,0⟩else DM (Bv p (BM b d)).code)else DM 8)else DM 1
variable{d:ByteArray}
theorem OQ(h:8000<d.size):CF p xs xb AM d b=DM 2:=if_pos h
theorem MK(a:¬8000<d.size)(h:¬(As p xs xb/\C8 xb b)):CF p xs xb AM d b=DM 1:=(if_neg a).trans (if_neg h)
theorem MO(a:¬8000<d.size)(h:As p xs xb/\C8 xb b)(c:¬(EY AM/\d.size=16)):CF p xs xb AM d b=DM 8:=((if_neg a).trans (if_pos h)).trans (if_neg c)
theorem Xr(a:¬8000<d.size)(h:As p xs xb/\C8 xb b)(c:EY AM/\d.size=16)(e:(Bv p (BM b d)).code≠0):CF p xs xb AM d b=DM (Bv p (BM b d)).code:=(((if_neg a).trans (if_pos h)).trans (if_pos c)).trans (if_neg e)
theorem Vv(a:¬8000<d.size)(h:As p xs xb/\C8 xb b)(c:EY AM/\d.size=16)(e:(Bv p (BM b d)).code=0):CF p xs xb AM d b=CJ p xs xb AM.toNat b ⟨(Bv p (BM b d)).pool,(Bv p (BM b d)).ps,(Bv p (BM b d)).pb,0⟩:=(((if_neg a).trans (if_pos h)).trans (if_pos c)).trans (if_pos e)
theorem zDM(v0 v1:Value)(lo hi:Nat)(p:A7)(xs xb AM b:Int)(d:ByteArray)(w:World)(h1:CD w lo hi v0 v1 p) :
 Calls Tryz.prog 35 #[.agg #[v0,v1],.agg #[A0 xs,A0 xb],A0 AM,.string d,A0 b] w (Q0 (CF p xs xb AM d b) w):=by
 have Hp:=AF h1;obtain⟨a,c,a',c',rfl,rfl⟩:=h1.form;clear h1;have oC:=zIU w (.slice a p.n c) (.slice a' p.hn c') (A0 xs) (A0 xb) 26 38 81;go_enter Tryz.func35,Tryz.ntmps35;go_upto_region 1 with fail;generalize ((w.alloc (.cells #[.slice a p.n c,.slice a' p.hn c'] 26)).alloc (.cells #[A0 xs,A0 xb] 38)).alloc (.cells #[A5,A5,A0 0,A0 0,A5,A0 0] 81)=W at oC ⊢;obtain⟨hB,hX,hR,m,hz⟩:=oC;by_cases pB:8000<d.size
 ·have z:=AF pB;have bE:(8000:Int)<(d.size:Int):=(by omega);have HR:=AF hR;obtain⟨⟨r0,r1⟩,⟨r2,r3⟩,⟨r4,r5⟩,⟨r6,r7⟩,⟨r8,r9⟩,⟨s,u⟩⟩:=HR.out
  try go_wp2
  have f:=HR.out.put (A5) (A5) (A0 0) (A0 0) (A5) (A0 2);have i:=Ja (R:=w.heap.size+1+1) (c:=2) (by omega) m;rw[OQ z.out];exact bodyPost_ret (v:=.agg #[A5,A5,A0 0,A0 0,A5,A0 2]) (by simp[results,Tryz.results35,go_sem,f.1.1,f.2.1.1,f.2.2.1.1,f.2.2.2.1.1,f.2.2.2.2.1.1,f.2.2.2.2.2.1]) rfl i
 ·have z:=AF pB;have bE:¬(8000:Int)<(d.size:Int):=(by omega);clear pB;obtain⟨⟨x0,x1⟩,⟨x2,x3⟩⟩:=id hB;obtain⟨⟨y0,y1⟩,⟨y2,y3⟩⟩:=id hX;go_wp2_with fail;refine(zDL _ _ lo hi p xs xb W (Hp.out.A1 m)).mono ?_;rintro e w1 ⟨⟨t,rfl,ht⟩,Q⟩;have jC:=AF (hB.A1 Q);have lB:=AF (hX.A1 Q);have iA:=AF (hR.A1 Q);have nB:=A9 m Q;have gE:w.heap.size+3<=w1.heap.size:=(by have:=Q.size;omega);clear hB hX hR m Q hz x0 x1 x2 x3 y0 y1 y2 y3;by_cases P:As p xs xb
  ·have M:=AF P;obtain rfl:t=true:=ht.2 P;clear ht P;obtain⟨⟨y0,y1⟩,⟨y2,y3⟩⟩:=lB.out;go_wp2_with fail;refine(zCR xs xb b w1).mono ?_;rintro e w2 ⟨⟨t,rfl,ht⟩,U⟩;have kB:=AF (jC.out.A1 U);have lC:=AF (lB.out.A1 U);have q:=AF (iA.out.A1 U);have N:=A9 nB U;have kF:w.heap.size+3<=w2.heap.size:=(by have:=U.size;omega);clear U nB jC lB iA gE y0 y1 y2 y3;by_cases O:C8 xb b
   ·have jA:=AF (And.intro M.out O);obtain rfl:t=true:=ht.2 O;clear ht O;obtain⟨⟨r0,r1⟩,⟨r2,r3⟩,⟨r4,r5⟩,⟨r6,r7⟩,⟨r8,r9⟩,⟨s,u⟩⟩:=q.out;by_cases hN:EY AM
    ·have L:=AF hN;obtain⟨n,rfl⟩:=Int.eq_ofNat_of_zero_le hN.1;have J:n<64:=(by have:=hN.2;omega);clear hN;by_cases D:d.size=16
     ·have gA:=AF (And.intro L.out D);have cE:((d.size:Int) != 16)=false:=(by simp;omega);have Y:=AF D;clear D r0 r1 r2 r3 r4 r5 r6 r7 r8 r9 s u;obtain⟨⟨x0,x1⟩,⟨x2,x3⟩⟩:=kB.out;go_wp2_with (first | (go_at_call 77;refine(Rd _ _).mono ?_;rintro e w9 ⟨⟨t2,rfl,E⟩,rfl⟩;obtain rfl:t2=true:=E.2 L.out;clear E) | fail);go_wp2_with fail;have HS:Hid (CU w9 0 0 (A0 (BM b d).birth) (A5) (.string (BM b d).data) (BM b d)):=⟨rfl,⟨Nat.zero_le _,none,0,rfl,Nat.le_refl _,fun h=>absurd h (Nat.lt_irrefl _)⟩,rfl,by show d.size<=maxLen;rw[Y.out];unfold maxLen;omega⟩;have fE:=Kz M.out.1;refine(ZQ _ _ _ lo hi 0 0 p (BM b d) w9 (Hp.out.A1 N) HS.out (by show Ap p+(0+d.size)<=_;rw[Y.out];omega)).mono ?_;rintro e w3 ⟨t0,t1,rfl,nA,oB⟩;have dA:Hid ((Bv p (BM b d)).code≠0->CF p xs xb (n:Int) d b=DM (Bv p (BM b d)).code):=fun h=>Xr z.out jA.out gA.out h
      have eA:Hid ((Bv p (BM b d)).code=0->CF p xs xb (n:Int) d b=CJ p xs xb n b ⟨(Bv p (BM b d)).pool,(Bv p (BM b d)).ps,(Bv p (BM b d)).pb,0⟩):=fun h=>Vv z.out jA.out gA.out h
      have mB:Hid (Ap (Bv p (BM b d)).pool+16<=1048576):=by
       have h1:=RK p (BM b d);have h2:Ce (BM b d)=16:=(by show 0+d.size=16;rw[Y.out]);show _<=_;omega
      generalize Bv p (BM b d)=od at nA dA eA mB ⊢;obtain⟨ta,tc,F,G,rfl,rfl⟩:=nA.form;have aA:=AB w3 (.cells #[.slice ta od.pool.n tc,.slice F od.pool.hn G,A0 od.ps,A0 od.pb,A0 od.code] 117);have Z:=A9 oB aA;have kA:=AF (nA.A1 aA);have r:=AF (Du.new w3 (.slice ta od.pool.n tc) (.slice F od.pool.hn G) (A0 od.ps) (A0 od.pb) (A0 od.code) 117);have x:=AF (kB.out.A1 Z);have y:=AF (lC.out.A1 Z);have X:=AF (q.out.A1 Z);have C:=A9 N Z;have iE:=oB.size;have pC:w3.heap.size<(w3.alloc (.cells #[.slice ta od.pool.n tc,.slice F od.pool.hn G,A0 od.ps,A0 od.pb,A0 od.code] 117)).heap.size:=(by rw[World.size_alloc];omega);clear nA oB aA Z x0 x1 x2 x3 kB lC q N HS fE;go_upto_region 8 with fail;generalize w3.alloc (.cells #[.slice ta od.pool.n tc,.slice F od.pool.hn G,A0 od.ps,A0 od.pb,A0 od.code] 117)=wD at kA r x y X C pC ⊢;generalize w3.heap.size=T at kA r iE pC ⊢;obtain⟨⟨t0,t1⟩,⟨t2,t3⟩,⟨t4,t5⟩,⟨t6,t7⟩,⟨t8,t9⟩⟩:=r.out;by_cases hc:od.code=0
      ·have eE:(od.code != 0)=false:=(by simp[hc]);have fA:=AF (eA.out hc);clear hc dA eA;obtain⟨⟨x0,x1⟩,⟨x2,x3⟩⟩:=x.out;obtain⟨⟨y0,y1⟩,⟨y2,y3⟩⟩:=y.out;go_upto_region 10 with fail;by_cases mA:(CJ p xs xb n b ⟨od.pool,od.ps,od.pb,0⟩).code=0
       ·have HC:=AF mA;clear mA;refine wp_region_held_drew (S:=(fun w'=>w'.cell? ⟨T,0,none⟩=some (.slice ta od.pool.n tc)/\w'.cell? ⟨T,1,none⟩=some (.slice F od.pool.hn G)/\w'.cell? ⟨T,2,none⟩=some (A0 od.ps)/\w'.cell? ⟨T,3,none⟩=some (A0 od.pb)/\w'.cell? ⟨w.heap.size,0,none⟩=some (.slice a p.n c)/\w'.cell? ⟨w.heap.size+1,0,none⟩=some (A0 xs)/\w'.cell? ⟨w.heap.size+1,1,none⟩=some (A0 xb))) (by kernel_rfl) ?_ (fun hHeld=>?_)
        ·(try dsimp only)
         go_keep
        refine tk 0 (h:=tk 1 (h:=tk 2 (h:=tk 3 (h:=tk 4 (h:=tk 5 (h:=tk 7 (h:=tk 8 (h:=tk 9 (h:=?_)))))))));refine rd [6] (rc (fun K hK=>?_) .nil);go_simp;go_at_call 80;refine(Vu _ lo hi p xs xb n _ ?_ M.out J).mono ?_
        ·first | exact(Hp.out.A1 C).1 | exact(Hp.out.A1 C.drew).1
        rintro e wa ⟨o,rfl,I,m⟩;obtain⟨rA,sA,rfl,_⟩:=Bw I;have A:=AF I;clear I;have j:Below wD.heap.size wD wa:=(by first | exact m | exact Cp m);obtain⟨⟨k0,_⟩,⟨k1,_⟩,⟨k2,_⟩,⟨k3,_⟩,_⟩:=r.out.A1 j;obtain⟨⟨k4,_⟩,_⟩:=x.out.A1 j;obtain⟨⟨k5,_⟩,⟨k6,_⟩⟩:=y.out.A1 j
        (try go_wp2_with fail)
        refine hK.out _ _ (by(try dsimp only);go_keep) ?_;clear hK K hHeld;intro hHeld
        try simp only[Act.put,s1,s2,s3]
        refine rd [10] (rc (fun K hK=>?_) .nil);go_simp;go_at_call 79;refine(Yo _ _ _ _ p od.pool xs xb od.ps od.pb b n _ wa (kA.out.A1 j).at J mB.out (A.out.mono (Nat.zero_le _))).mono ?_;rintro e wb (⟨bA,cA,H⟩ | ⟨bA,s0,s1,cA,oA,H⟩)
        ·exact absurd HC.out bA
        subst cA;have g:=A9 j H;obtain⟨a5,c5,a6,c6,rfl,rfl⟩:=oA.form;obtain⟨⟨l0,_⟩,⟨l1,_⟩,⟨l2,_⟩,⟨l3,_⟩,_⟩:=r.out.A1 g;obtain⟨⟨l4,_⟩,_⟩:=x.out.A1 g;obtain⟨⟨l5,_⟩,⟨l6,_⟩⟩:=y.out.A1 g;have V:=AF (X.out.A1 g);obtain⟨⟨r0,r1⟩,⟨r2,r3⟩,⟨r4,r5⟩,⟨r6,r7⟩,⟨r8,r9⟩,⟨s,u⟩⟩:=V.out;have l:Hid (∀(u0 u1 u2 u3 u4 u5:Value),(fun (w':World)=>w'.cell? ⟨T,0,none⟩=some (.slice ta od.pool.n tc)/\w'.cell? ⟨T,1,none⟩=some (.slice F od.pool.hn G)/\w'.cell? ⟨T,2,none⟩=some (A0 od.ps)/\w'.cell? ⟨T,3,none⟩=some (A0 od.pb)/\w'.cell? ⟨w.heap.size,0,none⟩=some (.slice a p.n c)/\w'.cell? ⟨w.heap.size+1,0,none⟩=some (A0 xs)/\w'.cell? ⟨w.heap.size+1,1,none⟩=some (A0 xb)) (put6 wb (w.heap.size+1+1) u0 u1 u2 u3 u4 u5)):=by
         intro u0 u1 u2 u3 u4 u5;have t:=AC.put6 wb (w.heap.size+1+1) u0 u1 u2 u3 u4 u5;have g1:=(r.out.A1 g).AD t (by omega);have g2:=(x.out.A1 g).AD t (by omega);have g3:=(y.out.A1 g).AD t (by omega);exact⟨g1.1.1,g1.2.1.1,g1.2.2.1.1,g1.2.2.2.1.1,g2.1.1,g3.1.1,g3.2.1⟩
        (try go_wp2_with fail)
        refine hK.out _ _ (by(try dsimp only);go_keep) ?_;clear hK K hHeld;intro hHeld
        try simp only[Act.put,s1,s2,s3]
        refine rd [11] (rc (fun K hK=>?_) .nil);go_simp
        (try go_wp2_with fail)
        refine hK.out _ _ (by(try dsimp only);exact l.out _ _ _ _ _ _) ?_;clear hK K hHeld;intro hHeld
        try simp only[Act.put,s1,s2,s3]
        refine wpAnyH_done (by kernel_rfl) ?_ _;have f:=V.out.put (.slice a5 (layS p xs xb n b ⟨od.pool,od.ps,od.pb,0⟩ 2).pool.n c5) (.slice a6 (layS p xs xb n b ⟨od.pool,od.ps,od.pb,0⟩ 2).pool.hn c6) (A0 (layS p xs xb n b ⟨od.pool,od.ps,od.pb,0⟩ 2).ps) (A0 (layS p xs xb n b ⟨od.pool,od.ps,od.pb,0⟩ 2).pb) (.slice rA (BS p xs xb n 3).length sA) (A0 0);have rB:=AC.put6 wb (w.heap.size+1+1) (.slice a5 (layS p xs xb n b ⟨od.pool,od.ps,od.pb,0⟩ 2).pool.n c5) (.slice a6 (layS p xs xb n b ⟨od.pool,od.ps,od.pb,0⟩ 2).pool.hn c6) (A0 (layS p xs xb n b ⟨od.pool,od.ps,od.pb,0⟩ 2).ps) (A0 (layS p xs xb n b ⟨od.pool,od.ps,od.pb,0⟩ 2).pb) (.slice rA (BS p xs xb n 3).length sA) (A0 0);have nC:=A9 C g;have jD:=AF oA;have lD:Hid (w.heap.size+3<=wD.heap.size):=(by show _<=_;omega);have mD:=AF j.size;have iD:=AF H;clear hHeld l l0 l1 l2 l3 l4 l5 l6 k0 k1 k2 k3 k4 k5 k6 oA H;go_wp2;have hE:=fA.out.trans (zIA HC.out);rw[hE];have lF:=lD.out;have mF:=mD.out;exact bodyPost_ret (v:=.agg #[.slice a5 (layS p xs xb n b ⟨od.pool,od.ps,od.pb,0⟩ 2).pool.n c5,.slice a6 (layS p xs xb n b ⟨od.pool,od.ps,od.pb,0⟩ 2).pool.hn c6,A0 (layS p xs xb n b ⟨od.pool,od.ps,od.pb,0⟩ 2).ps,A0 (layS p xs xb n b ⟨od.pool,od.ps,od.pb,0⟩ 2).pb,.slice rA (BS p xs xb n 3).length sA,A0 0]) (by simp[results,Tryz.results35,go_sem,f.1.1,f.2.1.1,f.2.2.1.1,f.2.2.2.1.1,f.2.2.2.2.1.1,f.2.2.2.2.2.1]) rfl ⟨_,_,_,wa.heap.size,wb.heap.size,rfl,by omega,rB.size,jD.out.AD rB (by intro k hk;omega),(((((((A.out.A1 iD.out).put (show w.heap.size+1+1<wD.heap.size by omega) _).put (show w.heap.size+1+1<wD.heap.size by omega) _).put (show w.heap.size+1+1<wD.heap.size by omega) _).put (show w.heap.size+1+1<wD.heap.size by omega) _).put (show w.heap.size+1+1<wD.heap.size by omega) _).put (show w.heap.size+1+1<wD.heap.size by omega) _).mono (show w.heap.size<=wD.heap.size by omega),fun k hk=>Or.inl (A.out.lt hk).2,nC.trans (rB.A1 (B:=w.heap.size) nC.size (by intro k hk;omega))⟩
       ·have HC:=AF mA;clear mA;refine wp_region_held_drew (S:=(fun w'=>w'.cell? ⟨T,0,none⟩=some (.slice ta od.pool.n tc)/\w'.cell? ⟨T,1,none⟩=some (.slice F od.pool.hn G)/\w'.cell? ⟨T,2,none⟩=some (A0 od.ps)/\w'.cell? ⟨T,3,none⟩=some (A0 od.pb)/\w'.cell? ⟨w.heap.size,0,none⟩=some (.slice a p.n c)/\w'.cell? ⟨w.heap.size+1,0,none⟩=some (A0 xs)/\w'.cell? ⟨w.heap.size+1,1,none⟩=some (A0 xb))) (by kernel_rfl) ?_ (fun hHeld=>?_)
        ·(try dsimp only)
         go_keep
        refine tk 0 (h:=tk 1 (h:=tk 2 (h:=tk 3 (h:=tk 4 (h:=tk 5 (h:=tk 7 (h:=tk 8 (h:=tk 9 (h:=?_)))))))));refine rd [6] (rc (fun K hK=>?_) .nil);go_simp;go_at_call 80;refine(Vu _ lo hi p xs xb n _ ?_ M.out J).mono ?_
        ·first | exact(Hp.out.A1 C).1 | exact(Hp.out.A1 C.drew).1
        rintro e wa ⟨o,rfl,I,m⟩;obtain⟨rA,sA,rfl,_⟩:=Bw I;have A:=AF I;clear I;have j:Below wD.heap.size wD wa:=(by first | exact m | exact Cp m);obtain⟨⟨k0,_⟩,⟨k1,_⟩,⟨k2,_⟩,⟨k3,_⟩,_⟩:=r.out.A1 j;obtain⟨⟨k4,_⟩,_⟩:=x.out.A1 j;obtain⟨⟨k5,_⟩,⟨k6,_⟩⟩:=y.out.A1 j
        (try go_wp2_with fail)
        refine hK.out _ _ (by(try dsimp only);go_keep) ?_;clear hK K hHeld;intro hHeld
        try simp only[Act.put,s1,s2,s3]
        refine rd [10] (rc (fun K hK=>?_) .nil);go_simp;go_at_call 79;refine(Yo _ _ _ _ p od.pool xs xb od.ps od.pb b n _ wa (kA.out.A1 j).at J mB.out (A.out.mono (Nat.zero_le _))).mono ?_;rintro e wb (⟨bA,cA,H⟩ | ⟨bA,s0,s1,cA,oA,H⟩);rotate_left
        ·exact absurd bA HC.out
        subst cA;have g:=A9 j H;obtain⟨⟨l0,_⟩,⟨l1,_⟩,⟨l2,_⟩,⟨l3,_⟩,_⟩:=r.out.A1 g;obtain⟨⟨l4,_⟩,_⟩:=x.out.A1 g;obtain⟨⟨l5,_⟩,⟨l6,_⟩⟩:=y.out.A1 g;have V:=AF (X.out.A1 g);obtain⟨⟨r0,r1⟩,⟨r2,r3⟩,⟨r4,r5⟩,⟨r6,r7⟩,⟨r8,r9⟩,⟨s,u⟩⟩:=V.out;have l:Hid (∀(u0 u1 u2 u3 u4 u5:Value),(fun (w':World)=>w'.cell? ⟨T,0,none⟩=some (.slice ta od.pool.n tc)/\w'.cell? ⟨T,1,none⟩=some (.slice F od.pool.hn G)/\w'.cell? ⟨T,2,none⟩=some (A0 od.ps)/\w'.cell? ⟨T,3,none⟩=some (A0 od.pb)/\w'.cell? ⟨w.heap.size,0,none⟩=some (.slice a p.n c)/\w'.cell? ⟨w.heap.size+1,0,none⟩=some (A0 xs)/\w'.cell? ⟨w.heap.size+1,1,none⟩=some (A0 xb)) (put6 wb (w.heap.size+1+1) u0 u1 u2 u3 u4 u5)):=by
         intro u0 u1 u2 u3 u4 u5;have t:=AC.put6 wb (w.heap.size+1+1) u0 u1 u2 u3 u4 u5;have g1:=(r.out.A1 g).AD t (by omega);have g2:=(x.out.A1 g).AD t (by omega);have g3:=(y.out.A1 g).AD t (by omega);exact⟨g1.1.1,g1.2.1.1,g1.2.2.1.1,g1.2.2.2.1.1,g2.1.1,g3.1.1,g3.2.1⟩
        (try go_wp2_with fail)
        refine hK.out _ _ (by(try dsimp only);go_keep) ?_;clear hK K hHeld;intro hHeld
        try simp only[Act.put,s1,s2,s3]
        refine rd [11] (rc (fun K hK=>?_) .nil);go_simp
        (try go_wp2_with fail)
        refine hK.out _ _ (by(try dsimp only);exact l.out _ _ _ _ _ _) ?_;clear hK K hHeld;intro hHeld
        try simp only[Act.put,s1,s2,s3]
        refine wpAnyH_done (by kernel_rfl) ?_ _;have f:=V.out.put (A5) (A5) (A0 0) (A0 0) (A5) (A0 (CJ p xs xb n b ⟨od.pool,od.ps,od.pb,0⟩).code);have i:=Ja (R:=w.heap.size+1+1) (c:=(CJ p xs xb n b ⟨od.pool,od.ps,od.pb,0⟩).code) (by omega) (A9 C g);have kD:=AF i;clear hHeld l l0 l1 l2 l3 l4 l5 l6 k0 k1 k2 k3 k4 k5 k6 i;go_wp2;have hE:=fA.out.trans (zF5 HC.out);rw[hE];exact bodyPost_ret (v:=.agg #[A5,A5,A0 0,A0 0,A5,A0 (CJ p xs xb n b ⟨od.pool,od.ps,od.pb,0⟩).code]) (by simp[results,Tryz.results35,go_sem,f.1.1,f.2.1.1,f.2.2.1.1,f.2.2.2.1.1,f.2.2.2.2.1.1,f.2.2.2.2.2.1]) rfl kD.out
      ·have eE:(od.code != 0)=true:=(by simp[hc]);have fA:=AF (dA.out hc);clear hc dA eA;obtain⟨⟨r0,r1⟩,⟨r2,r3⟩,⟨r4,r5⟩,⟨r6,r7⟩,⟨r8,r9⟩,⟨s,u⟩⟩:=X.out
       try go_wp2
       have f:=X.out.put (A5) (A5) (A0 0) (A0 0) (A5) (A0 od.code);have i:=Ja (R:=w.heap.size+1+1) (c:=od.code) (by omega) C;rw[fA.out];exact bodyPost_ret (v:=.agg #[A5,A5,A0 0,A0 0,A5,A0 od.code]) (by simp[results,Tryz.results35,go_sem,f.1.1,f.2.1.1,f.2.2.1.1,f.2.2.2.1.1,f.2.2.2.2.1.1,f.2.2.2.2.2.1]) rfl i
     ·have gA:Hid (¬(EY (n:Int)/\d.size=16)):=fun h=>D h.2
      have cE:((d.size:Int) != 16)=true:=(by simp;omega);clear D;go_wp2_with (first | (go_at_call 77;refine(Rd _ _).mono ?_;rintro e w9 ⟨⟨t2,rfl,E⟩,rfl⟩;obtain rfl:t2=true:=E.2 L.out;clear E) | fail);obtain⟨⟨r0,r1⟩,⟨r2,r3⟩,⟨r4,r5⟩,⟨r6,r7⟩,⟨r8,r9⟩,⟨s,u⟩⟩:=q.out
      try go_wp2
      have f:=q.out.put (A5) (A5) (A0 0) (A0 0) (A5) (A0 8);have i:=Ja (R:=w.heap.size+1+1) (c:=8) (by omega) N;rw[MO z.out jA.out gA.out];exact bodyPost_ret (v:=.agg #[A5,A5,A0 0,A0 0,A5,A0 8]) (by simp[results,Tryz.results35,go_sem,f.1.1,f.2.1.1,f.2.2.1.1,f.2.2.2.1.1,f.2.2.2.2.1.1,f.2.2.2.2.2.1]) rfl i
    ·have L:=AF hN;clear hN;go_wp2_with (first | (go_at_call 77;refine(Rd _ _).mono ?_;rintro e w9 ⟨⟨t2,rfl,E⟩,rfl⟩;obtain rfl:t2=false:=BQ E L.out;clear E) | fail);obtain⟨⟨r0,r1⟩,⟨r2,r3⟩,⟨r4,r5⟩,⟨r6,r7⟩,⟨r8,r9⟩,⟨s,u⟩⟩:=q.out
     try go_wp2
     have f:=q.out.put (A5) (A5) (A0 0) (A0 0) (A5) (A0 8);have i:=Ja (R:=w.heap.size+1+1) (c:=8) (by omega) N;rw[MO z.out jA.out (fun h=>L.out h.1)];exact bodyPost_ret (v:=.agg #[A5,A5,A0 0,A0 0,A5,A0 8]) (by simp[results,Tryz.results35,go_sem,f.1.1,f.2.1.1,f.2.2.1.1,f.2.2.2.1.1,f.2.2.2.2.1.1,f.2.2.2.2.2.1]) rfl i
   ·have gD:=AF O;obtain rfl:t=false:=BQ ht O;clear ht O;obtain⟨⟨r0,r1⟩,⟨r2,r3⟩,⟨r4,r5⟩,⟨r6,r7⟩,⟨r8,r9⟩,⟨s,u⟩⟩:=q.out
    try go_wp2
    have f:=q.out.put (A5) (A5) (A0 0) (A0 0) (A5) (A0 1);have i:=Ja (R:=w.heap.size+1+1) (c:=1) (by omega) N;rw[MK z.out (fun h=>gD.out h.2)];exact bodyPost_ret (v:=.agg #[A5,A5,A0 0,A0 0,A5,A0 1]) (by simp[results,Tryz.results35,go_sem,f.1.1,f.2.1.1,f.2.2.1.1,f.2.2.2.1.1,f.2.2.2.2.1.1,f.2.2.2.2.2.1]) rfl i
  ·have M:=AF P;obtain rfl:t=false:=BQ ht P;clear ht P;obtain⟨⟨r0,r1⟩,⟨r2,r3⟩,⟨r4,r5⟩,⟨r6,r7⟩,⟨r8,r9⟩,⟨s,u⟩⟩:=iA.out
   try go_wp2
   have f:=iA.out.put (A5) (A5) (A0 0) (A0 0) (A5) (A0 1);have i:=Ja (R:=w.heap.size+1+1) (c:=1) (by omega) nB;rw[MK z.out (fun h=>M.out h.1)];exact bodyPost_ret (v:=.agg #[A5,A5,A0 0,A0 0,A5,A0 1]) (by simp[results,Tryz.results35,go_sem,f.1.1,f.2.1.1,f.2.2.1.1,f.2.2.2.1.1,f.2.2.2.2.1.1,f.2.2.2.2.2.1]) rfl i
theorem Xw{p:A7}{xs xb:Int}{n:Nat}(b:As p xs xb)(hn:n<64):∀{L:Nat},L<3->¬Nil (BN p xs xb n L) (Bd p xs xb n L)->B8 p (BN p xs xb n L) (Bd p xs xb n L)/\Bd p xs xb n L<=xb
 | 0,_,hN=>⟨(b.2.resolve_left hN).1.1,Int.le_refl _⟩
 | L+1,hL,hN=>by
  have a:¬Nil (BN p xs xb n L) (Bd p xs xb n L):=fun h=>hN (KQ h (by omega))
  obtain⟨c,g⟩:=Xw b hn (L:=L) (by omega) a;rw[(Ka p xs xb n (show L<2 by omega)).1,(Ka p xs xb n (show L<2 by omega)).2]at hN ⊢;unfold Cx at hN ⊢;rw[if_neg a,if_neg a]at hN ⊢;obtain⟨d,e⟩:=J5 (Ey b.1 c) (My (n:=n) (L:=L) hn) hN;refine⟨d,?_⟩;have i:=c.2.2.2;have f:BC (p.s (BN p xs xb n L).toNat) (plc n L*2+1)<=(p.s (BN p xs xb n L).toNat).birth:=e;omega
variable{q:A7}{x y:Int}
theorem Jg(j:As p xs xb)(hn:n<64)(w:L<2)(g:C8 xb b)(d:∀s t,B8 p s t->B8 q s t)(m:Nil x y\/(B8 q x y/\y<=b)) :
 C5 q (Bc (Ao p xs xb n L x) (Am p xs xb n L y) b):=by
 refine⟨g.1,Or.inr ⟨rfl,by simp[Bc,Go.ByteArray.toList_eq],fun i hi=>?_⟩⟩;have c:i<8:=hi;show Mn q b (Ao p xs xb n L x i) (Am p xs xb n L y i);unfold Ao Am;by_cases e:i=plc n L
 ·rw[if_pos e,if_pos e];rcases m with h | h
  ·exact Or.inl h
  ·exact Or.inr h
 ·rw[if_neg e,if_neg e];unfold BU Be;by_cases a:Nil (BN p xs xb n L) (Bd p xs xb n L)
  ·rw[if_pos a,if_pos a];exact Or.inl ⟨rfl,rfl⟩
  ·rw[if_neg a,if_neg a];obtain⟨f,o⟩:=Xw j hn (L:=L) (by omega) a;by_cases k:Nil (AK (p.s (BN p xs xb n L).toNat) i) (AW (p.s (BN p xs xb n L).toNat) i)
   ·exact Or.inl k
   ·obtain⟨l,r⟩:=J5 (Ey j.1 f) c k;refine Or.inr ⟨d _ _ l,?_⟩;have u:=f.2.2.2;have v:=g.2;omega
theorem MB{f:Nat->AH}:∀{n:Nat},roomN f n=0->∀j,j<n->¬Ah (f j)
 | 0,_,j,hj=>absurd hj (Nat.not_lt_zero _)
 | n+1,h,j,hj=>by
  by_cases a:Ah (f n)
  ·rw[Jl a]at h;omega
  ·rw[J0 a]at h;by_cases e:j=n
   ·rw[e];exact a
   ·exact MB h j (by omega)
theorem IE{f:Nat->AH}:∀{n:Nat},0<roomN f n->∃i,Ba n f i
 | 0,h=>absurd h (Nat.lt_irrefl _)
 | n+1,h=>by
  by_cases a:0<roomN f n
  ·obtain⟨i,e,c,d⟩:=IE a;exact⟨i,by omega,c,d⟩
  ·by_cases b:Ah (f n)
   ·exact⟨n,by omega,b,MB (by omega)⟩
   ·rw[J0 b]at h;exact absurd h a
theorem Km(hi:Ba p.n p.s i)(hs:C5 p s):roomN (Au p i s).s p.n+1=roomN p.s p.n:=by
 have h:=UO (p:=p) (i:=i) (s:=s) hi.2.1 (GC hs) p.n;rw[if_pos hi.1]at h;exact h
theorem Gd(a:DS b)(c:d.size=16):C5 p (BM b d):=⟨a,Or.inl ⟨rfl,c⟩⟩
theorem MG(hi:Ba p.n p.s i)(hs:1<=s.birth):B8 (Au p i s) (i:Int) s.birth:=
 ⟨hs,by omega,by have:=hi.1;show(i:Int)<(p.n:Int);omega,by rw[Int.toNat_natCast,J1]⟩
theorem OK(hn:n<64)(a:1<=b):¬Df (Ao p xs xb n L x) (Am p xs xb n L b):=fun h=>by
 have:=(h (plc n L) (My hn)).2;unfold Am at this;rw[if_pos rfl]at this;omega
def Bf(p:A7)(b:Int)(d:ByteArray)(i0:Nat):A7:=Au p i0 (BM b d)
def Cz(p:A7)(xs xb:Int)(n:Nat)(b:Int)(d:ByteArray)(i0 i1:Nat):A7:=Au (Bf p b d i0) i1 (Bc (Ao p xs xb n 1 (i0:Int)) (Am p xs xb n 1 b) b)
def IR(p:A7)(xs xb:Int)(n:Nat)(b:Int)(d:ByteArray)(i0 i1 i2:Nat):A7:=Au (Cz p xs xb n b d i0 i1) i2 (Bc (Ao p xs xb n 0 (i1:Int)) (Am p xs xb n 0 b) b)
theorem zIw{i0:Nat}(f:As p xs xb)(a:C8 xb b)(c:d.size=16)(e:Ba p.n p.s i0):Bv p (BM b d)=⟨Bf p b d i0,(i0:Int),b,0⟩:=
 KT ⟨f.1,GC (Gd (p:=p) a.1 c),Gd a.1 c⟩ e
theorem OL{i0:Nat}(e:As p xs xb)(c:C8 xb b)(f:d.size=16)(a:Ba p.n p.s i0):AZ (Bf p b d i0):=O9 e.1 a (Gd c.1 f)
theorem I3{i0:Nat}(e:As p xs xb)(hn:n<64)(c:C8 xb b)(a:Ba p.n p.s i0):C5 (Bf p b d i0) (Bc (Ao p xs xb n 1 (i0:Int)) (Am p xs xb n 1 b) b):=
 Jg e hn (by omega) c (fun s t h=>MI a.2.1 h) (Or.inr ⟨MG (s:=BM b d) a c.1.1,Int.le_refl _⟩)
variable{i1:Nat}
theorem Lu{i0:Nat}(f:As p xs xb)(hn:n<64)(c:C8 xb b)(e:Ba p.n p.s i0)(a:Ba p.n (Bf p b d i0).s i1):C5 (Cz p xs xb n b d i0 i1) (Bc (Ao p xs xb n 0 (i1:Int)) (Am p xs xb n 0 b) b):=
 Jg f hn (by omega) c (fun s t h=>MI (p:=Bf p b d i0) a.2.1 (MI e.2.1 h)) (Or.inr ⟨MG (p:=Bf p b d i0) (s:=Bc (Ao p xs xb n 1 (i0:Int)) (Am p xs xb n 1 b) b) a c.1.1,Int.le_refl _⟩)
theorem yh{i0:Nat}(hn:n<64)(a:C8 xb b):layS p xs xb n b ⟨Bf p b d i0,(i0:Int),b,0⟩ 1=Bv (Bf p b d i0) (Bc (Ao p xs xb n 1 (i0:Int)) (Am p xs xb n 1 b) b):=
 if_neg (OK hn a.1.1)
theorem Pe{i0:Nat}(e:As p xs xb)(hn:n<64)(a:C8 xb b)(g:d.size=16)(c:Ba p.n p.s i0)(f:Ba p.n (Bf p b d i0).s i1):layS p xs xb n b ⟨Bf p b d i0,(i0:Int),b,0⟩ 1=⟨Cz p xs xb n b d i0 i1,(i1:Int),b,0⟩:=by
 rw[yh hn a];exact KT ⟨OL e a g c,GC (I3 (d:=d) e hn a c),I3 e hn a c⟩ f
theorem yi{i0:Nat}(f:As p xs xb)(hn:n<64)(a:C8 xb b)(g:d.size=16)(c:Ba p.n p.s i0)(e:Ba p.n (Bf p b d i0).s i1):layS p xs xb n b ⟨Bf p b d i0,(i0:Int),b,0⟩ 2=Bv (Cz p xs xb n b d i0 i1) (Bc (Ao p xs xb n 0 (i1:Int)) (Am p xs xb n 0 b) b):=by
 show JH p xs xb n b (layS p xs xb n b ⟨Bf p b d i0,(i0:Int),b,0⟩ 1) 0=_;rw[Pe f hn a g c e];exact if_neg (OK hn a.1.1)
theorem TM(hn:n<64):EY (n:Int):=⟨by omega,by omega⟩
theorem UL{i0:Nat}(c:As p xs xb)(hn:n<64)(a:C8 xb b)(e:d.size=16)(g:Ba p.n p.s i0):CF p xs xb (n:Int) d b=CJ p xs xb n b ⟨Bf p b d i0,(i0:Int),b,0⟩:=by
 have f:=zIw c a e g;rw[Vv (by omega) ⟨c,a⟩ ⟨TM hn,e⟩ (by rw[f]),f];rfl
theorem RH{i0:Nat}(e:As p xs xb)(hn:n<64)(c:C8 xb b)(g:d.size=16)(a:Ba p.n p.s i0)(f:Ba p.n (Bf p b d i0).s i1):AZ (Cz p xs xb n b d i0 i1):=
 O9 (OL e c g a) f (I3 e hn c a)
theorem UM{i0 i2:Nat}(e:As p xs xb)(hn:n<64)(c:C8 xb b)(g:d.size=16)(a:Ba p.n p.s i0)(f:Ba p.n (Bf p b d i0).s i1)(k:Ba p.n (Cz p xs xb n b d i0 i1).s i2) :
 CF p xs xb (n:Int) d b=⟨IR p xs xb n b d i0 i1 i2,(i2:Int),b,BS p xs xb n 3,0⟩:=by
 rw[UL e hn c g a];have i:=Pe e hn c g a f;have h:layS p xs xb n b ⟨Bf p b d i0,(i0:Int),b,0⟩ 2=⟨IR p xs xb n b d i0 i1 i2,(i2:Int),b,0⟩:=by
  rw[yi e hn c g a f];exact KT ⟨RH e hn c g a f,GC (Lu (d:=d) e hn c a f),Lu e hn c a f⟩ k
 rw[NW (fun j l=>by
  rcases j with _ | _ | _ | j
  ·rfl
  ·rw[i]
  ·rw[h]
  ·omega),h]
theorem Xq(c:As p xs xb)(hn:n<64)(a:C8 xb b)(g:d.size=16)(x:roomN p.s p.n<3):CF p xs xb (n:Int) d b=DM 6:=by
 by_cases r0:roomN p.s p.n=0
 ·have o:=Ko (p:=p) (s:=BM b d) ⟨c.1,GC (Gd (p:=p) a.1 g),Gd a.1 g⟩ (MB r0);rw[Xr (by omega) ⟨c,a⟩ ⟨TM hn,g⟩ (by rw[o];decide),o]
 ·obtain⟨i0,e⟩:=IE (f:=p.s) (n:=p.n) (by omega);have r:=Km (s:=BM b d) e (Gd a.1 g);rw[UL c hn a g e];by_cases r1:roomN (Bf p b d i0).s p.n=0
  ·have v:=Ko (p:=Bf p b d i0) ⟨OL c a g e,GC (I3 (n:=n) (d:=d) c hn a e),I3 c hn a e⟩ (MB r1);have i:=yh (p:=p) (xs:=xs) (d:=d) (i0:=i0) hn a;rw[v]at i;rw[LW (k:=0) (by omega) (fun j q=>by cases (show j=0 from by omega);rfl) (by rw[i];decide),i]
  ·obtain⟨m,h⟩:=IE (f:=(Bf p b d i0).s) (n:=p.n) (by omega);have q1:roomN (Cz p xs xb n b d i0 m).s p.n+1=roomN (Bf p b d i0).s p.n:=Km (p:=Bf p b d i0) h (I3 c hn a e);have t:roomN (Bf p b d i0).s p.n+1=roomN p.s p.n:=r;have u:roomN (Cz p xs xb n b d i0 m).s p.n=0:=(by omega);have w:=Ko (p:=Cz p xs xb n b d i0 m) ⟨RH c hn a g e h,GC (Lu (d:=d) c hn a e h),Lu c hn a e h⟩ (MB u);have i:=Pe c hn a g e h;have l:=yi c hn a g e h;rw[w]at l;rw[LW (k:=1) (by omega) (fun j q=>by
    rcases j with _ | _ | j
    ·rfl
    ·rw[i]
    ·omega) (by rw[l];decide),l]
def DJ(w:World)(S:Nat->Prop)(v0 v1:Value)(p:A7):Prop:=
 ∃(bs hb:Nat) (kb:Nat->Nat) (kv:Nat->Value),FF w bs kb kv v0 p.n p.s/\M0 kb p.n p.s/\Fe w hb v1 p.hn p.h/\(0<p.hn->¬FY bs kb p.n p.s hb)/\
  ∀k,FY bs kb p.n p.s k\/(0<p.hn/\k=hb)->S k
theorem Bq.isIn(h:Bq w lo hi v0 v1 p)(i:∀k,lo<=k->k<hi->S k):DJ w S v0 v1 p:=by
 obtain⟨c,j,l,kv,d,e,f,g,a⟩:=h;exact⟨c,j,l,kv,d,e,f,g,fun k b=>i k (a k b).1 (a k b).2⟩
theorem DJ.own(h:DJ w S v0 v1 p)(g:∀k,S k->lo<=k/\k<hi):Bq w lo hi v0 v1 p:=by
 obtain⟨a,i,l,kv,b,c,d,e,f⟩:=h;exact⟨a,i,l,kv,b,c,d,e,fun k j=>g k (f k j)⟩
variable{T:Nat->Prop}
theorem DJ.mono(h:DJ w S v0 v1 p)(g:∀k,S k->T k):DJ w T v0 v1 p:=by
 obtain⟨a,i,l,kv,b,c,d,e,f⟩:=h;exact⟨a,i,l,kv,b,c,d,e,fun k j=>g k (f k j)⟩
theorem DJ.A1(h:DJ w S v0 v1 p)(t:Below w.heap.size w w'):DJ w' S v0 v1 p:=by
 obtain⟨a,g,i,kv,b,c,d,e,f⟩:=h;exact⟨a,g,i,kv,b.A1 t,c,d.A1 t,e,f⟩
theorem DJ.AD(h:DJ w S v0 v1 p)(t:AC T w w')(hs:∀k,S k->¬T k):DJ w' S v0 v1 p:=by
 obtain⟨b,d,e,kv,f,g,j,l,c⟩:=h;have out:∀k,FY b e p.n p.s k\/(0<p.hn/\k=d)->¬T k:=fun k m=>hs k (c k m)
 exact⟨b,d,e,kv,f.AD t (fun a=>out _ (Or.inl (Or.inl ⟨a,rfl⟩))) (fun i hi h=>out _ (Or.inl (Or.inr ⟨i,hi,h,rfl⟩))),g,j.AD t (fun a=>out _ (Or.inr ⟨a,rfl⟩)),l,c⟩
theorem DJ.at(h:DJ w S v0 v1 p)(a:∀k,S k->lo<=k/\k<hi):CD w lo hi v0 v1 p:=(h.own a).at
theorem UD(c:layS p xs xb n b ⟨p,0,0,0⟩ 1=⟨q,x,y,0⟩)(d:Df (Ao p xs xb n 0 x) (Am p xs xb n 0 y)):CJ p xs xb n b ⟨p,0,0,0⟩=⟨q,0,0,BS p xs xb n 3,0⟩:=by
 have a:layS p xs xb n b ⟨p,0,0,0⟩ 2=⟨q,0,0,0⟩:=by
  show JH p xs xb n b (layS p xs xb n b ⟨p,0,0,0⟩ 1) 0=_;rw[c];exact if_pos d
 rw[NW (fun j e=>by
  rcases j with _ | _ | _ | j
  ·rfl
  ·rw[c]
  ·rw[a]
  ·omega),a]
theorem UF(c:layS p xs xb n b ⟨p,0,0,0⟩ 1=⟨q,x,y,0⟩)(d:¬Df (Ao p xs xb n 0 x) (Am p xs xb n 0 y))(e:AZ q)(hF:C5 q (Bc (Ao p xs xb n 0 x) (Am p xs xb n 0 y) b))(hi:Ba q.n q.s i) :
 CJ p xs xb n b ⟨p,0,0,0⟩=⟨Au q i (Bc (Ao p xs xb n 0 x) (Am p xs xb n 0 y) b),(i:Int),b,BS p xs xb n 3,0⟩:=by
 have a:layS p xs xb n b ⟨p,0,0,0⟩ 2=⟨Au q i (Bc (Ao p xs xb n 0 x) (Am p xs xb n 0 y) b),(i:Int),b,0⟩:=by
  show JH p xs xb n b (layS p xs xb n b ⟨p,0,0,0⟩ 1) 0=_;rw[c];exact(if_neg d).trans (KT ⟨e,GC hF,hF⟩ hi)
 rw[NW (fun j f=>by
  rcases j with _ | _ | _ | j
  ·rfl
  ·rw[c]
  ·rw[a]
  ·omega),a]
theorem Vs(d:layS p xs xb n b ⟨p,0,0,0⟩ 1=⟨q,x,y,0⟩)(e:¬Df (Ao p xs xb n 0 x) (Am p xs xb n 0 y))(f:AZ q)(hF:C5 q (Bc (Ao p xs xb n 0 x) (Am p xs xb n 0 y) b))(a:∀j,j<q.n->¬Ah (q.s j)) :
 CJ p xs xb n b ⟨p,0,0,0⟩=DM 6:=by
 have c:layS p xs xb n b ⟨p,0,0,0⟩ 2=⟨Cs 0,0,0,6⟩:=by
  show JH p xs xb n b (layS p xs xb n b ⟨p,0,0,0⟩ 1) 0=_;rw[d];exact(if_neg e).trans (Ko ⟨f,GC hF,hF⟩ a)
 rw[LW (k:=1) (by omega) (fun j g=>by
    rcases j with _ | _ | j
    ·rfl
    ·rw[d]
    ·omega) (by rw[c];decide),c]
theorem zIf(a:Df (Ao p xs xb n 1 0) (Am p xs xb n 1 0)):layS p xs xb n b ⟨p,0,0,0⟩ 1=⟨p,0,0,0⟩:=if_pos a
theorem zIg(a:As p xs xb)(hn:n<64)(c:C8 xb b)(d:¬Df (Ao p xs xb n 1 0) (Am p xs xb n 1 0))(hi:Ba p.n p.s i) :
 layS p xs xb n b ⟨p,0,0,0⟩ 1=⟨Au p i (Bc (Ao p xs xb n 1 0) (Am p xs xb n 1 0) b),(i:Int),b,0⟩:=by
 have hF:C5 p (Bc (Ao p xs xb n 1 0) (Am p xs xb n 1 0) b):=Jg a hn (by omega) c (fun s t h=>h) (Or.inl ⟨rfl,rfl⟩);exact(if_neg d).trans (KT ⟨a.1,GC hF,hF⟩ hi)
theorem zF9(d:As p xs xb)(hn:n<64)(e:C8 xb b)(f:¬Df (Ao p xs xb n 1 0) (Am p xs xb n 1 0))(a:∀j,j<p.n->¬Ah (p.s j)):CJ p xs xb n b ⟨p,0,0,0⟩=DM 6:=by
 have hF:C5 p (Bc (Ao p xs xb n 1 0) (Am p xs xb n 1 0) b):=Jg d hn (by omega) e (fun s t h=>h) (Or.inl ⟨rfl,rfl⟩);have c:layS p xs xb n b ⟨p,0,0,0⟩ 1=⟨Cs 0,0,0,6⟩:=(if_neg f).trans (Ko ⟨d.1,GC hF,hF⟩ a);rw[LW (k:=0) (by omega) (fun j g=>by cases (show j=0 from by omega);rfl) (by rw[c];decide),c]
theorem zGG{f g:Nat->Int}:(∃i,i<8/\¬Nil (f i) (g i))↔¬Df f g:=by
 constructor
 ·rintro⟨i,hi,h⟩ a;exact h (a i hi)
 ·intro h;apply Classical.byContradiction;intro b;exact h fun i hi=>Classical.byContradiction fun hn=>b ⟨i,hi,hn⟩
end
end Go.Proofs.YtddigaohmfpepaaGreatDoor
