/- A part of the proof. -/
import Derived.Test.YtgabgheflgjgiaaGreatDoorU5
import Derived.BigQuiet
import Derived.RegionTactic
import Derived.ChangeAlike
import Derived.BigRegion
import Derived.Deep.RegionHeld3
import Derived.Deep.QuietTactic
import Derived.Maps.OwnSet
import Derived.Deep.RegionHeld
import Derived.Laws.CopyOwn
import Derived.Deep.RegionLaw
set_option linter.unusedVariables false
set_option maxRecDepth 20000
set_option maxHeartbeats 4000000
namespace Go.Proofs.YtgabgheflgjgiaaGreatDoor
open Go.RowKit
theorem zB{P:Prop}(h:P):Hid P:=h
def zEl(n:Nat)(P:Nat->Prop)(r:Int):Prop:=(∃k:Nat,k<n/\P k/\(∀j,j<k->¬P j)/\r=k)\/((∀j,j<n->¬P j)/\r = -1)
theorem zm(v0 v1 v2 v3:Value)(lo hi:Nat)(W:zH)(x:Int)(w:World)(h:zr w lo hi v0 v1 v2 v3 W) :
  Calls Tryz.prog 52 #[qT v0 v1 v2 v3 W,.int .i64 x] w fun e w'=>∃r:Int,e = .returned (.int .i64 r)/\zEl W.pn (fun k=>(W.zOw k).id=x) r/\Below w.heap.size w w':=by
 have Hp:=zB h.zOw;obtain⟨m1,a,c,rfl,mc,_⟩:=id h.zOw;unfold maxLen at m1;clear h;have ha:=zC w (.cells #[v0,v1,.int .i64 W.time,.int .i64 W.next,v2,.slice a W.pn c] 40);have HB:=zB (za.zOt w v0 v1 (.int .i64 W.time) (.int .i64 W.next) v2 (.slice a W.pn c) 40);go_enter Tryz.func52,Tryz.ntmps52;go_wp2
 go_loopw [5] (fun i wr=>∃k:Nat,k<=W.pn/\i = .int .i64 k/\(∀j,j<k->¬(W.zOw j).id=x)/\za wr w.heap.size v0 v1 (.int .i64 W.time) (.int .i64 W.next) v2 (.slice a W.pn c)/\Below w.heap.size w wr) (fun i _=>W.pn - (intOf i).toNat)
 case atStart=>exact⟨0,Nat.zero_le _,rfl,fun j hj=>absurd hj (Nat.not_lt_zero _),HB.out,ha⟩
 case round=>
  obtain⟨k,hk,rfl,cA,hX,hb⟩:=hrel;have aA:=zB cA;have HX:=zB hX;clear cA hX;obtain⟨⟨x0,x1⟩,⟨x2,x3⟩,⟨x4,x5⟩,⟨x6,x7⟩,⟨x8,x9⟩,⟨eA,fA⟩⟩:=HX.out;by_cases bA:k<W.pn
  ·have dA:(k:Int)<(W.pn:Int):=(by omega);obtain⟨b,off,vd,rfl,hs⟩:=(Hp.out.zOp hb).cells bA;have q0:=hs.c0;clear hs;by_cases he:(W.zOw k).id=x
   ·have H:=zB he;rw[he]at q0;clear he;go_wp2;go_ret;exact⟨k,rfl,Or.inl ⟨k,bA,H.out,aA.out,rfl⟩,hb⟩
   ·have H:=zB he;have e0:((W.zOw k).id == x)=false:=(by simp[he]);clear he;go_wp2;go_roundw
    case rel=>
     refine⟨k+1,by omega,by go_num,?_,HX.out,hb⟩;intro j hj;by_cases e:j=k
     ·subst e;exact H.out
     ·exact aA.out j (by omega)
    case measure=>simp[intOf];omega
  ·obtain rfl:k=W.pn:=(by omega);go_wp2;go_ret;exact⟨-1,rfl,Or.inr ⟨aA.out,rfl⟩,hb⟩
theorem yY(v0 v1 v2 v3:Value)(lo hi:Nat)(W:zH)(x:ByteArray)(w:World)(h:zr w lo hi v0 v1 v2 v3 W) :
  Calls Tryz.prog 47 #[qT v0 v1 v2 v3 W,.string x] w fun e w'=>∃r:Int,e = .returned (.int .i64 r)/\zEl W.sn (fun k=>(W.zOy k).name=x) r/\Below w.heap.size w w':=by
 have Hp:=zB h.zOy;obtain⟨m1,a,c,rfl,mc,_⟩:=id h.zOy;unfold maxLen at m1;clear h;have ha:=zC w (.cells #[v0,v1,.int .i64 W.time,.int .i64 W.next,.slice a W.sn c,v3] 40);have HB:=zB (za.zOt w v0 v1 (.int .i64 W.time) (.int .i64 W.next) (.slice a W.sn c) v3 40);go_enter Tryz.func47,Tryz.ntmps47;go_wp2
 go_loopw [5] (fun i wr=>∃k:Nat,k<=W.sn/\i = .int .i64 k/\(∀j,j<k->¬(W.zOy j).name=x)/\za wr w.heap.size v0 v1 (.int .i64 W.time) (.int .i64 W.next) (.slice a W.sn c) v3/\Below w.heap.size w wr) (fun i _=>W.sn - (intOf i).toNat)
 case atStart=>exact⟨0,Nat.zero_le _,rfl,fun j hj=>absurd hj (Nat.not_lt_zero _),HB.out,ha⟩
 case round=>
  obtain⟨k,hk,rfl,cA,hX,hb⟩:=hrel;have aA:=zB cA;have HX:=zB hX;clear cA hX;obtain⟨⟨x0,x1⟩,⟨x2,x3⟩,⟨x4,x5⟩,⟨x6,x7⟩,⟨x8,x9⟩,⟨eA,fA⟩⟩:=HX.out;by_cases bA:k<W.sn
  ·have dA:(k:Int)<(W.sn:Int):=(by omega);obtain⟨b,off,vd,rfl,hs⟩:=(Hp.out.zOp hb).cells bA;have q0:=hs.c0;clear hs;by_cases he:(W.zOy k).name=x
   ·have H:=zB he;rw[he]at q0;clear he;go_wp2;go_ret;exact⟨k,rfl,Or.inl ⟨k,bA,H.out,aA.out,rfl⟩,hb⟩
   ·have H:=zB he;have e0:((W.zOy k).name.toList == x.toList)=false:=zBK he;clear he;go_wp2;go_roundw
    case rel=>
     refine⟨k+1,by omega,by go_num,?_,HX.out,hb⟩;intro j hj;by_cases e:j=k
     ·subst e;exact H.out
     ·exact aA.out j (by omega)
    case measure=>simp[intOf];omega
  ·obtain rfl:k=W.sn:=(by omega);go_wp2;go_ret;exact⟨-1,rfl,Or.inr ⟨aA.out,rfl⟩,hb⟩
def zIM(W:zH)(x s b t:Int):Prop:=(∃k,x≠0/\qo W x k/\s=(W.zOw k).rs/\b=(W.zOw k).rb/\t=(W.zOw k).time)\/((x=0\/∀k,k<W.pn->(W.zOw k).id≠x)/\s=0/\b=0/\t=0)
theorem yS(v0 v1 v2 v3:Value)(lo hi:Nat)(W:zH)(x:Int)(w:World)(h:zr w lo hi v0 v1 v2 v3 W) :
  Calls Tryz.prog 54 #[qT v0 v1 v2 v3 W,.int .i64 x] w fun e w'=>∃s b t:Int,e = .returned (.tuple #[.agg #[.int .i64 s,.int .i64 b],.int .i64 t])/\zIM W x s b t/\Below w.heap.size w w':=by
 have Hp:=zB h;obtain⟨m1,a,c,rfl,mc,_⟩:=id h.zOw;unfold maxLen at m1;clear h;have ha:=zC w (.cells #[v0,v1,.int .i64 W.time,.int .i64 W.next,v2,.slice a W.pn c] 40);have hB:=za.zOt w v0 v1 (.int .i64 W.time) (.int .i64 W.next) v2 (.slice a W.pn c) 40;have eA:=zC (w.alloc (.cells #[v0,v1,.int .i64 W.time,.int .i64 W.next,v2,.slice a W.pn c] 40)) (.cells #[.int .i64 0,.int .i64 0] 99);have hR:=zk.zOt (w.alloc (.cells #[v0,v1,.int .i64 W.time,.int .i64 W.next,v2,.slice a W.pn c] 40)) (.int .i64 0) (.int .i64 0) 99;have dA:=hB.zOp eA;have bA:=zA ha eA;have kA:(w.alloc (.cells #[v0,v1,.int .i64 W.time,.int .i64 W.next,v2,.slice a W.pn c] 40)).heap.size=w.heap.size+1:=World.size_alloc _ _;rw[kA]at hR;clear ha eA hB;go_enter Tryz.func54,Tryz.ntmps54;go_wp2_with fail;generalize ((w.alloc (.cells #[v0,v1,.int .i64 W.time,.int .i64 W.next,v2,.slice a W.pn c] 40)).alloc (.cells #[.int .i64 0,.int .i64 0] 99))=W0 at hR dA bA ⊢;refine(zm v0 v1 v2 _ lo hi W x W0 (Hp.out.zOp bA)).mono ?_;rintro e w1 ⟨r,rfl,hF,aA⟩;have fA:=hR.zOp aA;have gA:=dA.zOp aA;have cA:=zA bA aA;clear hR dA bA aA kA;have HR:=zB fA;have HX:=zB gA;clear fA gA;obtain⟨⟨y0,y1⟩,⟨y2,y3⟩⟩:=HR.out;obtain⟨⟨x0,x1⟩,⟨x2,x3⟩,⟨x4,x5⟩,⟨x6,x7⟩,⟨x8,x9⟩,⟨tA,vA⟩⟩:=HX.out;by_cases hx:x=0
 ·subst hx;clear hF;go_wp2;refine bodyPost_ret (v:=.tuple #[.agg #[.int .i64 0,.int .i64 0],.int .i64 0]) (by simp[results,Tryz.results54,go_sem,y0,y2]) rfl ⟨0,0,0,rfl,Or.inr ⟨Or.inl rfl,rfl,rfl,rfl⟩,?_⟩;exact(cA.setCell (by show w.heap.size<=w.heap.size+1;omega) _).setCell (by show w.heap.size<=w.heap.size+1;omega) _
 ·have Hx:=zB hx;have f0:(x == 0)=false:=(by simp[hx]);clear hx;rcases hF with⟨k,hk,jA,hm,rfl⟩ | ⟨hn,rfl⟩
  ·obtain⟨b,off,vd,rfl,hs⟩:=(Hp.out.zOw.zOp cA).cells hk;have q4:=hs.c4;have q5:=hs.c5;have q6:=hs.c6;have pA:(k:Int)<(W.pn:Int):=(by omega);have lA:b<w.heap.size:=by
    obtain⟨b2,oA,sA,e2,nA⟩:=Hp.out.zOw.cells hk;cases e2;exact zD nA.c0
   have rA:b≠w.heap.size+1:=(by omega);have mA:w.heap.size≠w.heap.size+1:=(by omega);have Hk:=zB (And.intro jA hm);clear hs jA hm lA;have iA:w.heap.size<=w.heap.size+1:=(by omega);generalize w.heap.size+1=R at *;go_wp2;go_region;go_wp2;refine bodyPost_ret (v:=.tuple #[.agg #[.int .i64 (W.zOw k).rs,.int .i64 (W.zOw k).rb],.int .i64 (W.zOw k).time]) (by simp[results,Tryz.results54,go_sem,y0,y2]) rfl ⟨_,_,_,rfl,Or.inl ⟨k,Hx.out,⟨hk,Hk.out.1,Hk.out.2⟩,rfl,rfl,rfl⟩,?_⟩;exact((cA.setCell iA _).setCell iA _).drew
  ·have Hn:=zB hn;clear hn;go_wp2;refine bodyPost_ret (v:=.tuple #[.agg #[.int .i64 0,.int .i64 0],.int .i64 0]) (by simp[results,Tryz.results54,go_sem,y0,y2]) rfl ⟨0,0,0,rfl,Or.inr ⟨Or.inr Hn.out,rfl,rfl,rfl⟩,?_⟩;exact(cA.setCell (by show w.heap.size<=w.heap.size+1;omega) _).setCell (by show w.heap.size<=w.heap.size+1;omega) _
theorem zAb.take{w:World}{lo hi:Nat}{a:Option Addr}{n c m c':Nat}{f:Nat->Int}(h:zAb w lo hi (.slice a n c) n f)(hm:m<=n)(hc:m<=c'):zAb w lo hi (.slice a m c') m f:=by
 obtain⟨h0,a2,cap,hv,aA,hx⟩:=h;simp only[Value.slice.injEq,true_and]at hv;obtain⟨rfl,rfl⟩:=hv;refine⟨by omega,a,c',rfl,hc,fun h0=>?_⟩;obtain⟨b,off,ha,h1,h2,h3⟩:=hx (by omega);exact⟨b,off,ha,h1,h2,fun i hi=>h3 i (by omega)⟩
structure zBR (w:World) (b o:Nat) (lo hi:Nat) (ka:Option Addr) (kc:Nat) (s:zO):Prop where
 c0:w.cell? ⟨b,o,none⟩=some (.int .i64 s.zO1)
 c1:w.cell? ⟨b,o+1,none⟩=some (.slice ka s.kn kc)
 c2:w.cell? ⟨b,o+2,none⟩=some (.string s.data)
 slot:zBQ w lo hi (.int .i64 s.zO1) (.slice ka s.kn kc) (.string s.data) s
theorem zBR.zOp{w w':World}{b o lo hi:Nat}{ka:Option Addr}{kc:Nat}{s:zO}(h:zBR w b o lo hi ka kc s)(t:Below w.heap.size w w'):zBR w' b o lo hi ka kc s:=
 ⟨(t.cell (zD h.c0)).trans h.c0,(t.cell (zD h.c1)).trans h.c1,(t.cell (zD h.c2)).trans h.c2,h.slot.zOp t⟩
theorem zBe.cells{w:World}{lo hi:Nat}{a:Option Addr}{n c:Nat}{f:Nat->zO}(h:zBe w lo hi (.slice a n c) n f){i:Nat}(aA:i<n) :
  ∃b off ka kc,a=some ⟨b,off,none⟩/\zBR w b (off+i*3) lo hi ka kc (f i):=by
 obtain⟨h0,a2,cap,hv,cA,hx⟩:=h;simp only[Value.slice.injEq,true_and]at hv;obtain⟨rfl,rfl⟩:=hv;obtain⟨b,off,ha,h1,h2,h3⟩:=hx (by omega);obtain⟨v0,v1,v2,c0,c1,c2,hs⟩:=h3 i aA;have bA:=hs;obtain⟨rfl,⟨_,ka,kc,rfl,_⟩,rfl,_⟩:=hs;exact⟨b,off,ka,kc,ha,⟨c0,c1,c2,bA⟩⟩
theorem zP{P:Prop}{t:Bool}(ht:t=true↔P)(h:¬P):t=false:=Bool.eq_false_iff.2 (fun e=>h (ht.1 e))
def qJ(s:zO):Prop:=s.zO1=0/\s.kn=0/\s.data.toList.isEmpty=true
def zAR(n:Int):Prop:=1<=n/\n<=1000000
def zy(p:zI)(xs xb:Int):Prop:=1<=xb/\0<=xs/\xs<p.n/\(p.s xs.toNat).zO1=xb
def zGQ(p:zI)(b:Int)(xs xb:Int):Prop:=(xs=0/\xb=0)\/(zy p xs xb/\xb<=b)
def ym(p:zI)(s:zO):Prop:=zAR s.zO1/\((s.kn=0/\s.data.size=16)\/(s.kn=8/\s.data.toList.isEmpty=true/\∀i,i<s.kn->zGQ p s.zO1 (s.ks i) (s.kb i)))
def Has(n:Nat)(f:Nat->Int)(x:Int):Prop:=∃j,j<n/\f j=x
def zIO(p:zI)(i:Nat):Prop:=0<=p.h i/\p.h i<p.n/\¬qJ (p.s (p.h i).toNat)/\¬Has i p.h (p.h i)
def zt(p:zI):Prop:=p.n<=200/\(∀i,i<p.n->qJ (p.s i)\/ym p (p.s i))/\∀i,i<p.hn->zIO p i
theorem qb(v0 v1 v2:Value)(lo hi:Nat)(s:zO)(w:World)(h1:zBQ w lo hi v0 v1 v2 s) :
  Calls Tryz.prog 65 #[.agg #[v0,v1,v2]] w fun e w'=>zK (qJ s) e/\Below w.heap.size w w':=by
 obtain⟨rfl,⟨m1,a,c,rfl,_⟩,rfl,_⟩:=h1;unfold maxLen at m1;have aA:=(Below.refl w.heap.size w).alloc (Nat.le_refl _) (.cells #[.int .i64 s.zO1,.slice a s.kn c,.string s.data] 128);by_cases h1:s.zO1=0
 ·by_cases h2:s.kn=0
  ·by_cases h3:s.data.toList.isEmpty=true
   ·have H:Hid (qJ s):=⟨h1,h2,h3⟩;have e1:(s.zO1 == 0)=true:=(by simp[h1]);have e2:((s.kn:Int) == 0)=true:=(by simp[h2]);clear h1 h2;go_enter Tryz.func65,Tryz.ntmps65;go_wp2;go_ret;exact⟨zK.yes H.out,aA⟩
   ·have H:Hid (¬qJ s):=fun h=>h3 h.2.2
    have e1:(s.zO1 == 0)=true:=(by simp[h1]);have e2:((s.kn:Int) == 0)=true:=(by simp[h2]);have e3:s.data.toList.isEmpty=false:=(by simpa using h3);clear h1 h2 h3;go_enter Tryz.func65,Tryz.ntmps65;go_wp2;go_ret;exact⟨zK.no H.out,aA⟩
  ·have H:Hid (¬qJ s):=fun h=>h2 h.2.1
   have e1:(s.zO1 == 0)=true:=(by simp[h1]);have e2:((s.kn:Int) == 0)=false:=(by simp;omega);clear h1 h2;go_enter Tryz.func65,Tryz.ntmps65;go_wp2;go_ret;exact⟨zK.no H.out,aA⟩
 ·have H:Hid (¬qJ s):=fun h=>h1 h.1
  have e1:(s.zO1 == 0)=false:=(by simp[h1]);clear h1;go_enter Tryz.func65,Tryz.ntmps65;go_wp2;go_ret;exact⟨zK.no H.out,aA⟩
theorem yR(n:Int)(w:World):Calls Tryz.prog 168 #[.int .i64 n] w fun e w'=>zK (zAR n) e/\w'=w:=by
 by_cases h1:1<=n
 ·by_cases h2:n<=1000000
  ·go_enter Tryz.func168,Tryz.ntmps168;go_wp2;go_ret;exact⟨zK.yes ⟨h1,h2⟩,rfl⟩
  ·go_enter Tryz.func168,Tryz.ntmps168;go_wp2;go_ret;exact⟨zK.no fun h=>by have:=h.2;omega,rfl⟩
 ·go_enter Tryz.func168,Tryz.ntmps168;go_wp2;go_ret;exact⟨zK.no fun h=>by have:=h.1;omega,rfl⟩
theorem yN(a b:Int)(w:World):Calls Tryz.prog 115 #[.agg #[.int .i64 a,.int .i64 b]] w fun e w'=>zK (zGU a b 0 0) e/\Below w.heap.size w w':=by
 have aA:=(Below.refl w.heap.size w).alloc (Nat.le_refl _) (.cells #[.int .i64 a,.int .i64 b] 99);by_cases h1:a=0
 ·by_cases h2:b=0
  ·subst h1 h2;go_enter Tryz.func115,Tryz.ntmps115;go_wp2;go_ret;exact⟨zK.yes ⟨rfl,rfl⟩,aA⟩
  ·subst h1;have H:Hid (¬zGU 0 b 0 0):=fun h=>h2 h.2
   have e2:(b == 0)=false:=(by simp[h2]);clear h2;go_enter Tryz.func115,Tryz.ntmps115;go_wp2;go_ret;exact⟨zK.no H.out,aA⟩
 ·have H:Hid (¬zGU a b 0 0):=fun h=>h1 h.1
  have e2:(a == 0)=false:=(by simp[h1]);clear h1;go_enter Tryz.func115,Tryz.ntmps115;go_wp2;go_ret;exact⟨zK.no H.out,aA⟩
theorem zAU(v:Value)(n lo hi:Nat)(f:Nat->Int)(x:Int)(w:World)(h1:zAb w lo hi v n f) :
  Calls Tryz.prog 105 #[v,.int .i64 x] w fun e w'=>zK (Has n f x) e/\w'=w:=by
 obtain⟨m1,a,c,rfl,mc,g1⟩:=h1;unfold maxLen at m1;have G1:Hid (0<n->∃b off,a=some ⟨b,off,none⟩/\lo<=b/\b<hi/\∀i,i<n->w.cell? ⟨b,off+i,none⟩=some (.int .i64 (f i))):=g1;clear g1;go_enter Tryz.func105,Tryz.ntmps105;go_wp2
 go_loop [5] (fun i=>∃k:Nat,k<=n/\i = .int .i64 k/\¬Has k f x) (fun i=>n - (intOf i).toNat)
 case atStart=>exact⟨0,Nat.zero_le _,rfl,fun ⟨j,hj,_⟩=>absurd hj (Nat.not_lt_zero _)⟩
 case round=>
  obtain⟨k,hk,rfl,dA⟩:=hrel;have aA:Hid (¬Has k f x):=dA;clear dA;by_cases cA:k<n
  ·have fA:(k:Int)<(n:Int):=(by omega);obtain⟨b,off,rfl,_,_,k1⟩:=G1.out (by omega);have gA:=k1 k cA;clear k1 G1;by_cases he:f k=x
   ·have H:Hid (Has n f x):=⟨k,cA,he⟩;have eA:(f k == x)=true:=(by simp[he]);clear he;go_wp2;go_ret;exact⟨zK.yes H.out,rfl⟩
   ·have H:Hid (¬f k=x):=he;have eA:(f k == x)=false:=(by simp[he]);clear he;go_wp2
    go_round
    case rel=>
     refine⟨k+1,by omega,by go_num,?_⟩;rintro⟨j,hj,bA⟩;by_cases e:j=k
     ·subst e;exact H.out bA
     ·exact aA.out ⟨j,by omega,bA⟩
    case measure=>simp[intOf];omega
  ·obtain rfl:k=n:=(by omega);go_wp2;go_ret;exact⟨zK.no aA.out,rfl⟩
def zOA(s:zO):Prop:=zAR s.zO1/\s.kn=0/\s.data.size=16
def zOm(s:zO):Prop:=zAR s.zO1/\s.kn=8/\s.data.toList.isEmpty=true
def zN0(n:Nat)(f:Nat->zO)(x ps pb:Int):Prop:=
 (0<=x/\x<n/\¬qJ (f x.toNat)/\ps=x/\pb=(f x.toNat).zO1)\/(¬(0<=x/\x<n/\¬qJ (f x.toNat))/\ps=0/\pb=0)
open Go.Maps
def zMA(s b:Int):Prop:=0<=s/\s<=199/\1<=b/\b<=1000000
def zNM(n:Nat)(f:Nat->Int):Prop:=∀i,i<n->∀k,k<i->f k≠f i
def zCi(n:Nat)(f g:Nat->Int):Prop:=n<=200/\(∀i,i<n->zMA (f i) (g i))/\zNM n f
def PIn(n:Nat)(f g:Nat->Int)(x y:Int):Prop:=∃j,j<n/\f j=x/\g j=y
def zNz(n:Nat)(f g:Nat->Int)(m:Nat)(f' g':Nat->Int):Prop:=zCi n f g/\zCi m f' g'/\n=m/\∀i,i<n->PIn m f' g' (f i) (g i)
theorem zK6:∀(n m:Nat) (h:Nat->Nat),(∀i,i<n->h i<m)->(∀i k,i<n->k<n->h i=h k->i=k)->n<=m
 | 0,_,_,_,_=>Nat.zero_le _
 | n+1,m,h,h1,h2=>by
  have hm:=h1 n (Nat.lt_succ_self n);have:=zK6 n (m - 1) (fun i=>if h i<h n then h i else h i - 1) (fun i hi=>by
   have:=h1 i (by omega);have:h i≠h n:=fun e=>by have:=h2 i n (by omega) (by omega) e;omega
   show(if h i<h n then h i else h i - 1)<m - 1;split<;>omega) (fun i k hi hk e=>by
   have a1:h i≠h n:=fun e=>by have:=h2 i n (by omega) (by omega) e;omega
   have a2:h k≠h n:=fun e=>by have:=h2 k n (by omega) (by omega) e;omega
   have e':(if h i<h n then h i else h i - 1)=(if h k<h n then h k else h k - 1):=e;refine h2 i k (by omega) (by omega) ?_;split at e'<;>split at e'<;>omega)
  omega
theorem zLK{k:Nat}{f:Nat->Int}:zNM (k+1) f↔zNM k f/\∀i,i<k->f i≠f k:=by
 constructor
 ·exact fun h=>⟨fun i hi=>h i (by omega),fun i hi=>h k (by omega) i hi⟩
 ·rintro⟨h1,h2⟩ i hi j hj;by_cases e:i=k
  ·subst e;exact h2 j hj
  ·exact h1 i (by omega) j hj
def yh(f g:Nat->Int)(t:Int):Nat->List (Int×Int)
 | 0=>[]
 | k+1=>if t<g k then yh f g t k ++ [(f k,g k)] else yh f g t k
def zDm(f g:Nat->Int)(t:Int):Nat->List (Int×Int)
 | 0=>[]
 | k+1=>if t<g k then zDm f g t k else zDm f g t k ++ [(f k,g k)]
theorem zAX(f g:Nat->Int)(t:Int):∀k,(yh f g t k).length+(zDm f g t k).length=k
 | 0=>rfl
 | k+1=>by
  have:=zAX f g t k;unfold yh zDm;split<;>simp<;>omega
theorem yC{P:Prop}(h:P):Hid P:=h
theorem zp.cellsD{w:World}{lo hi:Nat}{a:Option Addr}{n c:Nat}{f g:Nat->Int}(h:zp w lo hi (.slice a n c) n f g){k:Nat}(hk:k<n):∃b off,a=some ⟨b,off,none⟩/\w.cell? ⟨b,off+k*2,none⟩=some (.int .i64 (f k))/\w.cell? ⟨b,off+k*2+1,none⟩=some (.int .i64 (g k)):=by
 obtain⟨_,a2,c2,hv,_,hx⟩:=h;simp only[Value.slice.injEq,true_and]at hv;obtain⟨rfl,rfl⟩:=hv;obtain⟨b,off,ha,_,_,h3⟩:=hx (by omega);exact⟨b,off,ha,(h3 k hk).1,(h3 k hk).2⟩
def zCS(n a b:Int):Prop:=a<=n/\n<=b
theorem zA1(n a b:Int)(w:World):Calls Tryz.prog 39 #[.int .i64 n,.int .i64 a,.int .i64 b] w fun e w'=>zK (zCS n a b) e/\w'=w:=by
 by_cases h1:a<=n
 ·by_cases h2:n<=b
  ·go_enter Tryz.func39,Tryz.ntmps39;go_wp2;go_ret;exact⟨zK.yes ⟨h1,h2⟩,rfl⟩
  ·go_enter Tryz.func39,Tryz.ntmps39;go_wp2;go_ret;exact⟨zK.no fun h=>by have:=h.2;omega,rfl⟩
 ·go_enter Tryz.func39,Tryz.ntmps39;go_wp2;go_ret;exact⟨zK.no fun h=>by have:=h.1;omega,rfl⟩
theorem yu(v:Value)(n lo hi:Nat)(f g:Nat->Int)(w:World)(h1:zp w lo hi v n f g) :
  Calls Tryz.prog 228 #[v] w fun e w'=>zK (zCi n f g) e/\Below w.heap.size w w':=by
 have Hp:=yC h1;obtain⟨m1,a,c,rfl,mc,_⟩:=id h1;clear h1;unfold maxLen at m1;by_cases hn:n<=200
 ·have nA:¬(200:Int)<(n:Int):=(by omega);go_enter Tryz.func228,Tryz.ntmps228;go_wp2
  go_loopw [3] (fun i wr=>∃k:Nat,k<=n/\i = .int .i64 k/\(∀i,i<k->zMA (f i) (g i))/\zNM k f/\Below w.heap.size w wr) (fun i _=>n - (intOf i).toNat)
  case atStart=>exact⟨0,Nat.zero_le _,rfl,fun j hj=>absurd hj (Nat.not_lt_zero _),fun j hj=>absurd hj (Nat.not_lt_zero _),Below.refl _ _⟩
  case round=>
   obtain⟨k,hk,rfl,eA,bA,hb⟩:=hrel;have dA:=yC eA;have aA:=yC bA;clear eA bA;by_cases cA:k<n
   ·have mA:(k:Int)<(n:Int):=(by omega);obtain⟨b,off,rfl,q0,q1⟩:=(Hp.out.zOp hb).cellsD cA;by_cases hx:zCS (f k) 0 199
    ·have Hx:=yC hx;clear hx;by_cases hy:zAR (g k)
     ·have Hy:=yC hy;clear hy;go_wp2_with (first
       | (go_at_call 39;refine(zA1 (f k) 0 199 _).mono ?_;rintro e w1 ⟨⟨t,rfl,ht⟩,rfl⟩;obtain rfl:t=true:=ht.2 Hx.out;clear ht)
       | (go_at_call 168;refine(yR (g k) _).mono ?_;rintro e w2 ⟨⟨t,rfl,ht⟩,rfl⟩;obtain rfl:t=true:=ht.2 Hy.out;clear ht)
       | fail)
      go_wp2
      go_loopw [4] (fun i wr=>∃j:Nat,j<=k/\i = .int .i64 j/\(∀i,i<j->f i≠f k)/\Below w.heap.size w wr) (fun i _=>k - (intOf i).toNat)
      case atStart=>exact⟨0,Nat.zero_le _,rfl,fun j hj=>absurd hj (Nat.not_lt_zero _),hb⟩
      case round=>
       obtain⟨j,hj,rfl,jA,fA⟩:=hrel;have gA:=yC jA;clear jA q0 q1 hb;by_cases iA:j<k
       ·have kA:(j:Int)<(k:Int):=(by omega);have lA:(j:Int)<(n:Int):=(by omega);obtain⟨_,_,ha,r0,_⟩:=(Hp.out.zOp fA).cellsD (show j<n by omega);simp only[Option.some.injEq,Addr.mk.injEq,and_true]at ha;obtain⟨rfl,rfl⟩:=ha;obtain⟨_,_,ha,s0,_⟩:=(Hp.out.zOp fA).cellsD cA;simp only[Option.some.injEq,Addr.mk.injEq,and_true]at ha;obtain⟨rfl,rfl⟩:=ha;by_cases he:f j=f k
        ·have He:=yC he;have e0:(f j == f k)=true:=(by simp[he]);clear he;go_wp2
         go_quiet (fail)
         go_wp2;go_ret;exact⟨zK.no fun h=>h.2.2 k cA j iA He.out,zV fA _⟩
        ·have He:=yC he;have e0:(f j == f k)=false:=(by simp[he]);clear he;go_wp2
         go_quiet (fail)
         go_wp2;go_roundw
         case rel=>exact⟨j+1,by omega,by go_num,qE iA gA.out He.out,zV fA _⟩
         case measure=>simp[intOf];omega
       ·obtain rfl:j=k:=(by omega);go_wp2;go_roundw
        case rel=>exact⟨j+1,by omega,by go_num,qE cA dA.out ⟨Hx.out.1,Hx.out.2,Hy.out.1,Hy.out.2⟩,zLK.2 ⟨aA.out,gA.out⟩,fA⟩
        case measure=>simp[intOf];omega
     ·have Hy:=yC hy;clear hy;go_wp2_with (first
       | (go_at_call 39;refine(zA1 (f k) 0 199 _).mono ?_;rintro e w1 ⟨⟨t,rfl,ht⟩,rfl⟩;obtain rfl:t=true:=ht.2 Hx.out;clear ht)
       | (go_at_call 168;refine(yR (g k) _).mono ?_;rintro e w2 ⟨⟨t,rfl,ht⟩,rfl⟩;obtain rfl:t=false:=zP ht Hy.out;clear ht)
       | fail)
      go_wp2;go_ret;exact⟨zK.no fun h=>Hy.out ⟨(h.2.1 k cA).2.2.1,(h.2.1 k cA).2.2.2⟩,hb⟩
    ·have Hx:=yC hx;clear hx;go_wp2_with (first
      | (go_at_call 39;refine(zA1 (f k) 0 199 _).mono ?_;rintro e w1 ⟨⟨t,rfl,ht⟩,rfl⟩;obtain rfl:t=false:=zP ht Hx.out;clear ht)
      | fail)
     go_wp2;go_ret;exact⟨zK.no fun h=>Hx.out ⟨(h.2.1 k cA).1,(h.2.1 k cA).2.1⟩,hb⟩
   ·obtain rfl:k=n:=(by omega);go_wp2;go_ret;exact⟨zK.yes ⟨hn,dA.out,aA.out⟩,hb⟩
 ·have nA:(200:Int)<(n:Int):=(by omega);go_enter Tryz.func228,Tryz.ntmps228;go_wp2;go_ret;exact⟨zK.no fun h=>hn h.1,Below.refl _ _⟩
theorem zCv(v:Value)(n lo hi:Nat)(f g:Nat->Int)(x y:Int)(w:World)(h1:zp w lo hi v n f g) :
  Calls Tryz.prog 165 #[v,.agg #[.int .i64 x,.int .i64 y]] w fun e w'=>zK (PIn n f g x y) e/\Below w.heap.size w w':=by
 have Hp:=yC h1;obtain⟨m1,a,c,rfl,mc,_⟩:=id h1;unfold maxLen at m1;clear h1;have ha:=zC w (.cells #[.int .i64 x,.int .i64 y] 99);have HB:=yC (zk.zOt w (.int .i64 x) (.int .i64 y) 99);go_enter Tryz.func165,Tryz.ntmps165;go_wp2
 go_loopw [5] (fun i wr=>∃k:Nat,k<=n/\i = .int .i64 k/\¬PIn k f g x y/\zk wr w.heap.size (.int .i64 x) (.int .i64 y)/\Below w.heap.size w wr) (fun i _=>n - (intOf i).toNat)
 case atStart=>exact⟨0,Nat.zero_le _,rfl,fun ⟨j,hj,_⟩=>absurd hj (Nat.not_lt_zero _),HB.out,ha⟩
 case round=>
  obtain⟨k,hk,rfl,dA,hX,hb⟩:=hrel;have bA:=yC dA;have HX:=yC hX;clear dA hX;obtain⟨⟨x0,x1⟩,⟨x2,x3⟩⟩:=HX.out;by_cases cA:k<n
  ·have eA:(k:Int)<(n:Int):=(by omega);obtain⟨b,off,rfl,q0,q1⟩:=(Hp.out.zOp hb).cellsD cA;by_cases he:f k=x/\g k=y
   ·have H:=yC (show PIn n f g x y from⟨k,cA,he.1,he.2⟩);rw[he.1]at q0;rw[he.2]at q1;clear he;go_wp2
    go_quiet (fail)
    go_wp2;go_ret;exact⟨zK.yes H.out,zV hb _⟩
   ·have H:=yC he;have e0:(f k == x)=false\/(f k == x)=true/\(g k == y)=false:=by
     by_cases h:f k=x
     ·right;refine⟨by simp[h],?_⟩;have:g k≠y:=fun h'=>he ⟨h,h'⟩
      simp[this]
     ·left;simp[h]
    clear he;rcases e0 with e0 | ⟨e0,e1⟩
    all_goals
     go_wp2
     go_quiet (fail)
     go_wp2;go_roundw
     case rel=>
      refine⟨k+1,by omega,by go_num,?_,HX.out.zOp (zV (Below.refl _ _) _),zV hb _⟩;rintro⟨j,hj,aA⟩;by_cases e:j=k
      ·subst e;exact H.out ⟨aA.1,aA.2⟩
      ·exact bA.out ⟨j,by omega,aA⟩
     case measure=>simp[intOf];omega
  ·obtain rfl:k=n:=(by omega);go_wp2;go_ret;exact⟨zK.no bA.out,hb⟩
theorem zFc(v v':Value)(n lo hi n' jA aA:Nat)(f g f' g':Nat->Int)(w:World)(h1:zp w lo hi v n f g)(h2:zp w jA aA v' n' f' g') :
  Calls Tryz.prog 166 #[v,v'] w fun e w'=>zK (zNz n f g n' f' g') e/\Below w.heap.size w w':=by
 have Hp:=yC h1;have kA:=yC h2;obtain⟨m1,a,c,rfl,mc,_⟩:=id h1;obtain⟨m2,a',c',rfl,rA,_⟩:=id h2;unfold maxLen at m1 m2;clear h1 h2;by_cases ho:zCi n f g
 ·have Ho:=yC ho;clear ho;by_cases iA:zCi n' f' g'
  ·have dA:=yC iA;clear iA;go_enter Tryz.func166,Tryz.ntmps166;go_wp2_with fail;refine(yu _ n lo hi f g _ Hp.out).mono ?_;rintro e w1 ⟨⟨t,rfl,ht⟩,bA⟩;obtain rfl:t=true:=ht.2 Ho.out;clear ht;go_wp2_with fail;refine(yu _ n' jA aA f' g' _ (kA.out.zOp bA)).mono ?_;rintro e w2 ⟨⟨t,rfl,ht⟩,fA⟩;obtain rfl:t=true:=ht.2 dA.out;have gA:=zA bA fA;clear ht bA fA;by_cases mA:n=n'
   ·subst mA;have e0:((n:Int) != (n:Int))=false:=(by simp);go_wp2
    go_loopw [5] (fun i wr=>∃k:Nat,k<=n/\i = .int .i64 k/\(∀i,i<k->PIn n f' g' (f i) (g i))/\Below w.heap.size w wr) (fun i _=>n - (intOf i).toNat)
    case atStart=>exact⟨0,Nat.zero_le _,rfl,fun j hj=>absurd hj (Nat.not_lt_zero _),gA⟩
    case round=>
     obtain⟨k,hk,rfl,eA,hb⟩:=hrel;have cA:=yC eA;clear eA;by_cases lA:k<n
     ·have pA:(k:Int)<(n:Int):=(by omega);obtain⟨b,off,rfl,q0,q1⟩:=(Hp.out.zOp hb).cellsD lA;go_wp2_with fail;refine(zCv _ n jA aA f' g' (f k) (g k) _ (kA.out.zOp hb)).mono ?_;rintro e w3 ⟨⟨t,rfl,ht⟩,oA⟩;have nA:=zA hb oA;clear oA;by_cases aA:PIn n f' g' (f k) (g k)
      ·have Hi:=yC aA;obtain rfl:t=true:=ht.2 aA;clear ht aA;go_wp2;go_roundw
       case rel=>exact⟨k+1,by omega,by go_num,qE lA cA.out Hi.out,nA⟩
       case measure=>simp[intOf];omega
      ·have Hi:=yC aA;obtain rfl:t=false:=zP ht aA;clear ht aA;go_wp2;go_ret;exact⟨zK.no fun h=>Hi.out (h.2.2.2 k lA),nA⟩
     ·obtain rfl:k=n:=(by omega);go_wp2;go_ret;exact⟨zK.yes ⟨Ho.out,dA.out,rfl,cA.out⟩,hb⟩
   ·have e0:((n:Int) != (n':Int))=true:=(by simp;omega);have Hn:=yC mA;clear mA;go_wp2;go_ret;exact⟨zK.no fun h=>Hn.out h.2.2.1,gA⟩
  ·have dA:=yC iA;clear iA;go_enter Tryz.func166,Tryz.ntmps166;go_wp2_with fail;refine(yu _ n lo hi f g _ Hp.out).mono ?_;rintro e w1 ⟨⟨t,rfl,ht⟩,bA⟩;obtain rfl:t=true:=ht.2 Ho.out;clear ht;go_wp2_with fail;refine(yu _ n' jA aA f' g' _ (kA.out.zOp bA)).mono ?_;rintro e w2 ⟨⟨t,rfl,ht⟩,fA⟩;obtain rfl:t=false:=zP ht dA.out;have gA:=zA bA fA;clear ht bA fA;go_wp2;go_ret;exact⟨zK.no fun h=>dA.out h.2.1,gA⟩
 ·have Ho:=yC ho;clear ho;go_enter Tryz.func166,Tryz.ntmps166;go_wp2_with fail;refine(yu _ n lo hi f g _ Hp.out).mono ?_;rintro e w1 ⟨⟨t,rfl,ht⟩,bA⟩;obtain rfl:t=false:=zP ht Ho.out;clear ht;go_wp2;go_ret;exact⟨zK.no fun h=>Ho.out h.1,bA⟩
theorem s1{α : Type}(l:List α)(i:Nat)(a:α):l.toArray.setIfInBounds i a=(l.set i a).toArray:=List.setIfInBounds_toArray ..
theorem s2{α : Type}(x:α)(l:List α)(a:α):(x :: l).set 0 a=a :: l:=rfl
theorem s3{α : Type}(x:α)(l:List α)(i:Nat)(a:α):(x :: l).set (i+1) a=x :: l.set i a:=rfl
def zKT:List Oper->Nat->Option Oper
 | [],_=>none
 | o :: _,0=>some o
 | _ :: l,n+1=>zKT l n
theorem zH1:∀(l:List Oper) (i:Nat),l[i]?=zKT l i
 | [],_=>rfl
 | _ :: _,0=>rfl
 | _ :: l,n+1=>by simpa[zKT]using zH1 l n
theorem zG0{aA:Array Oper}{i:Nat}{o:Oper}(h:zKT aA.toList i=some o):aA[i]?=some o:=by
 rw[<-h,<-zH1,Array.getElem?_toList]
section
variable {P : Program} {md : Region.Mode} {ops : Array Oper} {Q : Exit -> Act -> World -> Prop} {S : World -> Prop}
theorem tk(i:Nat){o:Oper}{v:Value}{bA:Nat}{aA l':Array Bool}{a a':Act}{w:World}(hi:zKT ops.toList i=some o:=by exact rfl)
  (hb:(Region.noSelect ops && (Region.free md ops aA i && (Region.ready md ops aA).contains i))=true:=by kernel_rfl)
  (hw:Region.wanted o (yielded ops a.tmps)=true:=by exact rfl) (hS:S w:=by assumption)
  (hy:∀w,S w->(execOp a.eval o).run P w = .ok (.value v) w:=by(intro w cA;(try dsimp only at cA);go_simp;try with_reducible rfl))
  (hl:aA.setIfInBounds i true=l':=by((try simp only[s1,s2,s3]);exact rfl))
  (ha:a.put o.dst v=a':=by((try simp only[Act.put,s1,s2,s3]);exact rfl))
  (hQ:∀c a w,Q (.panic c) (a.put o.dst v) w->Q (.panic c) a w:=by exact fun _ _ _ h=>h)
  (h:wpAnyH P md ops Q S bA l' a' w):wpAnyH P md ops Q S (bA+1) aA a w:=by
 simp only[Bool.and_eq_true]at hb;subst hl ha;exact wpAnyH_take (zG0 hi) hb.1 hb.2.1 hb.2.2 hQ (Or.inl ⟨hw,hy⟩) hS h
theorem ts(i:Nat){o:Oper}{bA:Nat}{aA l':Array Bool}{a a':Act}{w:World}(hi:zKT ops.toList i=some o:=by exact rfl)
  (hb:(Region.noSelect ops && (Region.free md ops aA i && (Region.ready md ops aA).contains i))=true:=by kernel_rfl)
  (hw:Region.wanted o (yielded ops a.tmps)=false:=by exact rfl) (hS:S w:=by assumption)
  (hl:aA.setIfInBounds i true=l':=by((try simp only[s1,s2,s3]);exact rfl))
  (ha:a.put o.dst undef=a':=by((try simp only[Act.put,s1,s2,s3]);exact rfl))
  (hQ:∀c a w,Q (.panic c) (a.put o.dst undef) w->Q (.panic c) a w:=by exact fun _ _ _ h=>h)
  (h:wpAnyH P md ops Q S bA l' a' w):wpAnyH P md ops Q S (bA+1) aA a w:=by
 simp only[Bool.and_eq_true]at hb;subst hl ha;exact wpAnyH_take (zG0 hi) hb.1 hb.2.1 hb.2.2 hQ (Or.inr ⟨hw,rfl⟩) hS h
theorem rd(rs:List Nat){bA:Nat}{aA:Array Bool}{a:Act}{w:World}(h:AllReadyH P md ops Q S bA aA a w rs)
  (hr:Region.ready md ops aA=rs:=by kernel_rfl) (cA:rs≠[]:=by simp):wpAnyH P md ops Q S (bA+1) aA a w:=wpAnyH_ready hr cA h
theorem rc{bA:Nat}{aA:Array Bool}{a:Act}{w:World}{i:Nat}{o:Oper}{rs:List Nat}
  (h:∀K':Act->World->Prop,Shut (∀a w,S w->(S w->wpAnyH P md ops Q S bA (aA.setIfInBounds i true) a w)->K' a w)->if Region.wanted o (yielded ops a.tmps)=true then Oper.wp P o a w K' Q else K' (a.put o.dst undef) w)
  (hs:AllReadyH P md ops Q S bA aA a w rs) (ho:zKT ops.toList i=some o:=by exact rfl):AllReadyH P md ops Q S bA aA a w (i :: rs):=AllReadyH.cons (zG0 ho) h hs
end
def zCZ(s:zO)(j:Nat):Int:=if j / 2<s.kn then(if j % 2=0 then s.ks (j / 2)else s.kb (j / 2))else 0
def zI6(n:Nat)(f:Nat->zO)(b ks kb rs rb:Int):Prop:=
 ∃ps pb,zN0 n f ks ps pb/\(((zGU ks kb 0 0\/b<pb)/\rs=0/\rb=0)\/(¬(zGU ks kb 0 0\/b<pb)/\rs=ps/\rb=pb))
def zLF(n:Nat)(f:Nat->zO)(s:zO):Prop:=∀i,i<8->zI6 n f s.zO1 (s.ks i) (s.kb i) (s.ks i) (s.kb i)
def zGW(n:Nat)(f:Nat->zO)(s:zO):Prop:=qJ s\/zOA s\/(zOm s/\zLF n f s)
def zNO(p:zI)(i:Nat):Prop:=¬zN0 p.n p.s (p.h i) 0 0/\¬Has i p.h (p.h i)
def zOC(p:zI):Prop:=p.n<=200/\p.hn<=p.n/\(∀i,i<p.n->zGW p.n p.s (p.s i))/\∀i,i<p.hn->zNO p i
end Go.Proofs.YtgabgheflgjgiaaGreatDoor
