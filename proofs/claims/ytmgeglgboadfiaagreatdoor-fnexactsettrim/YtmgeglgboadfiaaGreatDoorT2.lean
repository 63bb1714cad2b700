/- What spec.PoolRight and the functions that it calls answer (l01Free, l01Is, l01Birth, l01None, l01Points, l01Fits, l01Has): as plain facts on the pool. -/
import Derived.Test.YtmgeglgboadfiaaGreatDoorT1
import Derived.Deep.RegionHeld3
import Derived.Deep.QuietTactic
import Derived.BigQuiet
import Derived.Laws.CopyOwn
import Derived.Deep.RegionLaw
import Derived.Deep.WholeRow
set_option linter.unusedVariables false
set_option maxRecDepth 20000
set_option maxHeartbeats 4000000
namespace Go.Proofs.YtmgeglgboadfiaaGreatDoor
open Go.RowKit
theorem qT.take{w:World}{lo hi:Nat}{a:Option Addr}{n c m c':Nat}{f:Nat->Int}(h:qT w lo hi(.slice a n c) n f)(hm:m<=n)(hc:m<=c'):qT w lo hi(.slice a m c') m f:=by
 obtain⟨h0,a2,cap,hv,hcc,hx⟩:=h;simp only [Value.slice.injEq,true_and] at hv;obtain⟨rfl,rfl⟩:=hv;refine⟨by omega,a,c',rfl,hc,fun h0=>?_⟩;obtain⟨b,off,ha,h1,h2,h3⟩:=hx(by omega);exact⟨b,off,ha,h1,h2,fun i hi=>h3 i(by omega)⟩
structure zAj(w:World)(b o:Nat)(lo hi:Nat)(ka:Option Addr)(kc:Nat)(s:zL):Prop where
 c0:w.cell? ⟨b,o,none⟩=some(.int .i64 s.zRU)
 c1:w.cell? ⟨b,o+1,none⟩=some(.slice ka s.kn kc)
 c2:w.cell? ⟨b,o+2,none⟩=some(.string s.data)
 slot:qI w lo hi(.int .i64 s.zRU)(.slice ka s.kn kc)(.string s.data) s
theorem zAj.zRJ{w w':World}{b o lo hi:Nat}{ka:Option Addr}{kc:Nat}{s:zL}(h:zAj w b o lo hi ka kc s)(t:Below w.heap.size w w'):zAj w' b o lo hi ka kc s:=
 ⟨(t.cell(zD h.c0)).trans h.c0,(t.cell(zD h.c1)).trans h.c1,(t.cell(zD h.c2)).trans h.c2,h.slot.zRJ t⟩
theorem qA.cells{w:World}{lo hi:Nat}{a:Option Addr}{n c:Nat}{f:Nat->zL}(h:qA w lo hi(.slice a n c) n f){i:Nat}(hi':i<n) :
  ∃b off ka kc,a=some ⟨b,off,none⟩/\zAj w b(off+i*3) lo hi ka kc(f i):=by
 obtain⟨h0,a2,cap,hv,hcc,hx⟩:=h;simp only [Value.slice.injEq,true_and] at hv;obtain⟨rfl,rfl⟩:=hv;obtain⟨b,off,ha,h1,h2,h3⟩:=hx(by omega);obtain⟨v0,v1,v2,c0,c1,c2,hs⟩:=h3 i hi';have aA:=hs;obtain⟨rfl,⟨_,ka,kc,rfl,_⟩,rfl,_⟩:=hs;exact⟨b,off,ka,kc,ha,⟨c0,c1,c2,aA⟩⟩
theorem zQ{P:Prop}{t:Bool}(ht:t=true↔P)(h:¬P):t=false:=Bool.eq_false_iff.2(fun e=>h(ht.1 e))
def qG(s:zL):Prop:=s.zRU=0/\s.kn=0/\s.data.toList.isEmpty=true
def qw(n:Int):Prop:=1<=n/\n<=1000000
def zr(p:zJ)(xs xb:Int):Prop:=1<=xb/\0<=xs/\xs<p.n/\(p.s xs.toNat).zRU=xb
def zH4(p:zJ)(b:Int)(xs xb:Int):Prop:=(xs=0/\xb=0)\/(zr p xs xb/\xb<=b)
def zAN(p:zJ)(s:zL):Prop:=qw s.zRU/\((s.kn=0/\s.data.size=16)\/(s.kn=8/\s.data.toList.isEmpty=true/\∀i,i<s.kn->zH4 p s.zRU(s.ks i)(s.kb i)))
def Has(n:Nat)(f:Nat->Int)(x:Int):Prop:=∃j,j<n/\f j=x
def zJv(p:zJ)(i:Nat):Prop:=0<=p.h i/\p.h i<p.n/\¬qG(p.s(p.h i).toNat)/\¬Has i p.h(p.h i)
def zv(p:zJ):Prop:=p.n<=200/\(∀i,i<p.n->qG(p.s i)\/zAN p(p.s i))/\∀i,i<p.hn->zJv p i
theorem zAC(v0 v1 v2:Value)(lo hi:Nat)(s:zL)(w:World)(h1:qI w lo hi v0 v1 v2 s) :
  Calls Tryz.prog 74 #[.agg #[v0,v1,v2]] w fun e w'=>zG(qG s) e/\Below w.heap.size w w':=by
 obtain⟨rfl,⟨m1,a,c,rfl,_⟩,rfl,_⟩:=h1;unfold maxLen at m1;have aA:=(Below.refl w.heap.size w).alloc(Nat.le_refl _)(.cells #[.int .i64 s.zRU,.slice a s.kn c,.string s.data] 127);by_cases h1:s.zRU=0
 ·by_cases h2:s.kn=0
  ·by_cases h3:s.data.toList.isEmpty=true
   ·have H:Hid(qG s):=⟨h1,h2,h3⟩;have e1:(s.zRU == 0)=true:=(by simp [h1]);have e2:((s.kn:Int) == 0)=true:=(by simp [h2]);clear h1 h2;go_enter Tryz.func74,Tryz.ntmps74;go_wp2;go_ret;exact⟨zG.yes H.out,aA⟩
   ·have H:Hid(¬qG s):=fun h=>h3 h.2.2
    have e1:(s.zRU == 0)=true:=(by simp [h1]);have e2:((s.kn:Int) == 0)=true:=(by simp [h2]);have e3:s.data.toList.isEmpty=false:=(by simpa using h3);clear h1 h2 h3;go_enter Tryz.func74,Tryz.ntmps74;go_wp2;go_ret;exact⟨zG.no H.out,aA⟩
  ·have H:Hid(¬qG s):=fun h=>h2 h.2.1
   have e1:(s.zRU == 0)=true:=(by simp [h1]);have e2:((s.kn:Int) == 0)=false:=(by simp;omega);clear h1 h2;go_enter Tryz.func74,Tryz.ntmps74;go_wp2;go_ret;exact⟨zG.no H.out,aA⟩
 ·have H:Hid(¬qG s):=fun h=>h1 h.1
  have e1:(s.zRU == 0)=false:=(by simp [h1]);clear h1;go_enter Tryz.func74,Tryz.ntmps74;go_wp2;go_ret;exact⟨zG.no H.out,aA⟩
theorem yX(n:Int)(w:World):Calls Tryz.prog 145 #[.int .i64 n] w fun e w'=>zG(qw n) e/\w'=w:=by
 by_cases h1:1<=n
 ·by_cases h2:n<=1000000
  ·go_enter Tryz.func145,Tryz.ntmps145;go_wp2;go_ret;exact⟨zG.yes ⟨h1,h2⟩,rfl⟩
  ·go_enter Tryz.func145,Tryz.ntmps145;go_wp2;go_ret;exact⟨zG.no fun h=>by have:=h.2;omega,rfl⟩
 ·go_enter Tryz.func145,Tryz.ntmps145;go_wp2;go_ret;exact⟨zG.no fun h=>by have:=h.1;omega,rfl⟩
theorem ye(a b:Int)(w:World):Calls Tryz.prog 119 #[.agg #[.int .i64 a,.int .i64 b]] w fun e w'=>zG(zCC a b 0 0) e/\Below w.heap.size w w':=by
 have aA:=(Below.refl w.heap.size w).alloc(Nat.le_refl _)(.cells #[.int .i64 a,.int .i64 b] 61);by_cases h1:a=0
 ·by_cases h2:b=0
  ·subst h1 h2;go_enter Tryz.func119,Tryz.ntmps119;go_wp2;go_ret;exact⟨zG.yes ⟨rfl,rfl⟩,aA⟩
  ·subst h1;have H:Hid(¬zCC 0 b 0 0):=fun h=>h2 h.2
   have e2:(b == 0)=false:=(by simp [h2]);clear h2;go_enter Tryz.func119,Tryz.ntmps119;go_wp2;go_ret;exact⟨zG.no H.out,aA⟩
 ·have H:Hid(¬zCC a b 0 0):=fun h=>h1 h.1
  have e2:(a == 0)=false:=(by simp [h1]);clear h1;go_enter Tryz.func119,Tryz.ntmps119;go_wp2;go_ret;exact⟨zG.no H.out,aA⟩
theorem zAR(v:Value)(n lo hi:Nat)(f:Nat->Int)(x:Int)(w:World)(h1:qT w lo hi v n f) :
  Calls Tryz.prog 75 #[v,.int .i64 x] w fun e w'=>zG(Has n f x) e/\w'=w:=by
 obtain⟨m1,a,c,rfl,mc,g1⟩:=h1;unfold maxLen at m1;have G1:Hid(0<n->∃b off,a=some ⟨b,off,none⟩/\lo<=b/\b<hi/\∀i,i<n->w.cell? ⟨b,off+i,none⟩=some(.int .i64(f i))):=g1;clear g1;go_enter Tryz.func75,Tryz.ntmps75;go_wp2
 go_loop [5](fun i=>∃k:Nat,k<=n/\i = .int .i64 k/\¬Has k f x)(fun i=>n - (intOf i).toNat)
 case atStart=>exact⟨0,Nat.zero_le _,rfl,fun ⟨j,hj,_⟩=>absurd hj(Nat.not_lt_zero _)⟩
 case round=>
  obtain⟨k,hk,rfl,hno⟩:=hrel;have aA:Hid(¬Has k f x):=hno;clear hno;by_cases bA:k<n
  ·have dA:(k:Int)<(n:Int):=(by omega);obtain⟨b,off,rfl,_,_,k1⟩:=G1.out(by omega);have eA:=k1 k bA;clear k1 G1;by_cases he:f k=x
   ·have H:Hid(Has n f x):=⟨k,bA,he⟩;have cA:(f k == x)=true:=(by simp [he]);clear he;go_wp2;go_ret;exact⟨zG.yes H.out,rfl⟩
   ·have H:Hid(¬f k=x):=he;have cA:(f k == x)=false:=(by simp [he]);clear he;go_wp2
    go_round
    case rel=>
     refine⟨k+1,by omega,by go_num,?_⟩;rintro⟨j,hj,hjx⟩;by_cases e:j=k
     ·subst e;exact H.out hjx
     ·exact aA.out ⟨j,by omega,hjx⟩
    case measure=>simp [intOf];omega
  ·obtain rfl:k=n:=(by omega);go_wp2;go_ret;exact⟨zG.no aA.out,rfl⟩
def zHD(s:zL):Prop:=qw s.zRU/\s.kn=0/\s.data.size=16
def zLC(s:zL):Prop:=qw s.zRU/\s.kn=8/\s.data.toList.isEmpty=true
theorem zBf(v0 v1 v2:Value)(lo hi:Nat)(s:zL)(w:World)(h1:qI w lo hi v0 v1 v2 s) :
  Calls Tryz.prog 157 #[.agg #[v0,v1,v2]] w fun e w'=>zG(qG s) e/\Below w.heap.size w w':=by
 obtain⟨rfl,⟨m1,a,c,rfl,_⟩,rfl,_⟩:=h1;unfold maxLen at m1;have aA:=(Below.refl w.heap.size w).alloc(Nat.le_refl _)(.cells #[.int .i64 s.zRU,.slice a s.kn c,.string s.data] 127);by_cases h1:s.zRU=0
 ·by_cases h2:s.kn=0
  ·by_cases h3:s.data.toList.isEmpty=true
   ·have H:Hid(qG s):=⟨h1,h2,h3⟩;have e1:(s.zRU == 0)=true:=(by simp [h1]);have e2:((s.kn:Int) == 0)=true:=(by simp [h2]);clear h1 h2;go_enter Tryz.func157,Tryz.ntmps157;go_wp2;go_ret;exact⟨zG.yes H.out,aA⟩
   ·have H:Hid(¬qG s):=fun h=>h3 h.2.2
    have e1:(s.zRU == 0)=true:=(by simp [h1]);have e2:((s.kn:Int) == 0)=true:=(by simp [h2]);have e3:s.data.toList.isEmpty=false:=(by simpa using h3);clear h1 h2 h3;go_enter Tryz.func157,Tryz.ntmps157;go_wp2;go_ret;exact⟨zG.no H.out,aA⟩
  ·have H:Hid(¬qG s):=fun h=>h2 h.2.1
   have e1:(s.zRU == 0)=true:=(by simp [h1]);have e2:((s.kn:Int) == 0)=false:=(by simp;omega);clear h1 h2;go_enter Tryz.func157,Tryz.ntmps157;go_wp2;go_ret;exact⟨zG.no H.out,aA⟩
 ·have H:Hid(¬qG s):=fun h=>h1 h.1
  have e1:(s.zRU == 0)=false:=(by simp [h1]);clear h1;go_enter Tryz.func157,Tryz.ntmps157;go_wp2;go_ret;exact⟨zG.no H.out,aA⟩
theorem qN(n:Int)(w:World):Calls Tryz.prog 156 #[.int .i64 n] w fun e w'=>zG(qw n) e/\w'=w:=by
 by_cases h1:1<=n
 ·by_cases h2:n<=1000000
  ·go_enter Tryz.func156,Tryz.ntmps156;go_wp2;go_ret;exact⟨zG.yes ⟨h1,h2⟩,rfl⟩
  ·go_enter Tryz.func156,Tryz.ntmps156;go_wp2;go_ret;exact⟨zG.no fun h=>by have:=h.2;omega,rfl⟩
 ·go_enter Tryz.func156,Tryz.ntmps156;go_wp2;go_ret;exact⟨zG.no fun h=>by have:=h.1;omega,rfl⟩
theorem zIO(v0 v1 v2:Value)(lo hi:Nat)(s:zL)(w:World)(h1:qI w lo hi v0 v1 v2 s) :
  Calls Tryz.prog 198 #[.agg #[v0,v1,v2]] w fun e w'=>zG(zHD s) e/\Below w.heap.size w w':=by
 obtain⟨rfl,⟨m1,a,c,rfl,_⟩,rfl,m2⟩:=h1;unfold maxLen at m1 m2;have aA:=(Below.refl w.heap.size w).alloc(Nat.le_refl _)(.cells #[.int .i64 s.zRU,.slice a s.kn c,.string s.data] 127);by_cases h1:qw s.zRU
 ·have HB:Hid(qw s.zRU):=h1;by_cases h2:s.kn=0
  ·by_cases h3:s.data.size=16
   ·have H:Hid(zHD s):=⟨h1,h2,h3⟩;have e2:((s.kn:Int) == 0)=true:=(by simp [h2]);have e3:((s.data.size:Int) == 16)=true:=(by simp [h3]);clear h1 h2 h3;go_enter Tryz.func198,Tryz.ntmps198;go_wp2_with(go_at_call 156;refine(qN _ _).mono ?_;rintro e w' ⟨⟨t,rfl,ht⟩,rfl⟩;obtain rfl:t=true:=ht.2 HB.out;clear ht);go_ret;exact⟨zG.yes H.out,aA⟩
   ·have H:Hid(¬zHD s):=fun h=>h3 h.2.2
    have e2:((s.kn:Int) == 0)=true:=(by simp [h2]);have e3:((s.data.size:Int) == 16)=false:=(by simp;omega);clear h1 h2 h3;go_enter Tryz.func198,Tryz.ntmps198;go_wp2_with(go_at_call 156;refine(qN _ _).mono ?_;rintro e w' ⟨⟨t,rfl,ht⟩,rfl⟩;obtain rfl:t=true:=ht.2 HB.out;clear ht);go_ret;exact⟨zG.no H.out,aA⟩
  ·have H:Hid(¬zHD s):=fun h=>h2 h.2.1
   have e2:((s.kn:Int) == 0)=false:=(by simp;omega);clear h1 h2;go_enter Tryz.func198,Tryz.ntmps198;go_wp2_with(go_at_call 156;refine(qN _ _).mono ?_;rintro e w' ⟨⟨t,rfl,ht⟩,rfl⟩;obtain rfl:t=true:=ht.2 HB.out;clear ht);go_ret;exact⟨zG.no H.out,aA⟩
 ·have HB:Hid(¬qw s.zRU):=h1;clear h1;go_enter Tryz.func198,Tryz.ntmps198;go_wp2_with(go_at_call 156;refine(qN _ _).mono ?_;rintro e w' ⟨⟨t,rfl,ht⟩,rfl⟩;obtain rfl:t=false:=zQ ht HB.out;clear ht);go_ret;exact⟨zG.no fun h=>HB.out h.1,aA⟩
theorem zMc(v0 v1 v2:Value)(lo hi:Nat)(s:zL)(w:World)(h1:qI w lo hi v0 v1 v2 s) :
  Calls Tryz.prog 199 #[.agg #[v0,v1,v2]] w fun e w'=>zG(zLC s) e/\Below w.heap.size w w':=by
 obtain⟨rfl,⟨m1,a,c,rfl,_⟩,rfl,m2⟩:=h1;unfold maxLen at m1 m2;have aA:=(Below.refl w.heap.size w).alloc(Nat.le_refl _)(.cells #[.int .i64 s.zRU,.slice a s.kn c,.string s.data] 127);by_cases h1:qw s.zRU
 ·have HB:Hid(qw s.zRU):=h1;by_cases h2:s.kn=8
  ·by_cases h3:s.data.toList.isEmpty=true
   ·have H:Hid(zLC s):=⟨h1,h2,h3⟩;have e2:((s.kn:Int) == 8)=true:=(by simp [h2]);clear h1 h2;go_enter Tryz.func199,Tryz.ntmps199;go_wp2_with(go_at_call 156;refine(qN _ _).mono ?_;rintro e w' ⟨⟨t,rfl,ht⟩,rfl⟩;obtain rfl:t=true:=ht.2 HB.out;clear ht);go_ret;exact⟨zG.yes H.out,aA⟩
   ·have H:Hid(¬zLC s):=fun h=>h3 h.2.2
    have e2:((s.kn:Int) == 8)=true:=(by simp [h2]);have e3:s.data.toList.isEmpty=false:=(by simpa using h3);clear h1 h2 h3;go_enter Tryz.func199,Tryz.ntmps199;go_wp2_with(go_at_call 156;refine(qN _ _).mono ?_;rintro e w' ⟨⟨t,rfl,ht⟩,rfl⟩;obtain rfl:t=true:=ht.2 HB.out;clear ht);go_ret;exact⟨zG.no H.out,aA⟩
  ·have H:Hid(¬zLC s):=fun h=>h2 h.2.1
   have e2:((s.kn:Int) == 8)=false:=(by simp;omega);clear h1 h2;go_enter Tryz.func199,Tryz.ntmps199;go_wp2_with(go_at_call 156;refine(qN _ _).mono ?_;rintro e w' ⟨⟨t,rfl,ht⟩,rfl⟩;obtain rfl:t=true:=ht.2 HB.out;clear ht);go_ret;exact⟨zG.no H.out,aA⟩
 ·have HB:Hid(¬qw s.zRU):=h1;clear h1;go_enter Tryz.func199,Tryz.ntmps199;go_wp2_with(go_at_call 156;refine(qN _ _).mono ?_;rintro e w' ⟨⟨t,rfl,ht⟩,rfl⟩;obtain rfl:t=false:=zQ ht HB.out;clear ht);go_ret;exact⟨zG.no fun h=>HB.out h.1,aA⟩
theorem zOc(v:Value)(n lo hi:Nat)(f:Nat->Int)(x:Int)(w:World)(h1:qT w lo hi v n f) :
  Calls Tryz.prog 217 #[v,.int .i64 x] w fun e w'=>(∃r:Int,e = .returned(.int .i64 r)/\(0<=r↔Has n f x))/\w'=w:=by
 obtain⟨m1,a,c,rfl,mc,g1⟩:=h1;unfold maxLen at m1;have G1:Hid(0<n->∃b off,a=some ⟨b,off,none⟩/\lo<=b/\b<hi/\∀i,i<n->w.cell? ⟨b,off+i,none⟩=some(.int .i64(f i))):=g1;clear g1;go_enter Tryz.func217,Tryz.ntmps217;go_wp2
 go_loop [8](fun i=>∃k:Nat,k<=n/\i = .int .i64 k/\¬Has k f x)(fun i=>n - (intOf i).toNat)
 case atStart=>exact⟨0,Nat.zero_le _,rfl,fun ⟨j,hj,_⟩=>absurd hj(Nat.not_lt_zero _)⟩
 case round=>
  obtain⟨k,hk,rfl,hno⟩:=hrel;have aA:Hid(¬Has k f x):=hno;clear hno;by_cases bA:k<n
  ·have dA:(k:Int)<(n:Int):=(by omega);obtain⟨b,off,rfl,_,_,k1⟩:=G1.out(by omega);have eA:=k1 k bA;clear k1 G1;by_cases he:f k=x
   ·have H:Hid(Has n f x):=⟨k,bA,he⟩;have cA:(x == f k)=true:=(by simp [he]);clear he;go_wp2;go_ret;exact⟨⟨_,rfl,⟨fun _=>H.out,fun _=>Int.natCast_nonneg _⟩⟩,rfl⟩
   ·have H:Hid(¬f k=x):=he;have cA:(x == f k)=false:=(by simp;exact fun e=>he e.symm);clear he;go_wp2
    go_round
    case rel=>
     refine⟨k+1,by omega,by go_num,?_⟩;rintro⟨j,hj,hjx⟩;by_cases e:j=k
     ·subst e;exact H.out hjx
     ·exact aA.out ⟨j,by omega,hjx⟩
    case measure=>simp [intOf];omega
  ·obtain rfl:k=n:=(by omega);go_wp2;go_ret;exact⟨⟨-1,rfl,⟨fun h=>absurd h(by omega),fun h=>absurd h aA.out⟩⟩,rfl⟩
theorem zCE(v:Value)(n lo hi:Nat)(f:Nat->Int)(x:Int)(w:World)(h1:qT w lo hi v n f) :
  Calls Tryz.prog 192 #[v,.int .i64 x] w fun e w'=>zG(Has n f x) e/\w'=w:=by
 have Hi:Hid(qT w lo hi v n f):=h1;obtain⟨m1,a,c,rfl,mc,g1⟩:=h1;clear g1;go_enter Tryz.func192,Tryz.ntmps192;go_wp2_with fail;refine(zOc _ n lo hi f x _ Hi.out).mono ?_;rintro e w' ⟨⟨r,rfl,hr⟩,rfl⟩;have Hr:Hid(0<=r↔Has n f x):=hr;clear hr;go_wp2;go_ret;exact⟨⟨_,rfl,by simpa using Hr.out⟩,rfl⟩
def zBb(n:Nat)(f:Nat->zL)(x ps pb:Int):Prop:=
 (0<=x/\x<n/\¬qG(f x.toNat)/\ps=x/\pb=(f x.toNat).zRU)\/(¬(0<=x/\x<n/\¬qG(f x.toNat))/\ps=0/\pb=0)
theorem zEk(v:Value)(n lo hi:Nat)(f:Nat->zL)(x:Int)(w:World)(h1:qA w lo hi v n f) :
  Calls Tryz.prog 216 #[v,.int .i64 x] w fun e w'=>(∃ps pb,e = .returned(.agg #[.int .i64 ps,.int .i64 pb])/\zBb n f x ps pb)/\Below w.heap.size w w':=by
 have Hi:Hid(qA w lo hi v n f):=h1;obtain⟨m1,a,c,rfl,mc,g1⟩:=h1;unfold maxLen at m1;clear g1;have aA:Hid(Below w.heap.size w(w.alloc(.cells #[.int .i64 0,.int .i64 0] 61))):=zC _ _;by_cases h1:x<0
 ·have H:Hid(zBb n f x 0 0):=Or.inr ⟨fun h=>by omega,rfl,rfl⟩;go_enter Tryz.func216,Tryz.ntmps216;go_wp2;refine bodyPost_ret(v:=.agg #[.int .i64 0,.int .i64 0])(by simp [results,Tryz.results216,go_sem]) rfl ⟨⟨0,0,rfl,H.out⟩,aA.out⟩
 ·by_cases h2:(n:Int)<=x
  ·have H:Hid(zBb n f x 0 0):=Or.inr ⟨fun h=>by omega,rfl,rfl⟩;go_enter Tryz.func216,Tryz.ntmps216;go_wp2;refine bodyPost_ret(v:=.agg #[.int .i64 0,.int .i64 0])(by simp [results,Tryz.results216,go_sem]) rfl ⟨⟨0,0,rfl,H.out⟩,aA.out⟩
  ·obtain⟨k,rfl⟩:=Int.eq_ofNat_of_zero_le(show 0<=x by omega);have hk:k<n:=(by omega);have cA:(k:Int)<(n:Int):=(by omega);obtain⟨b,off,ka,kc,rfl,hs⟩:=Hi.out.cells hk;have Hs:Hid(zAj w b(off+k*3) lo hi ka kc(f k)):=hs;have dA:=zD hs.c0;obtain⟨q0,q1,q2,_⟩:=hs;by_cases hf:qG(f k)
   ·have H:Hid(zBb n f k 0 0):=Or.inr ⟨fun h=>h.2.2(by rw [Int.toNat_natCast];exact hf),rfl,rfl⟩;have HF:Hid(qG(f k)):=hf;clear hf;go_enter Tryz.func216,Tryz.ntmps216;go_wp2_with fail;refine(zBf _ _ _ lo hi(f k) _(Hs.out.slot.zRJ aA.out)).mono ?_;rintro e w1 ⟨⟨t,rfl,hx⟩,hb1⟩;obtain rfl:t=true:=hx.2 HF.out;clear hx;have HX:Hid(zc w1 w.heap.size(.int .i64 0)(.int .i64 0)):=(zc.zRL w _ _ _).zRJ hb1;have bA:=zA aA.out hb1;clear hb1 q0 q1 q2;obtain⟨⟨y0,y1⟩,⟨y2,y3⟩⟩:=HX.out;go_wp2;have HY:=HX.out.put(.int .i64 0)(.int .i64 0);refine bodyPost_ret(v:=.agg #[.int .i64 0,.int .i64 0])(by simp [results,Tryz.results216,go_sem,HY.1.1,HY.2.1]) rfl ⟨⟨0,0,rfl,H.out⟩,(bA.setCell(Nat.le_refl _) _).setCell(Nat.le_refl _) _⟩
   ·have H:Hid(zBb n f k k(f k).zRU):=Or.inl ⟨by omega,cA,by rw [Int.toNat_natCast];exact hf,rfl,by rw [Int.toNat_natCast]⟩;have HF:Hid(¬qG(f k)):=hf;clear hf;go_enter Tryz.func216,Tryz.ntmps216;go_wp2_with fail;refine(zBf _ _ _ lo hi(f k) _(Hs.out.slot.zRJ aA.out)).mono ?_;rintro e w1 ⟨⟨t,rfl,hx⟩,hb1⟩;obtain rfl:t=false:=zQ hx HF.out;clear hx;have HX:Hid(zc w1 w.heap.size(.int .i64 0)(.int .i64 0)):=(zc.zRL w _ _ _).zRJ hb1;have bA:=zA aA.out hb1;have q5:=(Hs.out.zRJ bA).c0;clear hb1 q0 q1 q2;obtain⟨⟨y0,y1⟩,⟨y2,y3⟩⟩:=HX.out;go_wp2;have HY:=HX.out.put(.int .i64 k)(.int .i64(f k).zRU);refine bodyPost_ret(v:=.agg #[.int .i64 k,.int .i64(f k).zRU])(by simp [results,Tryz.results216,go_sem,HY.1.1,HY.2.1]) rfl ⟨⟨_,_,rfl,H.out⟩,(bA.setCell(Nat.le_refl _) _).setCell(Nat.le_refl _) _⟩
theorem zD3{P:Program}(w:World)(dT sT ty elem:TypeId)(size g o aA gA:Nat)(a:Addr)(bA eA:Nat)(cA:Array Value)(t:TypeId)(cs:List Value)
  (hu:P.underlying dT=some(.slice elem))(hs:(P.info? elem).map(·.size)=some size)
  (hg:w.heap[g]?=some(.cells cA t(0,0)))(hn:cs.length=Nat.min bA aA*size)
  (dA:∀j v,cs[j]?=some v->w.cell?(a.add j)=some v)(fA:o+cs.length<=cA.size)(h1:∀v∈cs,v.oneCell'=true) :
  (Builtin.copy_ #[dT,sT] ty #[.slice(some ⟨g,o,none⟩) aA gA,.slice(some a) bA eA]).run P w =
   .ok(goInt(Nat.min bA aA))(w.setRow g(cA.toList.take o ++ cs ++ cA.toList.drop(o+cs.length)).toArray):=by
 have hl:=run_loadCells_list(P:=P) w a cs dA;have iA:=run_storeCells_at P g o t cs 0 cA w hg(by simpa using fA) h1;cases hq:P.info? elem with
 |none=>simp [hq] at hs
 |some i=>
  have hi:i.size=size:=(by simpa [hq] using hs);have e:Nat.min bA aA*i.size=cs.length:=(by rw [hi,hn]);simp [Builtin.copy_,run_underlying hu,Builtin.lenOf,Builtin.firstCells,sizeOf,typeInfo,hq,e,hl,iA]
theorem zIf{P:Program}(w:World)(dT sT ty elem:TypeId)(size:Nat)(d a:Option Addr)(bA cA aA:Nat)
  (hu:P.underlying dT=some(.slice elem))(hs:(P.info? elem).map(·.size)=some size) :
  (Builtin.copy_ #[dT,sT] ty #[.slice d bA cA,.slice a 0 aA]).run P w = .ok(goInt 0) w:=by
 cases hq:P.info? elem with
 |none=>simp [hq] at hs
 |some i=>
  cases a with
  |none=>cases d<;>simp [Builtin.copy_,run_underlying hu,Builtin.lenOf,Builtin.firstCells,sizeOf,typeInfo,hq,storeCells]
  |some a=>cases d<;>simp [Builtin.copy_,run_underlying hu,Builtin.lenOf,Builtin.firstCells,sizeOf,typeInfo,hq,storeCells,loadCells,loadCellsFrom]
def zk(s:zL)(j:Nat):Int:=if j / 2<s.kn then(if j % 2=0 then s.ks(j / 2)else s.kb(j / 2))else 0
def zp(f:Nat->Int):Array Value:=((List.range 16).map fun j=>Value.int .i64(f j)).toArray
def qD(s:zL):Array Value:=zp(zk s)
theorem qB(f:Nat->Int):(zp f).size=16:=by simp [zp]
theorem yO(f:Nat->Int){j:Nat}(h:j<16):(zp f)[j]?=some(.int .i64(f j)):=by simp [zp,h]
theorem zAs(f:Nat->Int):(zp f).all(·.oneCell')=true:=by
 unfold zp;rw [Array.all_eq_true_iff_forall_mem];intro v hv;simp at hv;obtain⟨j,_,rfl⟩:=hv;rfl
theorem zJI{f g:Nat->Int}(h:∀j,j<16->f j=g j):zp f=zp g:=by
 unfold zp;congr 1;apply List.map_congr_left;intro j hj;rw [h j(by simpa using hj)]
theorem zBv:(Tryz.prog.info? 155).map(·.size)=some 16:=by kernel_rfl
theorem zEP:(Tryz.prog.info? 61).map(·.size)=some 2:=by kernel_rfl
theorem zG9:Tryz.prog.underlying 155=some(.array 8 61):=by kernel_rfl
theorem zG7(w:World)(o1 o2 o3:Obj):(((w.alloc o1).alloc o2).alloc o3).heap[w.heap.size+1]?=some o2/\(((w.alloc o1).alloc o2).alloc o3).heap[w.heap.size+1+1]?=some o3/\w.heap.size+1+1<(((w.alloc o1).alloc o2).alloc o3).heap.size:=by
 refine⟨?_,?_,by simp⟩
 ·rw [Below.heap_alloc _ _ _(by simp)];have:=heap_alloc_last(w.alloc o1) o2;rw [World.size_alloc] at this;exact this
 ·have:=heap_alloc_last((w.alloc o1).alloc o2) o3;rw [World.size_alloc,World.size_alloc] at this;exact this
theorem zF.setRow(w:World)(g:Nat)(cs:Array Value):zF(fun k=>k=g) w(w.setRow g cs):=
 ⟨rfl,rfl,rfl,by simp [World.setRow],fun k _ hs=>setRow_other w g k cs hs⟩
theorem zHb{eA:Array Oper}{o:Oper}{a:Act}{w:World}{K:Act->World->Prop}{Q:Exit->Act->World->Prop}{E:Prop}(fA:o.guard=none)(d s:Operand)
  (ho:o.op = .call {callee:=.builtin .copy,args:=#[d,s],argTypes:=#[62,62]})
  (g:Nat)(ka:Option Addr)(kc:Nat)(sl:zL)(hd:a.eval d = .slice(some ⟨g,0,none⟩) 8 8)(hs:a.eval s = .slice ka sl.kn kc)
  (hg:w.heap[g]?=some(.cells(zp fun _=>0) 155(0,0)))(hk:sl.kn=0\/(sl.kn=8/\∃b off,ka=some ⟨b,off,none⟩/\∀i,i<sl.kn->w.cell? ⟨b,off+i*2,none⟩=some(.int .i64(sl.ks i))/\w.cell? ⟨b,off+i*2+1,none⟩=some(.int .i64(sl.kb i))))
  (h:∀w' v,Hid(w'.heap[g]?=some(.cells(qD sl) 155(0,0)))->zF(fun k=>k=g) w w'->K(a.put o.dst v) w') :
  if Region.wanted o(yielded eA a.tmps)=true then Oper.wp Tryz.prog o a w K Q else E:=by
 have hw:Region.wanted o(yielded eA a.tmps)=true:=by simp [Region.wanted,fA]
 rw [if_pos hw];have hu:Tryz.prog.underlying 62=some(.slice 61):=by kernel_rfl
 rcases hk with hk | ⟨hk,b,off,rfl,hc⟩
 ·rw [hk] at hs;have aA:=zIf(P:=Tryz.prog) w 62 62 o.type 61 2(some ⟨g,0,none⟩) ka 8 8 kc hu zEP;unfold Oper.wp;simp [execOp,ho,resolve,invoke,builtin,hd,hs,aA,Result.andThen];refine h _ _ ?_(zF.refl _ _);show _=_;rw [hg];have:qD sl=zp(fun _=>0):=zJI fun j _=>by unfold zk;rw [if_neg(by omega)]
  rw [this]
 ·rw [hk] at hs;have aA:=zD3(P:=Tryz.prog) w 62 62 o.type 61 2 g 0 8 8 ⟨b,off,none⟩ 8 kc(zp fun _=>0) 155(qD sl).toList hu zEP hg(by simp [qD,zp])(fun j v hj=>by
    have cA:j<16:=by
     have:=(List.getElem?_eq_some_iff.1 hj).1;simpa [qD,qB] using this
    have e:(qD sl).toList[j]?=some(.int .i64(zk sl j)):=(by rw [Array.getElem?_toList];exact yO(zk sl) cA);rw [e] at hj;simp only [Option.some.injEq] at hj;subst hj;have bA:(⟨b,off,none⟩:Addr).add j=⟨b,off+j,none⟩:=(by unfold Addr.add;split<;>simp_all);rw [bA];unfold zk;rw [if_pos(by omega)];have dA:=hc(j / 2)(by omega);split
    ·rw [show off+j=off+j / 2*2 by omega];exact dA.1
    ·rw [show off+j=off+j / 2*2+1 by omega];exact dA.2)(by simp [qD,zp])(fun v hv=>(Array.all_eq_true_iff_forall_mem.1(zAs _)) v(by simpa [qD] using hv))
  unfold Oper.wp;simp [execOp,ho,resolve,invoke,builtin,hd,hs,aA,Result.andThen];refine h _ _ ?_(zF.setRow _ _ _);show _=_;rw [setRow_heap w g _ _ 155(0,0) hg];have e0:((zp fun _=>0).toList.drop 16) = []:=List.drop_eq_nil_of_le(by simp [zp]);simp [qD,qB,e0]
theorem zDh(v0 v1 v2:Value)(lo hi:Nat)(s:zL)(w:World)(h1:qI w lo hi v0 v1 v2 s)(hk:s.kn=0\/s.kn=8) :
  Calls Tryz.prog 162 #[.agg #[v0,v1,v2]] w fun e w'=>e = .returned(.agg(qD s))/\Below w.heap.size w w':=by
 obtain⟨rfl,⟨m1,a,c,rfl,mc,g1⟩,rfl,m2⟩:=h1;unfold maxLen at m1 m2;have G1:Hid(0<s.kn->∃b off,a=some ⟨b,off,none⟩/\lo<=b/\b<hi/\∀i,i<s.kn->w.cell? ⟨b,off+i*2,none⟩=some(.int .i64(s.ks i))/\w.cell? ⟨b,off+i*2+1,none⟩=some(.int .i64(s.kb i))):=g1;have Hk:Hid(s.kn=0\/s.kn=8):=hk;clear g1 hk;go_enter Tryz.func162,Tryz.ntmps162;go_wp2_with fail;obtain⟨W,hW⟩:∃W:World,W=((w.alloc(.cells #[.int .i64 s.zRU,.slice a s.kn c,.string s.data] 127)).alloc(.cells #[Value.int .i64 0,Value.int .i64 0,Value.int .i64 0,Value.int .i64 0,Value.int .i64 0,Value.int .i64 0,Value.int .i64 0,Value.int .i64 0,Value.int .i64 0,Value.int .i64 0,Value.int .i64 0,Value.int .i64 0,Value.int .i64 0,Value.int .i64 0,Value.int .i64 0,Value.int .i64 0] 155)).alloc(.cells #[Value.int .i64 0,Value.int .i64 0,Value.int .i64 0,Value.int .i64 0,Value.int .i64 0,Value.int .i64 0,Value.int .i64 0,Value.int .i64 0,Value.int .i64 0,Value.int .i64 0,Value.int .i64 0,Value.int .i64 0,Value.int .i64 0,Value.int .i64 0,Value.int .i64 0,Value.int .i64 0] 155):=⟨_,rfl⟩;have jA:(#[Value.int .i64 0,Value.int .i64 0,Value.int .i64 0,Value.int .i64 0,Value.int .i64 0,Value.int .i64 0,Value.int .i64 0,Value.int .i64 0,Value.int .i64 0,Value.int .i64 0,Value.int .i64 0,Value.int .i64 0,Value.int .i64 0,Value.int .i64 0,Value.int .i64 0,Value.int .i64 0]:Array Value)=zp(fun _=>0):=rfl;have hb:Below w.heap.size w W:=by rw [hW];exact zA(zA(zC _ _)(zC _ _))(zC _ _)
 have Hx:Hid(yT W w.heap.size(.int .i64 s.zRU)(.slice a s.kn c)(.string s.data)):=by rw [hW];exact((yT.zRL w _ _ _ _).zRJ(zC _ _)).zRJ(zC _ _)
 have bA:=zG7 w(.cells #[.int .i64 s.zRU,.slice a s.kn c,.string s.data] 127)(.cells #[Value.int .i64 0,Value.int .i64 0,Value.int .i64 0,Value.int .i64 0,Value.int .i64 0,Value.int .i64 0,Value.int .i64 0,Value.int .i64 0,Value.int .i64 0,Value.int .i64 0,Value.int .i64 0,Value.int .i64 0,Value.int .i64 0,Value.int .i64 0,Value.int .i64 0,Value.int .i64 0] 155)(.cells #[Value.int .i64 0,Value.int .i64 0,Value.int .i64 0,Value.int .i64 0,Value.int .i64 0,Value.int .i64 0,Value.int .i64 0,Value.int .i64 0,Value.int .i64 0,Value.int .i64 0,Value.int .i64 0,Value.int .i64 0,Value.int .i64 0,Value.int .i64 0,Value.int .i64 0,Value.int .i64 0] 155);rw [<-hW] at bA;have HR:Hid(W.heap[w.heap.size+1]?=some(.cells(zp fun _=>0) 155(0,0))):=bA.1;have HG:Hid(W.heap[w.heap.size+1+1]?=some(.cells(zp fun _=>0) 155(0,0))):=bA.2.1;have kA:w.heap.size+1+1<W.heap.size:=bA.2.2;clear bA;have HC:Hid(s.kn=0\/(s.kn=8/\∃b off,a=some ⟨b,off,none⟩/\∀i,i<s.kn->W.cell? ⟨b,off+i*2,none⟩=some(.int .i64(s.ks i))/\W.cell? ⟨b,off+i*2+1,none⟩=some(.int .i64(s.kb i)))):=by
  rcases Hk.out with h | h
  ·exact Or.inl h
  ·obtain⟨b,off,ha,_,_,k1⟩:=G1.out(by omega);exact Or.inr ⟨h,b,off,ha,fun i hi=>⟨(hb.cell(zD(k1 i hi).1)).trans(k1 i hi).1,(hb.cell(zD(k1 i hi).2)).trans(k1 i hi).2⟩⟩
 rw [<-hW];clear hW jA;obtain⟨⟨x0,x1⟩,⟨x2,x3⟩,⟨x4,x5⟩⟩:=Hx.out
 go_region_law(refine zHb rfl(.tmp 4)(.tmp 6) rfl(w.heap.size+1+1) a c s(by simp [Act.eval])(by simp [Act.eval]) HG.out HC.out ?_;intro w1 cv iA dA)
 have eA:w1.heap[w.heap.size+1]?=some(.cells(zp fun _=>0) 155(0,0)):=(dA.block _(by show _<W.heap.size;omega)(by omega)).trans HR.out;have fA:Hid(w1.heap[w.heap.size+1]?=some(.cells(zp fun _=>0) 155(0,0))):=eA;have gA:Below w.heap.size w w1:=hb.drew.trans(dA.zRJ(by show _<=W.heap.size;omega)(by intro k hk;omega));clear eA dA x0 x1 x2 x3 x4 x5;have cA:(Tryz.prog.info? 155).map(·.size)=some(qD s).size:=by rw [qD,qB];exact zBv
 have aA:Hid((Tryz.prog.info? 155).map(·.size)=some(qD s).size):=cA;clear cA;go_wp2_with(first
  |(refine wpList_load_row rfl 155(.tmp 3) rfl(w.heap.size+1+1) rfl 155(qD s)(0,0) _ iA.out zG9 rfl aA.out ?_)
  |(refine wpList_store_row rfl 155(.tmp 2)(.tmp 8) rfl(w.heap.size+1)(qD s) rfl rfl 155(zp fun _=>0) fA.out aA.out(by rw [qD,qB,qB])(zAs _) ?_))
 refine bodyPost_ret(v:=.agg(qD s))(results_cell_row(P:=Tryz.prog)(ty:=155) Tryz.results162 _ _(w.heap.size+1) 155(qD s)(0,0) _ rfl(setRow_heap _ _ _ _ _ _ fA.out) zG9 rfl aA.out) rfl ⟨rfl,?_⟩;exact below_setRow gA(by omega) _
def zAV(n:Nat)(f:Nat->zL)(b ks kb rs rb:Int):Prop:=
 ∃ps pb,zBb n f ks ps pb/\(((zCC ks kb 0 0\/b<pb)/\rs=0/\rb=0)\/(¬(zCC ks kb 0 0\/b<pb)/\rs=ps/\rb=pb))
theorem zKi(v:Value)(n lo hi:Nat)(f:Nat->zL)(ks kb b:Int)(w:World)(h1:qA w lo hi v n f) :
  Calls Tryz.prog 221 #[v,.agg #[.int .i64 ks,.int .i64 kb],.int .i64 b] w fun e w'=>(∃rs rb,e = .returned(.agg #[.int .i64 rs,.int .i64 rb])/\zAV n f b ks kb rs rb)/\Below w.heap.size w w':=by
 have Hi:Hid(qA w lo hi v n f):=h1;obtain⟨m1,a,c,rfl,mc,g1⟩:=h1;clear g1;have dA:Hid(Below w.heap.size w((w.alloc(.cells #[.int .i64 ks,.int .i64 kb] 61)).alloc(.cells #[.int .i64 0,.int .i64 0] 61))):=zA(zC _ _)(zC _ _);go_enter Tryz.func221,Tryz.ntmps221;go_wp2_with fail;refine(zEk _ n lo hi f _ _(Hi.out.zRJ dA.out)).mono ?_;rintro e w1 ⟨⟨ps,pb,rfl,hp⟩,hb1⟩;have Hp:Hid(zBb n f ks ps pb):=hp;have HX:Hid(zc w1 w.heap.size(.int .i64 ks)(.int .i64 kb)):=((zc.zRL w _ _ _).zRJ(zC _ _)).zRJ hb1;have HR:Hid(zc w1(w.heap.size+1)(.int .i64 0)(.int .i64 0)):=by
  have:=(zc.zRL(w.alloc(.cells #[.int .i64 ks,.int .i64 kb] 61))(.int .i64 0)(.int .i64 0) 61).zRJ hb1;rw [World.size_alloc] at this;exact this
 have fA:=zA dA.out hb1;have hz:w.heap.size<w1.heap.size:=HX.out.1.lt;have gA:w.heap.size+1<w1.heap.size:=HR.out.1.lt;clear hp hb1;obtain⟨⟨x0,x1⟩,⟨x2,x3⟩⟩:=HX.out;obtain⟨⟨y0,y1⟩,⟨y2,y3⟩⟩:=HR.out;have HY:=fun u0 u1=>(HR.out.put u0 u1).zRJ(zC _(.cells #[.int .i64 ps,.int .i64 pb] 61))
 have bA:Hid(∀u0 u1,zc(((w1.setCell ⟨w.heap.size+1,0,none⟩ u0).setCell ⟨w.heap.size+1,1,none⟩ u1).alloc(.cells #[.int .i64 ps,.int .i64 pb] 61))(w.heap.size+1) u0 u1):=HY;clear HY;have cA:Hid(∀u0 u1,Below w.heap.size w(((w1.setCell ⟨w.heap.size+1,0,none⟩ u0).setCell ⟨w.heap.size+1,1,none⟩ u1).alloc(.cells #[.int .i64 ps,.int .i64 pb] 61))):=fun u0 u1=>((fA.setCell(by show _<=w.heap.size+1;omega) _).setCell(by show _<=w.heap.size+1;omega) _).alloc(by simp;omega) _
 by_cases aA:zCC ks kb 0 0
 ·obtain⟨rfl,rfl⟩:=aA;have HK:Hid(zAV n f b 0 0 0 0):=⟨ps,pb,Hp.out,Or.inl ⟨Or.inl ⟨rfl,rfl⟩,rfl,rfl⟩⟩;go_wp2;have hy:=bA.out(.int .i64 0)(.int .i64 0);refine bodyPost_ret(v:=.agg #[.int .i64 0,.int .i64 0])(by simp [results,Tryz.results221,go_sem,hy.1.1,hy.2.1]) rfl ⟨⟨_,_,rfl,HK.out⟩,cA.out _ _⟩
 ·have HN:Hid(¬zCC ks kb 0 0):=aA;have e0:(ks == 0)=false\/(ks == 0)=true/\(kb == 0)=false:=by
   by_cases h:ks=0
   ·right;refine⟨by simp [h],?_⟩;have:kb≠0:=fun h'=>aA ⟨h,h'⟩
    simp [this]
   ·left;simp [h]
  clear aA;by_cases eA:b<pb
  ·have HK:Hid(zAV n f b ks kb 0 0):=⟨ps,pb,Hp.out,Or.inl ⟨Or.inr eA,rfl,rfl⟩⟩;have hy:=bA.out(.int .i64 0)(.int .i64 0);have Hy:Hid(zc(((w1.setCell ⟨w.heap.size+1,0,none⟩(.int .i64 0)).setCell ⟨w.heap.size+1,1,none⟩(.int .i64 0)).alloc(.cells #[.int .i64 ps,.int .i64 pb] 61))(w.heap.size+1)(.int .i64 0)(.int .i64 0)):=hy;clear hy;rcases e0 with e0 | ⟨e0,e1⟩
   all_goals
    go_wp2;have hy:=Hy.out;refine bodyPost_ret(v:=.agg #[.int .i64 0,.int .i64 0])(by simp [results,Tryz.results221,go_sem,hy.1.1,hy.2.1]) rfl ⟨⟨_,_,rfl,HK.out⟩,cA.out _ _⟩
  ·have HK:Hid(zAV n f b ks kb ps pb):=⟨ps,pb,Hp.out,Or.inr ⟨fun h=>by rcases h with h | h;exact HN.out h;exact eA h,rfl,rfl⟩⟩;rcases e0 with e0 | ⟨e0,e1⟩
   all_goals
    go_wp2;have hy:=bA.out(.int .i64 ps)(.int .i64 pb);refine bodyPost_ret(v:=.agg #[.int .i64 ps,.int .i64 pb])(by simp [results,Tryz.results221,go_sem,hy.1.1,hy.2.1]) rfl ⟨⟨_,_,rfl,HK.out⟩,cA.out _ _⟩
def zAH(w:World)(v:Value)(n:Nat)(f:Nat->ByteArray):Prop:=
 n<=1000/\∃a c,v = .slice a n c/\(∀i,i<n->(f i).size<=maxLen)/\(0<n->∃b off,a=some ⟨b,off,none⟩/\∀i,i<n->w.cell? ⟨b,off+i,none⟩=some(.string(f i)))
theorem zAH.zRJ{w w':World}{v:Value}{n:Nat}{f:Nat->ByteArray}(h:zAH w v n f)(t:Below w.heap.size w w'):zAH w' v n f:=by
 obtain⟨m,a,c,hv,hs,hx⟩:=h;refine⟨m,a,c,hv,hs,fun h0=>?_⟩;obtain⟨b,off,ha,hc⟩:=hx h0;exact⟨b,off,ha,fun i hi=>(t.cell(zD(hc i hi))).trans(hc i hi)⟩
theorem zAH.cells{w:World}{a:Option Addr}{c n:Nat}{f:Nat->ByteArray}(h:zAH w(.slice a n c) n f){i:Nat}(hi:i<n):∃b off,a=some ⟨b,off,none⟩/\w.cell? ⟨b,off+i,none⟩=some(.string(f i)):=by
 obtain⟨m,a0,c0,hv,hs,hx⟩:=h;simp only [Value.slice.injEq,true_and] at hv;obtain⟨rfl,rfl⟩:=hv;obtain⟨b,off,ha,hc⟩:=hx(by omega);exact⟨b,off,ha,hc i hi⟩
theorem zN3(s:ByteArray)(w:World)(hs:s.size<=maxLen):Calls Tryz.prog 164 #[.string s] w fun e w'=>zG(8000<s.size) e/\Below w.heap.size w w':=by
 unfold maxLen at hs;by_cases h:8000<s.size
 ·have h':(8000:Int)<(s.size:Int):=(by omega);have H:=zd h;clear h;go_enter Tryz.func164,Tryz.ntmps164;go_wp2;go_ret;exact⟨zG.yes H.out,Below.refl _ _⟩
 ·have h':¬(8000:Int)<(s.size:Int):=(by omega);have H:=zd h;clear h;go_enter Tryz.func164,Tryz.ntmps164;go_wp2;go_ret;exact⟨zG.no H.out,Below.refl _ _⟩
theorem zPY(s:ByteArray)(w:World)(hs:s.size<=maxLen):Calls Tryz.prog 166 #[.string s] w fun e w'=>zG(¬yM s) e/\Below w.heap.size w w':=by
 go_enter Tryz.func166,Tryz.ntmps166;go_wp2_with fail;refine(zDW s w hs).mono ?_;rintro e w1 ⟨⟨t,rfl,ht⟩,rfl⟩;by_cases hf:yM s
 ·obtain rfl:t=true:=ht.2 hf;have HF:=zd hf;clear ht hf;go_wp2;go_ret;exact⟨zG.no(fun h=>h HF.out),Below.refl _ _⟩
 ·obtain rfl:t=false:=zQ ht hf;have HF:=zd hf;clear ht hf;go_wp2;go_ret;exact⟨zG.yes HF.out,Below.refl _ _⟩
theorem zLP(v:Value)(n:Nat)(f:Nat->ByteArray)(w:World)(h:zAH w v n f) :
  Calls Tryz.prog 201 #[v,.func(.func 164) #[] #[]] w fun e w'=>((∃i:Nat,i<n/\8000<(f i).size/\e = .returned(.int .i64(i:Int)))\/((∀j,j<n->¬8000<(f j).size)/\e = .returned(.int .i64(-1))))/\Below w.heap.size w w':=by
 have Hp:=zd h;obtain⟨m1,a,c,rfl,hs,-⟩:=h;have Hs:=zd hs;clear hs;go_enter Tryz.func201,Tryz.ntmps201;go_wp2
 go_loopw [8](fun i wr=>∃k:Nat,k<=n/\i = .int .i64 k/\(∀j,j<k->¬8000<(f j).size)/\Below w.heap.size w wr)(fun i _=>n - (intOf i).toNat)
 case atStart=>exact⟨0,Nat.zero_le _,rfl,fun j hj=>absurd hj(Nat.not_lt_zero _),Below.refl _ _⟩
 case round=>
  obtain⟨k,hk,rfl,hall,hb⟩:=hrel;have aA:=zd hall;clear hall;by_cases bA:k<n
  ·have eA:(k:Int)<(n:Int):=(by omega);obtain⟨b,off,rfl,q0⟩:=(Hp.out.zRJ hb).cells bA;have dA:=Hs.out k bA;go_wp2_with fail;refine(zN3(f k) _ dA).mono ?_;rintro e w1 ⟨⟨t,rfl,ht⟩,hb1⟩;have cA:=zA hb hb1;clear hb1 q0;by_cases hf:8000<(f k).size
   ·obtain rfl:t=true:=ht.2 hf;have HF:=zd hf;clear ht hf;go_wp2;go_ret;exact⟨Or.inl ⟨k,bA,HF.out,rfl⟩,cA⟩
   ·obtain rfl:t=false:=zQ ht hf;have HF:=zd hf;clear ht hf;go_wp2;go_roundw
    case rel=>
     refine⟨k+1,by omega,by go_num,fun j hj=>?_,cA⟩;by_cases e:j=k
     ·subst e;exact HF.out
     ·exact aA.out j(by omega)
    case measure=>simp [intOf];omega
  ·obtain rfl:k=n:=(by omega);go_wp2;go_ret;exact⟨Or.inr ⟨aA.out,rfl⟩,hb⟩
theorem zOI(v:Value)(n:Nat)(f:Nat->ByteArray)(w:World)(h:zAH w v n f) :
  Calls Tryz.prog 163 #[v,.func(.func 164) #[] #[]] w fun e w'=>zG(∃i,i<n/\8000<(f i).size) e/\Below w.heap.size w w':=by
 have Hp:=zd h;obtain⟨m1,a,c,rfl,hs,-⟩:=h;go_enter Tryz.func163,Tryz.ntmps163;go_wp2_with fail;refine(zLP _ n f w Hp.out).mono ?_;rintro e w1 ⟨hr,hb1⟩;rcases hr with⟨i,hi,hP,rfl⟩ | ⟨hno,rfl⟩
 ·have HP:=zd(show ∃i,i<n/\8000<(f i).size from⟨i,hi,hP⟩);have h0:(0:Int)<=(i:Int):=(by omega);clear hP;go_wp2;go_ret;exact⟨zG.yes HP.out,hb1⟩
 ·have HP:=zd hno;clear hno;go_wp2;go_ret;exact⟨zG.no fun ⟨i,hi,hq⟩=>HP.out i hi hq,hb1⟩
theorem zK8(v:Value)(n:Nat)(f:Nat->ByteArray)(w:World)(h:zAH w v n f) :
  Calls Tryz.prog 201 #[v,.func(.func 166) #[] #[]] w fun e w'=>((∃i:Nat,i<n/\¬yM(f i)/\e = .returned(.int .i64(i:Int)))\/((∀j,j<n->¬¬yM(f j))/\e = .returned(.int .i64(-1))))/\Below w.heap.size w w':=by
 have Hp:=zd h;obtain⟨m1,a,c,rfl,hs,-⟩:=h;have Hs:=zd hs;clear hs;go_enter Tryz.func201,Tryz.ntmps201;go_wp2
 go_loopw [8](fun i wr=>∃k:Nat,k<=n/\i = .int .i64 k/\(∀j,j<k->¬¬yM(f j))/\Below w.heap.size w wr)(fun i _=>n - (intOf i).toNat)
 case atStart=>exact⟨0,Nat.zero_le _,rfl,fun j hj=>absurd hj(Nat.not_lt_zero _),Below.refl _ _⟩
 case round=>
  obtain⟨k,hk,rfl,hall,hb⟩:=hrel;have aA:=zd hall;clear hall;by_cases bA:k<n
  ·have eA:(k:Int)<(n:Int):=(by omega);obtain⟨b,off,rfl,q0⟩:=(Hp.out.zRJ hb).cells bA;have dA:=Hs.out k bA;go_wp2_with fail;refine(zPY(f k) _ dA).mono ?_;rintro e w1 ⟨⟨t,rfl,ht⟩,hb1⟩;have cA:=zA hb hb1;clear hb1 q0;by_cases hf:¬yM(f k)
   ·obtain rfl:t=true:=ht.2 hf;have HF:=zd hf;clear ht hf;go_wp2;go_ret;exact⟨Or.inl ⟨k,bA,HF.out,rfl⟩,cA⟩
   ·obtain rfl:t=false:=zQ ht hf;have HF:=zd hf;clear ht hf;go_wp2;go_roundw
    case rel=>
     refine⟨k+1,by omega,by go_num,fun j hj=>?_,cA⟩;by_cases e:j=k
     ·subst e;exact HF.out
     ·exact aA.out j(by omega)
    case measure=>simp [intOf];omega
  ·obtain rfl:k=n:=(by omega);go_wp2;go_ret;exact⟨Or.inr ⟨aA.out,rfl⟩,hb⟩
theorem zOH(v:Value)(n:Nat)(f:Nat->ByteArray)(w:World)(h:zAH w v n f) :
  Calls Tryz.prog 163 #[v,.func(.func 166) #[] #[]] w fun e w'=>zG(∃i,i<n/\¬yM(f i)) e/\Below w.heap.size w w':=by
 have Hp:=zd h;obtain⟨m1,a,c,rfl,hs,-⟩:=h;go_enter Tryz.func163,Tryz.ntmps163;go_wp2_with fail;refine(zK8 _ n f w Hp.out).mono ?_;rintro e w1 ⟨hr,hb1⟩;rcases hr with⟨i,hi,hP,rfl⟩ | ⟨hno,rfl⟩
 ·have HP:=zd(show ∃i,i<n/\¬yM(f i)from⟨i,hi,hP⟩);have h0:(0:Int)<=(i:Int):=(by omega);clear hP;go_wp2;go_ret;exact⟨zG.yes HP.out,hb1⟩
 ·have HP:=zd hno;clear hno;go_wp2;go_ret;exact⟨zG.no fun ⟨i,hi,hq⟩=>HP.out i hi hq,hb1⟩
end Go.Proofs.YtmgeglgboadfiaaGreatDoor
