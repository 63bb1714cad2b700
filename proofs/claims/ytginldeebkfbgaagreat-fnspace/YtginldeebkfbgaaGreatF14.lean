/- A part of the proof. -/
import Derived.Maps.OwnSet
import Derived.Test.YtginldeebkfbgaaGreatF13
import Derived.ProofKit
set_option linter.unusedVariables false
set_option maxRecDepth 20000
set_option maxHeartbeats 4000000
namespace Go.Proofs.YtginldeebkfbgaaGreat
open Go.RowKit Go.Maps
def zGj(t:Int):Prop:=0<=t/\t<=1000000
def zGi(s b:Int):Prop:=0<=s/\s<=199/\1<=b/\b<=1000000
def zRe(n:Nat)(f:Nat->Int):Prop:=∀i,i<n->∀k,k<i->f k≠f i
def zAs(n:Nat)(f g:Nat->Int):Prop:=n<=200/\(∀i,i<n->zGi (f i) (g i))/\zRe n f
def PIn(n:Nat)(f g:Nat->Int)(x y:Int):Prop:=∃j,j<n/\f j=x/\g j=y
def zGU(n:Nat)(f g:Nat->Int)(m:Nat)(f' g':Nat->Int):Prop:=zAs n f g/\zAs m f' g'/\n=m/\∀i,i<n->PIn m f' g' (f i) (g i)
theorem zRe.inj{n:Nat}{f:Nat->Int}(h:zRe n f){i k:Nat}(hi:i<n)(hk:k<n)(e:f i=f k):i=k:=by
 rcases Nat.lt_trichotomy i k with h1 | h1 | h1
 ·exact absurd e (h k hk i h1)
 ·exact h1
 ·exact absurd e.symm (h i hi k h1)
theorem zT6:∀(n m:Nat) (h:Nat->Nat),(∀i,i<n->h i<m)->(∀i k,i<n->k<n->h i=h k->i=k)->n<=m
 | 0,_,_,_,_=>Nat.zero_le _
 | n+1,m,h,h1,h2=>by
  have hm:=h1 n (Nat.lt_succ_self n);have:=zT6 n (m - 1) (fun i=>if h i<h n then h i else h i - 1) (fun i hi=>by
   have:=h1 i (by omega);have:h i≠h n:=fun e=>by have:=h2 i n (by omega) (by omega) e;omega
   show(if h i<h n then h i else h i - 1)<m - 1;split<;>omega) (fun i k hi hk e=>by
   have a1:h i≠h n:=fun e=>by have:=h2 i n (by omega) (by omega) e;omega
   have a2:h k≠h n:=fun e=>by have:=h2 k n (by omega) (by omega) e;omega
   have e':(if h i<h n then h i else h i - 1)=(if h k<h n then h k else h k - 1):=e;refine h2 i k (by omega) (by omega) ?_;split at e'<;>split at e'<;>omega)
  omega
theorem zVF{n:Nat}{f g f' g':Nat->Int}(h1:zAs n f g)(h2:zAs n f' g')(h:∀i,i<n->PIn n f' g' (f i) (g i)):∀j,j<n->PIn n f g (f' j) (g' j):=by
 intro j hj;by_cases hx:PIn n f g (f' j) (g' j)
 ·exact hx
 ·exfalso;have:=zT6 n (n - 1) (fun i=>if hi:i<n then(if (h i hi).choose<j then(h i hi).choose else(h i hi).choose - 1)else 0) (fun i hi=>by
   have hs:=(h i hi).choose_spec;have bA:(h i hi).choose≠j:=fun e=>hx ⟨i,hi,by rw[<-hs.2.1,e],by rw[<-hs.2.2,e]⟩
   simp only[hi,dif_pos];split<;>omega) (fun i k hi hk e=>by
   have hs:=(h i hi).choose_spec;have aA:=(h k hk).choose_spec;have bA:(h i hi).choose≠j:=fun e=>hx ⟨i,hi,by rw[<-hs.2.1,e],by rw[<-hs.2.2,e]⟩
   have cA:(h k hk).choose≠j:=fun e=>hx ⟨k,hk,by rw[<-aA.2.1,e],by rw[<-aA.2.2,e]⟩
   simp only[hi,hk,dif_pos]at e;have e2:(h i hi).choose=(h k hk).choose:=(by split at e<;>split at e<;>omega);refine h1.2.2.inj hi hk ?_;rw[<-hs.2.1,<-aA.2.1,e2])
  omega
theorem zGU.symm{n m:Nat}{f g f' g':Nat->Int}(h:zGU n f g m f' g'):zGU m f' g' n f g:=by
 obtain⟨h1,h2,rfl,h3⟩:=h;exact⟨h2,h1,rfl,zVF h1 h2 h3⟩
def zD6(x:Int):Lit:=.int .i64 x
theorem zKi{x y:Int}(h:x≠y):zD6 x≠zD6 y:=fun e=>h (by unfold zD6 at e;injection e)
theorem zLn(x:Int):WideAt.IsKeyLit (zD6 x):=trivial
def zF3(x:Int):DataW Unit:=.lit (.int .i64 x)
theorem zIg{x y:Int}(h:zF3 x=zF3 y):x=y:=by unfold zF3 at h;injection h with h;injection h
def seenD(f g:Nat->Int):Nat->DataW Unit
 | 0=>.map []
 | k+1=>(seenD f g k).put (zD6 (f k)) (zF3 (g k))
theorem zFl(f g:Nat->Int):∀k,Tidy (seenD f g k)
 | 0=>tidy_empty
 | k+1=>(zFl f g k).put (zLn _) _
theorem zHF(f g:Nat->Int)(x:Int):∀k,Maps.has (seenD f g k) (zD6 x)=true↔∃i,i<k/\f i=x
 | 0=>by
  constructor
  ·intro h;exact absurd h (by simp[seenD,Maps.has])
  ·rintro⟨i,hi,_⟩;omega
 | k+1=>by
  by_cases hx:f k=x
  ·subst hx;exact⟨fun _=>⟨k,by omega,rfl⟩,fun _=>has_put_same (zFl f g k).isMap (zLn _) _⟩
  ·rw[show Maps.has (seenD f g (k+1)) (zD6 x)=Maps.has (seenD f g k) (zD6 x)from has_put_other (zKi (Ne.symm hx)) _,zHF f g x k];constructor
   ·rintro⟨i,hi,e⟩;exact⟨i,by omega,e⟩
   ·rintro⟨i,hi,e⟩;by_cases h:i=k
    ·subst h;exact absurd e hx
    ·exact⟨i,by omega,e⟩
theorem zNd{k:Nat}{f:Nat->Int}:zRe (k+1) f↔zRe k f/\∀i,i<k->f i≠f k:=by
 constructor
 ·exact fun h=>⟨fun i hi=>h i (by omega),fun i hi=>h k (by omega) i hi⟩
 ·rintro⟨h1,h2⟩ i hi j hj;by_cases e:i=k
  ·subst e;exact h2 j hj
  ·exact h1 i (by omega) j hj
theorem zJl(f g:Nat->Int):∀k,Maps.size (seenD f g k)<=k/\(Maps.size (seenD f g k)=k↔zRe k f)
 | 0=>⟨Nat.le_refl _,fun _ i hi=>by omega,fun _=>rfl⟩
 | k+1=>by
  obtain⟨h1,h2⟩:=zJl f g k;have e:Maps.size (seenD f g (k+1))=if Maps.has (seenD f g k) (zD6 (f k))then Maps.size (seenD f g k)else Maps.size (seenD f g k)+1:=size_put (zFl f g k) _
  by_cases hh:Maps.has (seenD f g k) (zD6 (f k))=true
  ·rw[if_pos hh]at e;rw[e,zNd];refine⟨by omega,fun h=>by omega,fun h=>?_⟩;obtain⟨i,hi,he⟩:=(zHF f g (f k) k).1 hh;exact absurd he (h.2 i hi)
  ·rw[if_neg hh]at e;rw[e,zNd,<-h2];refine⟨by omega,fun h=>⟨by omega,fun i hi he=>hh ((zHF f g (f k) k).2 ⟨i,hi,he⟩)⟩,fun h=>by omega⟩
theorem zUB{n:Nat}{f:Nat->Int}(g:Nat->Int)(hd:zRe n f)(z:DataW Unit):∀k,k<=n->∀i,i<k->(seenD f g k).atKey (zD6 (f i)) z=zF3 (g i)
 | 0,_,i,hi=>absurd hi (Nat.not_lt_zero _)
 | k+1,hk,i,hi=>by
  by_cases e:i=k
  ·subst e;exact atKey_put_same (zFl f g i).isMap (zLn _) _ _
  ·exact(atKey_put_other (zKi (fun h=>e (hd.inj (by omega) (by omega) h))) _ _).trans (zUB g hd z k (by omega) i (by omega))
structure zFN (n:Nat) (f g f':Nat->Int) (k:Nat) (D:DataW Unit):Prop where
 tidy:Tidy D
 size:Maps.size D+k=n
 at':∀x,(∀j,j<k->f' j≠x)->(∀i,i<n->f i=x->D.atKey (zD6 x) (zF3 0)=zF3 (g i))/\((∀i,i<n->f i≠x)->D.atKey (zD6 x) (zF3 0)=zF3 0)
 has:∀x,Maps.has D (zD6 x)=true↔(∃i,i<n/\f i=x)/\∀j,j<k->f' j≠x
theorem zFN.start{n:Nat}{f g:Nat->Int}(h:zAs n f g)(f':Nat->Int):zFN n f g f' 0 (seenD f g n) where
 tidy:=zFl f g n
 size:=by rw[(zJl f g n).2.2 h.2.2];rfl
 at':=fun x _=>⟨fun i hi e=>by subst e;exact zUB g h.2.2 _ n (Nat.le_refl _) i hi,fun aA=>by
  refine atKey_of_not_has ?_ _;rw[Bool.eq_false_iff];intro hh;obtain⟨i,hi,e⟩:=(zHF f g x n).1 hh;exact aA i hi e⟩
 has:=fun x=>by
  rw[zHF];exact⟨fun h=>⟨h,fun j hj=>absurd hj (Nat.not_lt_zero _)⟩,fun h=>h.1⟩
theorem zFN.next{n m:Nat}{f g f' g':Nat->Int}{k:Nat}{D:DataW Unit}(h:zFN n f g f' k D)(h2:zAs m f' g')(hk:k<m)(e:D.atKey (zD6 (f' k)) (zF3 0)=zF3 (g' k)):zFN n f g f' (k+1) (D.del (zD6 (f' k))):=by
 have bA:Maps.has D (zD6 (f' k))=true:=by
  by_cases hh:Maps.has D (zD6 (f' k))=true
  ·exact hh
  ·rw[atKey_of_not_has (by simpa using hh)]at e;have:=zIg e;have:=(h2.2.1 k hk).2.2.1;omega
 have hs:=size_del (k:=zD6 (f' k)) h.tidy;rw[bA]at hs;refine⟨h.tidy.del _,?_,fun x hx=>?_,fun x=>?_⟩
 ·have:=h.size;have cA:Maps.size (D.del (zD6 (f' k)))+1=Maps.size D:=hs;omega
 ·have aA:f' k≠x:=hx k (by omega);rw[atKey_del_other (zKi (Ne.symm aA))];exact h.at' x (fun j hj=>hx j (by omega))
 ·by_cases aA:f' k=x
  ·subst aA;rw[has_del_same];exact⟨fun h=>absurd h (by simp),fun h=>absurd rfl (h.2 k (by omega))⟩
  ·rw[has_del_other (zKi (Ne.symm aA)),h.has x];refine and_congr_right fun _=>⟨fun h j hj=>?_,fun h j hj=>h j (by omega)⟩
   by_cases ej:j=k
   ·subst ej;exact aA
   ·exact h j (by omega)
theorem zFN.no{n m:Nat}{f g f' g':Nat->Int}{k:Nat}{D:DataW Unit}(h:zFN n f g f' k D)(h1:zAs n f g)(h2:zAs m f' g')(hk:k<m){c:Int}(e:D.atKey (zD6 (f' k)) (zF3 0)=zF3 c)(hc:c≠g' k):¬zGU n f g m f' g':=by
 intro hs;obtain⟨i,hi,e1,e2⟩:=hs.symm.2.2.2 k hk;have:=(h.at' (f' k) (fun j hj=>h2.2.2 k hk j hj)).1 i hi e1;rw[e]at this;exact hc ((zIg this).trans e2)
theorem zFN.end{n m:Nat}{f g f' g':Nat->Int}{D:DataW Unit}(h:zFN n f g f' m D)(h1:zAs n f g)(h2:zAs m f' g')(aA:∀j,j<m->PIn n f g (f' j) (g' j)):Maps.size D=0↔zGU n f g m f' g':=by
 have hs:=h.size;constructor
 ·intro h0;obtain rfl:m=n:=(by omega);exact zGU.symm ⟨h2,h1,rfl,aA⟩
 ·intro hp;have:=hp.2.2.1;omega
theorem zFN.in{n m:Nat}{f g f' g':Nat->Int}{k:Nat}{D:DataW Unit}(h:zFN n f g f' k D)(h2:zAs m f' g')(hk:k<m)(e:D.atKey (zD6 (f' k)) (zF3 0)=zF3 (g' k)):PIn n f g (f' k) (g' k):=by
 by_cases hx:∃i,i<n/\f i=f' k
 ·obtain⟨i,hi,ei⟩:=hx;have:=(h.at' (f' k) (fun j hj=>h2.2.2 k hk j hj)).1 i hi ei;rw[e]at this;exact⟨i,hi,ei,(zIg this).symm⟩
 ·have:=(h.at' (f' k) (fun j hj=>h2.2.2 k hk j hj)).2 (fun i hi e=>hx ⟨i,hi,e⟩);rw[e]at this;have:=zIg this;have:=(h2.2.1 k hk).2.2.1;omega
def zAP(f g:Nat->Int)(t:Int):Nat->List (Int×Int)
 | 0=>[]
 | k+1=>if t<g k then zAP f g t k ++ [(f k,g k)] else zAP f g t k
def zEI(f g:Nat->Int)(t:Int):Nat->List (Int×Int)
 | 0=>[]
 | k+1=>if t<g k then zEI f g t k else zEI f g t k ++ [(f k,g k)]
theorem zFr(f g:Nat->Int)(t:Int):∀k,(zAP f g t k).length+(zEI f g t k).length=k
 | 0=>rfl
 | k+1=>by
  have:=zFr f g t k;unfold zAP zEI;split<;>simp<;>omega
theorem zV{P:Prop}(h:P):Hid P:=h
theorem qk.cellsD{w:World}{lo hi:Nat}{a:Option Addr}{n c:Nat}{f g:Nat->Int}(h:qk w lo hi (.slice a n c) n f g){k:Nat}(hk:k<n):∃b off,a=some ⟨b,off,none⟩/\w.cell? ⟨b,off+k*2,none⟩=some (.int .i64 (f k))/\w.cell? ⟨b,off+k*2+1,none⟩=some (.int .i64 (g k)):=by
 obtain⟨_,a2,c2,hv,_,hx⟩:=h;simp only[Value.slice.injEq,true_and]at hv;obtain⟨rfl,rfl⟩:=hv;obtain⟨b,off,ha,_,_,h3⟩:=hx (by omega);exact⟨b,off,ha,(h3 k hk).1,(h3 k hk).2⟩
theorem zPR(x y:Int)(w:World):Calls Tryz.prog 139 #[.agg #[.int .i64 x,.int .i64 y]] w fun e w'=>zJ (zGi x y) e/\Below w.heap.size w w':=by
 have aA:=zD w (.cells #[.int .i64 x,.int .i64 y] 44);by_cases h1:0<=x
 ·by_cases h2:x<200
  ·by_cases h3:zBT y
   ·have H:=zV (show zGi x y from⟨h1,by omega,h3.1,h3.2⟩);have H3:=zV h3;clear h3;go_enter Tryz.func139,Tryz.ntmps139;go_wp2_with (first | (go_at_call 133;refine(zAW y _).mono ?_;rintro e w1 ⟨⟨t,rfl,ht⟩,rfl⟩;obtain rfl:t=true:=ht.2 H3.out;clear ht) | fail);go_wp2;go_ret;exact⟨zJ.yes H.out,aA⟩
   ·have H:=zV (show ¬zGi x y from fun h=>h3 ⟨h.2.2.1,h.2.2.2⟩);have H3:=zV h3;clear h3;go_enter Tryz.func139,Tryz.ntmps139;go_wp2_with (first | (go_at_call 133;refine(zAW y _).mono ?_;rintro e w1 ⟨⟨t,rfl,ht⟩,rfl⟩;obtain rfl:t=false:=zAR ht H3.out;clear ht) | fail);go_wp2;go_ret;exact⟨zJ.no H.out,aA⟩
  ·go_enter Tryz.func139,Tryz.ntmps139;go_wp2;go_ret;exact⟨zJ.no fun h=>by have:=h.2.1;omega,aA⟩
 ·go_enter Tryz.func139,Tryz.ntmps139;go_wp2;go_ret;exact⟨zJ.no fun h=>by have:=h.1;omega,aA⟩
theorem zaP:Keyed Tryz.prog 2:=int_keyed (q:=.i64) (by kernel_rfl)
theorem zXD:Tryz.prog.underlying 160=some (.map 2 2):=by kernel_rfl
theorem zYa:Tryz.prog.underlying 2=some (.int .i64):=by kernel_rfl
theorem zbW(w:World):(zeroValue 2).run Tryz.prog w = .ok (.int .i64 0) w:=by kernel_rfl
theorem zMl{x:Int}(h0:0<=x)(h1:x<=1000000):(Lit.int .i64 x).wf=true:=WalkArith.wf_i64 (by omega)
def zVj(w:World)(B n:Nat)(D:DataW Unit):Prop:=w.ownsMap Tryz.prog 2 (plainElem Tryz.prog 2) B n D
theorem zHu(v:Value)(n lo hi:Nat)(f g:Nat->Int)(w:World)(h1:qk w lo hi v n f g)(hn:n<=200)(jA:∀i,i<n->zGi (f i) (g i)) :
  Calls Tryz.prog 138 #[v] w fun e w'=>e = .returned (.map (some w.heap.size))/\zVj w' w.heap.size n (seenD f g n)/\Below w.heap.size w w':=by
 have Hp:=zV h1;have gA:=zV jA;obtain⟨m1,a,c,rfl,mc,_⟩:=id h1;clear h1 jA;have nA:=@run_makeMap Tryz.prog;go_enter Tryz.func138,Tryz.ntmps138;go_wp2
 go_loopw [9] (fun i wr=>∃k:Nat,k<=n/\i = .int .i64 k/\zVj wr w.heap.size k (seenD f g k)/\Below w.heap.size w wr) (fun i _=>n - (intOf i).toNat)
 case atStart=>exact⟨0,Nat.zero_le _,rfl,World.ownsMap_made _ _ _ _,(Below.refl _ _).alloc (Nat.le_refl _) _⟩
 case round=>
  obtain⟨k,hk,rfl,eA,hb⟩:=hrel;have bA:=zV eA;clear eA;by_cases dA:k<n
  ·have mA:(k:Int)<(n:Int):=(by omega);obtain⟨b,off,rfl,q0,q1⟩:=(Hp.out.zbd hb).cellsD dA;have cA:keyOf Tryz.prog 2 (.int .i64 (f k))=some (zD6 (f k)):=keyOf_int_mk zYa (zMl (gA.out k dA).1 (by have:=(gA.out k dA).2.1;omega));have kA:=zMl (x:=g k) (by have:=(gA.out k dA).2.2.1;omega) (gA.out k dA).2.2.2;have iA:=zV cA;have lA:=zV kA;clear cA kA;go_wp2_with (first
    | (at_mapUpdate;refine wpList_mapUpdate_own _ rfl _ _ _ 160 rfl 2 2 zaP zXD _ w.heap.size k _ rfl (bA.out.alloc _) (by unfold maxLen;omega) _ _ _ rfl rfl iA.out _ [] (plainElem_int zYa lA.out) ?_;intro w1 fA aA)
    | go_in)
   go_roundw
   case rel=>exact⟨k+1,by omega,by go_num,fA,(hb.alloc hb.size _).grown aA (by rw[World.size_alloc];have:=hb.size;omega) (fun j hj=>by cases hj;exact Nat.le_refl _)⟩
   case measure=>simp[intOf];omega
  ·obtain rfl:k=n:=(by omega);go_wp2;go_ret;exact⟨rfl,bA.out,hb⟩
theorem zAS(v:Value)(n lo hi:Nat)(f g:Nat->Int)(w:World)(h1:qk w lo hi v n f g) :
  Calls Tryz.prog 107 #[v] w fun e w'=>zJ (zAs n f g) e/\Below w.heap.size w w':=by
 have Hp:=zV h1;obtain⟨m1,a,c,rfl,mc,_⟩:=id h1;clear h1;unfold maxLen at m1;by_cases hn:n<=200
 ·have lA:¬(200:Int)<(n:Int):=(by omega);go_enter Tryz.func107,Tryz.ntmps107;go_wp2
  go_loopw [10] (fun i wr=>∃k:Nat,k<=n/\i = .int .i64 k/\(∀i,i<k->zGi (f i) (g i))/\Below w.heap.size w wr) (fun i _=>n - (intOf i).toNat)
  case atStart=>exact⟨0,Nat.zero_le _,rfl,fun j hj=>absurd hj (Nat.not_lt_zero _),Below.refl _ _⟩
  case round=>
   obtain⟨k,hk,rfl,cA,hb⟩:=hrel;have aA:=zV cA;clear cA;by_cases fA:k<n
   ·have kA:(k:Int)<(n:Int):=(by omega);obtain⟨b,off,rfl,q0,q1⟩:=(Hp.out.zbd hb).cellsD fA;have gA:=zA hb (zD wr (.cells #[.int .i64 (f k),.int .i64 (g k)] 44));go_wp2_with fail;refine(zPR (f k) (g k) _).mono ?_;rintro e w1 ⟨⟨t,rfl,ht⟩,dA⟩;have eA:=zA gA dA;clear dA gA q0 q1;by_cases bA:zGi (f k) (g k)
    ·have Hk:=zV bA;obtain rfl:t=true:=ht.2 bA;clear ht bA;go_wp2;go_roundw
     case rel=>exact⟨k+1,by omega,by go_num,qi fA aA.out Hk.out,eA⟩
     case measure=>simp[intOf];omega
    ·have Hk:=zV bA;obtain rfl:t=false:=zAR ht bA;clear ht bA;go_wp2;go_ret;exact⟨zJ.no fun h=>Hk.out (h.2.1 k fA),eA⟩
   ·obtain rfl:k=n:=(by omega);go_wp2_with fail;refine(zHu _ k lo hi f g _ (Hp.out.zbd hb) hn aA.out).mono ?_;rintro e w1 ⟨rfl,hm,dA⟩;have eA:=zA hb dA;have Hm:=zV hm;have mA:=zJl f g k;clear hm dA;obtain⟨nA,iA⟩:=mA;have jA:=zV iA;clear iA;go_wp2_with (first
     | (at_len;refine wpList_len_own _ rfl _ 160 rfl 2 2 zXD _ wr.heap.size k _ rfl Hm.out ?_)
     | go_in)
    go_ret;refine⟨⟨_,rfl,?_⟩,eA⟩;have Ho:=jA.out;have Ha:=aA.out;simp only[beq_iff_eq,Int.natCast_inj];exact Ho.trans ⟨fun h=>⟨hn,Ha,h⟩,fun h=>h.2.2⟩
 ·have lA:(200:Int)<(n:Int):=(by omega);go_enter Tryz.func107,Tryz.ntmps107;go_wp2;go_ret;exact⟨zJ.no fun h=>hn h.1,Below.refl _ _⟩
def zHN(n a b:Int):Prop:=a<=n/\n<=b
structure zHh where
 zbi:Int
 time:Int
 rs:Int
 rb:Int
 dn:Nat
 ds:Nat->Int
 db:Nat->Int
def zYo(s:yY):zHh:=⟨s.zbi,s.time,s.rs,s.rb,s.dn,s.ds,s.db⟩
def zYp(t:Int)(s:zB9):zHh:=⟨s.zbi,t,s.rs,s.rb,s.dn,s.ds,s.db⟩
def zI(W:zB)(i:Nat):zHh:=if i<W.pn then zYo (W.zbg i)else zYp W.time (W.zbh (i - W.pn))
def zj(W:zB):Nat:=W.pn+W.sn
theorem qq{W:zB}{i:Nat}(h:i<W.pn):zI W i=zYo (W.zbg i):=if_pos h
theorem zAi(W:zB)(i:Nat):zI W (W.pn+i)=zYp W.time (W.zbh i):=by
 unfold zI;rw[if_neg (by omega),show W.pn+i - W.pn=i by omega]
def zAL:yY:=⟨0,ByteArray.empty,ByteArray.empty,0,0,0,0,0,fun _=>0,fun _=>0⟩
open Classical in
noncomputable def zE(W:zB)(x:Int):yY:=if h:∃k,zAl W x k then W.zbg h.choose else zAL
theorem zAc{W:zB}{x:Int}{k:Nat}(h:zAl W x k):zE W x=W.zbg k:=by
 unfold zE;rw[dif_pos ⟨k,h⟩,zAl.uniq (Exists.choose_spec (⟨k,h⟩:∃k,zAl W x k)) h]
theorem zFx{W:zB}{x:Int}(h:∀k,k<W.pn->(W.zbg k).id≠x):zE W x=zAL:=by
 unfold zE;rw[dif_neg];rintro⟨k,hk⟩;exact h k hk.1 hk.2.1
theorem zJm{W:zB}{x:Int}:∀{n:Nat},n<=W.pn->(∃k,k<n/\(W.zbg k).id=x)->∃k,zAl W x k
 | 0,_,⟨k,hk,_⟩=>absurd hk (Nat.not_lt_zero _)
 | n+1,hn,⟨k,hk,e⟩=>by
  by_cases h:∃j,j<n/\(W.zbg j).id=x
  ·exact zJm (by omega) h
  ·have:k=n:=by
    by_cases h':k<n
    ·exact absurd ⟨k,h',e⟩ h
    ·omega
   subst this;exact⟨k,by omega,e,fun j hj he=>h ⟨j,hj,he⟩⟩
def zBn(W:zB)(m:zHh):List (Int×Int):=zH W.pool m.rs m.rb
noncomputable def zFd(W:zB)(m:zHh):List (Int×Int):=zH W.pool (zE W m.zbi).rs (zE W m.zbi).rb
def zBy(l m:List (Int×Int)):List (Int×Int):=l.filter (fun x=>decide (x∉m))
def yQ(l m:List (Int×Int)):List (Int×Int):=l.filter (fun x=>decide (x∈m))
def zCI(l:List (Int×Int))(t:Int):List (Int×Int):=l.filter (fun x=>decide (t<x.2))
noncomputable def zIF(W:zB)(m:zHh):List (Int×Int):=zBy (zBn W m) (zFd W m)
noncomputable def zAt(W:zB)(m:zHh):List (Int×Int):=zCI (zBn W m) (zE W m.zbi).time
def zED(n:Nat)(f g:Nat->Int)(l:List (Int×Int)):Prop:=zGU n f g l.length (zi l) (zu l)
def zJt(now old:List (Int×Int))(t tm:Int):Prop:=∀x,x∈now->x.2<=tm/\(x∈old↔x.2<=t)
def zNH(W:zB)(m:zHh):Prop:=zED m.dn m.ds m.db (zBy (zFd W m) (zBn W m))/\zJt (zBn W m) (zFd W m) (zE W m.zbi).time m.time
def zZJ(W:zB)(m:zHh):Prop:=m.rb<=m.time/\zED (zAt W m).length (zi (zAt W m)) (zu (zAt W m)) (zIF W m)/\zED m.dn m.ds m.db (zBy (zFd W m) (yQ (zBn W m) (zFd W m)))
theorem zUo(l m:List (Int×Int)):zBy m (yQ l m)=zBy m l:=by
 unfold zBy yQ;refine List.filter_congr fun x hx=>?_
 rw[decide_eq_decide];simp only[List.mem_filter,decide_eq_true_eq];exact⟨fun h h'=>h ⟨h',hx⟩,fun h h'=>h h'.1⟩
theorem zAu{l:List (Int×Int)}{i:Nat}(h:i<l.length):l.getD i (0,0)=l[i]:=by
 rw[List.getD_eq_getElem?_getD,List.getElem?_eq_getElem h,Option.getD_some]
theorem zC3{l:List (Int×Int)}{x y:Int}:PIn l.length (zi l) (zu l) x y↔(x,y)∈l:=by
 constructor
 ·rintro⟨j,hj,e1,e2⟩;unfold zi at e1;unfold zu at e2;rw[zAu hj]at e1 e2;have:l[j]=(x,y):=Prod.ext e1 e2;exact this▸List.getElem_mem hj
 ·intro h;obtain⟨j,hj,e⟩:=List.getElem_of_mem h;exact⟨j,hj,by unfold zi;rw[zAu hj,e],by unfold zu;rw[zAu hj,e]⟩
structure zEz (W:zB):Prop where
 right:zf W.pool
 ids:∀k,k<W.pn->(W.zbg k).zbi<(W.zbg k).id
 tree:∀i,i<zj W->zW W.pool (zI W i).rs (zI W i).rb
 time:∀i,i<zj W->0<=(zI W i).time
theorem zB6{p:zF}{rs rb:Int}(hR:zf p)(hT:zW p rs rb){x:Int×Int}(hx:x∈zH p rs rb):yF p x.1 x.2/\x.2<=rb/\¬Has p.hn p.h x.1:=by
 rcases(zMi hR).2 hT with hz | ⟨hP,_,hA⟩
 ·rw[zH,if_pos hz]at hx;simp at hx
 ·have:=zFB hR hP x hx;exact⟨this.1,this.2,hA.2 x hx⟩
theorem zCo{p:zF}{rs rb:Int}(hR:zf p)(hT:zW p rs rb):(zH p rs rb).Nodup:=by
 rcases(zMi hR).2 hT with hz | ⟨hP,_,hA⟩
 ·rw[zH,if_pos hz];exact List.nodup_nil
 ·exact hA.1
theorem zU7{p:zF}{x y:Int}(hR:zf p)(h:yF p x y):zGi x y:=by
 have hf:=zAT hR h;have h1:=hR.1;obtain⟨a,b,c,d⟩:=h;have:=hf.1.2;exact⟨b,by omega,a,by omega⟩
theorem zDH{p:zF}(hR:zf p){l:List (Int×Int)}(h:∀x,x∈l->yF p x.1 x.2)(hn:l.Nodup)(hl:l.length<=200):zAs l.length (zi l) (zu l):=by
 have hs:=(zJc h).2 hn;refine⟨hl,fun i hi=>?_,fun i hi k hk=>?_⟩
 ·unfold zi zu;rw[zAu hi];exact zU7 hR (h _ (List.getElem_mem hi))
 ·unfold zi;rw[zAu hi,zAu (show k<l.length by omega)];unfold zCV List.Nodup at hs;rw[List.pairwise_map]at hs;exact List.pairwise_iff_getElem.1 hs k i (by omega) hi hk
theorem zPQ{p:zF}(hR:zf p){T:List (Int×Int)}(hT:∀x,x∈T->yF p x.1 x.2)(hn:T.Nodup)(hl:T.length<=200)(P Q:Int×Int->Bool) :
  zED (T.filter P).length (zi (T.filter P)) (zu (T.filter P)) (T.filter Q)↔∀x,x∈T->P x=Q x:=by
 constructor
 ·rintro⟨_,_,aA,cA⟩;have h1:∀x,x∈T->P x=true->Q x=true:=fun x hx hp=>by
   have hm:x∈T.filter P:=List.mem_filter.2 ⟨hx,hp⟩;obtain⟨j,hj,e⟩:=List.getElem_of_mem hm;have:=cA j hj;rw[zC3]at this;unfold zi zu at this;rw[zAu hj,e]at this;exact(List.mem_filter.1 this).2
  have h2:(T.filter Q).filter P=T.filter P:=by
   rw[List.filter_filter];refine List.filter_congr fun x hx=>?_
   cases hp:P x
   ·rfl
   ·rw[h1 x hx hp];rfl
  have h3:((T.filter Q).filter P).length=(T.filter Q).length:=(by rw[h2,aA]);rw[List.length_filter_eq_length_iff]at h3;intro x hx;cases hq:Q x
  ·cases hp:P x
   ·rfl
   ·rw[h1 x hx hp]at hq;exact absurd hq (by simp)
  ·exact h3 x (List.mem_filter.2 ⟨hx,hq⟩)
 ·intro h;have e:T.filter P=T.filter Q:=List.filter_congr h;rw[e];have bA:zAs (T.filter Q).length (zi (T.filter Q)) (zu (T.filter Q)):=zDH hR (fun x hx=>hT x (List.mem_filter.1 hx).1) (hn.filter _) (Nat.le_trans (List.length_filter_le _ _) hl);exact⟨bA,bA,rfl,fun i hi=>⟨i,hi,rfl,rfl⟩⟩
theorem zL9{W:zB}(h:zEz W){i:Nat}(hi:i<zj W):zZJ W (zI W i)↔zNH W (zI W i):=by
 generalize hm:zI W i=m;have hT:=h.tree i hi;have eA:=h.time i hi;rw[hm]at hT eA;have bA:(zBn W m).length<=200:=by have:=qc W.pool m.rs m.rb;unfold zBn;omega
 have fA:∀x,x∈zBn W m->yF W.pool x.1 x.2:=fun x hx=>(zB6 h.right hT hx).1
 unfold zZJ zNH;rw[zUo];have key:zED (zAt W m).length (zi (zAt W m)) (zu (zAt W m)) (zIF W m)↔∀x,x∈zBn W m->(x∈zFd W m↔x.2<=(zE W m.zbi).time):=by
  unfold zAt zIF zCI zBy;rw[zPQ h.right fA (zCo h.right hT) bA];refine⟨fun hh x hx=>?_,fun hh x hx=>?_⟩
  ·have:=hh x hx;rw[decide_eq_decide]at this;constructor
   ·intro aA;by_cases dA:(zE W m.zbi).time<x.2
    ·exact absurd aA (this.1 dA)
    ·omega
   ·intro cA;by_cases aA:x∈zFd W m
    ·exact aA
    ·have:=this.2 aA;omega
  ·rw[decide_eq_decide];have:=hh x hx;constructor
   ·intro dA aA;have:=this.1 aA;omega
   ·intro aA;by_cases cA:x.2<=(zE W m.zbi).time
    ·exact absurd (this.2 cA) aA
    ·omega
 rw[key];constructor
 ·rintro⟨h1,h2,h3⟩;exact⟨h3,fun x hx=>⟨by have:=(zB6 h.right hT hx).2.1;omega,h2 x hx⟩⟩
 ·rintro⟨h1,h2⟩;refine⟨?_,fun x hx=>(h2 x hx).2,h1⟩;by_cases hz:Nil m.rs m.rb
  ·rw[hz.2];exact eA
  ·have hr:(m.rs,m.rb)∈zBn W m:=(by unfold zBn zH;rw[if_neg hz];simp);exact(h2 _ hr).1
theorem zVb{W:zB}{m:zHh}(hS:zNH W m):zAt W m=zIF W m:=by
 unfold zAt zIF zCI zBy;refine List.filter_congr fun x hx=>?_
 rw[decide_eq_decide];have:=(hS.2 x hx).2;constructor
 ·intro h1 h2;have:=this.1 h2;omega
 ·intro h1;by_cases h2:x.2<=(zE W m.zbi).time
  ·exact absurd (this.2 h2) h1
  ·omega
open Classical in
noncomputable def cnt(P:Nat->Prop):Nat->Nat
 | 0=>0
 | k+1=>cnt P k+(if P k then 1 else 0)
theorem zDm{P Q:Nat->Prop}:∀{n:Nat},(∀i,i<n->(P i↔Q i))->cnt P n=cnt Q n
 | 0,_=>rfl
 | n+1,h=>by
  unfold cnt;rw[zDm (fun i hi=>h i (by omega))];by_cases hp:P n
  ·rw[if_pos hp,if_pos ((h n (by omega)).1 hp)]
  ·rw[if_neg hp,if_neg (fun hq=>hp ((h n (by omega)).2 hq))]
theorem zV0{P Q:Nat->Prop}:∀{n:Nat},(∀i,i<n->P i->Q i)->cnt P n<=cnt Q n
 | 0,_=>Nat.le_refl _
 | n+1,h=>by
  unfold cnt;have:=zV0 (n:=n) (fun i hi=>h i (by omega));by_cases hp:P n
  ·rw[if_pos hp,if_pos (h n (by omega) hp)];omega
  ·rw[if_neg hp];omega
theorem zLM{P Q:Nat->Prop}:∀{n:Nat},(∀i,i<n->P i->Q i)->(cnt P n=cnt Q n↔∀i,i<n->(P i↔Q i))
 | 0,_=>⟨fun _ i hi=>absurd hi (Nat.not_lt_zero _),fun _=>rfl⟩
 | n+1,h=>by
  refine⟨fun e=>?_,fun e=>zDm e⟩;have aA:=zV0 (n:=n) (fun i hi=>h i (by omega));have ih:=zLM (n:=n) (fun i hi=>h i (by omega));unfold cnt at e;have hn:P n↔Q n:=by
   refine⟨h n (by omega),fun hq=>?_⟩;by_cases hp:P n
   ·exact hp
   ·rw[if_neg hp,if_pos hq]at e;omega
  have e':cnt P n=cnt Q n:=by
   by_cases hp:P n
   ·rw[if_pos hp,if_pos (hn.1 hp)]at e;omega
   ·rw[if_neg hp,if_neg (fun hq=>hp (hn.2 hq))]at e;omega
  intro i hi;by_cases e2:i=n
  ·subst e2;exact hn
  ·exact ih.1 e' i (by omega)
theorem zRw{P Q:Nat->Prop}:∀{n:Nat},(∀i,i<n->P i->¬Q i)->cnt (fun i=>P i\/Q i) n=cnt P n+cnt Q n
 | 0,_=>rfl
 | n+1,h=>by
  unfold cnt;rw[zRw (fun i hi=>h i (by omega))];by_cases hp:P n
  ·rw[if_pos (Or.inl hp),if_pos hp,if_neg (h n (by omega) hp)];omega
  ·by_cases hq:Q n
   ·rw[if_pos (Or.inr hq),if_neg hp,if_pos hq];omega
   ·rw[if_neg (fun h=>h.elim hp hq),if_neg hp,if_neg hq];omega
theorem zOn(P:Nat->Prop):∀n,cnt P n+cnt (fun i=>¬P i) n=n
 | 0=>rfl
 | n+1=>by
  have:=zOn P n;unfold cnt;by_cases hp:P n
  ·rw[if_pos hp,if_neg (fun h=>h hp)];omega
  ·rw[if_neg hp,if_pos hp];omega
theorem zLN{P:Nat->Prop}:∀{n:Nat},(∀i,i<n->¬P i)->cnt P n=0
 | 0,_=>rfl
 | n+1,h=>by
  unfold cnt;rw[zLN (fun i hi=>h i (by omega)),if_neg (h n (by omega))]
theorem zTE:∀{n a:Nat},a<n->cnt (fun i=>i=a) n=1
 | 0,a,h=>absurd h (Nat.not_lt_zero _)
 | n+1,a,h=>by
  unfold cnt;by_cases e:n=a
  ·subst e;rw[if_pos rfl,zLN (fun i hi=>by omega)]
  ·rw[if_neg e,zTE (by omega)]
theorem zIe{n:Nat}:∀{l:List Nat},l.Nodup->(∀x,x∈l->x<n)->cnt (fun i=>i∈l) n=l.length
 | [],_,_=>zLN (fun i hi=>by simp)
 | a :: l,hn,hl=>by
  obtain⟨h1,h2⟩:=List.nodup_cons.1 hn;have e1:cnt (fun i=>i∈a :: l) n=cnt (fun i=>i=a\/i∈l) n:=zDm (fun i _=>List.mem_cons);have e2:cnt (fun i=>i=a\/i∈l) n=cnt (fun i=>i=a) n+cnt (fun i=>i∈l) n:=zRw (fun i _ (e:i=a) hi=>h1 (e▸hi));rw[e1,e2,zTE (hl a (by simp)),zIe h2 (fun x hx=>hl x (by simp[hx])),List.length_cons];omega
theorem zQG(f:Nat->zN):∀n,roomN f n=cnt (fun i=>yZ (f i)) n
 | 0=>rfl
 | n+1=>by unfold roomN cnt;rw[zQG f n]
theorem zVz{p:zF}(hR:zf p):cnt (fun i=>Has p.hn p.h i) p.n=p.hn:=by
 have h:=hR.2.2;have hl:∀x,x∈(List.range p.hn).map (fun j=>(p.h j).toNat)->x<p.n:=by
  intro x hx;obtain⟨j,hj,rfl⟩:=List.mem_map.1 hx;have:=h j (List.mem_range.1 hj);have h1:=this.1;have h2:=this.2.1;omega
 have hn:((List.range p.hn).map (fun j=>(p.h j).toNat)).Nodup:=by
  unfold List.Nodup;rw[List.pairwise_map];refine List.Pairwise.imp_of_mem ?_ (List.pairwise_lt_range);intro a b ha hb aA e;have h1:=h a (List.mem_range.1 ha);have h2:=h b (List.mem_range.1 hb);have:=h1.1;have:=h2.1;exact h2.2.2.2 ⟨a,aA,by omega⟩
 have:=zIe hn hl;rw[List.length_map,List.length_range]at this;refine Eq.trans (zDm (fun i hi=>?_)) this;constructor
 ·rintro⟨j,hj,e⟩;exact List.mem_map.2 ⟨j,List.mem_range.2 hj,by rw[e];simp⟩
 ·intro hx;obtain⟨j,hj,e⟩:=List.mem_map.1 hx;have:=(h j (List.mem_range.1 hj)).1;exact⟨j,List.mem_range.1 hj,by omega⟩
theorem zLO{p:zF}(hR:zf p):cnt (fun i=>¬yZ (p.s i)/\¬Has p.hn p.h i) p.n+roomN p.s p.n+p.hn=p.n:=by
 have h1:=zOn (fun i=>yZ (p.s i)\/Has p.hn p.h i) p.n;have h2:cnt (fun i=>yZ (p.s i)\/Has p.hn p.h i) p.n=cnt (fun i=>yZ (p.s i)) p.n+cnt (fun i=>Has p.hn p.h i) p.n:=zRw (fun i hi hf=>by
  rintro⟨j,hj,e⟩;have:=(hR.2.2 j hj).2.2.1;rw[e]at this;simp only[Int.toNat_natCast]at this;exact this hf)
 rw[zVz hR,<-zQG]at h2;have h3:cnt (fun i=>¬(yZ (p.s i)\/Has p.hn p.h i)) p.n=cnt (fun i=>¬yZ (p.s i)/\¬Has p.hn p.h i) p.n:=zDm (fun i _=>not_or);omega
def zS7(W:zB):Prop:=∀i,i<W.pool.n->((∃m,m<zj W/\∃b,((i:Int),b)∈zBn W (zI W m))↔(¬yZ (W.pool.s i)/\¬Has W.pool.hn W.pool.h i))
def zHx(W:zB):Prop:=∀i,i<zj W->∀j,j<i->∀x,x∈zIF W (zI W i)->∀y,y∈zIF W (zI W j)->x.1≠y.1
noncomputable def zg(W:zB):Nat->List (Int×Int)
 | 0=>[]
 | k+1=>zg W k ++ zAt W (zI W k)
def zIU(W:zB):Prop:=(zg W (zj W)).Nodup/\(zg W (zj W)).length+roomN W.pool.s W.pool.n+W.pool.hn=W.pool.n
theorem zFZ{W:zB}{x:Int×Int}:∀{k:Nat},x∈zg W k↔∃i,i<k/\x∈zAt W (zI W i)
 | 0=>by simp[zg]
 | k+1=>by
  unfold zg;rw[List.mem_append,zFZ];constructor
  ·rintro(⟨i,hi,h⟩ | h)
   ·exact⟨i,by omega,h⟩
   ·exact⟨k,by omega,h⟩
  ·rintro⟨i,hi,h⟩;by_cases e:i=k
   ·subst e;exact Or.inr h
   ·exact Or.inl ⟨i,by omega,h⟩
theorem zJ3{W:zB}:∀{k:Nat},(∀i,i<k->(zAt W (zI W i)).Nodup)->((zg W k).Nodup↔∀i,i<k->∀j,j<i->∀x,x∈zAt W (zI W i)->x∉zAt W (zI W j))
 | 0,_=>⟨fun _ i hi=>absurd hi (Nat.not_lt_zero _),fun _=>List.nodup_nil⟩
 | k+1,hy=>by
  unfold zg;rw[List.nodup_append,zJ3 (fun i hi=>hy i (by omega))];constructor
  ·rintro⟨h1,h2,h3⟩ i hi j hj x hx aA;by_cases e:i=k
   ·subst e;exact h3 x (zFZ.2 ⟨j,hj,aA⟩) x hx rfl
   ·exact h1 i (by omega) j hj x hx aA
  ·intro h;refine⟨fun i hi=>h i (by omega),hy k (by omega),fun x hx y bA e=>?_⟩;subst e;obtain⟨i,hi,hx⟩:=zFZ.1 hx;exact h k (by omega) i hi x bA hx
theorem zQT{W:zB}(h:zEz W){x:Int×Int}:∀(N:Nat) (k:Nat),k<W.pn->(W.zbg k).id<N->0<=(W.zbg k).id->(∀j,j<W.pn->0<=(W.zbg j).id)->x∈zBn W (zI W k)->∃i,i<zj W/\x∈zIF W (zI W i)
 | 0,k,hk,h1,h2,_,_=>by omega
 | N+1,k,hk,h1,h2,h0,hx=>by
  by_cases ho:x∈zFd W (zI W k)
  ·have aA:∃j,zAl W (zI W k).zbi j:=by
    refine Classical.byContradiction fun bA=>?_
    have:zE W (zI W k).zbi=zAL:=(by unfold zE;rw[dif_neg bA]);unfold zFd at ho;rw[this,zH,if_pos ⟨rfl,rfl⟩]at ho;simp at ho
   obtain⟨j,hj⟩:=aA;unfold zFd at ho;rw[zAc hj]at ho;have e1:(zI W k).zbi=(W.zbg k).zbi:=(by rw[qq hk];rfl);have:=h.ids k hk;have:=hj.2.1;exact zQT h N j hj.1 (by omega) (h0 j hj.1) h0 (by rw[qq hj.1];exact ho)
  ·exact⟨k,by unfold zj;omega,List.mem_filter.2 ⟨hx,by simpa using ho⟩⟩
theorem zWE{W:zB}(h:zEz W)(h0:∀j,j<W.pn->0<=(W.zbg j).id){x:Int×Int}{m:Nat}(hm:m<zj W)(hx:x∈zBn W (zI W m)):∃i,i<zj W/\x∈zIF W (zI W i):=by
 by_cases ho:x∈zFd W (zI W m)
 ·have aA:∃j,zAl W (zI W m).zbi j:=by
   refine Classical.byContradiction fun bA=>?_
   have:zE W (zI W m).zbi=zAL:=(by unfold zE;rw[dif_neg bA]);unfold zFd at ho;rw[this,zH,if_pos ⟨rfl,rfl⟩]at ho;simp at ho
  obtain⟨j,hj⟩:=aA;unfold zFd at ho;rw[zAc hj]at ho;have:=h0 j hj.1;exact zQT h ((W.zbg j).id.toNat+1) j hj.1 (by omega) (h0 j hj.1) h0 (by rw[qq hj.1];exact ho)
 ·exact⟨m,hm,List.mem_filter.2 ⟨hx,by simpa using ho⟩⟩
theorem zNp{W:zB}(h:zEz W)(h0:∀j,j<W.pn->0<=(W.zbg j).id)(hM:∀i,i<zj W->zNH W (zI W i)):zIU W↔zS7 W/\zHx W:=by
 have hy:∀i,i<zj W->zAt W (zI W i)=zIF W (zI W i):=fun i hi=>zVb (hM i hi)
 have oA:∀i,i<zj W->(zAt W (zI W i)).Nodup:=fun i hi=>(zCo h.right (h.tree i hi)).filter _
 have kA:∀i,i<zj W->∀x,x∈zIF W (zI W i)->x∈zBn W (zI W i):=fun i _ x hx=>(List.mem_filter.1 hx).1
 have fA:∀i,i<zj W->∀x,x∈zBn W (zI W i)->yF W.pool x.1 x.2/\¬Has W.pool.hn W.pool.h x.1:=fun i hi x hx=>⟨(zB6 h.right (h.tree i hi) hx).1,(zB6 h.right (h.tree i hi) hx).2.2⟩
 have eA:∀x y:Int×Int,yF W.pool x.1 x.2->yF W.pool y.1 y.2->x.1=y.1->x=y:=fun x y hx dA e=>by
  have a1:=hx.2.2.2;have a2:=dA.2.2.2;rw[e]at a1;exact Prod.ext e (a1.symm.trans a2)
 have hA:(zg W (zj W)).Nodup↔zHx W:=by
  rw[zJ3 oA];unfold zHx;constructor
  ·intro hh i hi j hj x hx y dA e;have sA:=eA x y (fA i hi x (kA i hi x hx)).1 (fA j (by omega) y (kA j (by omega) y dA)).1 e;subst sA;exact hh i hi j hj x (by rw[hy i hi];exact hx) (by rw[hy j (by omega)];exact dA)
  ·intro hh i hi j hj x hx rA;exact hh i hi j hj x (by rw[<-hy i hi];exact hx) x (by rw[<-hy j (by omega)];exact rA) rfl
 have aA:∀x,x∈zg W (zj W)↔∃m,m<zj W/\x∈zBn W (zI W m):=fun x=>by
  rw[zFZ];constructor
  ·rintro⟨i,hi,hx⟩;rw[hy i hi]at hx;exact⟨i,hi,kA i hi x hx⟩
  ·rintro⟨m,hm,hx⟩;obtain⟨i,hi,hx⟩:=zWE h h0 hm hx;exact⟨i,hi,by rw[hy i hi];exact hx⟩
 unfold zIU;rw[hA];constructor
 ·rintro⟨ha,nA⟩;refine⟨?_,ha⟩;have bA:=hA.2 ha;have hpL:∀x,x∈zg W (zj W)->yF W.pool x.1 x.2:=fun x hx=>by
   obtain⟨m,hm,hx⟩:=(aA x).1 hx;exact(fA m hm x hx).1
  have hl:∀x,x∈(zg W (zj W)).map (fun x=>x.1.toNat)->x<W.pool.n:=by
   intro x hx;obtain⟨y,dA,rfl⟩:=List.mem_map.1 hx;have:=hpL y dA;have h1:=this.2.1;have h2:=this.2.2.1;omega
  have mA:((zg W (zj W)).map (fun x=>x.1.toNat)).Nodup:=by
   unfold List.Nodup;rw[List.pairwise_map];refine List.Pairwise.imp_of_mem ?_ bA;intro a b gA iA lA e;have p1:=hpL a gA;have p2:=hpL b iA;have:=p1.2.1;have:=p2.2.1;exact lA (eA a b p1 p2 (by omega))
  have hc:=zIe mA hl;rw[List.length_map]at hc;have hr:=zLO h.right;have cA:∀i,i<W.pool.n->(i∈(zg W (zj W)).map (fun x=>x.1.toNat)↔∃m,m<zj W/\∃b,((i:Int),b)∈zBn W (zI W m)):=by
   intro i hi;rw[List.mem_map];constructor
   ·rintro⟨x,hx,e⟩;have:=(hpL x hx).2.1;obtain⟨m,hm,hx⟩:=(aA x).1 hx;exact⟨m,hm,x.2,by rw[show(i:Int)=x.1 by omega];exact hx⟩
   ·rintro⟨m,hm,b,hx⟩;exact⟨(i,b),(aA _).2 ⟨m,hm,hx⟩,by simp⟩
  have jA:∀i,i<W.pool.n->i∈(zg W (zj W)).map (fun x=>x.1.toNat)->¬yZ (W.pool.s i)/\¬Has W.pool.hn W.pool.h i:=by
   intro i hi hx;obtain⟨m,hm,b,hx⟩:=(cA i hi).1 hx;have:=fA m hm _ hx;refine⟨fun hf=>?_,this.2⟩;have h1:=this.1.1;have h2:=this.1.2.2.2;simp only[Int.toNat_natCast]at h2;rw[hf.1]at h2;simp only at h1 h2;omega
  have:=(zLM jA).1 (by rw[hc];omega);intro i hi;rw[<-cA i hi];exact this i hi
 ·rintro⟨pA,ha⟩;refine⟨ha,?_⟩;have bA:=hA.2 ha;have hpL:∀x,x∈zg W (zj W)->yF W.pool x.1 x.2:=fun x hx=>by
   obtain⟨m,hm,hx⟩:=(aA x).1 hx;exact(fA m hm x hx).1
  have hl:∀x,x∈(zg W (zj W)).map (fun x=>x.1.toNat)->x<W.pool.n:=by
   intro x hx;obtain⟨y,dA,rfl⟩:=List.mem_map.1 hx;have:=hpL y dA;have h1:=this.2.1;have h2:=this.2.2.1;omega
  have mA:((zg W (zj W)).map (fun x=>x.1.toNat)).Nodup:=by
   unfold List.Nodup;rw[List.pairwise_map];refine List.Pairwise.imp_of_mem ?_ bA;intro a b gA iA lA e;have p1:=hpL a gA;have p2:=hpL b iA;have:=p1.2.1;have:=p2.2.1;exact lA (eA a b p1 p2 (by omega))
  have hc:=zIe mA hl;rw[List.length_map]at hc;have hr:=zLO h.right;have cA:∀i,i<W.pool.n->(i∈(zg W (zj W)).map (fun x=>x.1.toNat)↔∃m,m<zj W/\∃b,((i:Int),b)∈zBn W (zI W m)):=by
   intro i hi;rw[List.mem_map];constructor
   ·rintro⟨x,hx,e⟩;have:=(hpL x hx).2.1;obtain⟨m,hm,hx⟩:=(aA x).1 hx;exact⟨m,hm,x.2,by rw[show(i:Int)=x.1 by omega];exact hx⟩
   ·rintro⟨m,hm,b,hx⟩;exact⟨(i,b),(aA _).2 ⟨m,hm,hx⟩,by simp⟩
  have:=zDm (P:=fun i=>i∈(zg W (zj W)).map (fun x=>x.1.toNat)) (Q:=fun i=>¬yZ (W.pool.s i)/\¬Has W.pool.hn W.pool.h i) (n:=W.pool.n) (fun i hi=>(cA i hi).trans (pA i hi));omega
theorem zBS.atW{w:World}{base:Nat}{v:Value}{l:List (Int×Int)}(h:zBS w base v l)(hm:l.length<=1000):qk w 0 w.heap.size v l.length (zi l) (zu l):=by
 obtain⟨b,h1,h2⟩:=h.own (by unfold maxLen;omega);exact h1.at (fun h0=>⟨Nat.zero_le _,(h2 h0).2.2⟩)
def zZI(now old:List (Int×Int))(t tm:Int)(n:Nat):Prop:=∀i,i<n->zu now i<=tm/\((zi now i,zu now i)∈old↔zu now i<=t)
theorem zTA(aA bA:List (Int×Int))(t tm:Int):zZI aA bA t tm aA.length↔zJt aA bA t tm:=by
 constructor
 ·intro h x hx;obtain⟨j,hj,e⟩:=List.getElem_of_mem hx;have:=h j hj;unfold zi zu at this;rw[zAu hj,e]at this;exact this
 ·intro h i hi;have:=h _ (List.getElem_mem hi);unfold zi zu;rw[zAu hi];exact this
def zOZ(W:zB):Prop:=∀k,k<W.pn->1<=(W.zbg k).id
def zFu(i:Nat)(c:Int):Prop:=(97<=c/\c<=122)\/(i≠0/\((48<=c/\c<=57)\/c=95))
def zDM(s:ByteArray):Prop:=1<=s.size/\s.size<=20/\∀j,(h:j<s.size)->zFu j (s[j].toNat:Int)
theorem zbN{s:ByteArray}{k:Nat}(cA:k<s.size)(aA:∀j,(h:j<k)->(h':j<s.size)->zFu j (s[j].toNat:Int))(bA:zFu k (s[k].toNat:Int)) :
  ∃m:Nat,m<=s.size/\Value.int .i64 ((k:Int)+1) = .int .i64 (m:Int)/\∀j,(h:j<m)->(h':j<s.size)->zFu j (s[j].toNat:Int):=by
 refine⟨k+1,by omega,by simp,fun j h h'=>?_⟩;by_cases e:j=k
 ·subst e;exact bA
 ·exact aA j (by omega) h'
theorem zbM{s:ByteArray}(bA:0<s.size)(aA:zFu 0 (s[0].toNat:Int)) :
  ∃m:Nat,m<=s.size/\Value.int .i64 1 = .int .i64 (m:Int)/\∀j,(h:j<m)->(h':j<s.size)->zFu j (s[j].toNat:Int):=by
 refine⟨1,by omega,by simp,fun j h h'=>?_⟩;obtain rfl:j=0:=by omega
 exact aA
theorem zIm(s:ByteArray)(w:World)(hs:s.size<=maxLen) :
  Calls Tryz.prog 61 #[.string s] w fun e w'=>zJ (zDM s) e/\w'=w:=by
 unfold maxLen at hs;by_cases h1:s.size<1
 ·have eA:(s.size:Int)<1:=(by omega);go_enter Tryz.func61,Tryz.ntmps61;go_wp2;go_ret;exact⟨⟨false,rfl,by simp[zDM];omega⟩,rfl⟩
 by_cases h2:20<s.size
 ·have gA:(20:Int)<(s.size:Int):=(by omega);have eA:¬(s.size:Int)<1:=(by omega);go_enter Tryz.func61,Tryz.ntmps61;go_wp2;go_ret;exact⟨⟨false,rfl,by simp[zDM];omega⟩,rfl⟩
 have eA:¬(s.size:Int)<1:=by omega
 have gA:¬(20:Int)<(s.size:Int):=by omega
 have h0:0<s.size:=by omega
 by_cases cA:97<=(s[0].toNat:Int)/\(s[0].toNat:Int)<=122
 ·obtain⟨fA,iA⟩:=cA;go_enter Tryz.func61,Tryz.ntmps61;go_wp2
  go_loop [20] (fun i=>∃k:Nat,k<=s.size/\i = .int .i64 k/\∀j,(h:j<k)->(h':j<s.size)->zFu j (s[j].toNat:Int)) (fun i=>s.size - (intOf i).toNat)
  case atStart=>exact⟨0,Nat.zero_le _,rfl,fun j h=>absurd h (Nat.not_lt_zero _)⟩
  case round=>
   obtain⟨k,hk,rfl,bA⟩:=hrel;have aA:Hid (∀j,(h:j<k)->(h':j<s.size)->zFu j (s[j].toNat:Int)):=bA;clear bA;by_cases dA:k<s.size
   ·by_cases jA:k=0
    all_goals try subst jA
    all_goals go_wp2
    all_goals try (go_ret;refine⟨⟨false,rfl,?_⟩,rfl⟩;simp only[Bool.false_eq_true,false_iff];intro h;have h3:=h.2.2 _ dA;unfold zFu at h3;first | omega | grind)
    all_goals
     go_round
     case measure=>simp[intOf];omega
     case rel=>first | exact zbM dA (by unfold zFu;first | omega | grind) | exact zbN dA aA.out (by unfold zFu;first | omega | grind)
   ·go_wp2;go_ret;refine⟨⟨true,rfl,?_⟩,rfl⟩;simp only[true_iff];exact⟨by omega,by omega,fun j h=>aA.out j (by omega) h⟩
 ·by_cases fA:97<=(s[0].toNat:Int)
  ·have iA:¬(s[0].toNat:Int)<=122:=fun h=>cA ⟨fA,h⟩
   clear cA;go_enter Tryz.func61,Tryz.ntmps61;go_wp2;go_ret;refine⟨⟨false,rfl,?_⟩,rfl⟩;simp only[Bool.false_eq_true,false_iff];intro h;have h3:=h.2.2 _ h0;unfold zFu at h3;omega
  ·clear cA;go_enter Tryz.func61,Tryz.ntmps61;go_wp2;go_ret;refine⟨⟨false,rfl,?_⟩,rfl⟩;simp only[Bool.false_eq_true,false_iff];intro h;have h3:=h.2.2 _ h0;unfold zFu at h3;omega
def zCW(a b:ByteArray):Prop:=Op.bytesLess a.toList b.toList=true
theorem zP4:∀x y:List UInt8,Op.bytesLess x y=true\/x=y\/Op.bytesLess y x=true
 | [],[]=>Or.inr (Or.inl rfl)
 | [],b :: y=>Or.inl (by simp[Op.bytesLess])
 | a :: x,[]=>Or.inr (Or.inr (by simp[Op.bytesLess]))
 | a :: x,b :: y=>by
  simp only[Op.bytesLess,Bool.or_eq_true,decide_eq_true_eq,Bool.and_eq_true,beq_iff_eq,List.cons.injEq];by_cases h:a=b
  ·subst h;rcases zP4 x y with h | h | h
   ·exact Or.inl (Or.inr ⟨rfl,h⟩)
   ·exact Or.inr (Or.inl ⟨rfl,h⟩)
   ·exact Or.inr (Or.inr (Or.inr ⟨rfl,h⟩))
  ·have:a<b\/b<a:=by
    have aA:a.toNat≠b.toNat:=fun e=>h (UInt8.toNat_inj.1 e)
    rw[UInt8.lt_iff_toNat_lt,UInt8.lt_iff_toNat_lt];omega
   rcases this with h | h
   ·exact Or.inl (Or.inl h)
   ·exact Or.inr (Or.inr (Or.inl h))
theorem zJQ:∀x:List UInt8,Op.bytesLess x x=false
 | []=>rfl
 | a :: x=>by simp[Op.bytesLess,zJQ x]
theorem zP3:∀x y:List UInt8,Op.bytesLess x y=true->Op.bytesLess y x=false
 | [],[],h=>by simp[Op.bytesLess]at h
 | [],b :: y,_=>by simp[Op.bytesLess]
 | a :: x,[],h=>by simp[Op.bytesLess]at h
 | a :: x,b :: y,h=>by
  simp only[Op.bytesLess,Bool.or_eq_true,decide_eq_true_eq,Bool.and_eq_true,beq_iff_eq]at h;rw[<-Bool.not_eq_true];simp only[Op.bytesLess,Bool.or_eq_true,decide_eq_true_eq,Bool.and_eq_true,beq_iff_eq,UInt8.lt_iff_toNat_lt]at h ⊢;rintro(h' | ⟨h',h2⟩)
  ·rcases h with h | ⟨h,_⟩
   ·omega
   ·subst h;omega
  ·subst h';rcases h with h | ⟨_,h⟩
   ·omega
   ·rw[zP3 x y h]at h2;exact absurd h2 (by simp)
theorem zCf{a b:ByteArray}(h:a.toList=b.toList):a=b:=by
 rw[Go.ByteArray.toList_eq,Go.ByteArray.toList_eq]at h;cases a;cases b;simp only[ByteArray.mk.injEq]at *;exact Array.toList_inj.1 h
theorem zTU(a b:ByteArray):(Op.bytesLess a.toList b.toList || a.toList == b.toList)=false↔zCW b a:=by
 unfold zCW;rw[Bool.or_eq_false_iff,beq_eq_false_iff_ne];constructor
 ·rintro⟨h1,h2⟩;rcases zP4 a.toList b.toList with h | h | h
  ·rw[h1]at h;exact absurd h (by simp)
  ·exact absurd h h2
  ·exact h
 ·intro h;refine⟨zP3 _ _ h,fun e=>?_⟩;rw[e,zJQ]at h;exact absurd h (by simp)
theorem zP5:∀x y z:List UInt8,Op.bytesLess x y=true->Op.bytesLess y z=true->Op.bytesLess x z=true
 | _,[],_,h,_=>by cases ‹List UInt8›<;>simp[Op.bytesLess]at h
 | [],_ :: _,[],_,h=>by simp[Op.bytesLess]at h
 | [],_ :: _,_ :: _,_,_=>by simp[Op.bytesLess]
 | _ :: _,_ :: _,[],_,h=>by simp[Op.bytesLess]at h
 | a :: x,b :: y,c :: z,h,h'=>by
  simp only[Op.bytesLess,Bool.or_eq_true,decide_eq_true_eq,Bool.and_eq_true,beq_iff_eq,UInt8.lt_iff_toNat_lt]at h h' ⊢;rcases h with h | ⟨h,h1⟩
  ·rcases h' with h' | ⟨h',h2⟩
   ·left;omega
   ·subst h';left;exact h
  ·subst h;rcases h' with h' | ⟨h',h2⟩
   ·left;exact h'
   ·subst h';right;exact⟨rfl,zP5 x y z h1 h2⟩
def zAC(W:zB)(x:Int):Prop:=∃k,k<W.pn/\(W.zbg k).id=x
def zA4(W:zB)(x:ByteArray):Prop:=∃k,k<W.sn/\(W.zbh k).name=x
def zK8(W:zB)(i:Nat):Prop:=zDM (W.zbh i).name/\(0<i->zCW (W.zbh (i - 1)).name (W.zbh i).name)/\((W.zbh i).zbi≠0->zAC W (W.zbh i).zbi)/\((W.zbh i).origin≠0->zAC W (W.zbh i).origin)
def zaw(W:zB)(i:Nat):Prop:=1<=(W.zbg i).id/\(W.zbg i).id<W.next/\1<=(W.zbg i).time/\(W.zbg i).time<W.time/\zDM (W.zbg i).name/\zA4 W (W.zbg i).set
def zZO(W:zB)(i:Nat):Prop:=(0<i->(W.zbg (i - 1)).id<(W.zbg i).id/\(W.zbg (i - 1)).time<(W.zbg i).time)/\((W.zbg i).zbi≠0->(W.zbg i).zbi<(W.zbg i).id/\zAC W (W.zbg i).zbi)
def zZP(W:zB)(i j:Nat):Prop:=∀k,k<j->¬((W.zbg k).set=(W.zbg i).set/\(W.zbg k).name=(W.zbg i).name)
def zRl(W:zB)(i:Nat):Prop:=zaw W i/\zZO W i/\zZP W i i
def zAU(W:zB):Prop:=zHN W.time 1 900000/\zHN W.next 1 900000/\W.sn<=8/\W.pn<=20/\(∀i,i<W.sn->zK8 W i)/\∀i,i<W.pn->zRl W i
theorem zLY{W:zB}{x r:Int}(h:zOX W.pn (fun k=>(W.zbg k).id=x) r):(zAC W x/\0<=r/\r<W.pn/\(W.zbg r.toNat).id=x)\/(¬zAC W x/\r = -1):=by
 rcases h with⟨k,hk,e,_,rfl⟩ | ⟨hn,rfl⟩
 ·exact Or.inl ⟨⟨k,hk,e⟩,by omega,by omega,by simpa using e⟩
 ·exact Or.inr ⟨fun ⟨k,hk,e⟩=>hn k hk e,rfl⟩
theorem zUa{W:zB}{x:ByteArray}{r:Int}(h:zOX W.sn (fun k=>(W.zbh k).name=x) r):(zA4 W x/\0<=r)\/(¬zA4 W x/\r = -1):=by
 rcases h with⟨k,hk,e,_,rfl⟩ | ⟨hn,rfl⟩
 ·exact Or.inl ⟨⟨k,hk,e⟩,by omega⟩
 ·exact Or.inr ⟨fun ⟨k,hk,e⟩=>hn k hk e,rfl⟩
def zFL(w:World)(b:Nat)(v0 v1 v2 v3 v4 v5 v6 v7:Value):Prop:=(yT w b 0 v0/\yT w b 1 v1/\yT w b 2 v2/\yT w b 3 v3)/\(yT w b 4 v4/\yT w b 5 v5/\yT w b 6 v6/\yT w b 7 v7)
theorem zFL.zbd{w w':World}{b:Nat}{v0 v1 v2 v3 v4 v5 v6 v7:Value}(h:zFL w b v0 v1 v2 v3 v4 v5 v6 v7)(t:Below w.heap.size w w'):zFL w' b v0 v1 v2 v3 v4 v5 v6 v7:=
 ⟨⟨h.1.1.zbd t,h.1.2.1.zbd t,h.1.2.2.1.zbd t,h.1.2.2.2.zbd t⟩,h.2.1.zbd t,h.2.2.1.zbd t,h.2.2.2.1.zbd t,h.2.2.2.2.zbd t⟩
theorem zFL.new(w:World)(v0 v1 v2 v3 v4 v5 v6 v7:Value)(t:TypeId):zFL (w.alloc (.cells #[v0,v1,v2,v3,v4,v5,v6,v7] t)) w.heap.size v0 v1 v2 v3 v4 v5 v6 v7:=by
 have hb:(w.alloc (.cells #[v0,v1,v2,v3,v4,v5,v6,v7] t)).heap[w.heap.size]?=some (.cells #[v0,v1,v2,v3,v4,v5,v6,v7] t):=heap_alloc_new _ _;exact⟨⟨zL hb rfl,zL hb rfl,zL hb rfl,zL hb rfl⟩,zL hb rfl,zL hb rfl,zL hb rfl,zL hb rfl⟩
end Go.Proofs.YtginldeebkfbgaaGreat
