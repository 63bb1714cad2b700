/- A part of the proof. -/
import Derived.Test.YtmgeglgboadfiaaGreatDoorU19
set_option linter.unusedVariables false
set_option maxRecDepth 20000
set_option maxHeartbeats 4000000
namespace Go.Proofs.YtmgeglgboadfiaaGreatDoor
open Go.RowKit
def zAh(k:Nat)(out:ByteArray):ByteArray:=
 if h:k=0 then out else zAh (k / 10) (⟨#[48+UInt8.ofNat (k % 10)]⟩ ++ out)
termination_by k
decreasing_by omega
def mtF(k:Int):ByteArray:=if k<=0 then⟨#[109,48]⟩else⟨#[109]⟩ ++ zAh k.toNat ⟨#[]⟩
theorem zJ7{n:Nat}(h:(n:Int)<=1000000000000):n<10 ^ (13 - (⟨#[]⟩:ByteArray).size):=by
 show n<10 ^ 13;omega
theorem zKN(x:UInt8)(out:ByteArray):((⟨#[x]⟩:ByteArray) ++ out).size=out.size+1:=by
 rw[ByteArray.size_append];show 1+out.size=_;omega
theorem zNW{m:Nat}{out:ByteArray}(h:m<10 ^ (13 - out.size)):m<=10000000000000:=by
 have h2:10 ^ (13 - out.size)<=10 ^ 13:=Nat.pow_le_pow_right (by omega) (by omega);omega
theorem zLx{m:Nat}{out:ByteArray}(x:UInt8)(h0:¬m=0)(h:m<10 ^ (13 - out.size))(h2:out.size<=13) :
  m / 10<10 ^ (13 - ((⟨#[x]⟩:ByteArray) ++ out).size)/\((⟨#[x]⟩:ByteArray) ++ out).size<=13:=by
 rw[zKN];by_cases e:out.size=13
 ·rw[e]at h;simp at h;omega
 ·obtain⟨j,hj⟩:∃j,13 - out.size=j+1:=⟨12 - out.size,by omega⟩;rw[hj,Nat.pow_succ]at h;have:13 - (out.size+1)=j:=(by omega);rw[this];exact⟨by omega,by omega⟩
theorem zOA{m:Nat}{out:ByteArray}(h0:¬m=0):zAh (m / 10) (⟨#[48+UInt8.ofNat (m % 10)]⟩ ++ out)=zAh m out:=by
 conv=>rhs;rw[zAh]
 rw[dif_neg h0]
theorem zN9(m:Nat):∀(out:ByteArray),m<10 ^ (13 - out.size)->out.size<=13->(zAh m out).size<=13:=by
 induction m using Nat.strongRecOn with
 | _ m ih=>
  intro out h h2;by_cases h0:m=0
  ·rw[zAh,dif_pos h0];exact h2
  ·rw[zAh,dif_neg h0];have:=zLx (48+UInt8.ofNat (m % 10)) h0 h h2;exact ih (m / 10) (by omega) _ this.1 this.2
theorem zE5{k:Int}(hk:k<=1000000000000):(mtF k).size<=maxLen:=by
 unfold mtF maxLen;split
 ·decide
 ·have h:(zAh k.toNat ⟨#[]⟩).size<=13:=zN9 _ _ (zJ7 (by omega)) (Nat.zero_le _);rw[zKN];omega
theorem zM9(w:World)(n:Int):(convert 216 9 (.slice (some ⟨w.heap.size,0,none⟩) 1 1)).run Tryz.prog (w.alloc (.cells #[.int .u8 n] 5)) = .ok (.string ⟨#[UInt8.ofNat n.toNat]⟩) (w.alloc (.cells #[.int .u8 n] 5)):=
 run_convert_bytes_arg (P:=Tryz.prog) (w.alloc (.cells #[.int .u8 n] 5)) 216 5 (by kernel_rfl) (by kernel_rfl) w.heap.size 0 1 1 [n] rfl (fun i hi=>by
  obtain rfl:i=0:=(by omega);simp) 9 (by kernel_rfl)
theorem yi(k:Int)(w:World)(hk:k<=1000000000000) :
  Calls Tryz.prog 114 #[.int .i64 k] w fun e w'=>e = .returned (.string (mtF k))/\Below w.heap.size w w':=by
 by_cases h0:k<=0
 ·have hm:Hid (mtF k=⟨#[109,48]⟩):=if_pos h0;go_enter Tryz.func114,Tryz.ntmps114;go_wp2;go_ret;exact⟨by rw[hm.out];rfl,Below.refl _ _⟩
 ·obtain⟨n,rfl⟩:=Int.eq_ofNat_of_zero_le (by omega:0<=k);have hm:Hid (mtF (n:Int)=⟨#[109]⟩ ++ zAh n ⟨#[]⟩):=if_neg h0;have eA:Hid (n<10 ^ (13 - (⟨#[]⟩:ByteArray).size)):=zJ7 hk;have fA:=zM9;go_enter Tryz.func114,Tryz.ntmps114;go_wp2
  go_loopw [0,3] (fun v s wr=>∃(m:Nat) (out:ByteArray),v = .int .i64 m/\s = .string out/\m<10 ^ (13 - out.size)/\out.size<=13/\zAh m out=zAh n ⟨#[]⟩/\Below w.heap.size w wr) (fun v _ _=>(intOf v).toNat)
  case atStart=>exact⟨n,⟨#[]⟩,rfl,rfl,eA.out,Nat.zero_le _,rfl,Below.refl _ _⟩
  case round=>
   obtain⟨m,out,rfl,rfl,bA,dA,cA,hb⟩:=hrel;have aA:Hid (m<10 ^ (13 - out.size)/\zAh m out=zAh n ⟨#[]⟩):=⟨bA,cA⟩;have gA:=zNW bA;clear bA cA;by_cases hz:m=0
   ·subst hz;go_wp2;go_ret;refine⟨?_,hb⟩;have e1:=aA.out.2;rw[zAh,dif_pos rfl]at e1;rw[hm.out,<-e1];rfl
   ·have iA:(0:Int)<(m:Int):=(by omega);have Hz:Hid (¬m=0):=hz;clear hz;go_wp2;go_roundw
    case rel=>
     have hn:=zLx (48+UInt8.ofNat (m % 10)) Hz.out aA.out.1 dA;exact⟨m / 10,_,by go_num,rfl,hn.1,hn.2,(zOA Hz.out).trans aA.out.2,hb.alloc hb.size _⟩
    case measure=>simp[intOf];omega
theorem zU{P:Prop}(h:P):Hid P:=h
def zAS(b:Nat)(w w':World):Prop:=∀cur,w.heap[b]?=some (.cells cur 2 (0,0))->∃cur',w'.heap[b]?=some (.cells cur' 2 (0,0))/\cur'.size=cur.size
theorem zAS.refl(b:Nat)(w:World):zAS b w w:=fun aA h=>⟨aA,h,rfl⟩
theorem zAS.set{b:Nat}{w w':World}(h:zAS b w w')(o:Nat)(u:Value):zAS b w (w'.setCell ⟨b,o,none⟩ u):=fun bA hc=>by
 obtain⟨aA,h1,h2⟩:=h bA hc;exact⟨aA.setIfInBounds o u,zBY u h1,by simpa using h2⟩
theorem zAS.room{b:Nat}{w w':World}{a:Option Addr}{n c:Nat}(h:zAS b w w')(hr:zOY w b a n c):zOY w' b a n c:=fun cA=>by
 obtain⟨r0,r1,r2,bA,r3,r4⟩:=hr cA;obtain⟨aA,h1,h2⟩:=h bA r3;exact⟨r0,r1,r2,aA,h1,by omega⟩
theorem zGj(b:Nat)(v:Value)(n:Nat)(f:Nat->Int)(k0:Int)(w:World)(h1:qd w b v n f)(mA:0<=k0)(nA:k0+n<=1000000000000) :
  Calls Tryz.prog 113 #[v,.int .i64 k0] w fun e w'=>e = .returned (.int .i64 (k0+n))/\qd w' b v n (fun i=>k0+i)/\zF (fun k=>0<n/\k=b) w w':=by
 have gA:=h1;obtain⟨m1,a,c,rfl,mc,g1,cA⟩:=h1;have bA:=zU cA;clear cA;by_cases lA:n=0
 ·subst lA;go_enter Tryz.func113,Tryz.ntmps113;go_wp2;refine wp_loop_rounds 1 ?_;rw[rounds_succ];go_wp2;go_ret;exact⟨by simp,⟨m1,a,c,rfl,mc,fun h=>absurd h (by omega),bA.out⟩,zF.refl _ _⟩
 ·obtain⟨off,rfl,g2⟩:=g1 (by omega);clear g1;have kA:=m1;unfold maxLen at m1;have G2:Hid (∀i,i<n->zQ w b (off+i) (.int .i64 (f i))):=g2;clear g2 gA;go_enter Tryz.func113,Tryz.ntmps113;go_wp2
  go_loopw [1,5] (fun m i wr=>∃k:Nat,k<=n/\i = .int .i64 k/\m = .int .i64 (k0+k)/\(∀j,j<n->zQ wr b (off+j) (.int .i64 (if j<k then k0+j else f j)))/\zF (fun k=>0<n/\k=b) w wr/\zAS b w wr) (fun _ i _=>n - (intOf i).toNat)
  case atStart=>exact⟨0,Nat.zero_le _,rfl,by simp,fun j hj=>by simpa using G2.out j hj,zF.refl _ _,zAS.refl _ _⟩
  case round=>
   obtain⟨k,hk,rfl,rfl,dA,ht,fA⟩:=hrel;have eA:=zU fA;clear fA;have aA:Hid (∀j,j<n->zQ wr b (off+j) (.int .i64 (if j<k then k0+j else f j))):=dA;clear dA;by_cases iA:k<n
   ·have jA:(k:Int)<(n:Int):=(by omega);obtain⟨hc,hf⟩:=aA.out k iA;go_wp2;go_roundw
    case rel=>
     refine⟨k+1,by omega,by go_num,by go_num,fun j hj=>?_,ht.setCell ⟨by omega,rfl⟩ _,eA.out.set _ _⟩;by_cases e:j=k
     ·subst e;rw[if_pos (by omega)];exact(aA.out j hj).set _
     ·have:=(aA.out j hj).zPA (b':=b) (o':=off+k) (.int .i64 (k0+k)) (Or.inr (by omega));by_cases e2:j<k
      ·rw[if_pos (by omega)];rw[if_pos e2]at this;exact this
      ·rw[if_neg (by omega)];rw[if_neg e2]at this;exact this
    case measure=>simp[intOf];omega
   ·obtain rfl:k=n:=(by omega);go_wp2;go_ret;refine⟨rfl,⟨kA,_,c,rfl,mc,fun _=>⟨off,rfl,fun i hi=>?_⟩,eA.out.room bA.out⟩,ht⟩;have:=aA.out i hi;rw[if_pos hi]at this;exact this
theorem zC0(b:Nat)(v:Value)(n:Nat)(f g:Nat->Int)(k0:Int)(w:World)(h1:zj w b v n f g)(kA:0<=k0)(lA:k0+2*n<=1000000000000) :
  Calls Tryz.prog 115 #[v,.int .i64 k0] w fun e w'=>e = .returned (.int .i64 (k0+2*n))/\zj w' b v n (fun i=>k0+2*i) (fun i=>k0+2*i+1)/\zF (fun k=>0<n/\k=b) w w':=by
 have cA:=h1;obtain⟨m1,a,c,rfl,mc,g1⟩:=h1;by_cases gA:n=0
 ·subst gA;go_enter Tryz.func115,Tryz.ntmps115;go_wp2;refine wp_loop_rounds 1 ?_;rw[rounds_succ];go_wp2;go_ret;exact⟨by simp,⟨m1,a,c,rfl,mc,fun h=>absurd h (by omega)⟩,zF.refl _ _⟩
 ·obtain⟨off,rfl,g2⟩:=g1 (by omega);clear g1;have fA:=m1;unfold maxLen at m1;have G2:Hid (∀i,i<n->zQ w b (off+i*2) (.int .i64 (f i))/\zQ w b (off+i*2+1) (.int .i64 (g i))):=g2;clear g2 cA;go_enter Tryz.func115,Tryz.ntmps115;go_wp2
  go_loopw [1,5] (fun m i wr=>∃k:Nat,k<=n/\i = .int .i64 k/\m = .int .i64 (k0+2*k)/\(∀j,j<n->zQ wr b (off+j*2) (.int .i64 (if j<k then k0+2*j else f j))/\zQ wr b (off+j*2+1) (.int .i64 (if j<k then k0+2*j+1 else g j)))/\zF (fun k=>0<n/\k=b) w wr) (fun _ i _=>n - (intOf i).toNat)
  case atStart=>exact⟨0,Nat.zero_le _,rfl,by simp,fun j hj=>by simpa using G2.out j hj,zF.refl _ _⟩
  case round=>
   obtain⟨k,hk,rfl,rfl,bA,ht⟩:=hrel;have aA:Hid (∀j,j<n->zQ wr b (off+j*2) (.int .i64 (if j<k then k0+2*j else f j))/\zQ wr b (off+j*2+1) (.int .i64 (if j<k then k0+2*j+1 else g j))):=bA;clear bA;by_cases dA:k<n
   ·have eA:(k:Int)<(n:Int):=(by omega);obtain⟨⟨hc,hf⟩,⟨iA,jA⟩⟩:=aA.out k dA;go_wp2;go_roundw
    case rel=>
     refine⟨k+1,by omega,by go_num,by go_num,fun j hj=>?_,(ht.setCell ⟨by omega,rfl⟩ _).setCell ⟨by omega,rfl⟩ _⟩;by_cases e:j=k
     ·subst e;rw[if_pos (by omega),if_pos (by omega)];exact⟨((aA.out j hj).1.set _).zPA _ (Or.inr (by omega)),((aA.out j hj).2.zPA _ (Or.inr (by omega))).set _⟩
     ·have t1:=((aA.out j hj).1.zPA (b':=b) (o':=off+k*2) (.int .i64 (k0+2*k)) (Or.inr (by omega))).zPA (b':=b) (o':=off+k*2+1) (.int .i64 (k0+2*k+1)) (Or.inr (by omega));have t2:=((aA.out j hj).2.zPA (b':=b) (o':=off+k*2) (.int .i64 (k0+2*k)) (Or.inr (by omega))).zPA (b':=b) (o':=off+k*2+1) (.int .i64 (k0+2*k+1)) (Or.inr (by omega));by_cases e2:j<k
      ·rw[if_pos (by omega),if_pos (by omega)];rw[if_pos e2]at t1 t2;exact⟨t1,t2⟩
      ·rw[if_neg (by omega),if_neg (by omega)];rw[if_neg e2]at t1 t2;exact⟨t1,t2⟩
    case measure=>simp[intOf];omega
   ·obtain rfl:k=n:=(by omega);go_wp2;go_ret;refine⟨rfl,⟨fA,_,c,rfl,mc,fun _=>⟨off,rfl,fun i hi=>?_⟩⟩,ht⟩;have:=aA.out i hi;rw[if_pos hi,if_pos hi]at this;exact this
def qL(f:Nat->zO)(k0:Int):Nat->Int
 | 0=>k0
 | j+1=>qL f k0 j+2+2*(f j).kn
def zOf(s:zO)(c:Int):zO:={zPI:=c,kn:=s.kn,ks:=fun i=>c+1+2*i,kb:=fun i=>c+1+2*i+1,data:=mtF (c+1+2*s.kn)}
theorem zGR(f:Nat->zO)(k0:Int)(j:Nat):∀m,qL f k0 j<=qL f k0 (j+m)
 | 0=>Int.le_refl _
 | m+1=>by
  have:=zGR f k0 j m;show _<=qL f k0 (j+m)+2+2*((f (j+m)).kn:Int);omega
theorem zBt(f:Nat->zO)(k0:Int){j n:Nat}(h:j<=n):qL f k0 j<=qL f k0 n:=by
 obtain⟨m,rfl⟩:=Nat.exists_eq_add_of_le h;exact zGR f k0 j m
def zDY(f:Nat->zO)(k0:Int)(j:Nat):zO:=zOf (f j) (qL f k0 j)
theorem zLP{w w1 w2:World}{bs off:Nat}{kb:Nat->Nat}{kv:Nat->Value}{n k:Nat}{f:Nat->zO}{s':zO}
  (h:∀j,j<n->yf w bs (off+j*3) (kb j) (kv j) (f j)) (cA:yJ kb n f) (hk:k<n)
  (t1:zF (fun b=>0<(f k).kn/\b=kb k) (w.setCell ⟨bs,off+k*3,none⟩ (.int .i64 s'.zPI)) w1) (t2:Below w1.heap.size w1 w2)
  (bA:s'.kn=(f k).kn) (hp:zj w1 (kb k) (kv k) s'.kn s'.ks s'.kb) (hs:s'.data.size<=maxLen) :
  ∀j,j<n->yf (w2.setCell ⟨bs,off+k*3+2,none⟩ (.string s'.data)) bs (off+j*3) (kb j) (kv j) (if j=k then s' else f j):=by
 intro j hj;have nb:¬(0<(f k).kn/\bs=kb k):=fun hx=>(h k hk).zPJ hx.1 hx.2.symm
 by_cases e:j=k
 ·subst e;rw[if_pos rfl];have aA:=h j hj;refine⟨?_,?_,?_,?_,hs,?_⟩
  ·exact(((aA.zPI.set _).zPF t1 nb).zO9 t2).zPA _ (Or.inr (by omega))
  ·exact(((aA.kidsv.zPA _ (Or.inr (by omega))).zPF t1 nb).zO9 t2).zPA _ (Or.inr (by omega))
  ·exact(((aA.data.zPA _ (Or.inr (by omega))).zPF t1 nb).zO9 t2).set _
  ·refine(hp.zO9 t2).zPF (zF.put _ _ _ _) (fun h0 hx=>?_);exact aA.zPJ (bA▸h0) hx
  ·rw[bA];exact aA.zPJ
 ·rw[if_neg e];have aA:=h j hj;have c0:=aA.zPI.zPA (b':=bs) (o':=off+k*3) (.int .i64 s'.zPI) (Or.inr (by omega));have c1:=aA.kidsv.zPA (b':=bs) (o':=off+k*3) (.int .i64 s'.zPI) (Or.inr (by omega));have c2:=aA.data.zPA (b':=bs) (o':=off+k*3) (.int .i64 s'.zPI) (Or.inr (by omega));have c3:=aA.kids.zPF (zF.put w bs (off+k*3) (.int .i64 s'.zPI)) (fun h0 hx=>aA.zPJ h0 hx);refine⟨?_,?_,?_,?_,aA.zPN,aA.zPJ⟩
  ·exact((c0.zPF t1 nb).zO9 t2).zPA _ (Or.inr (by omega))
  ·exact((c1.zPF t1 nb).zO9 t2).zPA _ (Or.inr (by omega))
  ·exact((c2.zPF t1 nb).zO9 t2).zPA _ (Or.inr (by omega))
  ·refine((c3.zPF t1 (fun h0 hx=>cA j k hj hk e h0 hx.1 hx.2)).zO9 t2).zPF (zF.put _ _ _ _) (fun h0 hx=>aA.zPJ h0 hx)
theorem zMm(f:Nat->zO)(k0:Int)(j:Nat):(if j<0 then zDY f k0 j else f j)=f j:=if_neg (by omega)
theorem zOn(f:Nat->zO)(k0:Int)(k j:Nat):(if j<k then zDY f k0 j else f j).kn=(f j).kn:=by split<;>rfl
theorem zHi(bs:Nat)(kb:Nat->Nat)(kv:Nat->Value)(v:Value)(n:Nat)(f:Nat->zO)(k0:Int)(w:World)(h1:qO w bs kb kv v n f)(fA:yJ kb n f)(fB:0<=k0)(iA:qL f k0 n<=1000000000000) :
  Calls Tryz.prog 112 #[v,.int .i64 k0] w fun e w'=>e = .returned (.int .i64 (qL f k0 n))/\qO w' bs kb kv v n (zDY f k0)/\zF (yV bs kb n f) w w':=by
 obtain⟨m1,a,c,rfl,mc,g1⟩:=h1;by_cases bB:n=0
 ·subst bB;go_enter Tryz.func112,Tryz.ntmps112;go_wp2;refine wp_loop_rounds 1 ?_;rw[rounds_succ];go_wp2;go_ret;exact⟨by simp[qL],⟨m1,a,c,rfl,mc,fun h=>absurd h (by omega)⟩,zF.refl _ _⟩
 ·obtain⟨off,rfl,g2⟩:=g1 (by omega);clear g1;have aB:=m1;unfold maxLen at m1;have G2:Hid (∀j,j<n->yf w bs (off+j*3) (kb j) (kv j) (f j)):=g2;have kA:Hid (yJ kb n f):=fA;have lA:Hid (qL f k0 n<=1000000000000):=iA;clear g2 fA iA;go_enter Tryz.func112,Tryz.ntmps112;go_wp2
  go_loopw [1,5] (fun m i wr=>∃k:Nat,k<=n/\i = .int .i64 k/\m = .int .i64 (qL f k0 k)/\(∀j,j<n->yf wr bs (off+j*3) (kb j) (kv j) (if j<k then zDY f k0 j else f j))/\zF (yV bs kb n f) w wr) (fun _ i _=>n - (intOf i).toNat)
  case atStart=>exact⟨0,Nat.zero_le _,rfl,rfl,fun j hj=>by rw[zMm];exact G2.out j hj,zF.refl _ _⟩
  case round=>
   obtain⟨k,hk,rfl,rfl,bA,ht⟩:=hrel;have aA:Hid (∀j,j<n->yf wr bs (off+j*3) (kb j) (kv j) (if j<k then zDY f k0 j else f j)):=bA;clear bA;by_cases dA:k<n
   ·have vA:(k:Int)<(n:Int):=(by omega);have hs:=aA.out k dA;rw[if_neg (by omega)]at hs;have cB:k0<=qL f k0 k:=zBt f k0 (Nat.zero_le k);have dB:qL f k0 k+2+2*((f k).kn:Int)<=1000000000000:=Int.le_trans (zBt f k0 (show k+1<=n from dA)) lA.out;obtain⟨nA,pA⟩:=hs.zPI;obtain⟨oA,rA⟩:=hs.kidsv;obtain⟨cA,gA⟩:=hs.data;have Hs:Hid (yf wr bs (off+k*3) (kb k) (kv k) (f k)):=hs;obtain⟨_,ka,kc,tA,_⟩:=hs.kids;clear hs;generalize hx:kv k=kvk at *;have Hx:Hid (kv k=kvk):=hx;clear hx;subst tA;go_wp2_with fail;refine(zC0 (kb k) _ (f k).kn (f k).ks (f k).kb _ _ ?p1 ?p2 ?p3).mono ?_
    case p1=>exact Hs.out.kids.zPF (zF.put _ _ _ _) (fun h0 hx=>Hs.out.zPJ h0 hx)
    case p2=>omega
    case p3=>omega
    rintro e w1 ⟨rfl,jA,eA⟩;have nb:¬(0<(f k).kn/\bs=kb k):=fun hx=>Hs.out.zPJ hx.1 hx.2.symm
    have Hd:=((Hs.out.data.zPA (b':=bs) (o':=off+k*3) (.int .i64 (qL f k0 k)) (Or.inr (by omega))).zPF eA nb);have mA:Hid (zj w1 (kb k) (.slice ka (f k).kn kc) (f k).kn (fun i=>qL f k0 k+1+2*i) (fun i=>qL f k0 k+1+2*i+1)):=jA;clear nb jA nA pA oA rA cA gA;go_wp2_with fail;refine(yi _ _ (by omega)).mono ?_;rintro e w2 ⟨rfl,cA⟩;obtain⟨eB,gA⟩:=Hd.zO9 cA;clear Hd;go_wp2;go_roundw
    case rel=>
     refine⟨k+1,by omega,by go_num,congrArg (Value.int .i64) (by show _=qL f k0 k+2+2*((f k).kn:Int);omega),fun j hj=>?_,?_⟩
     ·have st:=zLP (s':=zDY f k0 k) aA.out (by
        intro i j hi hj sA h1 h2;rw[zOn]at h1 h2;exact kA.out i j hi hj sA h1 h2) dA (by rw[if_neg (Nat.lt_irrefl k)];exact eA) cA (by rw[if_neg (Nat.lt_irrefl k)];rfl) (by rw[Hx.out];exact mA.out) (zE5 (by omega)) j hj
      by_cases e:j=k
      ·subst e;rw[if_pos rfl]at st;rw[if_pos (by omega)];exact st
      ·rw[if_neg e]at st;by_cases e2:j<k
       ·rw[if_pos e2]at st;rw[if_pos (by omega)];exact st
       ·rw[if_neg e2]at st;rw[if_neg (by omega)];exact st
     ·refine(((ht.setCell (Or.inl ⟨by omega,rfl⟩) _).trans (eA.mono ?_)).trans (zF.zPB cA)).setCell (Or.inl ⟨by omega,rfl⟩) _;rintro b ⟨hb,rfl⟩;exact Or.inr ⟨k,dA,hb,rfl⟩
    case measure=>simp[intOf];omega
   ·obtain rfl:k=n:=(by omega);go_wp2;go_ret;refine⟨rfl,⟨aB,_,c,rfl,mc,fun _=>⟨off,rfl,fun i hi=>?_⟩⟩,ht⟩;have:=aA.out i hi;rw[if_pos hi]at this;exact this
theorem zI3(bs hb:Nat)(kb:Nat->Nat)(kv:Nat->Value)(v0 v1:Value)(p:zN)(k0:Int)(w:World)
  (h1:qO w bs kb kv v0 p.n p.s) (fA:yJ kb p.n p.s) (h2:qd w hb v1 p.hn p.h) (hd:0<p.hn->¬yV bs kb p.n p.s hb)
  (gA:0<=k0) (dA:qL p.s k0 p.n+p.hn<=1000000000000) :
  Calls Tryz.prog 42 #[.agg #[v0,v1],.int .i64 k0] w fun e w'=>e = .returned (.int .i64 (qL p.s k0 p.n+p.hn))/\qO w' bs kb kv v0 p.n (zDY p.s k0)/\qd w' hb v1 p.hn (fun i=>qL p.s k0 p.n+i)/\
   zF (fun k=>yV bs kb p.n p.s k\/(0<p.hn/\k=hb)) w w':=by
 have q1:=h1;have q2:=h2;obtain⟨_,a,c,rfl,_⟩:=h1;obtain⟨_,a',c',rfl,_⟩:=h2;have Hk:Hid (qL p.s k0 p.n+p.hn<=1000000000000):=dA;have bA:Hid (k0<=qL p.s k0 p.n):=zBt p.s k0 (Nat.zero_le p.n);clear dA;go_enter Tryz.func42,Tryz.ntmps42;go_wp2_with fail;have aA:=(Below.refl w.heap.size w).alloc (Nat.le_refl _) (.cells #[.slice a p.n c,.slice a' p.hn c'] 33);refine(zHi bs kb kv _ p.n p.s _ _ (q1.zO9 aA) fA gA (by have:=Hk.out;omega)).mono ?_;rintro e w1 ⟨rfl,iA,cA⟩;have nb:¬yV bs kb p.n p.s w.heap.size:=fun x=>Nat.lt_irrefl _ (q1.lt x)
 have e1:=cA.cell (b:=w.heap.size) (o:=1) (by simp) nb;simp at e1;go_wp2_with fail;refine(zGj hb _ p.hn p.h _ _ ((q2.zO9 aA).zPF cA hd) (by have:=bA.out;omega) Hk.out).mono ?_;rintro e w2 ⟨rfl,jA,eA⟩;go_wp2;go_ret;refine⟨rfl,?_,jA,?_⟩
 ·refine iA.zPF eA (fun h0 hx=>?_) (fun i hi h0 hx=>?_)
  ·exact hd hx.1 (Or.inl ⟨h0,hx.2.symm⟩)
  ·exact hd hx.1 (Or.inr ⟨i,hi,h0,hx.2.symm⟩)
 ·exact((zF.zPB aA).trans (cA.mono fun k h=>Or.inl h)).trans (eA.mono fun k h=>Or.inr h)
def zOP(p:zN)(k0:Int):zN:={n:=p.n,s:=zDY p.s k0,hn:=p.hn,h:=fun i=>qL p.s k0 p.n+i}
def zAg(p:zN)(k0:Int):Int:=qL p.s k0 p.n+p.hn
def zc(f:Nat->zv)(k0:Int):Nat->Int
 | 0=>k0
 | j+1=>zc f k0 j+5+2*(f j).dn
def zMT(s:zv)(c:Int):zv:={name:=mtF (c),origin:=c+1,zPH:=c+1+1,rs:=c+1+1+1,rb:=c+1+1+1+1,dn:=s.dn,ds:=fun i=>c+1+1+1+1+1+2*i,db:=fun i=>c+1+1+1+1+1+2*i+1}
theorem zFm(f:Nat->zv)(k0:Int)(j:Nat):∀m,zc f k0 j<=zc f k0 (j+m)
 | 0=>Int.le_refl _
 | m+1=>by
  have:=zFm f k0 j m;show _<=zc f k0 (j+m)+5+2*((f (j+m)).dn:Int);omega
theorem zCb(f:Nat->zv)(k0:Int){j n:Nat}(h:j<=n):zc f k0 j<=zc f k0 n:=by
 obtain⟨m,rfl⟩:=Nat.exists_eq_add_of_le h;exact zFm f k0 j m
def zB2(f:Nat->zv)(k0:Int)(j:Nat):zv:=zMT (f j) (zc f k0 j)
theorem zKT(f:Nat->zv)(k0:Int)(j:Nat):(if j<0 then zB2 f k0 j else f j)=f j:=if_neg (by omega)
theorem zNr(f:Nat->zv)(k0:Int)(k j:Nat):(if j<k then zB2 f k0 j else f j).dn=(f j).dn:=by split<;>rfl
theorem zI4(bs:Nat)(kb:Nat->Nat)(kv:Nat->Value)(v:Value)(n:Nat)(f:Nat->zv)(k0:Int)(w:World)(h1:qm w bs kb kv v n f)(gB:zAG kb n f)(cC:0<=k0)(iB:zc f k0 n<=1000000000000) :
  Calls Tryz.prog 43 #[v,.int .i64 k0] w fun e w'=>e = .returned (.int .i64 (zc f k0 n))/\qm w' bs kb kv v n (zB2 f k0)/\zF (zA4 bs kb n f) w w':=by
 obtain⟨m1,a,c,rfl,mc,g1⟩:=h1;by_cases vB:n=0
 ·subst vB;go_enter Tryz.func43,Tryz.ntmps43;go_wp2;refine wp_loop_rounds 1 ?_;rw[rounds_succ];go_wp2;go_ret;exact⟨by simp[zc],⟨m1,a,c,rfl,mc,fun h=>absurd h (by omega)⟩,zF.refl _ _⟩
 ·obtain⟨off,rfl,g2⟩:=g1 (by omega);clear g1;have tB:=m1;unfold maxLen at m1;have G2:=zU g2;have mB:=zU gB;have nB:=zU iB;clear g2 gB iB;go_enter Tryz.func43,Tryz.ntmps43;go_wp2
  go_loopw [1,5] (fun m i wr=>∃k:Nat,k<=n/\i = .int .i64 k/\m = .int .i64 (zc f k0 k)/\(∀j,j<n->yR wr bs (off+j*6) (kb j) (kv j) (if j<k then zB2 f k0 j else f j))/\zF (zA4 bs kb n f) w wr) (fun _ i _=>n - (intOf i).toNat)
  case atStart=>exact⟨0,Nat.zero_le _,rfl,rfl,fun j hj=>by rw[zKT];exact G2.out j hj,zF.refl _ _⟩
  case round=>
   obtain⟨k,hk,rfl,rfl,cA,ht⟩:=hrel;have bA:=zU cA;clear cA;by_cases eA:k<n
   ·have sB:(k:Int)<(n:Int):=(by omega);have hs:=bA.out k eA;rw[if_neg (by omega)]at hs;have aC:k0<=zc f k0 k:=zCb f k0 (Nat.zero_le k);have bC:zc f k0 k+5+2*((f k).dn:Int)<=1000000000000:=Int.le_trans (zCb f k0 (show k+1<=n from eA)) nB.out;have Hs:=zU hs;obtain⟨-,ka,kc,rB,-⟩:=hs.zPK;clear hs;generalize hx:kv k=kvk at *;have Hx:=zU hx;clear hx;subst rB;obtain⟨⟨p0,fA⟩,⟨p1,gA⟩,⟨p2,iA⟩,⟨p3,jA⟩,⟨p4,kA⟩,⟨p5,lA⟩⟩:=And.intro Hs.out.c0 (And.intro Hs.out.c1 (And.intro Hs.out.c2 (And.intro Hs.out.c3 (And.intro Hs.out.c4 Hs.out.c5))));have HR:=zU (yZ.refl bs (off+k*6) 6 wr);go_wp2_with fail;clear p0 fA p1 gA p2 iA p3 jA p4 kA p5 lA;have mA:=zU Hs.out.c0;have nA:=zU Hs.out.c1;have oA:=zU Hs.out.c2;have pA:=zU Hs.out.c3;have rA:=zU Hs.out.c4;have sA:=zU Hs.out.c5;have eB:=zU HR.out;refine(yi _ wr (by omega)).mono ?_;rintro e w1 ⟨rfl,aA⟩;have tA:=zU (mA.out.zO9 aA);have vA:=zU (nA.out.zO9 aA);have aB:=zU (oA.out.zO9 aA);have bB:=zU (pA.out.zO9 aA);have cB:=zU (rA.out.zO9 aA);have dB:=zU (sA.out.zO9 aA);have lB:=zU (eB.out.zO9 aA);clear aA eB mA nA oA pA rA sA;obtain⟨p0,fA⟩:=tA.out;obtain⟨p1,gA⟩:=vA.out;obtain⟨p2,iA⟩:=aB.out;obtain⟨p3,jA⟩:=bB.out;obtain⟨p4,kA⟩:=cB.out;obtain⟨p5,lA⟩:=dB.out;go_wp2_with fail;clear p0 fA p1 gA p2 iA p3 jA p4 kA p5 lA;have Ea:=zU (((((tA.out.set (.string (mtF (zc f k0 k)))).zPA (b':=bs) (o':=off+k*6+1) (.int .i64 (zc f k0 k+1)) (Or.inr (by omega))).zPA (b':=bs) (o':=off+k*6+2) (.int .i64 (zc f k0 k+1+1)) (Or.inr (by omega))).zPA (b':=bs) (o':=off+k*6+3) (.int .i64 (zc f k0 k+1+1+1)) (Or.inr (by omega))).zPA (b':=bs) (o':=off+k*6+3+1) (.int .i64 (zc f k0 k+1+1+1+1)) (Or.inr (by omega)));have Eb:=zU (((((vA.out.zPA (b':=bs) (o':=off+k*6) (.string (mtF (zc f k0 k))) (Or.inr (by omega))).set (.int .i64 (zc f k0 k+1))).zPA (b':=bs) (o':=off+k*6+2) (.int .i64 (zc f k0 k+1+1)) (Or.inr (by omega))).zPA (b':=bs) (o':=off+k*6+3) (.int .i64 (zc f k0 k+1+1+1)) (Or.inr (by omega))).zPA (b':=bs) (o':=off+k*6+3+1) (.int .i64 (zc f k0 k+1+1+1+1)) (Or.inr (by omega)));have Ec:=zU (((((aB.out.zPA (b':=bs) (o':=off+k*6) (.string (mtF (zc f k0 k))) (Or.inr (by omega))).zPA (b':=bs) (o':=off+k*6+1) (.int .i64 (zc f k0 k+1)) (Or.inr (by omega))).set (.int .i64 (zc f k0 k+1+1))).zPA (b':=bs) (o':=off+k*6+3) (.int .i64 (zc f k0 k+1+1+1)) (Or.inr (by omega))).zPA (b':=bs) (o':=off+k*6+3+1) (.int .i64 (zc f k0 k+1+1+1+1)) (Or.inr (by omega)));have Ed:=zU (((((bB.out.zPA (b':=bs) (o':=off+k*6) (.string (mtF (zc f k0 k))) (Or.inr (by omega))).zPA (b':=bs) (o':=off+k*6+1) (.int .i64 (zc f k0 k+1)) (Or.inr (by omega))).zPA (b':=bs) (o':=off+k*6+2) (.int .i64 (zc f k0 k+1+1)) (Or.inr (by omega))).set (.int .i64 (zc f k0 k+1+1+1))).zPA (b':=bs) (o':=off+k*6+3+1) (.int .i64 (zc f k0 k+1+1+1+1)) (Or.inr (by omega)));have Ee:=zU (((((cB.out.zPA (b':=bs) (o':=off+k*6) (.string (mtF (zc f k0 k))) (Or.inr (by omega))).zPA (b':=bs) (o':=off+k*6+1) (.int .i64 (zc f k0 k+1)) (Or.inr (by omega))).zPA (b':=bs) (o':=off+k*6+2) (.int .i64 (zc f k0 k+1+1)) (Or.inr (by omega))).zPA (b':=bs) (o':=off+k*6+3) (.int .i64 (zc f k0 k+1+1+1)) (Or.inr (by omega))).set (.int .i64 (zc f k0 k+1+1+1+1)));have Ef:=zU (((((dB.out.zPA (b':=bs) (o':=off+k*6) (.string (mtF (zc f k0 k))) (Or.inr (by omega))).zPA (b':=bs) (o':=off+k*6+1) (.int .i64 (zc f k0 k+1)) (Or.inr (by omega))).zPA (b':=bs) (o':=off+k*6+2) (.int .i64 (zc f k0 k+1+1)) (Or.inr (by omega))).zPA (b':=bs) (o':=off+k*6+3) (.int .i64 (zc f k0 k+1+1+1)) (Or.inr (by omega))).zPA (b':=bs) (o':=off+k*6+3+1) (.int .i64 (zc f k0 k+1+1+1+1)) (Or.inr (by omega)));have dA:=zU (((((lB.out.set (off+k*6) (.string (mtF (zc f k0 k))) (by omega) (by omega)).set (off+k*6+1) (.int .i64 (zc f k0 k+1)) (by omega) (by omega)).set (off+k*6+2) (.int .i64 (zc f k0 k+1+1)) (by omega) (by omega)).set (off+k*6+3) (.int .i64 (zc f k0 k+1+1+1)) (by omega) (by omega)).set (off+k*6+3+1) (.int .i64 (zc f k0 k+1+1+1+1)) (by omega) (by omega));generalize (((((w1.setCell ⟨bs,off+k*6,none⟩ (.string (mtF (zc f k0 k)))).setCell ⟨bs,off+k*6+1,none⟩ (.int .i64 (zc f k0 k+1))).setCell ⟨bs,off+k*6+2,none⟩ (.int .i64 (zc f k0 k+1+1))).setCell ⟨bs,off+k*6+3,none⟩ (.int .i64 (zc f k0 k+1+1+1))).setCell ⟨bs,off+k*6+3+1,none⟩ (.int .i64 (zc f k0 k+1+1+1+1)))=Y at Ea Eb Ec Ed Ee Ef dA ⊢;refine(zC0 (kb k) _ (f k).dn (f k).ds (f k).db _ Y (Hs.out.zPK.zPF dA.out.zPF (fun h0 hx=>Hs.out.zPJ h0 hx)) (by omega) (by omega)).mono ?_;rintro e wz ⟨rfl,jB,kB⟩;have oB:=zU jB;have fB:=zU kB;clear jB kB;go_wp2;go_roundw
    case rel=>
     refine⟨k+1,by omega,by go_num,congrArg (Value.int .i64) (by show _=zc f k0 k+5+2*((f k).dn:Int);omega),fun j hj=>?_,?_⟩
     ·have st:=zMw (s:=zB2 f k0 k) bA.out (by
        intro i j hi hj pB h1 h2;rw[zNr]at h1 h2;exact mB.out i j hi hj pB h1 h2) eA dA.out (by rw[if_neg (Nat.lt_irrefl k)];exact fB.out) Ea.out Eb.out Ec.out Ed.out Ee.out (by rw[Hx.out];exact Ef.out) (by rw[if_neg (Nat.lt_irrefl k)];rfl) (by rw[Hx.out];exact oB.out) (zE5 (by omega)) j hj
      by_cases e:j=k
      ·subst e;rw[if_pos rfl]at st;rw[if_pos (by omega)];exact st
      ·rw[if_neg e]at st;by_cases e2:j<k
       ·rw[if_pos e2]at st;rw[if_pos (by omega)];exact st
       ·rw[if_neg e2]at st;rw[if_neg (by omega)];exact st
     ·refine(ht.trans (dA.out.zPF.mono ?_)).trans (fB.out.mono ?_)
      ·rintro b rfl;exact Or.inl ⟨by omega,rfl⟩
      ·rintro b ⟨hb,rfl⟩;exact Or.inr ⟨k,eA,hb,rfl⟩
    case measure=>simp[intOf];omega
   ·obtain rfl:k=n:=(by omega);go_wp2;go_ret;refine⟨rfl,⟨tB,_,c,rfl,mc,fun _=>⟨off,rfl,fun i hi=>?_⟩⟩,ht⟩;have:=bA.out i hi;rw[if_pos hi]at this;exact this
def zM(f:Nat->zY)(k0:Int):Nat->Int
 | 0=>k0
 | j+1=>zM f k0 j+7+2*(f j).dn
def zK8(s:zY)(c:Int):zY:={id:=c,name:=mtF (c+1),set:=mtF (c+1+1),zPH:=c+1+1+1,time:=c+1+1+1+1,rs:=c+1+1+1+1+1,rb:=c+1+1+1+1+1+1,dn:=s.dn,ds:=fun i=>c+1+1+1+1+1+1+1+2*i,db:=fun i=>c+1+1+1+1+1+1+1+2*i+1}
theorem zEo(f:Nat->zY)(k0:Int)(j:Nat):∀m,zM f k0 j<=zM f k0 (j+m)
 | 0=>Int.le_refl _
 | m+1=>by
  have:=zEo f k0 j m;show _<=zM f k0 (j+m)+7+2*((f (j+m)).dn:Int);omega
theorem zBu(f:Nat->zY)(k0:Int){j n:Nat}(h:j<=n):zM f k0 j<=zM f k0 n:=by
 obtain⟨m,rfl⟩:=Nat.exists_eq_add_of_le h;exact zEo f k0 j m
def zBF(f:Nat->zY)(k0:Int)(j:Nat):zY:=zK8 (f j) (zM f k0 j)
theorem zJP(f:Nat->zY)(k0:Int)(j:Nat):(if j<0 then zBF f k0 j else f j)=f j:=if_neg (by omega)
theorem zMn(f:Nat->zY)(k0:Int)(k j:Nat):(if j<k then zBF f k0 j else f j).dn=(f j).dn:=by split<;>rfl
theorem zHj(bs:Nat)(kb:Nat->Nat)(kv:Nat->Value)(v:Value)(n:Nat)(f:Nat->zY)(k0:Int)(w:World)(h1:qI w bs kb kv v n f)(mC:qw kb n f)(jD:0<=k0)(nC:zM f k0 n<=1000000000000) :
  Calls Tryz.prog 44 #[v,.int .i64 k0] w fun e w'=>e = .returned (.int .i64 (zM f k0 n))/\qI w' bs kb kv v n (zBF f k0)/\zF (yq bs kb n f) w w':=by
 obtain⟨m1,a,c,rfl,mc,g1⟩:=h1;by_cases fD:n=0
 ·subst fD;go_enter Tryz.func44,Tryz.ntmps44;go_wp2;refine wp_loop_rounds 1 ?_;rw[rounds_succ];go_wp2;go_ret;exact⟨by simp[zM],⟨m1,a,c,rfl,mc,fun h=>absurd h (by omega)⟩,zF.refl _ _⟩
 ·obtain⟨off,rfl,g2⟩:=g1 (by omega);clear g1;have eD:=m1;unfold maxLen at m1;have G2:=zU g2;have tC:=zU mC;have vC:=zU nC;clear g2 mC nC;go_enter Tryz.func44,Tryz.ntmps44;go_wp2
  go_loopw [1,5] (fun m i wr=>∃k:Nat,k<=n/\i = .int .i64 k/\m = .int .i64 (zM f k0 k)/\(∀j,j<n->qe wr bs (off+j*8) (kb j) (kv j) (if j<k then zBF f k0 j else f j))/\zF (yq bs kb n f) w wr) (fun _ i _=>n - (intOf i).toNat)
  case atStart=>exact⟨0,Nat.zero_le _,rfl,rfl,fun j hj=>by rw[zJP];exact G2.out j hj,zF.refl _ _⟩
  case round=>
   obtain⟨k,hk,rfl,rfl,dA,ht⟩:=hrel;have cA:=zU dA;clear dA;by_cases oA:k<n
   ·have dD:(k:Int)<(n:Int):=(by omega);have hs:=cA.out k oA;rw[if_neg (by omega)]at hs;have gD:k0<=zM f k0 k:=zBu f k0 (Nat.zero_le k);have iD:zM f k0 k+7+2*((f k).dn:Int)<=1000000000000:=Int.le_trans (zBu f k0 (show k+1<=n from oA)) vC.out;have Hs:=zU hs;obtain⟨-,ka,kc,cD,-⟩:=hs.zPK;clear hs;generalize hx:kv k=kvk at *;have Hx:=zU hx;clear hx;subst cD;obtain⟨⟨p0,eA⟩,⟨p1,fA⟩,⟨p2,gA⟩,⟨p3,iA⟩,⟨p4,jA⟩,⟨p5,kA⟩,⟨p6,lA⟩,⟨p7,mA⟩⟩:=And.intro Hs.out.c0 (And.intro Hs.out.c1 (And.intro Hs.out.c2 (And.intro Hs.out.c3 (And.intro Hs.out.c4 (And.intro Hs.out.c5 (And.intro Hs.out.c6 Hs.out.c7))))));have HR:=zU (yZ.refl bs (off+k*8) 8 wr);go_wp2_with fail;clear p0 eA p1 fA p2 gA p3 iA p4 jA p5 kA p6 lA p7 mA;have pA:=zU (Hs.out.c0.set (.int .i64 (zM f k0 k)));have rA:=zU (Hs.out.c1.zPA (b':=bs) (o':=off+k*8) (.int .i64 (zM f k0 k)) (Or.inr (by omega)));have sA:=zU (Hs.out.c2.zPA (b':=bs) (o':=off+k*8) (.int .i64 (zM f k0 k)) (Or.inr (by omega)));have tA:=zU (Hs.out.c3.zPA (b':=bs) (o':=off+k*8) (.int .i64 (zM f k0 k)) (Or.inr (by omega)));have vA:=zU (Hs.out.c4.zPA (b':=bs) (o':=off+k*8) (.int .i64 (zM f k0 k)) (Or.inr (by omega)));have aB:=zU (Hs.out.c5.zPA (b':=bs) (o':=off+k*8) (.int .i64 (zM f k0 k)) (Or.inr (by omega)));have bB:=zU (Hs.out.c6.zPA (b':=bs) (o':=off+k*8) (.int .i64 (zM f k0 k)) (Or.inr (by omega)));have cB:=zU (Hs.out.c7.zPA (b':=bs) (o':=off+k*8) (.int .i64 (zM f k0 k)) (Or.inr (by omega)));have mB:=zU (HR.out.set (off+k*8) (.int .i64 (zM f k0 k)) (by omega) (by omega));generalize (wr.setCell ⟨bs,off+k*8,none⟩ (.int .i64 (zM f k0 k)))=Y1 at pA rA sA tA vA aB bB cB mB ⊢;refine(yi _ Y1 (by omega)).mono ?_;rintro e w1 ⟨rfl,aA⟩;have oB:=zU (pA.out.zO9 aA);have pB:=zU (rA.out.zO9 aA);have rB:=zU (sA.out.zO9 aA);have sB:=zU (tA.out.zO9 aA);have tB:=zU (vA.out.zO9 aA);have vB:=zU (aB.out.zO9 aA);have aC:=zU (bB.out.zO9 aA);have bC:=zU (cB.out.zO9 aA);have rC:=zU (mB.out.zO9 aA);clear aA mB pA rA sA tA vA aB bB cB;obtain⟨p0,eA⟩:=oB.out;obtain⟨p1,fA⟩:=pB.out;obtain⟨p2,gA⟩:=rB.out;obtain⟨p3,iA⟩:=sB.out;obtain⟨p4,jA⟩:=tB.out;obtain⟨p5,kA⟩:=vB.out;obtain⟨p6,lA⟩:=aC.out;obtain⟨p7,mA⟩:=bC.out;go_wp2_with fail;clear p0 eA p1 fA p2 gA p3 iA p4 jA p5 kA p6 lA p7 mA;have dB:=zU (oB.out.zPA (b':=bs) (o':=off+k*8+1) (.string (mtF (zM f k0 k+1))) (Or.inr (by omega)));have eB:=zU (pB.out.set (.string (mtF (zM f k0 k+1))));have fB:=zU (rB.out.zPA (b':=bs) (o':=off+k*8+1) (.string (mtF (zM f k0 k+1))) (Or.inr (by omega)));have gB:=zU (sB.out.zPA (b':=bs) (o':=off+k*8+1) (.string (mtF (zM f k0 k+1))) (Or.inr (by omega)));have iB:=zU (tB.out.zPA (b':=bs) (o':=off+k*8+1) (.string (mtF (zM f k0 k+1))) (Or.inr (by omega)));have jB:=zU (vB.out.zPA (b':=bs) (o':=off+k*8+1) (.string (mtF (zM f k0 k+1))) (Or.inr (by omega)));have kB:=zU (aC.out.zPA (b':=bs) (o':=off+k*8+1) (.string (mtF (zM f k0 k+1))) (Or.inr (by omega)));have lB:=zU (bC.out.zPA (b':=bs) (o':=off+k*8+1) (.string (mtF (zM f k0 k+1))) (Or.inr (by omega)));have nB:=zU (rC.out.set (off+k*8+1) (.string (mtF (zM f k0 k+1))) (by omega) (by omega));generalize (w1.setCell ⟨bs,off+k*8+1,none⟩ (.string (mtF (zM f k0 k+1))))=Y2 at dB eB fB gB iB jB kB lB nB ⊢;refine(yi _ Y2 (by omega)).mono ?_;rintro e w2 ⟨rfl,bA⟩;have cC:=zU (dB.out.zO9 bA);have dC:=zU (eB.out.zO9 bA);have eC:=zU (fB.out.zO9 bA);have fC:=zU (gB.out.zO9 bA);have gC:=zU (iB.out.zO9 bA);have iC:=zU (jB.out.zO9 bA);have jC:=zU (kB.out.zO9 bA);have kC:=zU (lB.out.zO9 bA);have sC:=zU (nB.out.zO9 bA);clear bA nB dB eB fB gB iB jB kB lB;obtain⟨p0,eA⟩:=cC.out;obtain⟨p1,fA⟩:=dC.out;obtain⟨p2,gA⟩:=eC.out;obtain⟨p3,iA⟩:=fC.out;obtain⟨p4,jA⟩:=gC.out;obtain⟨p5,kA⟩:=iC.out;obtain⟨p6,lA⟩:=jC.out;obtain⟨p7,mA⟩:=kC.out;go_wp2_with fail;clear p0 eA p1 fA p2 gA p3 iA p4 jA p5 kA p6 lA p7 mA;have Ea:=zU (((((cC.out.zPA (b':=bs) (o':=off+k*8+2) (.string (mtF (zM f k0 k+1+1))) (Or.inr (by omega))).zPA (b':=bs) (o':=off+k*8+3) (.int .i64 (zM f k0 k+1+1+1)) (Or.inr (by omega))).zPA (b':=bs) (o':=off+k*8+4) (.int .i64 (zM f k0 k+1+1+1+1)) (Or.inr (by omega))).zPA (b':=bs) (o':=off+k*8+5) (.int .i64 (zM f k0 k+1+1+1+1+1)) (Or.inr (by omega))).zPA (b':=bs) (o':=off+k*8+5+1) (.int .i64 (zM f k0 k+1+1+1+1+1+1)) (Or.inr (by omega)));have Eb:=zU (((((dC.out.zPA (b':=bs) (o':=off+k*8+2) (.string (mtF (zM f k0 k+1+1))) (Or.inr (by omega))).zPA (b':=bs) (o':=off+k*8+3) (.int .i64 (zM f k0 k+1+1+1)) (Or.inr (by omega))).zPA (b':=bs) (o':=off+k*8+4) (.int .i64 (zM f k0 k+1+1+1+1)) (Or.inr (by omega))).zPA (b':=bs) (o':=off+k*8+5) (.int .i64 (zM f k0 k+1+1+1+1+1)) (Or.inr (by omega))).zPA (b':=bs) (o':=off+k*8+5+1) (.int .i64 (zM f k0 k+1+1+1+1+1+1)) (Or.inr (by omega)));have Ec:=zU (((((eC.out.set (.string (mtF (zM f k0 k+1+1)))).zPA (b':=bs) (o':=off+k*8+3) (.int .i64 (zM f k0 k+1+1+1)) (Or.inr (by omega))).zPA (b':=bs) (o':=off+k*8+4) (.int .i64 (zM f k0 k+1+1+1+1)) (Or.inr (by omega))).zPA (b':=bs) (o':=off+k*8+5) (.int .i64 (zM f k0 k+1+1+1+1+1)) (Or.inr (by omega))).zPA (b':=bs) (o':=off+k*8+5+1) (.int .i64 (zM f k0 k+1+1+1+1+1+1)) (Or.inr (by omega)));have Ed:=zU (((((fC.out.zPA (b':=bs) (o':=off+k*8+2) (.string (mtF (zM f k0 k+1+1))) (Or.inr (by omega))).set (.int .i64 (zM f k0 k+1+1+1))).zPA (b':=bs) (o':=off+k*8+4) (.int .i64 (zM f k0 k+1+1+1+1)) (Or.inr (by omega))).zPA (b':=bs) (o':=off+k*8+5) (.int .i64 (zM f k0 k+1+1+1+1+1)) (Or.inr (by omega))).zPA (b':=bs) (o':=off+k*8+5+1) (.int .i64 (zM f k0 k+1+1+1+1+1+1)) (Or.inr (by omega)));have Ee:=zU (((((gC.out.zPA (b':=bs) (o':=off+k*8+2) (.string (mtF (zM f k0 k+1+1))) (Or.inr (by omega))).zPA (b':=bs) (o':=off+k*8+3) (.int .i64 (zM f k0 k+1+1+1)) (Or.inr (by omega))).set (.int .i64 (zM f k0 k+1+1+1+1))).zPA (b':=bs) (o':=off+k*8+5) (.int .i64 (zM f k0 k+1+1+1+1+1)) (Or.inr (by omega))).zPA (b':=bs) (o':=off+k*8+5+1) (.int .i64 (zM f k0 k+1+1+1+1+1+1)) (Or.inr (by omega)));have Ef:=zU (((((iC.out.zPA (b':=bs) (o':=off+k*8+2) (.string (mtF (zM f k0 k+1+1))) (Or.inr (by omega))).zPA (b':=bs) (o':=off+k*8+3) (.int .i64 (zM f k0 k+1+1+1)) (Or.inr (by omega))).zPA (b':=bs) (o':=off+k*8+4) (.int .i64 (zM f k0 k+1+1+1+1)) (Or.inr (by omega))).set (.int .i64 (zM f k0 k+1+1+1+1+1))).zPA (b':=bs) (o':=off+k*8+5+1) (.int .i64 (zM f k0 k+1+1+1+1+1+1)) (Or.inr (by omega)));have Eg:=zU (((((jC.out.zPA (b':=bs) (o':=off+k*8+2) (.string (mtF (zM f k0 k+1+1))) (Or.inr (by omega))).zPA (b':=bs) (o':=off+k*8+3) (.int .i64 (zM f k0 k+1+1+1)) (Or.inr (by omega))).zPA (b':=bs) (o':=off+k*8+4) (.int .i64 (zM f k0 k+1+1+1+1)) (Or.inr (by omega))).zPA (b':=bs) (o':=off+k*8+5) (.int .i64 (zM f k0 k+1+1+1+1+1)) (Or.inr (by omega))).set (.int .i64 (zM f k0 k+1+1+1+1+1+1)));have Eh:=zU (((((kC.out.zPA (b':=bs) (o':=off+k*8+2) (.string (mtF (zM f k0 k+1+1))) (Or.inr (by omega))).zPA (b':=bs) (o':=off+k*8+3) (.int .i64 (zM f k0 k+1+1+1)) (Or.inr (by omega))).zPA (b':=bs) (o':=off+k*8+4) (.int .i64 (zM f k0 k+1+1+1+1)) (Or.inr (by omega))).zPA (b':=bs) (o':=off+k*8+5) (.int .i64 (zM f k0 k+1+1+1+1+1)) (Or.inr (by omega))).zPA (b':=bs) (o':=off+k*8+5+1) (.int .i64 (zM f k0 k+1+1+1+1+1+1)) (Or.inr (by omega)));have nA:=zU (((((sC.out.set (off+k*8+2) (.string (mtF (zM f k0 k+1+1))) (by omega) (by omega)).set (off+k*8+3) (.int .i64 (zM f k0 k+1+1+1)) (by omega) (by omega)).set (off+k*8+4) (.int .i64 (zM f k0 k+1+1+1+1)) (by omega) (by omega)).set (off+k*8+5) (.int .i64 (zM f k0 k+1+1+1+1+1)) (by omega) (by omega)).set (off+k*8+5+1) (.int .i64 (zM f k0 k+1+1+1+1+1+1)) (by omega) (by omega));generalize (((((w2.setCell ⟨bs,off+k*8+2,none⟩ (.string (mtF (zM f k0 k+1+1)))).setCell ⟨bs,off+k*8+3,none⟩ (.int .i64 (zM f k0 k+1+1+1))).setCell ⟨bs,off+k*8+4,none⟩ (.int .i64 (zM f k0 k+1+1+1+1))).setCell ⟨bs,off+k*8+5,none⟩ (.int .i64 (zM f k0 k+1+1+1+1+1))).setCell ⟨bs,off+k*8+5+1,none⟩ (.int .i64 (zM f k0 k+1+1+1+1+1+1)))=Y at Ea Eb Ec Ed Ee Ef Eg Eh nA ⊢;refine(zC0 (kb k) _ (f k).dn (f k).ds (f k).db _ Y (Hs.out.zPK.zPF nA.out.zPF (fun h0 hx=>Hs.out.zPJ h0 hx)) (by omega) (by omega)).mono ?_;rintro e wz ⟨rfl,oC,pC⟩;have aD:=zU oC;have lC:=zU pC;clear oC pC;go_wp2;go_roundw
    case rel=>
     refine⟨k+1,by omega,by go_num,congrArg (Value.int .i64) (by show _=zM f k0 k+7+2*((f k).dn:Int);omega),fun j hj=>?_,?_⟩
     ·have st:=zL7 (s:=zBF f k0 k) cA.out (by
        intro i j hi hj bD h1 h2;rw[zMn]at h1 h2;exact tC.out i j hi hj bD h1 h2) oA nA.out (by rw[if_neg (Nat.lt_irrefl k)];exact lC.out) Ea.out Eb.out Ec.out Ed.out Ee.out Ef.out Eg.out (by rw[Hx.out];exact Eh.out) (by rw[if_neg (Nat.lt_irrefl k)];rfl) (by rw[Hx.out];exact aD.out) ⟨zE5 (by omega),zE5 (by omega)⟩ j hj
      by_cases e:j=k
      ·subst e;rw[if_pos rfl]at st;rw[if_pos (by omega)];exact st
      ·rw[if_neg e]at st;by_cases e2:j<k
       ·rw[if_pos e2]at st;rw[if_pos (by omega)];exact st
       ·rw[if_neg e2]at st;rw[if_neg (by omega)];exact st
     ·refine(ht.trans (nA.out.zPF.mono ?_)).trans (lC.out.mono ?_)
      ·rintro b rfl;exact Or.inl ⟨by omega,rfl⟩
      ·rintro b ⟨hb,rfl⟩;exact Or.inr ⟨k,oA,hb,rfl⟩
    case measure=>simp[intOf];omega
   ·obtain rfl:k=n:=(by omega);go_wp2;go_ret;refine⟨rfl,⟨eD,_,c,rfl,mc,fun _=>⟨off,rfl,fun i hi=>?_⟩⟩,ht⟩;have:=cA.out i hi;rw[if_pos hi]at this;exact this
def zLv(W:zE)(k0:Int):zE:={zPE:=zOP W.zPE k0,time:=W.time,next:=W.next,sn:=W.sn,zPG:=zB2 W.zPG (zAg W.zPE k0),pn:=W.pn,zPD:=zBF W.zPD (zc W.zPG (zAg W.zPE k0) W.sn)}
def zAZ(W:zE)(k0:Int):Int:=zM W.zPD (zc W.zPG (zAg W.zPE k0) W.sn) W.pn
theorem zNy(p:zN)(k0:Int):k0<=zAg p k0:=by
 unfold zAg;have:=zBt p.s k0 (Nat.zero_le p.n);have h0:qL p.s k0 0=k0:=rfl;omega
theorem zCp(W:zE)(k0:Int):k0<=zAg W.zPE k0/\zAg W.zPE k0<=zc W.zPG (zAg W.zPE k0) W.sn/\zc W.zPG (zAg W.zPE k0) W.sn<=zAZ W k0:=
 ⟨zNy _ _,zCb W.zPG (zAg W.zPE k0) (Nat.zero_le _),zBu W.zPD (zc W.zPG (zAg W.zPE k0) W.sn) (Nat.zero_le _)⟩
theorem zEB(lo hi:Nat)(v0 v1 v2 v3:Value)(W:zE)(k0:Int)(w:World)(h:qP w lo hi v0 v1 v2 v3 W)(sA:0<=k0)(gA:zAZ W k0<=1000000000000) :
  Calls Tryz.prog 13 #[zt v0 v1 v2 v3 W,.int .i64 k0] w fun e w'=>e = .returned (.int .i64 (zAZ W k0))/\qP w' lo hi v0 v1 v2 v3 (zLv W k0)/\zF (fun k=>lo<=k/\k<hi) w w':=by
 obtain⟨a0,c0,a1,c1,a2,c2,a3,c3,rfl,rfl,rfl,rfl⟩:=h.zPO;obtain⟨P,Q,R,⟨⟨bs,hb,kb,kv,s1,s2,s3,s4,s5⟩,⟨bt,kt,vt,t1,t2,t3⟩,⟨bp,kp,vp,p1,p2,p3⟩,pq,pr,qr⟩,hl⟩:=h;have S1:=zU s1;have S2:=zU s2;have S3:=zU s3;have S4:=zU s4;have S5:=zU s5;have T1:=zU t1;have T2:=zU t2;have T3:=zU t3;have P1:=zU p1;have P2:=zU p2;have P3:=zU p3;have aA:=zU (And.intro pq (And.intro pr (And.intro qr hl)));have HE:=zU (zCp W k0);have HK:=zU gA;have HB:=zU (zg.new w (.slice a0 W.zPE.n c0) (.slice a1 W.zPE.hn c1) (.int .i64 W.time) (.int .i64 W.next) (.slice a2 W.sn c2) (.slice a3 W.pn c3) 37);have ha:=zC w (.cells #[.slice a0 W.zPE.n c0,.slice a1 W.zPE.hn c1,.int .i64 W.time,.int .i64 W.next,.slice a2 W.sn c2,.slice a3 W.pn c3] 37);have NA:=zU (show ∀k,yV bs kb W.zPE.n W.zPE.s k\/(0<W.zPE.hn/\k=hb)->k<w.heap.size from fun k hk=>by
  rcases hk with hk | ⟨h0,rfl⟩
  ·exact s1.lt hk
  ·obtain⟨_,_,_,_,_,h3,_⟩:=s3;obtain⟨o,_,h4⟩:=h3 h0;exact(h4 0 h0).lt)
 have NB:=zU (show ∀k,zA4 bt kt W.sn W.zPG k->k<w.heap.size from fun k hk=>t1.lt hk);have NC:=zU (show ∀k,yq bp kp W.pn W.zPD k->k<w.heap.size from fun k hk=>p1.lt hk);clear s1 s2 s3 s4 s5 t1 t2 t3 p1 p2 p3 pq pr qr hl gA;obtain⟨⟨x0,-⟩,⟨x1,-⟩,⟨x2,-⟩,⟨x3,-⟩,⟨x4,-⟩,⟨x5,-⟩⟩:=HB.out;go_enter Tryz.func13,Tryz.ntmps13;go_wp2_with fail;clear x0 x1 x2 x3 x4 x5;have jA:(w.alloc (.cells #[.slice a0 W.zPE.n c0,.slice a1 W.zPE.hn c1,.int .i64 W.time,.int .i64 W.next,.slice a2 W.sn c2,.slice a3 W.pn c3] 37)).heap.size=w.heap.size+1:=World.size_alloc _ _;have mA:=zU jA;clear jA;generalize w.alloc (.cells #[.slice a0 W.zPE.n c0,.slice a1 W.zPE.hn c1,.int .i64 W.time,.int .i64 W.next,.slice a2 W.sn c2,.slice a3 W.pn c3] 37)=W0 at ha HB mA ⊢;refine(zI3 bs hb kb kv _ _ W.zPE k0 W0 (S1.out.zO9 ha) S2.out (S3.out.zO9 ha) S4.out sA (by have h1:=HE.out;have h2:=HK.out;unfold zAg at h1;omega)).mono ?_;rintro e w1 ⟨rfl,g1,g2,bA⟩;have G1:=zU g1;have G2:=zU g2;have nA:=zU bA;have eA:=zU (HB.out.zPF bA (fun x=>absurd (NA.out _ x) (by omega)));have rA:=zU ((T1.out.zO9 ha).zPF bA (fun k hk x=>aA.out.1 k (S5.out k x) (T3.out k hk)));have oA:=zU ((P1.out.zO9 ha).zPF bA (fun k hk x=>aA.out.2.1 k (S5.out k x) (P3.out k hk)));clear g1 g2 bA HB;obtain⟨⟨x0,-⟩,⟨x1,-⟩,⟨x2,-⟩,⟨x3,-⟩,⟨x4,-⟩,⟨x5,-⟩⟩:=eA.out;go_wp2_with fail;clear x0 x1 x2 x3 x4 x5;refine(zI4 bt kt vt _ W.sn W.zPG _ w1 rA.out T2.out (by have h1:=HE.out;unfold zAg at h1;omega) (by have h1:=HE.out;have h2:=HK.out;unfold zAg at h1;omega)).mono ?_;rintro e w2 ⟨rfl,g3,dA⟩;have G3:=zU g3;have fA:=zU dA;have iA:¬zA4 bt kt W.sn W.zPG w.heap.size:=fun x=>absurd (NB.out _ x) (by omega)
 have lA:=zU (eA.out.zPF dA iA);have pA:=zU (oA.out.zPF dA (fun k hk x=>aA.out.2.2.1 k (T3.out k x) (P3.out k hk)));clear g3 dA eA iA;obtain⟨⟨x0,-⟩,⟨x1,-⟩,⟨x2,-⟩,⟨x3,-⟩,⟨x4,-⟩,⟨x5,-⟩⟩:=lA.out;go_wp2_with fail;clear x0 x1 x2 x3 x4 x5;refine(zHj bp kp vp _ W.pn W.zPD _ w2 pA.out P2.out (by have h1:=HE.out;unfold zAg at h1;omega) (by have h1:=HE.out;have h2:=HK.out;unfold zAZ zAg at *;omega)).mono ?_;rintro e w3 ⟨rfl,g4,kA⟩;have G4:=zU g4;have cA:=zU kA;clear g4 kA;go_wp2;go_ret;refine⟨rfl,⟨P,Q,R,⟨⟨bs,hb,kb,kv,?_,S2.out,?_,S4.out,S5.out⟩,⟨bt,kt,vt,?_,T2.out,T3.out⟩,⟨bp,kp,vp,G4.out,P2.out,P3.out⟩,aA.out.1,aA.out.2.1,aA.out.2.2.1⟩,aA.out.2.2.2⟩,?_⟩
 ·refine(G1.out.zPF fA.out (fun h0 x=>?_) (fun i hi h0 x=>?_)).zPF cA.out (fun h0 x=>?_) (fun i hi h0 x=>?_)
  ·exact aA.out.1 _ (S5.out _ (Or.inl (Or.inl ⟨h0,rfl⟩))) (T3.out _ x)
  ·exact aA.out.1 _ (S5.out _ (Or.inl (Or.inr ⟨i,hi,h0,rfl⟩))) (T3.out _ x)
  ·exact aA.out.2.1 _ (S5.out _ (Or.inl (Or.inl ⟨h0,rfl⟩))) (P3.out _ x)
  ·exact aA.out.2.1 _ (S5.out _ (Or.inl (Or.inr ⟨i,hi,h0,rfl⟩))) (P3.out _ x)
 ·refine(G2.out.zPF fA.out (fun h0 x=>?_)).zPF cA.out (fun h0 x=>?_)
  ·exact aA.out.1 _ (S5.out _ (Or.inr ⟨h0,rfl⟩)) (T3.out _ x)
  ·exact aA.out.2.1 _ (S5.out _ (Or.inr ⟨h0,rfl⟩)) (P3.out _ x)
 ·exact G3.out.zPF cA.out (fun k hk x=>aA.out.2.2.1 k (T3.out k hk) (P3.out k x))
 ·refine(((zF.zPB ha).trans (nA.out.mono ?_)).trans (fA.out.mono ?_)).trans (cA.out.mono ?_)
  ·exact fun k hk=>aA.out.2.2.2 k (Or.inl (S5.out k hk))
  ·exact fun k hk=>aA.out.2.2.2 k (Or.inr (Or.inl (T3.out k hk)))
  ·exact fun k hk=>aA.out.2.2.2 k (Or.inr (Or.inr (P3.out k hk)))
open Go.Maps
def zDh(s:zv):Nat:=s.name.size+s.dn
def zAY(f:Nat->zv):Nat->Nat
 | 0=>0
 | k+1=>zAY f k+zDh (f k)
def zAd(s:zY):Nat:=s.name.size+s.set.size+s.dn
def qk(f:Nat->zY):Nat->Nat
 | 0=>0
 | k+1=>qk f k+zAd (f k)
def yD(W:zE):Nat:=yL W.zPE+(W.sn+zAY W.zPG W.sn)+(W.pn+qk W.zPD W.pn)
theorem zMo(v:Value)(lo hi:Nat)(s:zv)(left:Int)(w:World)(h1:zR w lo hi v s.dn s.ds s.db)(m1:s.name.size<=maxLen)(eA:0<=left)(fA:left<=1048576) :
  Calls Tryz.prog 66 #[zDC v s,.int .i64 left] w fun e w'=>zCI (zDh s) left e/\Below w.heap.size w w':=by
 unfold zDC;have H1:=zB h1;obtain⟨-,a,c,rfl,-⟩:=id h1;clear h1;unfold maxLen at m1;have aA:=zC w (.cells #[.string s.name,.int .i64 s.origin,.int .i64 s.zPH,.int .i64 s.rs,.int .i64 s.rb,.slice a s.dn c] 116);go_enter Tryz.func66,Tryz.ntmps66;by_cases h:left - (s.name.size:Int)<0
 ·go_wp2;go_ret;exact⟨⟨-1,rfl,by omega,by omega,by omega⟩,aA⟩
 ·go_wp2_with fail;refine(zEZ _ s.dn lo hi _ _ _ _ (H1.out.zO9 aA) (by omega) (by omega)).mono ?_;rintro e w1 ⟨⟨r,rfl,dA,gA,iA⟩,bA⟩;have cA:=zA aA bA;have Hr:=zB dA;clear dA bA aA;by_cases h2:r<0
  ·go_wp2;go_ret;exact⟨⟨-1,rfl,by omega,by omega,by omega⟩,cA⟩
  ·go_wp2;go_ret;refine⟨⟨_,rfl,fun _=>?_,by omega,by omega⟩,cA⟩;have:=Hr.out (by omega);unfold zDh;omega
theorem zLU(v:Value)(lo hi:Nat)(s:zY)(left:Int)(w:World)(h1:zR w lo hi v s.dn s.ds s.db)(m1:s.name.size<=maxLen)(m2:s.set.size<=maxLen)(eA:0<=left)(fA:left<=1048576) :
  Calls Tryz.prog 67 #[qX v s,.int .i64 left] w fun e w'=>zCI (zAd s) left e/\Below w.heap.size w w':=by
 unfold qX;have H1:=zB h1;obtain⟨-,a,c,rfl,-⟩:=id h1;clear h1;unfold maxLen at m1 m2;have aA:=zC w (.cells #[.int .i64 s.id,.string s.name,.string s.set,.int .i64 s.zPH,.int .i64 s.time,.int .i64 s.rs,.int .i64 s.rb,.slice a s.dn c] 119);go_enter Tryz.func67,Tryz.ntmps67;by_cases h:left - (s.name.size:Int)<0
 ·go_wp2;go_ret;exact⟨⟨-1,rfl,by omega,by omega,by omega⟩,aA⟩
 ·by_cases h':left - (s.name.size:Int) - (s.set.size:Int)<0
  ·go_wp2;go_ret;exact⟨⟨-1,rfl,by omega,by omega,by omega⟩,aA⟩
  ·go_wp2_with fail;refine(zEZ _ s.dn lo hi _ _ _ _ (H1.out.zO9 aA) (by omega) (by omega)).mono ?_;rintro e w1 ⟨⟨r,rfl,dA,gA,iA⟩,bA⟩;have cA:=zA aA bA;have Hr:=zB dA;clear dA bA aA;by_cases h2:r<0
   ·go_wp2;go_ret;exact⟨⟨-1,rfl,by omega,by omega,by omega⟩,cA⟩
   ·go_wp2;go_ret;refine⟨⟨_,rfl,fun _=>?_,by omega,by omega⟩,cA⟩;have:=Hr.out (by omega);unfold zAd;omega
theorem zFQ(f:Nat->zO)(k0:Int):∀n,qL f k0 n<=k0+2*(n:Int)+2*(zAP f n:Int)
 | 0=>by show k0<=_;omega
 | n+1=>by
  have:=zFQ f k0 n;show qL f k0 n+2+2*((f n).kn:Int)<=k0+2*((n+1:Nat):Int)+2*((zAP f n+((f n).kn+(f n).data.size):Nat):Int);omega
theorem zEL(f:Nat->zv)(k0:Int):∀n,zc f k0 n<=k0+5*(n:Int)+2*(zAY f n:Int)
 | 0=>by show k0<=_;omega
 | n+1=>by
  have:=zEL f k0 n;show zc f k0 n+5+2*((f n).dn:Int)<=k0+5*((n+1:Nat):Int)+2*((zAY f n+((f n).name.size+(f n).dn):Nat):Int);omega
theorem zDP(f:Nat->zY)(k0:Int):∀n,zM f k0 n<=k0+7*(n:Int)+2*(qk f n:Int)
 | 0=>by show k0<=_;omega
 | n+1=>by
  have:=zDP f k0 n;show zM f k0 n+7+2*((f n).dn:Int)<=k0+7*((n+1:Nat):Int)+2*((qk f n+((f n).name.size+(f n).set.size+(f n).dn):Nat):Int);omega
theorem zKu{W:zE}(h:yD W<=4000000):zAZ W 1<=1000000000000/\0<=zAZ W 1:=by
 have h1:=zFQ W.zPE.s 1 W.zPE.n;have h2:=zCp W 1;have h3:=zEL W.zPG (zAg W.zPE 1) W.sn;have h4:=zDP W.zPD (zc W.zPG (zAg W.zPE 1) W.sn) W.pn;unfold yD yL at h;have h5:zAg W.zPE 1=qL W.zPE.s 1 W.zPE.n+W.zPE.hn:=rfl;have h6:zAZ W 1=zM W.zPD (zc W.zPG (zAg W.zPE 1) W.sn) W.pn:=rfl;generalize zAg W.zPE 1=e at *;generalize zc W.zPG e W.sn=s at *;omega
theorem zFS(a b c d:Int)(w:World) :
  Calls Tryz.prog 174 #[.agg #[.int .i64 a,.int .i64 b],.agg #[.int .i64 c,.int .i64 d]] w fun e w'=>zG (zBd a b c d) e/\Below w.heap.size w w':=by
 by_cases h1:a=c
 ·by_cases h2:b=d
  ·subst h1 h2;go_enter Tryz.func174,Tryz.ntmps174;go_wp2;go_ret;exact⟨zG.yes ⟨rfl,rfl⟩,((Below.refl _ _).alloc (Nat.le_refl _) _).alloc (by simp) _⟩
  ·subst h1;have hb:(b != d)=true:=(by simp[h2]);have H2:Hid (¬zBd a b a d):=fun h=>h2 h.2
   clear h2;go_enter Tryz.func174,Tryz.ntmps174;go_wp2;go_ret;exact⟨zG.no H2.out,((Below.refl _ _).alloc (Nat.le_refl _) _).alloc (by simp) _⟩
 ·have hb:(a != c)=true:=(by simp[h1]);have H2:Hid (¬zBd a b c d):=fun h=>h1 h.1
  clear h1;go_enter Tryz.func174,Tryz.ntmps174;go_wp2;go_ret;exact⟨zG.no H2.out,((Below.refl _ _).alloc (Nat.le_refl _) _).alloc (by simp) _⟩
theorem zIl(v v':Value)(n n' lo hi jA fA:Nat)(f f':Nat->Int)(w:World)(h1:qs w lo hi v n f)(h2:qs w jA fA v' n' f') :
  Calls Tryz.prog 109 #[v,v'] w fun e w'=>zG (zKi n n' f f') e/\Below w.heap.size w w':=by
 obtain⟨m1,a,c,rfl,mc,g1⟩:=h1;obtain⟨m2,a',c',rfl,mA,g2⟩:=h2;unfold maxLen at m1 m2;by_cases hn:n=n'
 ·subst hn;have iA:((n:Int) != (n:Int))=false:=(by simp);go_enter Tryz.func109,Tryz.ntmps109;go_wp2
  go_loopw [5] (fun i wr=>∃k:Nat,k<=n/\i = .int .i64 k/\(∀j,j<k->f j=f' j)/\Below w.heap.size w wr) (fun i _=>n - (intOf i).toNat)
  case atStart=>exact⟨0,Nat.zero_le _,rfl,fun j h=>absurd h (Nat.not_lt_zero _),Below.refl _ _⟩
  case round=>
   obtain⟨k,hk,rfl,cA,hb⟩:=hrel;have bA:Hid (∀j,j<k->f j=f' j):=cA;clear cA;by_cases aA:k<n
   ·have gA:(k:Int)<(n:Int):=(by omega);obtain⟨b,off,rfl,_,_,k1⟩:=g1 (by omega);obtain⟨b',dA,rfl,_,_,k2⟩:=g2 (by omega);have kA:wr.cell? ⟨b,off+k,none⟩=some (.int .i64 (f k)):=(hb.cell (zD (k1 k aA))).trans (k1 k aA);have lA:wr.cell? ⟨b',dA+k,none⟩=some (.int .i64 (f' k)):=(hb.cell (zD (k2 k aA))).trans (k2 k aA);clear k1 k2 g1 g2;by_cases he:f k=f' k
    ·have eA:(f k != f' k)=false:=(by simp[he]);have He:Hid (f k=f' k):=he;clear he;go_wp2_with fail
     go_quiet (fail)
     go_wp2;go_roundw
     case rel=>exact⟨k+1,by omega,by go_num,zr aA bA.out He.out,zh hb _⟩
     case measure=>simp[intOf];omega
    ·have eA:(f k != f' k)=true:=(by simp[he]);have He:Hid (¬f k=f' k):=he;clear he;go_wp2_with fail
     go_quiet (fail)
     go_wp2;go_ret;exact⟨zG.no fun h=>He.out (h.2 k aA),zh hb _⟩
   ·go_wp2;go_ret;exact⟨zG.yes ⟨rfl,fun i hi=>bA.out i (by omega)⟩,hb⟩
 ·have iA:((n:Int) != (n':Int))=true:=(by simp;omega);have Hn:Hid (¬n=n'):=hn;clear hn;go_enter Tryz.func109,Tryz.ntmps109;go_wp2;go_ret;exact⟨zG.no fun h=>Hn.out h.1,Below.refl _ _⟩
theorem zEN(v v':Value)(n n' lo hi oA lA:Nat)(f g f' g':Nat->Int)(w:World)(h1:zR w lo hi v n f g)(h2:zR w oA lA v' n' f' g') :
  Calls Tryz.prog 175 #[v,v'] w fun e w'=>zG (zKk n n' f g f' g') e/\Below w.heap.size w w':=by
 obtain⟨m1,a,c,rfl,mc,g1⟩:=h1;obtain⟨m2,a',c',rfl,pA,g2⟩:=h2;unfold maxLen at m1 m2;by_cases hn:n=n'
 ·subst hn;have nA:((n:Int) != (n:Int))=false:=(by simp);go_enter Tryz.func175,Tryz.ntmps175;go_wp2
  go_loopw [5] (fun i wr=>∃k:Nat,k<=n/\i = .int .i64 k/\(∀j,j<k->f j=f' j/\g j=g' j)/\Below w.heap.size w wr) (fun i _=>n - (intOf i).toNat)
  case atStart=>exact⟨0,Nat.zero_le _,rfl,fun j h=>absurd h (Nat.not_lt_zero _),Below.refl _ _⟩
  case round=>
   obtain⟨k,hk,rfl,eA,hb⟩:=hrel;have dA:Hid (∀j,j<k->f j=f' j/\g j=g' j):=eA;clear eA;by_cases bA:k<n
   ·have mA:(k:Int)<(n:Int):=(by omega);obtain⟨b,off,rfl,_,_,k1⟩:=g1 (by omega);obtain⟨b',aA,rfl,_,_,k2⟩:=g2 (by omega);have fA:wr.cell? ⟨b,off+k*2,none⟩=some (.int .i64 (f k)):=(hb.cell (zD (k1 k bA).1)).trans (k1 k bA).1;have iA:wr.cell? ⟨b,off+k*2+1,none⟩=some (.int .i64 (g k)):=(hb.cell (zD (k1 k bA).2)).trans (k1 k bA).2;have gA:wr.cell? ⟨b',aA+k*2,none⟩=some (.int .i64 (f' k)):=(hb.cell (zD (k2 k bA).1)).trans (k2 k bA).1;have jA:wr.cell? ⟨b',aA+k*2+1,none⟩=some (.int .i64 (g' k)):=(hb.cell (zD (k2 k bA).2)).trans (k2 k bA).2;clear k1 k2 g1 g2;go_wp2_with fail;go_region_held3 (fun w'=>w'.cell? ⟨b,off+k*2,none⟩=some (.int .i64 (f k))/\w'.cell? ⟨b,off+k*2+1,none⟩=some (.int .i64 (g k))/\w'.cell? ⟨b',aA+k*2,none⟩=some (.int .i64 (f' k))/\w'.cell? ⟨b',aA+k*2+1,none⟩=some (.int .i64 (g' k))) (go_keep)
     (first | (go_at_call 174;refine(zFS _ _ _ _ _).mono ?_;rintro e w1 ⟨⟨t,rfl,ht⟩,cA⟩;have z1:=(cA.cell (p:=⟨b,off+k*2,none⟩) (zD fA)).trans fA;have z2:=(cA.cell (p:=⟨b,off+k*2+1,none⟩) (zD iA)).trans iA;have z3:=(cA.cell (p:=⟨b',aA+k*2,none⟩) (zD gA)).trans gA;have z4:=(cA.cell (p:=⟨b',aA+k*2+1,none⟩) (zD jA)).trans jA))
    have Ht:Hid (t=true↔zBd (f k) (g k) (f' k) (g' k)):=ht;have kA:=qZ hb cA;clear ht z1 z2 z3 z4 fA iA gA jA cA;cases t
    ·go_wp2;go_ret;exact⟨zG.no fun h=>absurd (Ht.out.2 (h.2 k bA)) (by simp),kA⟩
    ·go_wp2;go_roundw
     case rel=>exact⟨k+1,by omega,by go_num,zr bA dA.out (Ht.out.1 rfl),kA⟩
     case measure=>simp[intOf];omega
   ·go_wp2;go_ret;exact⟨zG.yes ⟨rfl,fun i hi=>dA.out i (by omega)⟩,hb⟩
 ·have nA:((n:Int) != (n':Int))=true:=(by simp;omega);have Hn:Hid (¬n=n'):=hn;clear hn;go_enter Tryz.func175,Tryz.ntmps175;go_wp2;go_ret;exact⟨zG.no fun h=>Hn.out h.1,Below.refl _ _⟩
theorem zKx(v0 v1 v2 u0 u1 u2:Value)(lo hi fA eA:Nat)(s t:zO)(w:World)(h1:qT w lo hi v0 v1 v2 s)(h2:qT w fA eA u0 u1 u2 t) :
  Calls Tryz.prog 173 #[.agg #[v0,v1,v2],.agg #[u0,u1,u2]] w fun e w'=>zG (zDK s t) e/\Below w.heap.size w w':=by
 obtain⟨rfl,p1,rfl,m1⟩:=h1;obtain⟨rfl,p2,rfl,m2⟩:=h2;have q1:=p1;have q2:=p2;obtain⟨_,a,c,rfl,_⟩:=p1;obtain⟨_,a',c',rfl,_⟩:=p2;by_cases h1:s.zPI=t.zPI
 ·have hb:(s.zPI != t.zPI)=false:=(by simp[h1]);have H1:Hid (s.zPI=t.zPI):=h1;clear h1;go_enter Tryz.func173,Tryz.ntmps173;go_wp2_with fail;have bA:=((Below.refl w.heap.size w).alloc (Nat.le_refl _) (.cells #[.int .i64 s.zPI,.slice a s.kn c,.string s.data] 127)).alloc (by simp) (.cells #[.int .i64 t.zPI,.slice a' t.kn c',.string t.data] 127);refine(zEN _ _ _ _ _ _ _ _ _ _ _ _ _ (q1.zO9 bA) (q2.zO9 bA)).mono ?_;rintro e w1 ⟨⟨x,rfl,hx⟩,aA⟩;have Hx:Hid (x=true↔zKk s.kn t.kn s.ks s.kb t.ks t.kb):=hx;have cA:=zA bA aA;have e1:=aA.cell (p:=⟨w.heap.size,2,none⟩) (by simp;omega);have e2:=aA.cell (p:=⟨w.heap.size+1,2,none⟩) (by simp);simp at e1 e2;clear hx aA bA;cases x
  ·go_wp2;go_ret;exact⟨zG.no fun h=>absurd (Hx.out.2 h.2.1) (by simp),cA⟩
  ·by_cases h3:s.data=t.data
   ·have dA:=zCS h3;have H3:Hid (s.data=t.data):=h3;clear h3;go_wp2;go_ret;exact⟨zG.yes ⟨H1.out,(by simpa using Hx.out),H3.out⟩,cA⟩
   ·have dA:=zEY h3;have H3:Hid (¬s.data=t.data):=h3;clear h3;go_wp2;go_ret;exact⟨zG.no fun h=>H3.out h.2.2,cA⟩
 ·have hb:(s.zPI != t.zPI)=true:=(by simp[h1]);have H1:Hid (¬s.zPI=t.zPI):=h1;clear h1;go_enter Tryz.func173,Tryz.ntmps173;go_wp2;go_ret;exact⟨zG.no fun h=>H1.out h.1,((Below.refl _ _).alloc (Nat.le_refl _) _).alloc (by simp) _⟩
theorem zJm(v v':Value)(n n' lo hi rA nA:Nat)(f f':Nat->zO)(w:World)(h1:qG w lo hi v n f)(h2:qG w rA nA v' n' f') :
  Calls Tryz.prog 108 #[v,v'] w fun e w'=>zG (zIg n n' f f') e/\Below w.heap.size w w':=by
 obtain⟨m1,a,c,rfl,mc,g1⟩:=h1;obtain⟨m2,a',c',rfl,bB,g2⟩:=h2;unfold maxLen at m1 m2;by_cases hn:n=n'
 ·subst hn;have tA:((n:Int) != (n:Int))=false:=(by simp);go_enter Tryz.func108,Tryz.ntmps108;go_wp2
  go_loopw [5] (fun i wr=>∃k:Nat,k<=n/\i = .int .i64 k/\(∀j,j<k->zDK (f j) (f' j))/\Below w.heap.size w wr) (fun i _=>n - (intOf i).toNat)
  case atStart=>exact⟨0,Nat.zero_le _,rfl,fun j h=>absurd h (Nat.not_lt_zero _),Below.refl _ _⟩
  case round=>
   obtain⟨k,hk,rfl,dA,hb⟩:=hrel;have cA:Hid (∀j,j<k->zDK (f j) (f' j)):=dA;clear dA;by_cases eA:k<n
   ·have sA:(k:Int)<(n:Int):=(by omega);obtain⟨b,off,rfl,_,_,k1⟩:=g1 (by omega);obtain⟨b',aA,rfl,_,_,k2⟩:=g2 (by omega);obtain⟨x0,x1,x2,c0,c1,c2,hs⟩:=k1 k eA;obtain⟨y0,y1,y2,d0,d1,d2,ht⟩:=k2 k eA;have fA:=(hb.cell (zD c0)).trans c0;have gA:=(hb.cell (zD c1)).trans c1;have iA:=(hb.cell (zD c2)).trans c2;have jA:=(hb.cell (zD d0)).trans d0;have kA:=(hb.cell (zD d1)).trans d1;have lA:=(hb.cell (zD d2)).trans d2;have oA:=hs.zO9 hb;have pA:=ht.zO9 hb;clear k1 k2 g1 g2 c0 c1 c2 d0 d1 d2 hs ht;have vA:=oA;have aB:=pA;obtain⟨rfl,⟨_,sa,sc,rfl,_⟩,rfl,_⟩:=vA;obtain⟨rfl,⟨_,ta,tc,rfl,_⟩,rfl,_⟩:=aB;go_wp2_with fail;go_region_held3 (fun w'=>w'.cell? ⟨b,off+k*3,none⟩=some (.int .i64 (f k).zPI)/\w'.cell? ⟨b,off+k*3+1,none⟩=some (.slice sa (f k).kn sc)/\w'.cell? ⟨b,off+k*3+2,none⟩=some (.string (f k).data)/\w'.cell? ⟨b',aA+k*3,none⟩=some (.int .i64 (f' k).zPI)/\w'.cell? ⟨b',aA+k*3+1,none⟩=some (.slice ta (f' k).kn tc)/\w'.cell? ⟨b',aA+k*3+2,none⟩=some (.string (f' k).data)) (go_keep)
     (first | (go_at_call 173;refine(zKx _ _ _ _ _ _ lo hi rA nA (f k) (f' k) _ ?_ ?_).mono ?_;(exact oA.zO9 ((Below.refl _ _).drew));(exact pA.zO9 ((Below.refl _ _).drew));rintro e w1 ⟨⟨t,rfl,hx⟩,bA⟩;have z1:=(bA.cell (p:=⟨b,off+k*3,none⟩) (zD fA)).trans fA;have z2:=(bA.cell (p:=⟨b,off+k*3+1,none⟩) (zD gA)).trans gA;have z3:=(bA.cell (p:=⟨b,off+k*3+2,none⟩) (zD iA)).trans iA;have y1:=(bA.cell (p:=⟨b',aA+k*3,none⟩) (zD jA)).trans jA;have y2:=(bA.cell (p:=⟨b',aA+k*3+1,none⟩) (zD kA)).trans kA;have y3:=(bA.cell (p:=⟨b',aA+k*3+2,none⟩) (zD lA)).trans lA))
    have Ht:Hid (t=true↔zDK (f k) (f' k)):=hx;have mA:=qZ hb bA;clear hx z1 z2 z3 y1 y2 y3 fA gA iA jA kA lA bA;cases t
    ·go_wp2;go_ret;exact⟨zG.no fun h=>absurd (Ht.out.2 (h.2 k eA)) (by simp),mA⟩
    ·go_wp2;go_roundw
     case rel=>exact⟨k+1,by omega,by go_num,zr eA cA.out (Ht.out.1 rfl),mA⟩
     case measure=>simp[intOf];omega
   ·go_wp2;go_ret;exact⟨zG.yes ⟨rfl,fun i hi=>cA.out i (by omega)⟩,hb⟩
 ·have tA:((n:Int) != (n':Int))=true:=(by simp;omega);have Hn:Hid (¬n=n'):=hn;clear hn;go_enter Tryz.func108,Tryz.ntmps108;go_wp2;go_ret;exact⟨zG.no fun h=>Hn.out h.1,Below.refl _ _⟩
theorem zKv(v0 v1 u0 u1:Value)(lo hi gA fA:Nat)(p q:zN)(w:World)(h1:qS w lo hi v0 v1 p)(h2:qS w gA fA u0 u1 q) :
  Calls Tryz.prog 39 #[.agg #[v0,v1],.agg #[u0,u1]] w fun e w'=>zG (zId p q) e/\Below w.heap.size w w':=by
 have q1:=h1;have q2:=h2;obtain⟨⟨_,a,c,rfl,_⟩,⟨_,a1,c1,rfl,_⟩⟩:=h1;obtain⟨⟨_,b,d,rfl,_⟩,⟨_,b1,d1,rfl,_⟩⟩:=h2;go_enter Tryz.func39,Tryz.ntmps39;go_wp2_with fail;have cA:=((Below.refl w.heap.size w).alloc (Nat.le_refl _) (.cells #[.slice a p.n c,.slice a1 p.hn c1] 33)).alloc (by simp) (.cells #[.slice b q.n d,.slice b1 q.hn d1] 33);refine(zJm _ _ _ _ _ _ _ _ _ _ _ (q1.1.zO9 cA) (q2.1.zO9 cA)).mono ?_;rintro e w1 ⟨⟨x,rfl,hx⟩,bA⟩;have Hx:Hid (x=true↔zIg p.n q.n p.s q.s):=hx;have aA:=zA cA bA;have e1:=bA.cell (p:=⟨w.heap.size,1,none⟩) (by simp;omega);have e2:=bA.cell (p:=⟨w.heap.size+1,1,none⟩) (by simp);simp at e1 e2;clear hx bA cA;cases x
 ·go_wp2;go_ret;exact⟨zG.no fun h=>absurd (Hx.out.2 h.1) (by simp),aA⟩
 ·go_wp2_with fail;refine(zIl _ _ _ _ _ _ _ _ _ _ _ (q1.2.zO9 aA) (q2.2.zO9 aA)).mono ?_;rintro e w2 ⟨⟨y,rfl,hy⟩,dA⟩;have Hy:Hid (y=true↔zKi p.hn q.hn p.h q.h):=hy;have eA:=zA aA dA;clear hy dA aA;cases y
  ·go_wp2;go_ret;exact⟨zG.no fun h=>absurd (Hy.out.2 h.2) (by simp),eA⟩
  ·go_wp2;go_ret;exact⟨zG.yes ⟨(by simpa using Hx.out),(by simpa using Hy.out)⟩,eA⟩
end Go.Proofs.YtmgeglgboadfiaaGreatDoor
