/- A part of the proof. -/
import Derived.Test.YtmgeglgboadfiaaGreatDoorV10
import Derived.ArgAppend
set_option linter.unusedVariables false
set_option maxRecDepth 20000
set_option maxHeartbeats 4000000
namespace Go.Proofs.YtmgeglgboadfiaaGreatDoor
open Go.RowKit
def zBF(k:Nat)(out:ByteArray):ByteArray:=
 if h:k=0 then out else zBF (k / 10) (⟨#[48+UInt8.ofNat (k % 10)]⟩ ++ out)
termination_by k
decreasing_by omega
def mtF(k:Int):ByteArray:=if k<=0 then⟨#[109,48]⟩else⟨#[109]⟩ ++ zBF k.toNat ⟨#[]⟩
theorem zLY{n:Nat}(h:(n:Int)<=1000000000000):n<10 ^ (13 - (⟨#[]⟩:ByteArray).size):=by
 show n<10 ^ 13;omega
theorem zLr(x:UInt8)(out:ByteArray):((⟨#[x]⟩:ByteArray) ++ out).size=out.size+1:=by
 rw[ByteArray.size_append];show 1+out.size=_;omega
theorem zPm{m:Nat}{out:ByteArray}(h:m<10 ^ (13 - out.size)):m<=10000000000000:=by
 have h2:10 ^ (13 - out.size)<=10 ^ 13:=Nat.pow_le_pow_right (by omega) (by omega);omega
theorem zNu{m:Nat}{out:ByteArray}(x:UInt8)(h0:¬m=0)(h:m<10 ^ (13 - out.size))(h2:out.size<=13) :
  m / 10<10 ^ (13 - ((⟨#[x]⟩:ByteArray) ++ out).size)/\((⟨#[x]⟩:ByteArray) ++ out).size<=13:=by
 rw[zLr];by_cases e:out.size=13
 ·rw[e]at h;simp at h;omega
 ·obtain⟨j,hj⟩:∃j,13 - out.size=j+1:=⟨12 - out.size,by omega⟩;rw[hj,Nat.pow_succ]at h;have:13 - (out.size+1)=j:=(by omega);rw[this];exact⟨by omega,by omega⟩
theorem zQX{m:Nat}{out:ByteArray}(h0:¬m=0):zBF (m / 10) (⟨#[48+UInt8.ofNat (m % 10)]⟩ ++ out)=zBF m out:=by
 conv=>rhs;rw[zBF]
 rw[dif_neg h0]
theorem zQO(m:Nat):∀(out:ByteArray),m<10 ^ (13 - out.size)->out.size<=13->(zBF m out).size<=13:=by
 induction m using Nat.strongRecOn with
 | _ m ih=>
  intro out h h2;by_cases h0:m=0
  ·rw[zBF,dif_pos h0];exact h2
  ·rw[zBF,dif_neg h0];have:=zNu (48+UInt8.ofNat (m % 10)) h0 h h2;exact ih (m / 10) (by omega) _ this.1 this.2
theorem zFz{k:Int}(hk:k<=1000000000000):(mtF k).size<=maxLen:=by
 unfold mtF maxLen;split
 ·decide
 ·have h:(zBF k.toNat ⟨#[]⟩).size<=13:=zQO _ _ (zLY (by omega)) (Nat.zero_le _);rw[zLr];omega
theorem zO5(w:World)(n:Int):(convert 216 9 (.slice (some ⟨w.heap.size,0,none⟩) 1 1)).run Tryz.prog (w.alloc (.cells #[.int .u8 n] 5)) = .ok (.string ⟨#[UInt8.ofNat n.toNat]⟩) (w.alloc (.cells #[.int .u8 n] 5)):=
 run_convert_bytes_arg (P:=Tryz.prog) (w.alloc (.cells #[.int .u8 n] 5)) 216 5 (by kernel_rfl) (by kernel_rfl) w.heap.size 0 1 1 [n] rfl (fun i hi=>by
  obtain rfl:i=0:=(by omega);simp) 9 (by kernel_rfl)
theorem yy(k:Int)(w:World)(hk:k<=1000000000000) :
  Calls Tryz.prog 114 #[.int .i64 k] w fun e w'=>e = .returned (.string (mtF k))/\Below w.heap.size w w':=by
 by_cases h0:k<=0
 ·have hm:Hid (mtF k=⟨#[109,48]⟩):=if_pos h0;go_enter Tryz.func114,Tryz.ntmps114;go_wp2;go_ret;exact⟨by rw[hm.out];rfl,Below.refl _ _⟩
 ·obtain⟨n,rfl⟩:=Int.eq_ofNat_of_zero_le (by omega:0<=k);have hm:Hid (mtF (n:Int)=⟨#[109]⟩ ++ zBF n ⟨#[]⟩):=if_neg h0;have eA:Hid (n<10 ^ (13 - (⟨#[]⟩:ByteArray).size)):=zLY hk;have iA:=zO5;go_enter Tryz.func114,Tryz.ntmps114;go_wp2
  go_loopw [0,3] (fun v s wr=>∃(m:Nat) (out:ByteArray),v = .int .i64 m/\s = .string out/\m<10 ^ (13 - out.size)/\out.size<=13/\zBF m out=zBF n ⟨#[]⟩/\Below w.heap.size w wr) (fun v _ _=>(intOf v).toNat)
  case atStart=>exact⟨n,⟨#[]⟩,rfl,rfl,eA.out,Nat.zero_le _,rfl,Below.refl _ _⟩
  case round=>
   obtain⟨m,out,rfl,rfl,aA,dA,cA,hb⟩:=hrel;have bA:Hid (m<10 ^ (13 - out.size)/\zBF m out=zBF n ⟨#[]⟩):=⟨aA,cA⟩;have fA:=zPm aA;clear aA cA;by_cases hz:m=0
   ·subst hz;go_wp2;go_ret;refine⟨?_,hb⟩;have e1:=bA.out.2;rw[zBF,dif_pos rfl]at e1;rw[hm.out,<-e1];rfl
   ·have gA:(0:Int)<(m:Int):=(by omega);have Hz:Hid (¬m=0):=hz;clear hz;go_wp2;go_roundw
    case rel=>
     have hn:=zNu (48+UInt8.ofNat (m % 10)) Hz.out bA.out.1 dA;exact⟨m / 10,_,by go_num,rfl,hn.1,hn.2,(zQX Hz.out).trans bA.out.2,hb.alloc hb.size _⟩
    case measure=>simp[intOf];omega
theorem za{P:Prop}(h:P):Hid P:=h
def zAp(b:Nat)(w w':World):Prop:=∀cur,w.heap[b]?=some (.cells cur 2 (0,0))->∃cur',w'.heap[b]?=some (.cells cur' 2 (0,0))/\cur'.size=cur.size
theorem zAp.refl(b:Nat)(w:World):zAp b w w:=fun aA h=>⟨aA,h,rfl⟩
theorem zAp.set{b:Nat}{w w':World}(h:zAp b w w')(o:Nat)(u:Value):zAp b w (w'.setCell ⟨b,o,none⟩ u):=fun bA hc=>by
 obtain⟨aA,h1,h2⟩:=h bA hc;exact⟨aA.setIfInBounds o u,zAZ u h1,by simpa using h2⟩
theorem zAp.room{b:Nat}{w w':World}{a:Option Addr}{n c:Nat}(h:zAp b w w')(hr:zQ6 w b a n c):zQ6 w' b a n c:=fun cA=>by
 obtain⟨r0,r1,r2,bA,r3,r4⟩:=hr cA;obtain⟨aA,h1,h2⟩:=h bA r3;exact⟨r0,r1,r2,aA,h1,by omega⟩
theorem zIJ(b:Nat)(v:Value)(n:Nat)(f:Nat->Int)(k0:Int)(w:World)(h1:qf w b v n f)(nA:0<=k0)(mA:k0+n<=1000000000000) :
  Calls Tryz.prog 113 #[v,.int .i64 k0] w fun e w'=>e = .returned (.int .i64 (k0+n))/\qf w' b v n (fun i=>k0+i)/\zF (fun k=>0<n/\k=b) w w':=by
 have iA:=h1;obtain⟨m1,a,c,rfl,mc,g1,bA⟩:=h1;have cA:=za bA;clear bA;by_cases lA:n=0
 ·subst lA;go_enter Tryz.func113,Tryz.ntmps113;go_wp2;refine wp_loop_rounds 1 ?_;rw[rounds_succ];go_wp2;go_ret;exact⟨by simp,⟨m1,a,c,rfl,mc,fun h=>absurd h (by omega),cA.out⟩,zF.refl _ _⟩
 ·obtain⟨off,rfl,g2⟩:=g1 (by omega);clear g1;have jA:=m1;unfold maxLen at m1;have G2:Hid (∀i,i<n->zW w b (off+i) (.int .i64 (f i))):=g2;clear g2 iA;go_enter Tryz.func113,Tryz.ntmps113;go_wp2
  go_loopw [1,5] (fun m i wr=>∃k:Nat,k<=n/\i = .int .i64 k/\m = .int .i64 (k0+k)/\(∀j,j<n->zW wr b (off+j) (.int .i64 (if j<k then k0+j else f j)))/\zF (fun k=>0<n/\k=b) w wr/\zAp b w wr) (fun _ i _=>n - (intOf i).toNat)
  case atStart=>exact⟨0,Nat.zero_le _,rfl,by simp,fun j hj=>by simpa using G2.out j hj,zF.refl _ _,zAp.refl _ _⟩
  case round=>
   obtain⟨k,hk,rfl,rfl,dA,ht,fA⟩:=hrel;have eA:=za fA;clear fA;have aA:Hid (∀j,j<n->zW wr b (off+j) (.int .i64 (if j<k then k0+j else f j))):=dA;clear dA;by_cases kA:k<n
   ·have gA:(k:Int)<(n:Int):=(by omega);obtain⟨hc,hf⟩:=aA.out k kA;go_wp2;go_roundw
    case rel=>
     refine⟨k+1,by omega,by go_num,by go_num,fun j hj=>?_,ht.setCell ⟨by omega,rfl⟩ _,eA.out.set _ _⟩;by_cases e:j=k
     ·subst e;rw[if_pos (by omega)];exact(aA.out j hj).set _
     ·have:=(aA.out j hj).zRY (b':=b) (o':=off+k) (.int .i64 (k0+k)) (Or.inr (by omega));by_cases e2:j<k
      ·rw[if_pos (by omega)];rw[if_pos e2]at this;exact this
      ·rw[if_neg (by omega)];rw[if_neg e2]at this;exact this
    case measure=>simp[intOf];omega
   ·obtain rfl:k=n:=(by omega);go_wp2;go_ret;refine⟨rfl,⟨jA,_,c,rfl,mc,fun _=>⟨off,rfl,fun i hi=>?_⟩,eA.out.room cA.out⟩,ht⟩;have:=aA.out i hi;rw[if_pos hi]at this;exact this
theorem zDk(b:Nat)(v:Value)(n:Nat)(f g:Nat->Int)(k0:Int)(w:World)(h1:zm w b v n f g)(jA:0<=k0)(iA:k0+2*n<=1000000000000) :
  Calls Tryz.prog 115 #[v,.int .i64 k0] w fun e w'=>e = .returned (.int .i64 (k0+2*n))/\zm w' b v n (fun i=>k0+2*i) (fun i=>k0+2*i+1)/\zF (fun k=>0<n/\k=b) w w':=by
 have dA:=h1;obtain⟨m1,a,c,rfl,mc,g1⟩:=h1;by_cases gA:n=0
 ·subst gA;go_enter Tryz.func115,Tryz.ntmps115;go_wp2;refine wp_loop_rounds 1 ?_;rw[rounds_succ];go_wp2;go_ret;exact⟨by simp,⟨m1,a,c,rfl,mc,fun h=>absurd h (by omega)⟩,zF.refl _ _⟩
 ·obtain⟨off,rfl,g2⟩:=g1 (by omega);clear g1;have eA:=m1;unfold maxLen at m1;have G2:Hid (∀i,i<n->zW w b (off+i*2) (.int .i64 (f i))/\zW w b (off+i*2+1) (.int .i64 (g i))):=g2;clear g2 dA;go_enter Tryz.func115,Tryz.ntmps115;go_wp2
  go_loopw [1,5] (fun m i wr=>∃k:Nat,k<=n/\i = .int .i64 k/\m = .int .i64 (k0+2*k)/\(∀j,j<n->zW wr b (off+j*2) (.int .i64 (if j<k then k0+2*j else f j))/\zW wr b (off+j*2+1) (.int .i64 (if j<k then k0+2*j+1 else g j)))/\zF (fun k=>0<n/\k=b) w wr) (fun _ i _=>n - (intOf i).toNat)
  case atStart=>exact⟨0,Nat.zero_le _,rfl,by simp,fun j hj=>by simpa using G2.out j hj,zF.refl _ _⟩
  case round=>
   obtain⟨k,hk,rfl,rfl,bA,ht⟩:=hrel;have aA:Hid (∀j,j<n->zW wr b (off+j*2) (.int .i64 (if j<k then k0+2*j else f j))/\zW wr b (off+j*2+1) (.int .i64 (if j<k then k0+2*j+1 else g j))):=bA;clear bA;by_cases fA:k<n
   ·have cA:(k:Int)<(n:Int):=(by omega);obtain⟨⟨hc,hf⟩,⟨lA,kA⟩⟩:=aA.out k fA;go_wp2;go_roundw
    case rel=>
     refine⟨k+1,by omega,by go_num,by go_num,fun j hj=>?_,(ht.setCell ⟨by omega,rfl⟩ _).setCell ⟨by omega,rfl⟩ _⟩;by_cases e:j=k
     ·subst e;rw[if_pos (by omega),if_pos (by omega)];exact⟨((aA.out j hj).1.set _).zRY _ (Or.inr (by omega)),((aA.out j hj).2.zRY _ (Or.inr (by omega))).set _⟩
     ·have t1:=((aA.out j hj).1.zRY (b':=b) (o':=off+k*2) (.int .i64 (k0+2*k)) (Or.inr (by omega))).zRY (b':=b) (o':=off+k*2+1) (.int .i64 (k0+2*k+1)) (Or.inr (by omega));have t2:=((aA.out j hj).2.zRY (b':=b) (o':=off+k*2) (.int .i64 (k0+2*k)) (Or.inr (by omega))).zRY (b':=b) (o':=off+k*2+1) (.int .i64 (k0+2*k+1)) (Or.inr (by omega));by_cases e2:j<k
      ·rw[if_pos (by omega),if_pos (by omega)];rw[if_pos e2]at t1 t2;exact⟨t1,t2⟩
      ·rw[if_neg (by omega),if_neg (by omega)];rw[if_neg e2]at t1 t2;exact⟨t1,t2⟩
    case measure=>simp[intOf];omega
   ·obtain rfl:k=n:=(by omega);go_wp2;go_ret;refine⟨rfl,⟨eA,_,c,rfl,mc,fun _=>⟨off,rfl,fun i hi=>?_⟩⟩,ht⟩;have:=aA.out i hi;rw[if_pos hi,if_pos hi]at this;exact this
def qR(f:Nat->zL)(k0:Int):Nat->Int
 | 0=>k0
 | j+1=>qR f k0 j+2+2*(f j).kn
def zQx(s:zL)(c:Int):zL:={zRi:=c,kn:=s.kn,ks:=fun i=>c+1+2*i,kb:=fun i=>c+1+2*i+1,data:=mtF (c+1+2*s.kn)}
theorem zHo(f:Nat->zL)(k0:Int)(j:Nat):∀m,qR f k0 j<=qR f k0 (j+m)
 | 0=>Int.le_refl _
 | m+1=>by
  have:=zHo f k0 j m;show _<=qR f k0 (j+m)+2+2*((f (j+m)).kn:Int);omega
theorem zCq(f:Nat->zL)(k0:Int){j n:Nat}(h:j<=n):qR f k0 j<=qR f k0 n:=by
 obtain⟨m,rfl⟩:=Nat.exists_eq_add_of_le h;exact zHo f k0 j m
def zEN(f:Nat->zL)(k0:Int)(j:Nat):zL:=zQx (f j) (qR f k0 j)
theorem zM3{w w1 w2:World}{bs off:Nat}{kb:Nat->Nat}{kv:Nat->Value}{n k:Nat}{f:Nat->zL}{s':zL}
  (h:∀j,j<n->zAB w bs (off+j*3) (kb j) (kv j) (f j)) (cA:yP kb n f) (hk:k<n)
  (t1:zF (fun b=>0<(f k).kn/\b=kb k) (w.setCell ⟨bs,off+k*3,none⟩ (.int .i64 s'.zRi)) w1) (t2:Below w1.heap.size w1 w2)
  (bA:s'.kn=(f k).kn) (hp:zm w1 (kb k) (kv k) s'.kn s'.ks s'.kb) (hs:s'.data.size<=maxLen) :
  ∀j,j<n->zAB (w2.setCell ⟨bs,off+k*3+2,none⟩ (.string s'.data)) bs (off+j*3) (kb j) (kv j) (if j=k then s' else f j):=by
 intro j hj;have nb:¬(0<(f k).kn/\bs=kb k):=fun hx=>(h k hk).zRk hx.1 hx.2.symm
 by_cases e:j=k
 ·subst e;rw[if_pos rfl];have aA:=h j hj;refine⟨?_,?_,?_,?_,hs,?_⟩
  ·exact(((aA.zRi.set _).zRf t1 nb).zRX t2).zRY _ (Or.inr (by omega))
  ·exact(((aA.kidsv.zRY _ (Or.inr (by omega))).zRf t1 nb).zRX t2).zRY _ (Or.inr (by omega))
  ·exact(((aA.data.zRY _ (Or.inr (by omega))).zRf t1 nb).zRX t2).set _
  ·refine(hp.zRX t2).zRf (zF.put _ _ _ _) (fun h0 hx=>?_);exact aA.zRk (bA▸h0) hx
  ·rw[bA];exact aA.zRk
 ·rw[if_neg e];have aA:=h j hj;have c0:=aA.zRi.zRY (b':=bs) (o':=off+k*3) (.int .i64 s'.zRi) (Or.inr (by omega));have c1:=aA.kidsv.zRY (b':=bs) (o':=off+k*3) (.int .i64 s'.zRi) (Or.inr (by omega));have c2:=aA.data.zRY (b':=bs) (o':=off+k*3) (.int .i64 s'.zRi) (Or.inr (by omega));have c3:=aA.kids.zRf (zF.put w bs (off+k*3) (.int .i64 s'.zRi)) (fun h0 hx=>aA.zRk h0 hx);refine⟨?_,?_,?_,?_,aA.zRn,aA.zRk⟩
  ·exact((c0.zRf t1 nb).zRX t2).zRY _ (Or.inr (by omega))
  ·exact((c1.zRf t1 nb).zRX t2).zRY _ (Or.inr (by omega))
  ·exact((c2.zRf t1 nb).zRX t2).zRY _ (Or.inr (by omega))
  ·refine((c3.zRf t1 (fun h0 hx=>cA j k hj hk e h0 hx.1 hx.2)).zRX t2).zRf (zF.put _ _ _ _) (fun h0 hx=>aA.zRk h0 hx)
theorem zNz(f:Nat->zL)(k0:Int)(j:Nat):(if j<0 then zEN f k0 j else f j)=f j:=if_neg (by omega)
theorem zQr(f:Nat->zL)(k0:Int)(k j:Nat):(if j<k then zEN f k0 j else f j).kn=(f j).kn:=by split<;>rfl
theorem zIt(bs:Nat)(kb:Nat->Nat)(kv:Nat->Value)(v:Value)(n:Nat)(f:Nat->zL)(k0:Int)(w:World)(h1:qU w bs kb kv v n f)(gA:yP kb n f)(fB:0<=k0)(iA:qR f k0 n<=1000000000000) :
  Calls Tryz.prog 112 #[v,.int .i64 k0] w fun e w'=>e = .returned (.int .i64 (qR f k0 n))/\qU w' bs kb kv v n (zEN f k0)/\zF (yi bs kb n f) w w':=by
 obtain⟨m1,a,c,rfl,mc,g1⟩:=h1;by_cases bB:n=0
 ·subst bB;go_enter Tryz.func112,Tryz.ntmps112;go_wp2;refine wp_loop_rounds 1 ?_;rw[rounds_succ];go_wp2;go_ret;exact⟨by simp[qR],⟨m1,a,c,rfl,mc,fun h=>absurd h (by omega)⟩,zF.refl _ _⟩
 ·obtain⟨off,rfl,g2⟩:=g1 (by omega);clear g1;have oA:=m1;unfold maxLen at m1;have G2:Hid (∀j,j<n->zAB w bs (off+j*3) (kb j) (kv j) (f j)):=g2;have pA:Hid (yP kb n f):=gA;have tA:Hid (qR f k0 n<=1000000000000):=iA;clear g2 gA iA;go_enter Tryz.func112,Tryz.ntmps112;go_wp2
  go_loopw [1,5] (fun m i wr=>∃k:Nat,k<=n/\i = .int .i64 k/\m = .int .i64 (qR f k0 k)/\(∀j,j<n->zAB wr bs (off+j*3) (kb j) (kv j) (if j<k then zEN f k0 j else f j))/\zF (yi bs kb n f) w wr) (fun _ i _=>n - (intOf i).toNat)
  case atStart=>exact⟨0,Nat.zero_le _,rfl,rfl,fun j hj=>by rw[zNz];exact G2.out j hj,zF.refl _ _⟩
  case round=>
   obtain⟨k,hk,rfl,rfl,cA,ht⟩:=hrel;have aA:Hid (∀j,j<n->zAB wr bs (off+j*3) (kb j) (kv j) (if j<k then zEN f k0 j else f j)):=cA;clear cA;by_cases dA:k<n
   ·have nA:(k:Int)<(n:Int):=(by omega);have hs:=aA.out k dA;rw[if_neg (by omega)]at hs;have cB:k0<=qR f k0 k:=zCq f k0 (Nat.zero_le k);have dB:qR f k0 k+2+2*((f k).kn:Int)<=1000000000000:=Int.le_trans (zCq f k0 (show k+1<=n from dA)) tA.out;obtain⟨lA,vA⟩:=hs.zRi;obtain⟨sA,kA⟩:=hs.kidsv;obtain⟨bA,jA⟩:=hs.data;have Hs:Hid (zAB wr bs (off+k*3) (kb k) (kv k) (f k)):=hs;obtain⟨_,ka,kc,rA,_⟩:=hs.kids;clear hs;generalize hx:kv k=kvk at *;have Hx:Hid (kv k=kvk):=hx;clear hx;subst rA;go_wp2_with fail;refine(zDk (kb k) _ (f k).kn (f k).ks (f k).kb _ _ ?p1 ?p2 ?p3).mono ?_
    case p1=>exact Hs.out.kids.zRf (zF.put _ _ _ _) (fun h0 hx=>Hs.out.zRk h0 hx)
    case p2=>omega
    case p3=>omega
    rintro e w1 ⟨rfl,fA,eA⟩;have nb:¬(0<(f k).kn/\bs=kb k):=fun hx=>Hs.out.zRk hx.1 hx.2.symm
    have Hd:=((Hs.out.data.zRY (b':=bs) (o':=off+k*3) (.int .i64 (qR f k0 k)) (Or.inr (by omega))).zRf eA nb);have aB:Hid (zm w1 (kb k) (.slice ka (f k).kn kc) (f k).kn (fun i=>qR f k0 k+1+2*i) (fun i=>qR f k0 k+1+2*i+1)):=fA;clear nb fA lA vA sA kA bA jA;go_wp2_with fail;refine(yy _ _ (by omega)).mono ?_;rintro e w2 ⟨rfl,bA⟩;obtain⟨eB,jA⟩:=Hd.zRX bA;clear Hd;go_wp2;go_roundw
    case rel=>
     refine⟨k+1,by omega,by go_num,congrArg (Value.int .i64) (by show _=qR f k0 k+2+2*((f k).kn:Int);omega),fun j hj=>?_,?_⟩
     ·have st:=zM3 (s':=zEN f k0 k) aA.out (by
        intro i j hi hj mA h1 h2;rw[zQr]at h1 h2;exact pA.out i j hi hj mA h1 h2) dA (by rw[if_neg (Nat.lt_irrefl k)];exact eA) bA (by rw[if_neg (Nat.lt_irrefl k)];rfl) (by rw[Hx.out];exact aB.out) (zFz (by omega)) j hj
      by_cases e:j=k
      ·subst e;rw[if_pos rfl]at st;rw[if_pos (by omega)];exact st
      ·rw[if_neg e]at st;by_cases e2:j<k
       ·rw[if_pos e2]at st;rw[if_pos (by omega)];exact st
       ·rw[if_neg e2]at st;rw[if_neg (by omega)];exact st
     ·refine(((ht.setCell (Or.inl ⟨by omega,rfl⟩) _).trans (eA.mono ?_)).trans (zF.zRa bA)).setCell (Or.inl ⟨by omega,rfl⟩) _;rintro b ⟨hb,rfl⟩;exact Or.inr ⟨k,dA,hb,rfl⟩
    case measure=>simp[intOf];omega
   ·obtain rfl:k=n:=(by omega);go_wp2;go_ret;refine⟨rfl,⟨oA,_,c,rfl,mc,fun _=>⟨off,rfl,fun i hi=>?_⟩⟩,ht⟩;have:=aA.out i hi;rw[if_pos hi]at this;exact this
theorem zJ9(bs hb:Nat)(kb:Nat->Nat)(kv:Nat->Value)(v0 v1:Value)(p:zI)(k0:Int)(w:World)
  (h1:qU w bs kb kv v0 p.n p.s) (gA:yP kb p.n p.s) (h2:qf w hb v1 p.hn p.h) (hd:0<p.hn->¬yi bs kb p.n p.s hb)
  (jA:0<=k0) (eA:qR p.s k0 p.n+p.hn<=1000000000000) :
  Calls Tryz.prog 42 #[.agg #[v0,v1],.int .i64 k0] w fun e w'=>e = .returned (.int .i64 (qR p.s k0 p.n+p.hn))/\qU w' bs kb kv v0 p.n (zEN p.s k0)/\qf w' hb v1 p.hn (fun i=>qR p.s k0 p.n+i)/\
   zF (fun k=>yi bs kb p.n p.s k\/(0<p.hn/\k=hb)) w w':=by
 have q1:=h1;have q2:=h2;obtain⟨_,a,c,rfl,_⟩:=h1;obtain⟨_,a',c',rfl,_⟩:=h2;have Hk:Hid (qR p.s k0 p.n+p.hn<=1000000000000):=eA;have aA:Hid (k0<=qR p.s k0 p.n):=zCq p.s k0 (Nat.zero_le p.n);clear eA;go_enter Tryz.func42,Tryz.ntmps42;go_wp2_with fail;have cA:=(Below.refl w.heap.size w).alloc (Nat.le_refl _) (.cells #[.slice a p.n c,.slice a' p.hn c'] 33);refine(zIt bs kb kv _ p.n p.s _ _ (q1.zRX cA) gA jA (by have:=Hk.out;omega)).mono ?_;rintro e w1 ⟨rfl,fA,bA⟩;have nb:¬yi bs kb p.n p.s w.heap.size:=fun x=>Nat.lt_irrefl _ (q1.lt x)
 have e1:=bA.cell (b:=w.heap.size) (o:=1) (by simp) nb;simp at e1;go_wp2_with fail;refine(zIJ hb _ p.hn p.h _ _ ((q2.zRX cA).zRf bA hd) (by have:=aA.out;omega) Hk.out).mono ?_;rintro e w2 ⟨rfl,iA,dA⟩;go_wp2;go_ret;refine⟨rfl,?_,iA,?_⟩
 ·refine fA.zRf dA (fun h0 hx=>?_) (fun i hi h0 hx=>?_)
  ·exact hd hx.1 (Or.inl ⟨h0,hx.2.symm⟩)
  ·exact hd hx.1 (Or.inr ⟨i,hi,h0,hx.2.symm⟩)
 ·exact((zF.zRa cA).trans (bA.mono fun k h=>Or.inl h)).trans (dA.mono fun k h=>Or.inr h)
def zQf(p:zI)(k0:Int):zI:={n:=p.n,s:=zEN p.s k0,hn:=p.hn,h:=fun i=>qR p.s k0 p.n+i}
def zBG(p:zI)(k0:Int):Int:=qR p.s k0 p.n+p.hn
def ze(f:Nat->qD)(k0:Int):Nat->Int
 | 0=>k0
 | j+1=>ze f k0 j+5+2*(f j).dn
def zOn(s:qD)(c:Int):qD:={name:=mtF (c),origin:=c+1,zRh:=c+1+1,rs:=c+1+1+1,rb:=c+1+1+1+1,dn:=s.dn,ds:=fun i=>c+1+1+1+1+1+2*i,db:=fun i=>c+1+1+1+1+1+2*i+1}
theorem zHD(f:Nat->qD)(k0:Int)(j:Nat):∀m,ze f k0 j<=ze f k0 (j+m)
 | 0=>Int.le_refl _
 | m+1=>by
  have:=zHD f k0 j m;show _<=ze f k0 (j+m)+5+2*((f (j+m)).dn:Int);omega
theorem zDX(f:Nat->qD)(k0:Int){j n:Nat}(h:j<=n):ze f k0 j<=ze f k0 n:=by
 obtain⟨m,rfl⟩:=Nat.exists_eq_add_of_le h;exact zHD f k0 j m
def zCs(f:Nat->qD)(k0:Int)(j:Nat):qD:=zOn (f j) (ze f k0 j)
theorem zMI(f:Nat->qD)(k0:Int)(j:Nat):(if j<0 then zCs f k0 j else f j)=f j:=if_neg (by omega)
theorem zPA(f:Nat->qD)(k0:Int)(k j:Nat):(if j<k then zCs f k0 j else f j).dn=(f j).dn:=by split<;>rfl
theorem zKg(bs:Nat)(kb:Nat->Nat)(kv:Nat->Value)(v:Value)(n:Nat)(f:Nat->qD)(k0:Int)(w:World)(h1:yJ w bs kb kv v n f)(rA:zBN kb n f)(cC:0<=k0)(sA:ze f k0 n<=1000000000000) :
  Calls Tryz.prog 43 #[v,.int .i64 k0] w fun e w'=>e = .returned (.int .i64 (ze f k0 n))/\yJ w' bs kb kv v n (zCs f k0)/\zF (zCN bs kb n f) w w':=by
 obtain⟨m1,a,c,rfl,mc,g1⟩:=h1;by_cases vB:n=0
 ·subst vB;go_enter Tryz.func43,Tryz.ntmps43;go_wp2;refine wp_loop_rounds 1 ?_;rw[rounds_succ];go_wp2;go_ret;exact⟨by simp[ze],⟨m1,a,c,rfl,mc,fun h=>absurd h (by omega)⟩,zF.refl _ _⟩
 ·obtain⟨off,rfl,g2⟩:=g1 (by omega);clear g1;have pB:=m1;unfold maxLen at m1;have G2:=za g2;have rB:=za rA;have tB:=za sA;clear g2 rA sA;go_enter Tryz.func43,Tryz.ntmps43;go_wp2
  go_loopw [1,5] (fun m i wr=>∃k:Nat,k<=n/\i = .int .i64 k/\m = .int .i64 (ze f k0 k)/\(∀j,j<n->zAG wr bs (off+j*6) (kb j) (kv j) (if j<k then zCs f k0 j else f j))/\zF (zCN bs kb n f) w wr) (fun _ i _=>n - (intOf i).toNat)
  case atStart=>exact⟨0,Nat.zero_le _,rfl,rfl,fun j hj=>by rw[zMI];exact G2.out j hj,zF.refl _ _⟩
  case round=>
   obtain⟨k,hk,rfl,rfl,cA,ht⟩:=hrel;have bA:=za cA;clear cA;by_cases eA:k<n
   ·have oB:(k:Int)<(n:Int):=(by omega);have hs:=bA.out k eA;rw[if_neg (by omega)]at hs;have aC:k0<=ze f k0 k:=zDX f k0 (Nat.zero_le k);have bC:ze f k0 k+5+2*((f k).dn:Int)<=1000000000000:=Int.le_trans (zDX f k0 (show k+1<=n from eA)) tB.out;have Hs:=za hs;obtain⟨-,ka,kc,sB,-⟩:=hs.zRl;clear hs;generalize hx:kv k=kvk at *;have Hx:=za hx;clear hx;subst sB;obtain⟨⟨p0,lA⟩,⟨p1,jA⟩,⟨p2,kA⟩,⟨p3,iA⟩,⟨p4,gA⟩,⟨p5,fA⟩⟩:=And.intro Hs.out.c0 (And.intro Hs.out.c1 (And.intro Hs.out.c2 (And.intro Hs.out.c3 (And.intro Hs.out.c4 Hs.out.c5))));have HR:=za (yu.refl bs (off+k*6) 6 wr);go_wp2_with fail;clear p0 lA p1 jA p2 kA p3 iA p4 gA p5 fA;have aB:=za Hs.out.c0;have oA:=za Hs.out.c1;have tA:=za Hs.out.c2;have gB:=za Hs.out.c3;have jB:=za Hs.out.c4;have bB:=za Hs.out.c5;have cB:=za HR.out;refine(yy _ wr (by omega)).mono ?_;rintro e w1 ⟨rfl,aA⟩;have iB:=za (aB.out.zRX aA);have pA:=za (oA.out.zRX aA);have mA:=za (tA.out.zRX aA);have eB:=za (gB.out.zRX aA);have kB:=za (jB.out.zRX aA);have dB:=za (bB.out.zRX aA);have lB:=za (cB.out.zRX aA);clear aA cB aB oA tA gB jB bB;obtain⟨p0,lA⟩:=iB.out;obtain⟨p1,jA⟩:=pA.out;obtain⟨p2,kA⟩:=mA.out;obtain⟨p3,iA⟩:=eB.out;obtain⟨p4,gA⟩:=kB.out;obtain⟨p5,fA⟩:=dB.out;go_wp2_with fail;clear p0 lA p1 jA p2 kA p3 iA p4 gA p5 fA;have Ea:=za (((((iB.out.set (.string (mtF (ze f k0 k)))).zRY (b':=bs) (o':=off+k*6+1) (.int .i64 (ze f k0 k+1)) (Or.inr (by omega))).zRY (b':=bs) (o':=off+k*6+2) (.int .i64 (ze f k0 k+1+1)) (Or.inr (by omega))).zRY (b':=bs) (o':=off+k*6+3) (.int .i64 (ze f k0 k+1+1+1)) (Or.inr (by omega))).zRY (b':=bs) (o':=off+k*6+3+1) (.int .i64 (ze f k0 k+1+1+1+1)) (Or.inr (by omega)));have Eb:=za (((((pA.out.zRY (b':=bs) (o':=off+k*6) (.string (mtF (ze f k0 k))) (Or.inr (by omega))).set (.int .i64 (ze f k0 k+1))).zRY (b':=bs) (o':=off+k*6+2) (.int .i64 (ze f k0 k+1+1)) (Or.inr (by omega))).zRY (b':=bs) (o':=off+k*6+3) (.int .i64 (ze f k0 k+1+1+1)) (Or.inr (by omega))).zRY (b':=bs) (o':=off+k*6+3+1) (.int .i64 (ze f k0 k+1+1+1+1)) (Or.inr (by omega)));have Ec:=za (((((mA.out.zRY (b':=bs) (o':=off+k*6) (.string (mtF (ze f k0 k))) (Or.inr (by omega))).zRY (b':=bs) (o':=off+k*6+1) (.int .i64 (ze f k0 k+1)) (Or.inr (by omega))).set (.int .i64 (ze f k0 k+1+1))).zRY (b':=bs) (o':=off+k*6+3) (.int .i64 (ze f k0 k+1+1+1)) (Or.inr (by omega))).zRY (b':=bs) (o':=off+k*6+3+1) (.int .i64 (ze f k0 k+1+1+1+1)) (Or.inr (by omega)));have Ed:=za (((((eB.out.zRY (b':=bs) (o':=off+k*6) (.string (mtF (ze f k0 k))) (Or.inr (by omega))).zRY (b':=bs) (o':=off+k*6+1) (.int .i64 (ze f k0 k+1)) (Or.inr (by omega))).zRY (b':=bs) (o':=off+k*6+2) (.int .i64 (ze f k0 k+1+1)) (Or.inr (by omega))).set (.int .i64 (ze f k0 k+1+1+1))).zRY (b':=bs) (o':=off+k*6+3+1) (.int .i64 (ze f k0 k+1+1+1+1)) (Or.inr (by omega)));have Ee:=za (((((kB.out.zRY (b':=bs) (o':=off+k*6) (.string (mtF (ze f k0 k))) (Or.inr (by omega))).zRY (b':=bs) (o':=off+k*6+1) (.int .i64 (ze f k0 k+1)) (Or.inr (by omega))).zRY (b':=bs) (o':=off+k*6+2) (.int .i64 (ze f k0 k+1+1)) (Or.inr (by omega))).zRY (b':=bs) (o':=off+k*6+3) (.int .i64 (ze f k0 k+1+1+1)) (Or.inr (by omega))).set (.int .i64 (ze f k0 k+1+1+1+1)));have Ef:=za (((((dB.out.zRY (b':=bs) (o':=off+k*6) (.string (mtF (ze f k0 k))) (Or.inr (by omega))).zRY (b':=bs) (o':=off+k*6+1) (.int .i64 (ze f k0 k+1)) (Or.inr (by omega))).zRY (b':=bs) (o':=off+k*6+2) (.int .i64 (ze f k0 k+1+1)) (Or.inr (by omega))).zRY (b':=bs) (o':=off+k*6+3) (.int .i64 (ze f k0 k+1+1+1)) (Or.inr (by omega))).zRY (b':=bs) (o':=off+k*6+3+1) (.int .i64 (ze f k0 k+1+1+1+1)) (Or.inr (by omega)));have dA:=za (((((lB.out.set (off+k*6) (.string (mtF (ze f k0 k))) (by omega) (by omega)).set (off+k*6+1) (.int .i64 (ze f k0 k+1)) (by omega) (by omega)).set (off+k*6+2) (.int .i64 (ze f k0 k+1+1)) (by omega) (by omega)).set (off+k*6+3) (.int .i64 (ze f k0 k+1+1+1)) (by omega) (by omega)).set (off+k*6+3+1) (.int .i64 (ze f k0 k+1+1+1+1)) (by omega) (by omega));generalize (((((w1.setCell ⟨bs,off+k*6,none⟩ (.string (mtF (ze f k0 k)))).setCell ⟨bs,off+k*6+1,none⟩ (.int .i64 (ze f k0 k+1))).setCell ⟨bs,off+k*6+2,none⟩ (.int .i64 (ze f k0 k+1+1))).setCell ⟨bs,off+k*6+3,none⟩ (.int .i64 (ze f k0 k+1+1+1))).setCell ⟨bs,off+k*6+3+1,none⟩ (.int .i64 (ze f k0 k+1+1+1+1)))=Y at Ea Eb Ec Ed Ee Ef dA ⊢;refine(zDk (kb k) _ (f k).dn (f k).ds (f k).db _ Y (Hs.out.zRl.zRf dA.out.zRf (fun h0 hx=>Hs.out.zRk h0 hx)) (by omega) (by omega)).mono ?_;rintro e wz ⟨rfl,vA,fB⟩;have mB:=za vA;have nA:=za fB;clear vA fB;go_wp2;go_roundw
    case rel=>
     refine⟨k+1,by omega,by go_num,congrArg (Value.int .i64) (by show _=ze f k0 k+5+2*((f k).dn:Int);omega),fun j hj=>?_,?_⟩
     ·have st:=zPl (s:=zCs f k0 k) bA.out (by
        intro i j hi hj nB h1 h2;rw[zPA]at h1 h2;exact rB.out i j hi hj nB h1 h2) eA dA.out (by rw[if_neg (Nat.lt_irrefl k)];exact nA.out) Ea.out Eb.out Ec.out Ed.out Ee.out (by rw[Hx.out];exact Ef.out) (by rw[if_neg (Nat.lt_irrefl k)];rfl) (by rw[Hx.out];exact mB.out) (zFz (by omega)) j hj
      by_cases e:j=k
      ·subst e;rw[if_pos rfl]at st;rw[if_pos (by omega)];exact st
      ·rw[if_neg e]at st;by_cases e2:j<k
       ·rw[if_pos e2]at st;rw[if_pos (by omega)];exact st
       ·rw[if_neg e2]at st;rw[if_neg (by omega)];exact st
     ·refine(ht.trans (dA.out.zRf.mono ?_)).trans (nA.out.mono ?_)
      ·rintro b rfl;exact Or.inl ⟨by omega,rfl⟩
      ·rintro b ⟨hb,rfl⟩;exact Or.inr ⟨k,eA,hb,rfl⟩
    case measure=>simp[intOf];omega
   ·obtain rfl:k=n:=(by omega);go_wp2;go_ret;refine⟨rfl,⟨pB,_,c,rfl,mc,fun _=>⟨off,rfl,fun i hi=>?_⟩⟩,ht⟩;have:=bA.out i hi;rw[if_pos hi]at this;exact this
def zM(f:Nat->zl)(k0:Int):Nat->Int
 | 0=>k0
 | j+1=>zM f k0 j+7+2*(f j).dn
def zMu(s:zl)(c:Int):zl:={id:=c,name:=mtF (c+1),set:=mtF (c+1+1),zRh:=c+1+1+1,time:=c+1+1+1+1,rs:=c+1+1+1+1+1,rb:=c+1+1+1+1+1+1,dn:=s.dn,ds:=fun i=>c+1+1+1+1+1+1+1+2*i,db:=fun i=>c+1+1+1+1+1+1+1+2*i+1}
theorem zGD(f:Nat->zl)(k0:Int)(j:Nat):∀m,zM f k0 j<=zM f k0 (j+m)
 | 0=>Int.le_refl _
 | m+1=>by
  have:=zGD f k0 j m;show _<=zM f k0 (j+m)+7+2*((f (j+m)).dn:Int);omega
theorem zC0(f:Nat->zl)(k0:Int){j n:Nat}(h:j<=n):zM f k0 j<=zM f k0 n:=by
 obtain⟨m,rfl⟩:=Nat.exists_eq_add_of_le h;exact zGD f k0 j m
def zBs(f:Nat->zl)(k0:Int)(j:Nat):zl:=zMu (f j) (zM f k0 j)
theorem zKu(f:Nat->zl)(k0:Int)(j:Nat):(if j<0 then zBs f k0 j else f j)=f j:=if_neg (by omega)
theorem zOW(f:Nat->zl)(k0:Int)(k j:Nat):(if j<k then zBs f k0 j else f j).dn=(f j).dn:=by split<;>rfl
theorem zJA(bs:Nat)(kb:Nat->Nat)(kv:Nat->Value)(v:Value)(n:Nat)(f:Nat->zl)(k0:Int)(w:World)(h1:yS w bs kb kv v n f)(vB:zA7 kb n f)(jD:0<=k0)(bC:zM f k0 n<=1000000000000) :
  Calls Tryz.prog 44 #[v,.int .i64 k0] w fun e w'=>e = .returned (.int .i64 (zM f k0 n))/\yS w' bs kb kv v n (zBs f k0)/\zF (zCI bs kb n f) w w':=by
 obtain⟨m1,a,c,rfl,mc,g1⟩:=h1;by_cases fD:n=0
 ·subst fD;go_enter Tryz.func44,Tryz.ntmps44;go_wp2;refine wp_loop_rounds 1 ?_;rw[rounds_succ];go_wp2;go_ret;exact⟨by simp[zM],⟨m1,a,c,rfl,mc,fun h=>absurd h (by omega)⟩,zF.refl _ _⟩
 ·obtain⟨off,rfl,g2⟩:=g1 (by omega);clear g1;have aD:=m1;unfold maxLen at m1;have G2:=za g2;have cD:=za vB;have eD:=za bC;clear g2 vB bC;go_enter Tryz.func44,Tryz.ntmps44;go_wp2
  go_loopw [1,5] (fun m i wr=>∃k:Nat,k<=n/\i = .int .i64 k/\m = .int .i64 (zM f k0 k)/\(∀j,j<n->zAJ wr bs (off+j*8) (kb j) (kv j) (if j<k then zBs f k0 j else f j))/\zF (zCI bs kb n f) w wr) (fun _ i _=>n - (intOf i).toNat)
  case atStart=>exact⟨0,Nat.zero_le _,rfl,rfl,fun j hj=>by rw[zKu];exact G2.out j hj,zF.refl _ _⟩
  case round=>
   obtain⟨k,hk,rfl,rfl,mA,ht⟩:=hrel;have cA:=za mA;clear mA;by_cases oA:k<n
   ·have vC:(k:Int)<(n:Int):=(by omega);have hs:=cA.out k oA;rw[if_neg (by omega)]at hs;have gD:k0<=zM f k0 k:=zC0 f k0 (Nat.zero_le k);have iD:zM f k0 k+7+2*((f k).dn:Int)<=1000000000000:=Int.le_trans (zC0 f k0 (show k+1<=n from oA)) eD.out;have Hs:=za hs;obtain⟨-,ka,kc,dD,-⟩:=hs.zRl;clear hs;generalize hx:kv k=kvk at *;have Hx:=za hx;clear hx;subst dD;obtain⟨⟨p0,kA⟩,⟨p1,iA⟩,⟨p2,jA⟩,⟨p3,gA⟩,⟨p4,fA⟩,⟨p5,eA⟩,⟨p6,dA⟩,⟨p7,lA⟩⟩:=And.intro Hs.out.c0 (And.intro Hs.out.c1 (And.intro Hs.out.c2 (And.intro Hs.out.c3 (And.intro Hs.out.c4 (And.intro Hs.out.c5 (And.intro Hs.out.c6 Hs.out.c7))))));have HR:=za (yu.refl bs (off+k*8) 8 wr);go_wp2_with fail;clear p0 kA p1 iA p2 jA p3 gA p4 fA p5 eA p6 dA p7 lA;have eB:=za (Hs.out.c0.set (.int .i64 (zM f k0 k)));have vA:=za (Hs.out.c1.zRY (b':=bs) (o':=off+k*8) (.int .i64 (zM f k0 k)) (Or.inr (by omega)));have dB:=za (Hs.out.c2.zRY (b':=bs) (o':=off+k*8) (.int .i64 (zM f k0 k)) (Or.inr (by omega)));have lB:=za (Hs.out.c3.zRY (b':=bs) (o':=off+k*8) (.int .i64 (zM f k0 k)) (Or.inr (by omega)));have mB:=za (Hs.out.c4.zRY (b':=bs) (o':=off+k*8) (.int .i64 (zM f k0 k)) (Or.inr (by omega)));have gB:=za (Hs.out.c5.zRY (b':=bs) (o':=off+k*8) (.int .i64 (zM f k0 k)) (Or.inr (by omega)));have pA:=za (Hs.out.c6.zRY (b':=bs) (o':=off+k*8) (.int .i64 (zM f k0 k)) (Or.inr (by omega)));have aB:=za (Hs.out.c7.zRY (b':=bs) (o':=off+k*8) (.int .i64 (zM f k0 k)) (Or.inr (by omega)));have iB:=za (HR.out.set (off+k*8) (.int .i64 (zM f k0 k)) (by omega) (by omega));generalize (wr.setCell ⟨bs,off+k*8,none⟩ (.int .i64 (zM f k0 k)))=Y1 at eB vA dB lB mB gB pA aB iB ⊢;refine(yy _ Y1 (by omega)).mono ?_;rintro e w1 ⟨rfl,aA⟩;have mC:=za (eB.out.zRX aA);have tB:=za (vA.out.zRX aA);have pB:=za (dB.out.zRX aA);have iC:=za (lB.out.zRX aA);have oC:=za (mB.out.zRX aA);have gC:=za (gB.out.zRX aA);have rB:=za (pA.out.zRX aA);have pC:=za (aB.out.zRX aA);have rC:=za (iB.out.zRX aA);clear aA iB eB vA dB lB mB gB pA aB;obtain⟨p0,kA⟩:=mC.out;obtain⟨p1,iA⟩:=tB.out;obtain⟨p2,jA⟩:=pB.out;obtain⟨p3,gA⟩:=iC.out;obtain⟨p4,fA⟩:=oC.out;obtain⟨p5,eA⟩:=gC.out;obtain⟨p6,dA⟩:=rB.out;obtain⟨p7,lA⟩:=pC.out;go_wp2_with fail;clear p0 kA p1 iA p2 jA p3 gA p4 fA p5 eA p6 dA p7 lA;have kB:=za (mC.out.zRY (b':=bs) (o':=off+k*8+1) (.string (mtF (zM f k0 k+1))) (Or.inr (by omega)));have cB:=za (tB.out.set (.string (mtF (zM f k0 k+1))));have nB:=za (pB.out.zRY (b':=bs) (o':=off+k*8+1) (.string (mtF (zM f k0 k+1))) (Or.inr (by omega)));have fB:=za (iC.out.zRY (b':=bs) (o':=off+k*8+1) (.string (mtF (zM f k0 k+1))) (Or.inr (by omega)));have sA:=za (oC.out.zRY (b':=bs) (o':=off+k*8+1) (.string (mtF (zM f k0 k+1))) (Or.inr (by omega)));have bB:=za (gC.out.zRY (b':=bs) (o':=off+k*8+1) (.string (mtF (zM f k0 k+1))) (Or.inr (by omega)));have tA:=za (rB.out.zRY (b':=bs) (o':=off+k*8+1) (.string (mtF (zM f k0 k+1))) (Or.inr (by omega)));have jB:=za (pC.out.zRY (b':=bs) (o':=off+k*8+1) (.string (mtF (zM f k0 k+1))) (Or.inr (by omega)));have rA:=za (rC.out.set (off+k*8+1) (.string (mtF (zM f k0 k+1))) (by omega) (by omega));generalize (w1.setCell ⟨bs,off+k*8+1,none⟩ (.string (mtF (zM f k0 k+1))))=Y2 at kB cB nB fB sA bB tA jB rA ⊢;refine(yy _ Y2 (by omega)).mono ?_;rintro e w2 ⟨rfl,bA⟩;have aC:=za (kB.out.zRX bA);have jC:=za (cB.out.zRX bA);have cC:=za (nB.out.zRX bA);have fC:=za (fB.out.zRX bA);have eC:=za (sA.out.zRX bA);have oB:=za (bB.out.zRX bA);have kC:=za (tA.out.zRX bA);have nC:=za (jB.out.zRX bA);have bD:=za (rA.out.zRX bA);clear bA rA kB cB nB fB sA bB tA jB;obtain⟨p0,kA⟩:=aC.out;obtain⟨p1,iA⟩:=jC.out;obtain⟨p2,jA⟩:=cC.out;obtain⟨p3,gA⟩:=fC.out;obtain⟨p4,fA⟩:=eC.out;obtain⟨p5,eA⟩:=oB.out;obtain⟨p6,dA⟩:=kC.out;obtain⟨p7,lA⟩:=nC.out;go_wp2_with fail;clear p0 kA p1 iA p2 jA p3 gA p4 fA p5 eA p6 dA p7 lA;have Ea:=za (((((aC.out.zRY (b':=bs) (o':=off+k*8+2) (.string (mtF (zM f k0 k+1+1))) (Or.inr (by omega))).zRY (b':=bs) (o':=off+k*8+3) (.int .i64 (zM f k0 k+1+1+1)) (Or.inr (by omega))).zRY (b':=bs) (o':=off+k*8+4) (.int .i64 (zM f k0 k+1+1+1+1)) (Or.inr (by omega))).zRY (b':=bs) (o':=off+k*8+5) (.int .i64 (zM f k0 k+1+1+1+1+1)) (Or.inr (by omega))).zRY (b':=bs) (o':=off+k*8+5+1) (.int .i64 (zM f k0 k+1+1+1+1+1+1)) (Or.inr (by omega)));have Eb:=za (((((jC.out.zRY (b':=bs) (o':=off+k*8+2) (.string (mtF (zM f k0 k+1+1))) (Or.inr (by omega))).zRY (b':=bs) (o':=off+k*8+3) (.int .i64 (zM f k0 k+1+1+1)) (Or.inr (by omega))).zRY (b':=bs) (o':=off+k*8+4) (.int .i64 (zM f k0 k+1+1+1+1)) (Or.inr (by omega))).zRY (b':=bs) (o':=off+k*8+5) (.int .i64 (zM f k0 k+1+1+1+1+1)) (Or.inr (by omega))).zRY (b':=bs) (o':=off+k*8+5+1) (.int .i64 (zM f k0 k+1+1+1+1+1+1)) (Or.inr (by omega)));have Ec:=za (((((cC.out.set (.string (mtF (zM f k0 k+1+1)))).zRY (b':=bs) (o':=off+k*8+3) (.int .i64 (zM f k0 k+1+1+1)) (Or.inr (by omega))).zRY (b':=bs) (o':=off+k*8+4) (.int .i64 (zM f k0 k+1+1+1+1)) (Or.inr (by omega))).zRY (b':=bs) (o':=off+k*8+5) (.int .i64 (zM f k0 k+1+1+1+1+1)) (Or.inr (by omega))).zRY (b':=bs) (o':=off+k*8+5+1) (.int .i64 (zM f k0 k+1+1+1+1+1+1)) (Or.inr (by omega)));have Ed:=za (((((fC.out.zRY (b':=bs) (o':=off+k*8+2) (.string (mtF (zM f k0 k+1+1))) (Or.inr (by omega))).set (.int .i64 (zM f k0 k+1+1+1))).zRY (b':=bs) (o':=off+k*8+4) (.int .i64 (zM f k0 k+1+1+1+1)) (Or.inr (by omega))).zRY (b':=bs) (o':=off+k*8+5) (.int .i64 (zM f k0 k+1+1+1+1+1)) (Or.inr (by omega))).zRY (b':=bs) (o':=off+k*8+5+1) (.int .i64 (zM f k0 k+1+1+1+1+1+1)) (Or.inr (by omega)));have Ee:=za (((((eC.out.zRY (b':=bs) (o':=off+k*8+2) (.string (mtF (zM f k0 k+1+1))) (Or.inr (by omega))).zRY (b':=bs) (o':=off+k*8+3) (.int .i64 (zM f k0 k+1+1+1)) (Or.inr (by omega))).set (.int .i64 (zM f k0 k+1+1+1+1))).zRY (b':=bs) (o':=off+k*8+5) (.int .i64 (zM f k0 k+1+1+1+1+1)) (Or.inr (by omega))).zRY (b':=bs) (o':=off+k*8+5+1) (.int .i64 (zM f k0 k+1+1+1+1+1+1)) (Or.inr (by omega)));have Ef:=za (((((oB.out.zRY (b':=bs) (o':=off+k*8+2) (.string (mtF (zM f k0 k+1+1))) (Or.inr (by omega))).zRY (b':=bs) (o':=off+k*8+3) (.int .i64 (zM f k0 k+1+1+1)) (Or.inr (by omega))).zRY (b':=bs) (o':=off+k*8+4) (.int .i64 (zM f k0 k+1+1+1+1)) (Or.inr (by omega))).set (.int .i64 (zM f k0 k+1+1+1+1+1))).zRY (b':=bs) (o':=off+k*8+5+1) (.int .i64 (zM f k0 k+1+1+1+1+1+1)) (Or.inr (by omega)));have Eg:=za (((((kC.out.zRY (b':=bs) (o':=off+k*8+2) (.string (mtF (zM f k0 k+1+1))) (Or.inr (by omega))).zRY (b':=bs) (o':=off+k*8+3) (.int .i64 (zM f k0 k+1+1+1)) (Or.inr (by omega))).zRY (b':=bs) (o':=off+k*8+4) (.int .i64 (zM f k0 k+1+1+1+1)) (Or.inr (by omega))).zRY (b':=bs) (o':=off+k*8+5) (.int .i64 (zM f k0 k+1+1+1+1+1)) (Or.inr (by omega))).set (.int .i64 (zM f k0 k+1+1+1+1+1+1)));have Eh:=za (((((nC.out.zRY (b':=bs) (o':=off+k*8+2) (.string (mtF (zM f k0 k+1+1))) (Or.inr (by omega))).zRY (b':=bs) (o':=off+k*8+3) (.int .i64 (zM f k0 k+1+1+1)) (Or.inr (by omega))).zRY (b':=bs) (o':=off+k*8+4) (.int .i64 (zM f k0 k+1+1+1+1)) (Or.inr (by omega))).zRY (b':=bs) (o':=off+k*8+5) (.int .i64 (zM f k0 k+1+1+1+1+1)) (Or.inr (by omega))).zRY (b':=bs) (o':=off+k*8+5+1) (.int .i64 (zM f k0 k+1+1+1+1+1+1)) (Or.inr (by omega)));have nA:=za (((((bD.out.set (off+k*8+2) (.string (mtF (zM f k0 k+1+1))) (by omega) (by omega)).set (off+k*8+3) (.int .i64 (zM f k0 k+1+1+1)) (by omega) (by omega)).set (off+k*8+4) (.int .i64 (zM f k0 k+1+1+1+1)) (by omega) (by omega)).set (off+k*8+5) (.int .i64 (zM f k0 k+1+1+1+1+1)) (by omega) (by omega)).set (off+k*8+5+1) (.int .i64 (zM f k0 k+1+1+1+1+1+1)) (by omega) (by omega));generalize (((((w2.setCell ⟨bs,off+k*8+2,none⟩ (.string (mtF (zM f k0 k+1+1)))).setCell ⟨bs,off+k*8+3,none⟩ (.int .i64 (zM f k0 k+1+1+1))).setCell ⟨bs,off+k*8+4,none⟩ (.int .i64 (zM f k0 k+1+1+1+1))).setCell ⟨bs,off+k*8+5,none⟩ (.int .i64 (zM f k0 k+1+1+1+1+1))).setCell ⟨bs,off+k*8+5+1,none⟩ (.int .i64 (zM f k0 k+1+1+1+1+1+1)))=Y at Ea Eb Ec Ed Ee Ef Eg Eh nA ⊢;refine(zDk (kb k) _ (f k).dn (f k).ds (f k).db _ Y (Hs.out.zRl.zRf nA.out.zRf (fun h0 hx=>Hs.out.zRk h0 hx)) (by omega) (by omega)).mono ?_;rintro e wz ⟨rfl,dC,lC⟩;have sC:=za dC;have sB:=za lC;clear dC lC;go_wp2;go_roundw
    case rel=>
     refine⟨k+1,by omega,by go_num,congrArg (Value.int .i64) (by show _=zM f k0 k+7+2*((f k).dn:Int);omega),fun j hj=>?_,?_⟩
     ·have st:=zOI (s:=zBs f k0 k) cA.out (by
        intro i j hi hj tC h1 h2;rw[zOW]at h1 h2;exact cD.out i j hi hj tC h1 h2) oA nA.out (by rw[if_neg (Nat.lt_irrefl k)];exact sB.out) Ea.out Eb.out Ec.out Ed.out Ee.out Ef.out Eg.out (by rw[Hx.out];exact Eh.out) (by rw[if_neg (Nat.lt_irrefl k)];rfl) (by rw[Hx.out];exact sC.out) ⟨zFz (by omega),zFz (by omega)⟩ j hj
      by_cases e:j=k
      ·subst e;rw[if_pos rfl]at st;rw[if_pos (by omega)];exact st
      ·rw[if_neg e]at st;by_cases e2:j<k
       ·rw[if_pos e2]at st;rw[if_pos (by omega)];exact st
       ·rw[if_neg e2]at st;rw[if_neg (by omega)];exact st
     ·refine(ht.trans (nA.out.zRf.mono ?_)).trans (sB.out.mono ?_)
      ·rintro b rfl;exact Or.inl ⟨by omega,rfl⟩
      ·rintro b ⟨hb,rfl⟩;exact Or.inr ⟨k,oA,hb,rfl⟩
    case measure=>simp[intOf];omega
   ·obtain rfl:k=n:=(by omega);go_wp2;go_ret;refine⟨rfl,⟨aD,_,c,rfl,mc,fun _=>⟨off,rfl,fun i hi=>?_⟩⟩,ht⟩;have:=cA.out i hi;rw[if_pos hi]at this;exact this
def zNr(W:zH)(k0:Int):zH:={zRd:=zQf W.zRd k0,time:=W.time,next:=W.next,sn:=W.sn,zRg:=zCs W.zRg (zBG W.zRd k0),pn:=W.pn,zRe:=zBs W.zRe (ze W.zRg (zBG W.zRd k0) W.sn)}
def zAn(W:zH)(k0:Int):Int:=zM W.zRe (ze W.zRg (zBG W.zRd k0) W.sn) W.pn
theorem zQE(p:zI)(k0:Int):k0<=zBG p k0:=by
 unfold zBG;have:=zCq p.s k0 (Nat.zero_le p.n);have h0:qR p.s k0 0=k0:=rfl;omega
theorem zD4(W:zH)(k0:Int):k0<=zBG W.zRd k0/\zBG W.zRd k0<=ze W.zRg (zBG W.zRd k0) W.sn/\ze W.zRg (zBG W.zRd k0) W.sn<=zAn W k0:=
 ⟨zQE _ _,zDX W.zRg (zBG W.zRd k0) (Nat.zero_le _),zC0 W.zRe (ze W.zRg (zBG W.zRd k0) W.sn) (Nat.zero_le _)⟩
theorem zFD(lo hi:Nat)(v0 v1 v2 v3:Value)(W:zH)(k0:Int)(w:World)(h:qL w lo hi v0 v1 v2 v3 W)(sA:0<=k0)(jA:zAn W k0<=1000000000000) :
  Calls Tryz.prog 13 #[zz v0 v1 v2 v3 W,.int .i64 k0] w fun e w'=>e = .returned (.int .i64 (zAn W k0))/\qL w' lo hi v0 v1 v2 v3 (zNr W k0)/\zF (fun k=>lo<=k/\k<hi) w w':=by
 obtain⟨a0,c0,a1,c1,a2,c2,a3,c3,rfl,rfl,rfl,rfl⟩:=h.form;obtain⟨P,Q,R,⟨⟨bs,hb,kb,kv,s1,s2,s3,s4,s5⟩,⟨bt,kt,vt,t1,t2,t3⟩,⟨bp,kp,vp,p1,p2,p3⟩,pq,pr,qr⟩,hl⟩:=h;have S1:=za s1;have S2:=za s2;have S3:=za s3;have S4:=za s4;have S5:=za s5;have T1:=za t1;have T2:=za t2;have T3:=za t3;have P1:=za p1;have P2:=za p2;have P3:=za p3;have aA:=za (And.intro pq (And.intro pr (And.intro qr hl)));have HE:=za (zD4 W k0);have HK:=za jA;have HB:=za (zi.zRZ w (.slice a0 W.zRd.n c0) (.slice a1 W.zRd.hn c1) (.int .i64 W.time) (.int .i64 W.next) (.slice a2 W.sn c2) (.slice a3 W.pn c3) 37);have ha:=zC w (.cells #[.slice a0 W.zRd.n c0,.slice a1 W.zRd.hn c1,.int .i64 W.time,.int .i64 W.next,.slice a2 W.sn c2,.slice a3 W.pn c3] 37);have NA:=za (show ∀k,yi bs kb W.zRd.n W.zRd.s k\/(0<W.zRd.hn/\k=hb)->k<w.heap.size from fun k hk=>by
  rcases hk with hk | ⟨h0,rfl⟩
  ·exact s1.lt hk
  ·obtain⟨_,_,_,_,_,h3,_⟩:=s3;obtain⟨o,_,h4⟩:=h3 h0;exact(h4 0 h0).lt)
 have NB:=za (show ∀k,zCN bt kt W.sn W.zRg k->k<w.heap.size from fun k hk=>t1.lt hk);have NC:=za (show ∀k,zCI bp kp W.pn W.zRe k->k<w.heap.size from fun k hk=>p1.lt hk);clear s1 s2 s3 s4 s5 t1 t2 t3 p1 p2 p3 pq pr qr hl jA;obtain⟨⟨x0,-⟩,⟨x1,-⟩,⟨x2,-⟩,⟨x3,-⟩,⟨x4,-⟩,⟨x5,-⟩⟩:=HB.out;go_enter Tryz.func13,Tryz.ntmps13;go_wp2_with fail;clear x0 x1 x2 x3 x4 x5;have gA:(w.alloc (.cells #[.slice a0 W.zRd.n c0,.slice a1 W.zRd.hn c1,.int .i64 W.time,.int .i64 W.next,.slice a2 W.sn c2,.slice a3 W.pn c3] 37)).heap.size=w.heap.size+1:=World.size_alloc _ _;have nA:=za gA;clear gA;generalize w.alloc (.cells #[.slice a0 W.zRd.n c0,.slice a1 W.zRd.hn c1,.int .i64 W.time,.int .i64 W.next,.slice a2 W.sn c2,.slice a3 W.pn c3] 37)=W0 at ha HB nA ⊢;refine(zJ9 bs hb kb kv _ _ W.zRd k0 W0 (S1.out.zRX ha) S2.out (S3.out.zRX ha) S4.out sA (by have h1:=HE.out;have h2:=HK.out;unfold zBG at h1;omega)).mono ?_;rintro e w1 ⟨rfl,g1,g2,bA⟩;have G1:=za g1;have G2:=za g2;have oA:=za bA;have fA:=za (HB.out.zRf bA (fun x=>absurd (NA.out _ x) (by omega)));have mA:=za ((T1.out.zRX ha).zRf bA (fun k hk x=>aA.out.1 k (S5.out k x) (T3.out k hk)));have rA:=za ((P1.out.zRX ha).zRf bA (fun k hk x=>aA.out.2.1 k (S5.out k x) (P3.out k hk)));clear g1 g2 bA HB;obtain⟨⟨x0,-⟩,⟨x1,-⟩,⟨x2,-⟩,⟨x3,-⟩,⟨x4,-⟩,⟨x5,-⟩⟩:=fA.out;go_wp2_with fail;clear x0 x1 x2 x3 x4 x5;refine(zKg bt kt vt _ W.sn W.zRg _ w1 mA.out T2.out (by have h1:=HE.out;unfold zBG at h1;omega) (by have h1:=HE.out;have h2:=HK.out;unfold zBG at h1;omega)).mono ?_;rintro e w2 ⟨rfl,g3,cA⟩;have G3:=za g3;have eA:=za cA;have kA:¬zCN bt kt W.sn W.zRg w.heap.size:=fun x=>absurd (NB.out _ x) (by omega)
 have pA:=za (fA.out.zRf cA kA);have lA:=za (rA.out.zRf cA (fun k hk x=>aA.out.2.2.1 k (T3.out k x) (P3.out k hk)));clear g3 cA fA kA;obtain⟨⟨x0,-⟩,⟨x1,-⟩,⟨x2,-⟩,⟨x3,-⟩,⟨x4,-⟩,⟨x5,-⟩⟩:=pA.out;go_wp2_with fail;clear x0 x1 x2 x3 x4 x5;refine(zJA bp kp vp _ W.pn W.zRe _ w2 lA.out P2.out (by have h1:=HE.out;unfold zBG at h1;omega) (by have h1:=HE.out;have h2:=HK.out;unfold zAn zBG at *;omega)).mono ?_;rintro e w3 ⟨rfl,g4,iA⟩;have G4:=za g4;have dA:=za iA;clear g4 iA;go_wp2;go_ret;refine⟨rfl,⟨P,Q,R,⟨⟨bs,hb,kb,kv,?_,S2.out,?_,S4.out,S5.out⟩,⟨bt,kt,vt,?_,T2.out,T3.out⟩,⟨bp,kp,vp,G4.out,P2.out,P3.out⟩,aA.out.1,aA.out.2.1,aA.out.2.2.1⟩,aA.out.2.2.2⟩,?_⟩
 ·refine(G1.out.zRf eA.out (fun h0 x=>?_) (fun i hi h0 x=>?_)).zRf dA.out (fun h0 x=>?_) (fun i hi h0 x=>?_)
  ·exact aA.out.1 _ (S5.out _ (Or.inl (Or.inl ⟨h0,rfl⟩))) (T3.out _ x)
  ·exact aA.out.1 _ (S5.out _ (Or.inl (Or.inr ⟨i,hi,h0,rfl⟩))) (T3.out _ x)
  ·exact aA.out.2.1 _ (S5.out _ (Or.inl (Or.inl ⟨h0,rfl⟩))) (P3.out _ x)
  ·exact aA.out.2.1 _ (S5.out _ (Or.inl (Or.inr ⟨i,hi,h0,rfl⟩))) (P3.out _ x)
 ·refine(G2.out.zRf eA.out (fun h0 x=>?_)).zRf dA.out (fun h0 x=>?_)
  ·exact aA.out.1 _ (S5.out _ (Or.inr ⟨h0,rfl⟩)) (T3.out _ x)
  ·exact aA.out.2.1 _ (S5.out _ (Or.inr ⟨h0,rfl⟩)) (P3.out _ x)
 ·exact G3.out.zRf dA.out (fun k hk x=>aA.out.2.2.1 k (T3.out k hk) (P3.out k x))
 ·refine(((zF.zRa ha).trans (oA.out.mono ?_)).trans (eA.out.mono ?_)).trans (dA.out.mono ?_)
  ·exact fun k hk=>aA.out.2.2.2 k (Or.inl (S5.out k hk))
  ·exact fun k hk=>aA.out.2.2.2 k (Or.inr (Or.inl (T3.out k hk)))
  ·exact fun k hk=>aA.out.2.2.2 k (Or.inr (Or.inr (P3.out k hk)))
theorem zGq(f:Nat->zL)(k0:Int):∀n,qR f k0 n<=k0+2*(n:Int)+2*(ym f n:Int)
 | 0=>by show k0<=_;omega
 | n+1=>by
  have:=zGq f k0 n;show qR f k0 n+2+2*((f n).kn:Int)<=k0+2*((n+1:Nat):Int)+2*((ym f n+((f n).kn+(f n).data.size):Nat):Int);omega
theorem zFP(f:Nat->qD)(k0:Int):∀n,ze f k0 n<=k0+5*(n:Int)+2*(zBI f n:Int)
 | 0=>by show k0<=_;omega
 | n+1=>by
  have:=zFP f k0 n;show ze f k0 n+5+2*((f n).dn:Int)<=k0+5*((n+1:Nat):Int)+2*((zBI f n+((f n).name.size+(f n).dn):Nat):Int);omega
theorem zEQ(f:Nat->zl)(k0:Int):∀n,zM f k0 n<=k0+7*(n:Int)+2*(zA0 f n:Int)
 | 0=>by show k0<=_;omega
 | n+1=>by
  have:=zEQ f k0 n;show zM f k0 n+7+2*((f n).dn:Int)<=k0+7*((n+1:Nat):Int)+2*((zA0 f n+((f n).name.size+(f n).set.size+(f n).dn):Nat):Int);omega
theorem zNG{W:zH}(h:yY W<=4000000):zAn W 1<=1000000000000/\0<=zAn W 1:=by
 have h1:=zGq W.zRd.s 1 W.zRd.n;have h2:=zD4 W 1;have h3:=zFP W.zRg (zBG W.zRd 1) W.sn;have h4:=zEQ W.zRe (ze W.zRg (zBG W.zRd 1) W.sn) W.pn;unfold yY qC at h;have h5:zBG W.zRd 1=qR W.zRd.s 1 W.zRd.n+W.zRd.hn:=rfl;have h6:zAn W 1=zM W.zRe (ze W.zRg (zBG W.zRd 1) W.sn) W.pn:=rfl;generalize zBG W.zRd 1=e at *;generalize ze W.zRg e W.sn=s at *;omega
theorem zGw(a b c d:Int)(w:World) :
  Calls Tryz.prog 174 #[.agg #[.int .i64 a,.int .i64 b],.agg #[.int .i64 c,.int .i64 d]] w fun e w'=>zG (zCM a b c d) e/\Below w.heap.size w w':=by
 by_cases h1:a=c
 ·by_cases h2:b=d
  ·subst h1 h2;go_enter Tryz.func174,Tryz.ntmps174;go_wp2;go_ret;exact⟨zG.yes ⟨rfl,rfl⟩,((Below.refl _ _).alloc (Nat.le_refl _) _).alloc (by simp) _⟩
  ·subst h1;have hb:(b != d)=true:=(by simp[h2]);have H2:Hid (¬zCM a b a d):=fun h=>h2 h.2
   clear h2;go_enter Tryz.func174,Tryz.ntmps174;go_wp2;go_ret;exact⟨zG.no H2.out,((Below.refl _ _).alloc (Nat.le_refl _) _).alloc (by simp) _⟩
 ·have hb:(a != c)=true:=(by simp[h1]);have H2:Hid (¬zCM a b c d):=fun h=>h1 h.1
  clear h1;go_enter Tryz.func174,Tryz.ntmps174;go_wp2;go_ret;exact⟨zG.no H2.out,((Below.refl _ _).alloc (Nat.le_refl _) _).alloc (by simp) _⟩
theorem zKL(v v':Value)(n n' lo hi lo' hi':Nat)(f f':Nat->Int)(w:World)(h1:qV w lo hi v n f)(h2:qV w lo' hi' v' n' f') :
  Calls Tryz.prog 109 #[v,v'] w fun e w'=>zG (zMp n n' f f') e/\Below w.heap.size w w':=by
 obtain⟨m1,a,c,rfl,mc,g1⟩:=h1;obtain⟨m2,a',c',rfl,iA,g2⟩:=h2;unfold maxLen at m1 m2;by_cases hn:n=n'
 ·subst hn;have gA:((n:Int) != (n:Int))=false:=(by simp);go_enter Tryz.func109,Tryz.ntmps109;go_wp2
  go_loopw [5] (fun i wr=>∃k:Nat,k<=n/\i = .int .i64 k/\(∀j,j<k->f j=f' j)/\Below w.heap.size w wr) (fun i _=>n - (intOf i).toNat)
  case atStart=>exact⟨0,Nat.zero_le _,rfl,fun j h=>absurd h (Nat.not_lt_zero _),Below.refl _ _⟩
  case round=>
   obtain⟨k,hk,rfl,bA,hb⟩:=hrel;have cA:Hid (∀j,j<k->f j=f' j):=bA;clear bA;by_cases aA:k<n
   ·have eA:(k:Int)<(n:Int):=(by omega);obtain⟨b,off,rfl,_,_,k1⟩:=g1 (by omega);obtain⟨b',dA,rfl,_,_,k2⟩:=g2 (by omega);have jA:wr.cell? ⟨b,off+k,none⟩=some (.int .i64 (f k)):=(hb.cell (zD (k1 k aA))).trans (k1 k aA);have kA:wr.cell? ⟨b',dA+k,none⟩=some (.int .i64 (f' k)):=(hb.cell (zD (k2 k aA))).trans (k2 k aA);clear k1 k2 g1 g2;by_cases he:f k=f' k
    ·have fA:(f k != f' k)=false:=(by simp[he]);have He:Hid (f k=f' k):=he;clear he;go_wp2_with fail
     go_quiet (fail)
     go_wp2;go_roundw
     case rel=>exact⟨k+1,by omega,by go_num,zo aA cA.out He.out,zg hb _⟩
     case measure=>simp[intOf];omega
    ·have fA:(f k != f' k)=true:=(by simp[he]);have He:Hid (¬f k=f' k):=he;clear he;go_wp2_with fail
     go_quiet (fail)
     go_wp2;go_ret;exact⟨zG.no fun h=>He.out (h.2 k aA),zg hb _⟩
   ·go_wp2;go_ret;exact⟨zG.yes ⟨rfl,fun i hi=>cA.out i (by omega)⟩,hb⟩
 ·have gA:((n:Int) != (n':Int))=true:=(by simp;omega);have Hn:Hid (¬n=n'):=hn;clear hn;go_enter Tryz.func109,Tryz.ntmps109;go_wp2;go_ret;exact⟨zG.no fun h=>Hn.out h.1,Below.refl _ _⟩
theorem zFe(v v':Value)(n n' lo hi lo' hi':Nat)(f g f' g':Nat->Int)(w:World)(h1:zU w lo hi v n f g)(h2:zU w lo' hi' v' n' f' g') :
  Calls Tryz.prog 175 #[v,v'] w fun e w'=>zG (zNF n n' f g f' g') e/\Below w.heap.size w w':=by
 obtain⟨m1,a,c,rfl,mc,g1⟩:=h1;obtain⟨m2,a',c',rfl,nA,g2⟩:=h2;unfold maxLen at m1 m2;by_cases hn:n=n'
 ·subst hn;have mA:((n:Int) != (n:Int))=false:=(by simp);go_enter Tryz.func175,Tryz.ntmps175;go_wp2
  go_loopw [5] (fun i wr=>∃k:Nat,k<=n/\i = .int .i64 k/\(∀j,j<k->f j=f' j/\g j=g' j)/\Below w.heap.size w wr) (fun i _=>n - (intOf i).toNat)
  case atStart=>exact⟨0,Nat.zero_le _,rfl,fun j h=>absurd h (Nat.not_lt_zero _),Below.refl _ _⟩
  case round=>
   obtain⟨k,hk,rfl,dA,hb⟩:=hrel;have eA:Hid (∀j,j<k->f j=f' j/\g j=g' j):=dA;clear dA;by_cases bA:k<n
   ·have lA:(k:Int)<(n:Int):=(by omega);obtain⟨b,off,rfl,_,_,k1⟩:=g1 (by omega);obtain⟨b',aA,rfl,_,_,k2⟩:=g2 (by omega);have gA:wr.cell? ⟨b,off+k*2,none⟩=some (.int .i64 (f k)):=(hb.cell (zD (k1 k bA).1)).trans (k1 k bA).1;have fA:wr.cell? ⟨b,off+k*2+1,none⟩=some (.int .i64 (g k)):=(hb.cell (zD (k1 k bA).2)).trans (k1 k bA).2;have iA:wr.cell? ⟨b',aA+k*2,none⟩=some (.int .i64 (f' k)):=(hb.cell (zD (k2 k bA).1)).trans (k2 k bA).1;have jA:wr.cell? ⟨b',aA+k*2+1,none⟩=some (.int .i64 (g' k)):=(hb.cell (zD (k2 k bA).2)).trans (k2 k bA).2;clear k1 k2 g1 g2;go_wp2_with fail;go_region_held3 (fun w'=>w'.cell? ⟨b,off+k*2,none⟩=some (.int .i64 (f k))/\w'.cell? ⟨b,off+k*2+1,none⟩=some (.int .i64 (g k))/\w'.cell? ⟨b',aA+k*2,none⟩=some (.int .i64 (f' k))/\w'.cell? ⟨b',aA+k*2+1,none⟩=some (.int .i64 (g' k))) (go_keep)
     (first | (go_at_call 174;refine(zGw _ _ _ _ _).mono ?_;rintro e w1 ⟨⟨t,rfl,ht⟩,cA⟩;have z1:=(cA.cell (p:=⟨b,off+k*2,none⟩) (zD gA)).trans gA;have z2:=(cA.cell (p:=⟨b,off+k*2+1,none⟩) (zD fA)).trans fA;have z3:=(cA.cell (p:=⟨b',aA+k*2,none⟩) (zD iA)).trans iA;have z4:=(cA.cell (p:=⟨b',aA+k*2+1,none⟩) (zD jA)).trans jA))
    have Ht:Hid (t=true↔zCM (f k) (g k) (f' k) (g' k)):=ht;have kA:=qd hb cA;clear ht z1 z2 z3 z4 gA fA iA jA cA;cases t
    ·go_wp2;go_ret;exact⟨zG.no fun h=>absurd (Ht.out.2 (h.2 k bA)) (by simp),kA⟩
    ·go_wp2;go_roundw
     case rel=>exact⟨k+1,by omega,by go_num,zo bA eA.out (Ht.out.1 rfl),kA⟩
     case measure=>simp[intOf];omega
   ·go_wp2;go_ret;exact⟨zG.yes ⟨rfl,fun i hi=>eA.out i (by omega)⟩,hb⟩
 ·have mA:((n:Int) != (n':Int))=true:=(by simp;omega);have Hn:Hid (¬n=n'):=hn;clear hn;go_enter Tryz.func175,Tryz.ntmps175;go_wp2;go_ret;exact⟨zG.no fun h=>Hn.out h.1,Below.refl _ _⟩
theorem zMk(v0 v1 v2 u0 u1 u2:Value)(lo hi lo' hi':Nat)(s t:zL)(w:World)(h1:qH w lo hi v0 v1 v2 s)(h2:qH w lo' hi' u0 u1 u2 t) :
  Calls Tryz.prog 173 #[.agg #[v0,v1,v2],.agg #[u0,u1,u2]] w fun e w'=>zG (zEi s t) e/\Below w.heap.size w w':=by
 obtain⟨rfl,p1,rfl,m1⟩:=h1;obtain⟨rfl,p2,rfl,m2⟩:=h2;have q1:=p1;have q2:=p2;obtain⟨_,a,c,rfl,_⟩:=p1;obtain⟨_,a',c',rfl,_⟩:=p2;by_cases h1:s.zRi=t.zRi
 ·have hb:(s.zRi != t.zRi)=false:=(by simp[h1]);have H1:Hid (s.zRi=t.zRi):=h1;clear h1;go_enter Tryz.func173,Tryz.ntmps173;go_wp2_with fail;have aA:=((Below.refl w.heap.size w).alloc (Nat.le_refl _) (.cells #[.int .i64 s.zRi,.slice a s.kn c,.string s.data] 127)).alloc (by simp) (.cells #[.int .i64 t.zRi,.slice a' t.kn c',.string t.data] 127);refine(zFe _ _ _ _ _ _ _ _ _ _ _ _ _ (q1.zRX aA) (q2.zRX aA)).mono ?_;rintro e w1 ⟨⟨x,rfl,hx⟩,bA⟩;have Hx:Hid (x=true↔zNF s.kn t.kn s.ks s.kb t.ks t.kb):=hx;have cA:=zA aA bA;have e1:=bA.cell (p:=⟨w.heap.size,2,none⟩) (by simp;omega);have e2:=bA.cell (p:=⟨w.heap.size+1,2,none⟩) (by simp);simp at e1 e2;clear hx bA aA;cases x
  ·go_wp2;go_ret;exact⟨zG.no fun h=>absurd (Hx.out.2 h.2.1) (by simp),cA⟩
  ·by_cases h3:s.data=t.data
   ·have dA:=zCv h3;have H3:Hid (s.data=t.data):=h3;clear h3;go_wp2;go_ret;exact⟨zG.yes ⟨H1.out,(by simpa using Hx.out),H3.out⟩,cA⟩
   ·have dA:=zEm h3;have H3:Hid (¬s.data=t.data):=h3;clear h3;go_wp2;go_ret;exact⟨zG.no fun h=>H3.out h.2.2,cA⟩
 ·have hb:(s.zRi != t.zRi)=true:=(by simp[h1]);have H1:Hid (¬s.zRi=t.zRi):=h1;clear h1;go_enter Tryz.func173,Tryz.ntmps173;go_wp2;go_ret;exact⟨zG.no fun h=>H1.out h.1,((Below.refl _ _).alloc (Nat.le_refl _) _).alloc (by simp) _⟩
theorem zLk(v v':Value)(n n' lo hi lo' hi':Nat)(f f':Nat->zL)(w:World)(h1:qA w lo hi v n f)(h2:qA w lo' hi' v' n' f') :
  Calls Tryz.prog 108 #[v,v'] w fun e w'=>zG (zKo n n' f f') e/\Below w.heap.size w w':=by
 obtain⟨m1,a,c,rfl,mc,g1⟩:=h1;obtain⟨m2,a',c',rfl,vA,g2⟩:=h2;unfold maxLen at m1 m2;by_cases hn:n=n'
 ·subst hn;have sA:((n:Int) != (n:Int))=false:=(by simp);go_enter Tryz.func108,Tryz.ntmps108;go_wp2
  go_loopw [5] (fun i wr=>∃k:Nat,k<=n/\i = .int .i64 k/\(∀j,j<k->zEi (f j) (f' j))/\Below w.heap.size w wr) (fun i _=>n - (intOf i).toNat)
  case atStart=>exact⟨0,Nat.zero_le _,rfl,fun j h=>absurd h (Nat.not_lt_zero _),Below.refl _ _⟩
  case round=>
   obtain⟨k,hk,rfl,cA,hb⟩:=hrel;have dA:Hid (∀j,j<k->zEi (f j) (f' j)):=cA;clear cA;by_cases eA:k<n
   ·have tA:(k:Int)<(n:Int):=(by omega);obtain⟨b,off,rfl,_,_,k1⟩:=g1 (by omega);obtain⟨b',aA,rfl,_,_,k2⟩:=g2 (by omega);obtain⟨x0,x1,x2,c0,c1,c2,hs⟩:=k1 k eA;obtain⟨y0,y1,y2,d0,d1,d2,ht⟩:=k2 k eA;have gA:=(hb.cell (zD c0)).trans c0;have iA:=(hb.cell (zD c1)).trans c1;have lA:=(hb.cell (zD c2)).trans c2;have fA:=(hb.cell (zD d0)).trans d0;have jA:=(hb.cell (zD d1)).trans d1;have kA:=(hb.cell (zD d2)).trans d2;have nA:=hs.zRX hb;have oA:=ht.zRX hb;clear k1 k2 g1 g2 c0 c1 c2 d0 d1 d2 hs ht;have rA:=nA;have pA:=oA;obtain⟨rfl,⟨_,sa,sc,rfl,_⟩,rfl,_⟩:=rA;obtain⟨rfl,⟨_,ta,tc,rfl,_⟩,rfl,_⟩:=pA;go_wp2_with fail;go_region_held3 (fun w'=>w'.cell? ⟨b,off+k*3,none⟩=some (.int .i64 (f k).zRi)/\w'.cell? ⟨b,off+k*3+1,none⟩=some (.slice sa (f k).kn sc)/\w'.cell? ⟨b,off+k*3+2,none⟩=some (.string (f k).data)/\w'.cell? ⟨b',aA+k*3,none⟩=some (.int .i64 (f' k).zRi)/\w'.cell? ⟨b',aA+k*3+1,none⟩=some (.slice ta (f' k).kn tc)/\w'.cell? ⟨b',aA+k*3+2,none⟩=some (.string (f' k).data)) (go_keep)
     (first | (go_at_call 173;refine(zMk _ _ _ _ _ _ lo hi lo' hi' (f k) (f' k) _ ?_ ?_).mono ?_;(exact nA.zRX ((Below.refl _ _).drew));(exact oA.zRX ((Below.refl _ _).drew));rintro e w1 ⟨⟨t,rfl,hx⟩,bA⟩;have z1:=(bA.cell (p:=⟨b,off+k*3,none⟩) (zD gA)).trans gA;have z2:=(bA.cell (p:=⟨b,off+k*3+1,none⟩) (zD iA)).trans iA;have z3:=(bA.cell (p:=⟨b,off+k*3+2,none⟩) (zD lA)).trans lA;have y1:=(bA.cell (p:=⟨b',aA+k*3,none⟩) (zD fA)).trans fA;have y2:=(bA.cell (p:=⟨b',aA+k*3+1,none⟩) (zD jA)).trans jA;have y3:=(bA.cell (p:=⟨b',aA+k*3+2,none⟩) (zD kA)).trans kA))
    have Ht:Hid (t=true↔zEi (f k) (f' k)):=hx;have mA:=qd hb bA;clear hx z1 z2 z3 y1 y2 y3 gA iA lA fA jA kA bA;cases t
    ·go_wp2;go_ret;exact⟨zG.no fun h=>absurd (Ht.out.2 (h.2 k eA)) (by simp),mA⟩
    ·go_wp2;go_roundw
     case rel=>exact⟨k+1,by omega,by go_num,zo eA dA.out (Ht.out.1 rfl),mA⟩
     case measure=>simp[intOf];omega
   ·go_wp2;go_ret;exact⟨zG.yes ⟨rfl,fun i hi=>dA.out i (by omega)⟩,hb⟩
 ·have sA:((n:Int) != (n':Int))=true:=(by simp;omega);have Hn:Hid (¬n=n'):=hn;clear hn;go_enter Tryz.func108,Tryz.ntmps108;go_wp2;go_ret;exact⟨zG.no fun h=>Hn.out h.1,Below.refl _ _⟩
theorem zMn(v0 v1 u0 u1:Value)(lo hi lo' hi':Nat)(p q:zI)(w:World)(h1:zu w lo hi v0 v1 p)(h2:zu w lo' hi' u0 u1 q) :
  Calls Tryz.prog 39 #[.agg #[v0,v1],.agg #[u0,u1]] w fun e w'=>zG (zKC p q) e/\Below w.heap.size w w':=by
 have q1:=h1;have q2:=h2;obtain⟨⟨_,a,c,rfl,_⟩,⟨_,a1,c1,rfl,_⟩⟩:=h1;obtain⟨⟨_,b,d,rfl,_⟩,⟨_,b1,d1,rfl,_⟩⟩:=h2;go_enter Tryz.func39,Tryz.ntmps39;go_wp2_with fail;have cA:=((Below.refl w.heap.size w).alloc (Nat.le_refl _) (.cells #[.slice a p.n c,.slice a1 p.hn c1] 33)).alloc (by simp) (.cells #[.slice b q.n d,.slice b1 q.hn d1] 33);refine(zLk _ _ _ _ _ _ _ _ _ _ _ (q1.1.zRX cA) (q2.1.zRX cA)).mono ?_;rintro e w1 ⟨⟨x,rfl,hx⟩,bA⟩;have Hx:Hid (x=true↔zKo p.n q.n p.s q.s):=hx;have aA:=zA cA bA;have e1:=bA.cell (p:=⟨w.heap.size,1,none⟩) (by simp;omega);have e2:=bA.cell (p:=⟨w.heap.size+1,1,none⟩) (by simp);simp at e1 e2;clear hx bA cA;cases x
 ·go_wp2;go_ret;exact⟨zG.no fun h=>absurd (Hx.out.2 h.1) (by simp),aA⟩
 ·go_wp2_with fail;refine(zKL _ _ _ _ _ _ _ _ _ _ _ (q1.2.zRX aA) (q2.2.zRX aA)).mono ?_;rintro e w2 ⟨⟨y,rfl,hy⟩,eA⟩;have Hy:Hid (y=true↔zMp p.hn q.hn p.h q.h):=hy;have dA:=zA aA eA;clear hy eA aA;cases y
  ·go_wp2;go_ret;exact⟨zG.no fun h=>absurd (Hy.out.2 h.2) (by simp),dA⟩
  ·go_wp2;go_ret;exact⟨zG.yes ⟨(by simpa using Hx.out),(by simpa using Hy.out)⟩,dA⟩
theorem zK5(v:Value)(n lo hi:Nat)(f:Nat->Int)(w:World)(h1:qV w lo hi v n f)(hn:n<=1048576) :
  Calls Tryz.prog 88 #[v] w fun e w'=>(∃v',e = .returned v'/\qf w' w.heap.size v' n f)/\Below w.heap.size w w'/\w.heap.size<w'.heap.size:=by
 obtain⟨m1,a,c,rfl,mc,g1⟩:=h1;have fA:=m1;unfold maxLen at m1;have G1:Hid (0<n->∃b off,a=some ⟨b,off,none⟩/\lo<=b/\b<hi/\∀i,i<n->w.cell? ⟨b,off+i,none⟩=some (.int .i64 (f i))):=g1;clear g1;have jA:=zBA 23 2 (.int .i64 0) 1 8 (by kernel_rfl) zDQ rfl n hn (by omega);go_enter Tryz.func88,Tryz.ntmps88;go_wp2
 go_loopw [4] (fun i wr=>∃k:Nat,k<=n/\i = .int .i64 k/\(∀j,j<n->zW wr w.heap.size (0+j) (.int .i64 (if j<k then f j else 0)))/\Below w.heap.size w wr/\w.heap.size<wr.heap.size) (fun i _=>n - (intOf i).toNat)
 case atStart=>exact⟨0,Nat.zero_le _,rfl,fun j hj=>by have:=qk w #[.int .i64 0] n j 0 2 hj (by simp);simpa using this,zC _ _,by simp⟩
 case round=>
  obtain⟨k,hk,rfl,bA,hb,dA⟩:=hrel;have aA:Hid (∀j,j<n->zW wr w.heap.size (0+j) (.int .i64 (if j<k then f j else 0))):=bA;clear bA;by_cases cA:k<n
  ·have eA:(k:Int)<(n:Int):=(by omega);obtain⟨b,off,rfl,_,_,k1⟩:=G1.out (by omega);have kA:=(hb.cell (zD (k1 k cA))).trans (k1 k cA);obtain⟨iA,gA⟩:=aA.out k cA;rw[if_neg (Nat.lt_irrefl k),Nat.zero_add]at iA;rw[Nat.zero_add]at gA;go_wp2;go_roundw
   case rel=>
    refine⟨k+1,by omega,by go_num,fun j hj=>?_,hb.setCell (Nat.le_refl _) _,by simpa using dA⟩;by_cases e:j=k
    ·subst e;rw[if_pos (by omega)];simpa using (aA.out j hj).set (.int .i64 (f j))
    ·have:=(aA.out j hj).zRY (b':=w.heap.size) (o':=k) (.int .i64 (f k)) (Or.inr (by omega));by_cases e2:j<k
     ·rw[if_pos (by omega)];rw[if_pos e2]at this;exact this
     ·rw[if_neg (by omega)];rw[if_neg e2]at this;exact this
   case measure=>simp[intOf];omega
  ·obtain rfl:k=n:=(by omega);go_wp2;go_ret;refine⟨⟨_,rfl,fA,_,k,rfl,Nat.le_refl _,fun _=>⟨0,rfl,fun i hi=>?_⟩,fun h=>absurd h (Nat.lt_irrefl _)⟩,hb,dA⟩;have:=aA.out i hi;rw[if_pos hi]at this;exact this
theorem zGR(a b:Int)(w:World) :
  Calls Tryz.prog 148 #[.agg #[.int .i64 a,.int .i64 b]] w fun e w'=>e = .returned (.agg #[.int .i64 a,.int .i64 b])/\Below w.heap.size w w':=by
 go_enter Tryz.func148,Tryz.ntmps148;go_wp2;refine bodyPost_ret (v:=.agg #[.int .i64 a,.int .i64 b]) (by simp[results,Tryz.results148,go_sem]) rfl ⟨rfl,?_⟩;exact(((Below.refl _ _).alloc (Nat.le_refl _) _).alloc (by simp) _).alloc (by simp;omega) _
theorem zFT(v:Value)(n lo hi:Nat)(f g:Nat->Int)(w:World)(h1:zU w lo hi v n f g)(hn:n<=1048576) :
  Calls Tryz.prog 149 #[v] w fun e w'=>(∃v',e = .returned v'/\zm w' w.heap.size v' n f g)/\Below w.heap.size w w'/\w.heap.size<w'.heap.size:=by
 obtain⟨m1,a,c,rfl,mc,g1⟩:=h1;have jA:=m1;unfold maxLen at m1;have G1:Hid (0<n->∃b off,a=some ⟨b,off,none⟩/\lo<=b/\b<hi/\∀i,i<n->w.cell? ⟨b,off+i*2,none⟩=some (.int .i64 (f i))/\w.cell? ⟨b,off+i*2+1,none⟩=some (.int .i64 (g i))):=g1;clear g1;have sA:=zBA 62 61 (.agg #[.int .i64 0,.int .i64 0]) 2 16 (by kernel_rfl) zKy rfl n hn (by omega);go_enter Tryz.func149,Tryz.ntmps149;go_wp2
 go_loopw [4] (fun i wr=>∃k:Nat,k<=n/\i = .int .i64 k/\(∀j,j<n->zW wr w.heap.size (0+j*2) (.int .i64 (if j<k then f j else 0))/\zW wr w.heap.size (0+j*2+1) (.int .i64 (if j<k then g j else 0)))/\Below w.heap.size w wr/\w.heap.size<wr.heap.size) (fun i _=>n - (intOf i).toNat)
 case atStart=>
  refine⟨0,Nat.zero_le _,rfl,fun j hj=>⟨?_,?_⟩,zC _ _,by simp⟩
  ·have:=qk w #[.int .i64 0,.int .i64 0] n j 0 61 hj (by simp);simpa using this
  ·have:=qk w #[.int .i64 0,.int .i64 0] n j 1 61 hj (by simp);simpa using this
 case round=>
  obtain⟨k,hk,rfl,dA,hb,gA⟩:=hrel;have bA:Hid (∀j,j<n->zW wr w.heap.size (0+j*2) (.int .i64 (if j<k then f j else 0))/\zW wr w.heap.size (0+j*2+1) (.int .i64 (if j<k then g j else 0))):=dA;clear dA;by_cases eA:k<n
  ·have iA:(k:Int)<(n:Int):=(by omega);obtain⟨b,off,rfl,_,_,k1⟩:=G1.out (by omega);have mA:=(hb.cell (zD (k1 k eA).1)).trans (k1 k eA).1;have pA:=(hb.cell (zD (k1 k eA).2)).trans (k1 k eA).2;clear k1 G1;go_wp2_with fail;refine(zGR _ _ _).mono ?_;rintro e w1 ⟨rfl,cA⟩;have kA:=zA hb cA;have fA:w.heap.size<w1.heap.size:=Nat.lt_of_lt_of_le gA cA.size;have aA:Hid (∀j,j<n->zW w1 w.heap.size (0+j*2) (.int .i64 (if j<k then f j else 0))/\zW w1 w.heap.size (0+j*2+1) (.int .i64 (if j<k then g j else 0))):=fun j hj=>⟨(bA.out j hj).1.zRX cA,(bA.out j hj).2.zRX cA⟩
   clear bA cA mA pA;obtain⟨⟨rA,oA⟩,⟨lA,nA⟩⟩:=aA.out k eA;rw[if_neg (Nat.lt_irrefl k),Nat.zero_add]at rA lA;rw[Nat.zero_add]at oA nA;go_wp2;go_roundw
   case rel=>
    refine⟨k+1,by omega,by go_num,fun j hj=>?_,(kA.setCell (Nat.le_refl _) _).setCell (Nat.le_refl _) _,by simpa using fA⟩;by_cases e:j=k
    ·subst e;rw[if_pos (by omega),if_pos (by omega)];have t1:=((aA.out j hj).1.set (.int .i64 (f j))).zRY (b':=w.heap.size) (o':=0+j*2+1) (.int .i64 (g j)) (Or.inr (by omega));have t2:=((aA.out j hj).2.zRY (b':=w.heap.size) (o':=0+j*2) (.int .i64 (f j)) (Or.inr (by omega))).set (.int .i64 (g j));simp only[Nat.zero_add]at t1 t2 ⊢;exact⟨t1,t2⟩
    ·have t1:=((aA.out j hj).1.zRY (b':=w.heap.size) (o':=k*2) (.int .i64 (f k)) (Or.inr (by omega))).zRY (b':=w.heap.size) (o':=k*2+1) (.int .i64 (g k)) (Or.inr (by omega));have t2:=((aA.out j hj).2.zRY (b':=w.heap.size) (o':=k*2) (.int .i64 (f k)) (Or.inr (by omega))).zRY (b':=w.heap.size) (o':=k*2+1) (.int .i64 (g k)) (Or.inr (by omega));by_cases e2:j<k
     ·rw[if_pos (by omega),if_pos (by omega)];rw[if_pos e2]at t1 t2;exact⟨t1,t2⟩
     ·rw[if_neg (by omega),if_neg (by omega)];rw[if_neg e2]at t1 t2;exact⟨t1,t2⟩
   case measure=>simp[intOf];omega
  ·obtain rfl:k=n:=(by omega);go_wp2;go_ret;refine⟨⟨_,rfl,jA,_,k,rfl,Nat.le_refl _,fun _=>⟨0,rfl,fun i hi=>?_⟩⟩,hb,gA⟩;have:=bA.out i hi;rw[if_pos hi,if_pos hi]at this;exact this
theorem zMo(v0 v1 v2:Value)(lo hi:Nat)(s:zL)(w:World)(h1:qH w lo hi v0 v1 v2 s)(hn:s.kn<=1048576) :
  Calls Tryz.prog 147 #[.agg #[v0,v1,v2]] w fun e w'=>(∃kv kb,e = .returned (.agg #[.int .i64 s.zRi,kv,.string s.data])/\zm w' kb kv s.kn s.ks s.kb/\w.heap.size<=kb/\kb<w'.heap.size)/\Below w.heap.size w w':=by
 obtain⟨rfl,p1,rfl,m1⟩:=h1;have q1:=p1;obtain⟨_,a,c,rfl,_⟩:=p1;go_enter Tryz.func147,Tryz.ntmps147;go_wp2_with fail;have jA:=zC w (.cells #[.int .i64 s.zRi,.slice a s.kn c,.string s.data] 183);have iA:=zA jA (zC _ (.cells #[.int .i64 0,.slice none 0 0,.string ⟨#[]⟩] 127));have gA:=zA iA (zC _ (.cells #[.int .i64 s.zRi,.slice none 0 0,.string ⟨#[]⟩] 127));refine(zFT _ s.kn lo hi _ _ _ (q1.zRX gA) hn).mono ?_;rintro e w1 ⟨⟨kv,rfl,bA⟩,aA,eA⟩;have HB:Hid (yR w1 w.heap.size (.int .i64 s.zRi) (.slice a s.kn c) (.string s.data)):=(((yR.zRZ w _ _ _ _).zRX (zC _ _)).zRX (zC _ _)).zRX aA;have HR:Hid (yR w1 (w.heap.size+1) (.int .i64 0) (.slice none 0 0) (.string ⟨#[]⟩)):=by
  have:=(((yR.zRZ (w.alloc (.cells #[.int .i64 s.zRi,.slice a s.kn c,.string s.data] 183)) (.int .i64 0) (.slice none 0 0) (.string ⟨#[]⟩) 127).zRX (zC _ _)).zRX aA);rw[World.size_alloc]at this;exact this
 have HO:Hid (yR w1 (w.heap.size+1+1) (.int .i64 s.zRi) (.slice none 0 0) (.string ⟨#[]⟩)):=by
  have:=((yR.zRZ ((w.alloc (.cells #[.int .i64 s.zRi,.slice a s.kn c,.string s.data] 183)).alloc (.cells #[.int .i64 0,.slice none 0 0,.string ⟨#[]⟩] 127)) (.int .i64 s.zRi) (.slice none 0 0) (.string ⟨#[]⟩) 127).zRX aA);rw[World.size_alloc,World.size_alloc]at this;exact this
 have kA:=zA gA aA;have fA:Hid (zm w1 (w.heap.size+1+1+1) kv s.kn s.ks s.kb):=by
  have:=bA;rw[World.size_alloc,World.size_alloc,World.size_alloc]at this;exact this
 have cA:w.heap.size+1+1+1<w1.heap.size:=by
  rw[World.size_alloc,World.size_alloc,World.size_alloc]at eA;exact eA
 clear eA;obtain⟨_,ka,kc,rfl,_⟩:=bA;clear jA iA gA aA;obtain⟨⟨x0,x1⟩,⟨x2,x3⟩,⟨x4,x5⟩⟩:=HB.out;obtain⟨⟨y0,y1⟩,⟨y2,y3⟩,⟨y4,y5⟩⟩:=HR.out;obtain⟨⟨z0,z1⟩,⟨z2,z3⟩,⟨z4,z5⟩⟩:=HO.out;go_wp2;have dA:=((HR.out.zRY (b':=w.heap.size+1+1) (o':=1) (.slice ka s.kn kc) (by omega)).zRY (b':=w.heap.size+1+1) (o':=2) (.string s.data) (by omega)).put (.int .i64 s.zRi) (.slice ka s.kn kc) (.string s.data);refine bodyPost_ret (v:=.agg #[.int .i64 s.zRi,.slice ka s.kn kc,.string s.data]) (by simp[results,Tryz.results147,go_sem,dA.1.1,dA.2.1.1,dA.2.2.1]) rfl ⟨⟨_,w.heap.size+1+1+1,rfl,?_,by omega,by simpa using cA⟩,?_⟩
 ·exact((((fA.out.put _ (by omega)).put _ (by omega)).put _ (by omega)).put _ (by omega)).put _ (by omega)
 ·exact((((kA.setCell (by show _<=w.heap.size+1+1;omega) _).setCell (by show _<=w.heap.size+1+1;omega) _).setCell (by show _<=w.heap.size+1;omega) _).setCell (by show _<=w.heap.size+1;omega) _).setCell (by show _<=w.heap.size+1;omega) _
structure zNC (wr:World) (bs n k:Nat) (f:Nat->zL) (kb:Nat->Nat) (kv:Nat->Value):Prop where
 slots:∀j,j<n->zAB wr bs (0+j*3) (kb j) (kv j) (if j<k then f j else zG9)
 zRk:yP kb k f
 zRm:∀j,j<k->0<(f j).kn->bs<kb j/\kb j<wr.heap.size
theorem zNC.zRX{wr w':World}{bs n k:Nat}{f:Nat->zL}{kb:Nat->Nat}{kv:Nat->Value}(h:zNC wr bs n k f kb kv)(t:Below wr.heap.size wr w'):zNC w' bs n k f kb kv:=
 ⟨fun j hj=>(h.slots j hj).zRX t,h.zRk,fun j hj h0=>by have:=h.zRm j hj h0;have:=t.size;omega⟩
theorem zNC.next{wr w1:World}{bs n k b:Nat}{f:Nat->zL}{kb:Nat->Nat}{kv:Nat->Value}{v:Value}(h:zNC wr bs n k f kb kv)(hk:k<n)(dA:bs<wr.heap.size)(t:Below wr.heap.size wr w1)
  (hp:zm w1 b v (f k).kn (f k).ks (f k).kb) (hb:wr.heap.size<=b) (cA:b<w1.heap.size) (hs:(f k).data.size<=maxLen) :
  zNC (((w1.setCell ⟨bs,0+k*3,none⟩ (.int .i64 (f k).zRi)).setCell ⟨bs,0+k*3+1,none⟩ v).setCell ⟨bs,0+k*3+2,none⟩ (.string (f k).data)) bs n (k+1) f (fun j=>if j=k then b else kb j) (fun j=>if j=k then v else kv j):=by
 have h':=h.zRX t;refine⟨fun j hj=>?_,fun i j hi hj bA h1 h2=>?_,fun j hj h0=>?_⟩
 ·have aA:=h'.slots j hj;by_cases e:j=k
  ·subst e;simp only[if_true];rw[if_pos (by omega)];refine⟨?_,?_,?_,?_,hs,fun _=>by omega⟩
   ·exact((aA.zRi.set _).zRY _ (Or.inr (by omega))).zRY _ (Or.inr (by omega))
   ·exact((aA.kidsv.zRY _ (Or.inr (by omega))).set _).zRY _ (Or.inr (by omega))
   ·exact((aA.data.zRY _ (Or.inr (by omega))).zRY _ (Or.inr (by omega))).set _
   ·exact((hp.put _ (by omega)).put _ (by omega)).put _ (by omega)
  ·simp only[if_neg e];have es:(if j<k+1 then f j else zG9)=if j<k then f j else zG9:=by
    by_cases e2:j<k
    ·rw[if_pos e2,if_pos (by omega)]
    ·rw[if_neg e2,if_neg (by omega)]
   rw[es];refine⟨?_,?_,?_,?_,aA.zRn,aA.zRk⟩
   ·exact((aA.zRi.zRY _ (Or.inr (by omega))).zRY _ (Or.inr (by omega))).zRY _ (Or.inr (by omega))
   ·exact((aA.kidsv.zRY _ (Or.inr (by omega))).zRY _ (Or.inr (by omega))).zRY _ (Or.inr (by omega))
   ·exact((aA.data.zRY _ (Or.inr (by omega))).zRY _ (Or.inr (by omega))).zRY _ (Or.inr (by omega))
   ·refine((aA.kids.zRf (zF.put _ _ _ _) ?_).zRf (zF.put _ _ _ _) ?_).zRf (zF.put _ _ _ _) ?_
    all_goals exact fun h0 hx=>aA.zRk h0 hx
 ·show(if i=k then b else kb i)≠(if j=k then b else kb j);by_cases e1:i=k
  ·by_cases e2:j=k
   ·omega
   ·rw[if_pos e1,if_neg e2];have:=h.zRm j (by omega) h2;omega
  ·by_cases e2:j=k
   ·rw[if_neg e1,if_pos e2];have:=h.zRm i (by omega) h1;omega
   ·rw[if_neg e1,if_neg e2];exact h.zRk i j (by omega) (by omega) bA h1 h2
 ·simp only[World.size_setCell];by_cases e:j=k
  ·rw[if_pos e];omega
  ·rw[if_neg e];have:=h'.zRm j (by omega) h0;omega
theorem zOR{w:World}{bs n j:Nat}(hj:j<n)(aA:bs=w.heap.size):zAB (w.alloc (.cells (zA2 #[.int .i64 0,.slice none 0 0,.string ⟨#[]⟩] n) 127)) bs (0+j*3) 0 (.slice none 0 0) zG9:=by
 subst aA;have c0:=qk w #[.int .i64 0,.slice none 0 0,.string ⟨#[]⟩] n j 0 127 hj (by simp);have c1:=qk w #[.int .i64 0,.slice none 0 0,.string ⟨#[]⟩] n j 1 127 hj (by simp);have c2:=qk w #[.int .i64 0,.slice none 0 0,.string ⟨#[]⟩] n j 2 127 hj (by simp);refine⟨?_,?_,?_,⟨Nat.zero_le _,none,0,rfl,Nat.le_refl _,fun h=>absurd h (Nat.lt_irrefl _)⟩,Nat.zero_le _,fun h=>absurd h (Nat.lt_irrefl _)⟩
 ·show zW _ _ _ (.int .i64 0);simpa using c0
 ·simpa using c1
 ·show zW _ _ _ (.string ⟨#[]⟩);simpa using c2
theorem zLg(v:Value)(n lo hi:Nat)(f:Nat->zL)(w:World)(h1:qA w lo hi v n f)(hn:n+ym f n<=1048576) :
  Calls Tryz.prog 87 #[v] w fun e w'=>(∃v' kb kv,e = .returned v'/\qU w' w.heap.size kb kv v' n f/\yP kb n f/\∀j,j<n->0<(f j).kn->w.heap.size<kb j/\kb j<w'.heap.size)/\Below w.heap.size w w'/\w.heap.size<w'.heap.size:=by
 obtain⟨m1,a,c,rfl,mc,g1⟩:=h1;have mA:=m1;unfold maxLen at m1;have G1:Hid (0<n->∃b off,a=some ⟨b,off,none⟩/\lo<=b/\b<hi/\∀i,i<n->∃v0 v1 v2,w.cell? ⟨b,off+i*3,none⟩=some v0/\w.cell? ⟨b,off+i*3+1,none⟩=some v1/\w.cell? ⟨b,off+i*3+2,none⟩=some v2/\qH w lo hi v0 v1 v2 (f i)):=g1;have Hn:Hid (n+ym f n<=1048576):=hn;clear g1;have rA:=zBA 31 127 (.agg #[.int .i64 0,.slice none 0 0,.string ⟨#[]⟩]) 3 48 (by kernel_rfl) zEq rfl n (by omega) (by omega);clear hn;go_enter Tryz.func87,Tryz.ntmps87;go_wp2
 go_loopw [4] (fun i wr=>∃(k:Nat) (kb:Nat->Nat) (kv:Nat->Value),k<=n/\i = .int .i64 k/\zNC wr w.heap.size n k f kb kv/\Below w.heap.size w wr/\w.heap.size<wr.heap.size) (fun i _=>n - (intOf i).toNat)
 case atStart=>exact⟨0,fun _=>0,fun _=>.slice none 0 0,Nat.zero_le _,rfl,⟨fun j hj=>by rw[if_neg (by omega)];exact zOR hj rfl,fun i j hi=>absurd hi (by omega),fun j hj=>absurd hj (by omega)⟩,zC _ _,by simp⟩
 case round=>
  obtain⟨k,kb,kv,hk,rfl,aA,hb,jA⟩:=hrel;by_cases dA:k<n
  ·have lA:(k:Int)<(n:Int):=(by omega);obtain⟨b,off,rfl,_,_,k1⟩:=G1.out (by omega);obtain⟨x0,x1,x2,c0,c1,c2,hs⟩:=k1 k dA;have kA:=(hb.cell (zD c0)).trans c0;have nA:=(hb.cell (zD c1)).trans c1;have pA:=(hb.cell (zD c2)).trans c2;have iA:=hs.zRX hb;have Hs:Hid (qH wr lo hi x0 x1 x2 (f k)):=iA;clear k1 G1 c0 c1 c2 hs;obtain⟨rfl,⟨_,ka,kc,rfl,_⟩,rfl,bA⟩:=iA;go_wp2_with fail;refine(zMo _ _ _ lo hi (f k) _ Hs.out (by have h1:=Hn.out;have h2:=zFx f dA;unfold zAN at h2;omega)).mono ?_;rintro e w1 ⟨⟨nv,nb,rfl,hp,gA,eA⟩,cA⟩;have oA:=zA hb cA;have hz:=(aA.slots k dA).zRX cA;obtain⟨e0,e1⟩:=hz.zRi;obtain⟨e2,e3⟩:=hz.kidsv;obtain⟨e4,e5⟩:=hz.data;clear kA nA pA hz;rw[Nat.zero_add]at e0 e1 e2 e3 e4 e5;have Hp:Hid (zm w1 nb nv (f k).kn (f k).ks (f k).kb):=hp;obtain⟨_,na,nc,rfl,_⟩:=hp;have fA:w.heap.size<w1.heap.size:=(by have:=cA.size;omega);go_wp2;go_roundw
   case rel=>
    refine⟨k+1,(fun j=>if j=k then nb else kb j),(fun j=>if j=k then .slice na (f k).kn nc else kv j),by omega,by go_num,?_,((oA.setCell (Nat.le_refl _) _).setCell (Nat.le_refl _) _).setCell (Nat.le_refl _) _,by simpa using fA⟩;have hx:=aA.next dA jA cA Hp.out gA eA bA;rw[Nat.zero_add]at hx;exact hx
   case measure=>simp[intOf];omega
  ·obtain rfl:k=n:=(by omega);go_wp2;go_ret;refine⟨⟨_,kb,kv,rfl,⟨mA,_,k,rfl,Nat.le_refl _,fun _=>⟨0,rfl,fun i hi=>?_⟩⟩,aA.zRk,aA.zRm⟩,hb,jA⟩;have:=aA.slots i hi;rw[if_pos hi]at this;exact this
theorem zM8(v0 v1:Value)(lo hi:Nat)(p:zI)(w:World)(h1:zu w lo hi v0 v1 p)(hn:qC p<=1048576):Calls Tryz.prog 30 #[.agg #[v0,v1]] w (zHZ p w):=by
 have q1:=h1;obtain⟨⟨_,a,c,rfl,_⟩,⟨_,a',c',rfl,_⟩⟩:=h1;unfold qC at hn;go_enter Tryz.func30,Tryz.ntmps30;go_wp2_with fail;have tA:=zC w (.cells #[.slice a p.n c,.slice a' p.hn c'] 25);have pA:=zA tA (zC _ (.cells #[.slice none 0 0,.slice none 0 0] 33));have lA:=zA pA (zC _ (.cells #[.slice none 0 0,.slice none 0 0] 33));refine(zLg _ p.n lo hi p.s _ (q1.1.zRX lA) (by omega)).mono ?_;rintro e w1 ⟨⟨sv,kb,kv,rfl,bA,rA,jA⟩,gA,aB⟩;have HB:Hid (zc w1 w.heap.size (.slice a p.n c) (.slice a' p.hn c')):=(((zc.zRZ w _ _ _).zRX (zC _ _)).zRX (zC _ _)).zRX gA;have HR:Hid (zc w1 (w.heap.size+1) (.slice none 0 0) (.slice none 0 0)):=by
  have:=(((zc.zRZ (w.alloc (.cells #[.slice a p.n c,.slice a' p.hn c'] 25)) (.slice none 0 0) (.slice none 0 0) 33).zRX (zC _ _)).zRX gA);rw[World.size_alloc]at this;exact this
 have HO:Hid (zc w1 (w.heap.size+1+1) (.slice none 0 0) (.slice none 0 0)):=by
  have:=((zc.zRZ ((w.alloc (.cells #[.slice a p.n c,.slice a' p.hn c'] 25)).alloc (.cells #[.slice none 0 0,.slice none 0 0] 33)) (.slice none 0 0) (.slice none 0 0) 33).zRX gA);rw[World.size_alloc,World.size_alloc]at this;exact this
 have oA:=zA lA gA;rw[World.size_alloc,World.size_alloc,World.size_alloc]at bA jA aB;have fA:Hid (qU w1 (w.heap.size+1+1+1) kb kv sv p.n p.s):=bA;have bB:Hid (yP kb p.n p.s):=rA;have iA:Hid (∀j,j<p.n->0<(p.s j).kn->w.heap.size+1+1+1<kb j/\kb j<w1.heap.size):=jA;obtain⟨_,sa,sc,rfl,_⟩:=bA;clear rA jA tA pA lA gA;obtain⟨⟨x0,x1⟩,⟨x2,x3⟩⟩:=HB.out;obtain⟨⟨z0,z1⟩,⟨z2,z3⟩⟩:=HO.out;go_wp2_with fail;have kA:=oA.setCell (p:=⟨w.heap.size+1+1,0,none⟩) (by show _<=w.heap.size+1+1;omega) (.slice sa p.n sc);refine(zK5 _ p.hn lo hi p.h _ (q1.2.zRX kA) (by omega)).mono ?_;rintro e w2 ⟨⟨hv,rfl,aA⟩,dA,mA⟩;rw[World.size_setCell]at aA mA;have vA:=zA kA dA;have nA:Hid (zc w2 (w.heap.size+1) (.slice none 0 0) (.slice none 0 0)):=(HR.out.zRY _ (by omega)).zRX dA;have cB:Hid (zc w2 (w.heap.size+1+1) (.slice sa p.n sc) (.slice none 0 0)):=(show zc (w1.setCell ⟨w.heap.size+1+1,0,none⟩ (.slice sa p.n sc)) (w.heap.size+1+1) (.slice sa p.n sc) (.slice none 0 0)from⟨HO.out.1.set _,HO.out.2.zRY _ (Or.inr (by omega))⟩).zRX dA;have cA:Hid (qU w2 (w.heap.size+1+1+1) kb kv (.slice sa p.n sc) p.n p.s):=
  (fA.out.zRf (zF.put _ _ _ _) (fun _ e=>by omega) (fun i hi h0 e=>by have:=iA.out i hi h0;omega)).zRX dA
 have eA:Hid (qf w2 w1.heap.size hv p.hn p.h):=aA;obtain⟨_,ia,ic,rfl,_⟩:=aA;clear x0 x1 x2 x3 z0 z1 z2 z3 dA kA HB HR HO fA oA;obtain⟨⟨y0,y1⟩,⟨y2,y3⟩⟩:=nA.out;obtain⟨⟨z0,z1⟩,⟨z2,z3⟩⟩:=cB.out;go_wp2;have sA:=(nA.out.zRY (b':=w.heap.size+1+1) (o':=1) (.slice ia p.hn ic) (by omega)).put (.slice sa p.n sc) (.slice ia p.hn ic);refine bodyPost_ret (v:=.agg #[.slice sa p.n sc,.slice ia p.hn ic]) (by simp[results,Tryz.results30,go_sem,sA.1.1,sA.2.1]) rfl ⟨_,_,rfl,?_,?_⟩
 ·refine⟨w.heap.size+1+1+1,w1.heap.size,kb,kv,?_,bB.out,?_,?_,?_⟩
  ·have pl:=iA.out;refine((cA.out.zRf (zF.put _ _ _ _) ?_ ?_).zRf (zF.put _ _ _ _) ?_ ?_).zRf (zF.put _ _ _ _) ?_ ?_
   ·exact fun _ e=>by omega
   ·exact fun i hi h0 e=>by have:=pl i hi h0;omega
   ·exact fun _ e=>by omega
   ·exact fun i hi h0 e=>by have:=pl i hi h0;omega
   ·exact fun _ e=>by omega
   ·exact fun i hi h0 e=>by have:=pl i hi h0;omega
  ·exact((eA.out.put _ (by omega)).put _ (by omega)).put _ (by omega)
  ·rintro h0 (⟨_,e⟩ | ⟨i,hi,h1,e⟩)
   ·omega
   ·have:=iA.out i hi h1;omega
  ·simp only[World.size_setCell];rintro k ((⟨_,rfl⟩ | ⟨i,hi,h1,rfl⟩) | ⟨_,rfl⟩)
   ·omega
   ·have:=iA.out i hi h1;omega
   ·omega
 ·exact((vA.setCell (by show _<=w.heap.size+1+1;omega) _).setCell (by show _<=w.heap.size+1;omega) _).setCell (by show _<=w.heap.size+1;omega) _
open Go.Maps
theorem zi.off6{w:World}{b:Nat}{a0 a1 a2 a3 a4 a5:Value}(h:zi w b a0 a1 a2 a3 a4 a5){b':Nat}(o:Nat)(u:Value)(o':Nat)(u':Value)(aA:b'≠b):zi ((w.setCell ⟨b',o,none⟩ u).setCell ⟨b',o',none⟩ u') b a0 a1 a2 a3 a4 a5:=by
 obtain⟨h0,h1,h2,h3,h4,h5⟩:=h;have hc:∀{j:Nat} {v:Value},zW w b j v->zW ((w.setCell ⟨b',o,none⟩ u).setCell ⟨b',o',none⟩ u') b j v:=fun hc=>(hc.zRY _ (Or.inl aA)).zRY _ (Or.inl aA)
 exact⟨hc h0,hc h1,hc h2,hc h3,hc h4,hc h5⟩
theorem zi.mid6{w:World}{b:Nat}{a0 a1 a2 a3 a4 a5:Value}(h:zi w b a0 a1 a2 a3 a4 a5)(u u':Value):zi ((w.setCell ⟨b,3,none⟩ u).setCell ⟨b,4,none⟩ u') b a0 a1 a2 u u' a5:=by
 obtain⟨h0,h1,h2,h3,h4,h5⟩:=h;exact⟨(h0.zRY _ (Or.inr (by omega))).zRY _ (Or.inr (by omega)),(h1.zRY _ (Or.inr (by omega))).zRY _ (Or.inr (by omega)),(h2.zRY _ (Or.inr (by omega))).zRY _ (Or.inr (by omega)),(h3.set _).zRY _ (Or.inr (by omega)),(h4.zRY _ (Or.inr (by omega))).set _,(h5.zRY _ (Or.inr (by omega))).zRY _ (Or.inr (by omega))⟩
theorem zOc(v:Value)(lo hi:Nat)(s:qD)(w:World)(h1:zU w lo hi v s.dn s.ds s.db)(hn:s.dn<=1048576) :
  Calls Tryz.prog 89 #[zDZ v s] w fun e w'=>(∃v' b,e = .returned (zDZ v' s)/\zm w' b v' s.dn s.ds s.db/\w.heap.size<=b/\b<w'.heap.size)/\Below w.heap.size w w':=by
 unfold zDZ;have H1:=zB h1;obtain⟨-,a,c,rfl,-⟩:=id h1;clear h1;have pA:∀Wa Wb Wc:World,Wa=w.alloc (.cells #[.string s.name,.int .i64 s.origin,.int .i64 s.zRh,.int .i64 s.rs,.int .i64 s.rb,.slice a s.dn c] 116)->Wb=Wa.alloc (.cells #[.string ⟨#[]⟩,.int .i64 0,.int .i64 0,.int .i64 0,.int .i64 0,.slice none 0 0] 67)->Wc=Wb.alloc (.cells #[.string s.name,.int .i64 s.origin,.int .i64 s.zRh,.int .i64 0,.int .i64 0,.slice none 0 0] 67)->zi Wc w.heap.size (.string s.name) (.int .i64 s.origin) (.int .i64 s.zRh) (.int .i64 s.rs) (.int .i64 s.rb) (.slice a s.dn c)/\zi Wc (w.heap.size+1) (.string ⟨#[]⟩) (.int .i64 0) (.int .i64 0) (.int .i64 0) (.int .i64 0) (.slice none 0 0)/\zi Wc (w.heap.size+1+1) (.string s.name) (.int .i64 s.origin) (.int .i64 s.zRh) (.int .i64 0) (.int .i64 0) (.slice none 0 0)/\Below w.heap.size w Wc/\Wc.heap.size=w.heap.size+3:=by
  rintro Wa Wb Wc ea eb ec;have ha:=zC w (.cells #[.string s.name,.int .i64 s.origin,.int .i64 s.zRh,.int .i64 s.rs,.int .i64 s.rb,.slice a s.dn c] 116);have h1:=zi.zRZ w (.string s.name) (.int .i64 s.origin) (.int .i64 s.zRh) (.int .i64 s.rs) (.int .i64 s.rb) (.slice a s.dn c) 116;have z1:Wa.heap.size=w.heap.size+1:=(by rw[ea];exact World.size_alloc _ _);rw[<-ea]at ha h1;have hb:=zC Wa (.cells #[.string ⟨#[]⟩,.int .i64 0,.int .i64 0,.int .i64 0,.int .i64 0,.slice none 0 0] 67);have h2:=zi.zRZ Wa (.string ⟨#[]⟩) (.int .i64 0) (.int .i64 0) (.int .i64 0) (.int .i64 0) (.slice none 0 0) 67;have z2:Wb.heap.size=w.heap.size+1+1:=(by rw[eb,World.size_alloc,z1]);rw[<-eb,z1]at h2;rw[<-eb]at hb;have hc:=zC Wb (.cells #[.string s.name,.int .i64 s.origin,.int .i64 s.zRh,.int .i64 0,.int .i64 0,.slice none 0 0] 67);have h3:=zi.zRZ Wb (.string s.name) (.int .i64 s.origin) (.int .i64 s.zRh) (.int .i64 0) (.int .i64 0) (.slice none 0 0) 67;have z3:Wc.heap.size=w.heap.size+3:=(by rw[ec,World.size_alloc,z2]);rw[<-ec,z2]at h3;rw[<-ec]at hc;exact⟨(h1.zRX hb).zRX hc,h2.zRX hc,h3,zA (zA ha hb) hc,z3⟩
 obtain⟨hx,hy,hz,eA,cB⟩:=pA _ _ _ rfl rfl rfl;have HX:=zB hx;have HY:=zB hy;have HZ:=zB hz;have HS:=zB cB;clear hx hy hz pA cB;go_enter Tryz.func89,Tryz.ntmps89;go_wp2_with fail;generalize ((w.alloc (.cells #[.string s.name,.int .i64 s.origin,.int .i64 s.zRh,.int .i64 s.rs,.int .i64 s.rb,.slice a s.dn c] 116)).alloc (.cells #[.string ⟨#[]⟩,.int .i64 0,.int .i64 0,.int .i64 0,.int .i64 0,.slice none 0 0] 67)).alloc (.cells #[.string s.name,.int .i64 s.origin,.int .i64 s.zRh,.int .i64 0,.int .i64 0,.slice none 0 0] 67)=W0 at HX HY HZ HS eA ⊢;refine(zGR s.rs s.rb W0).mono ?_;rintro e w1 ⟨rfl,aA⟩;have dA:=zB ((HX.out.zRX aA).off6 3 (.int .i64 s.rs) 4 (.int .i64 s.rb) (show w.heap.size+1+1≠_ by omega));have gA:=zB ((HY.out.zRX aA).off6 3 (.int .i64 s.rs) 4 (.int .i64 s.rb) (show w.heap.size+1+1≠_ by omega));have fA:=zB ((HZ.out.zRX aA).mid6 (.int .i64 s.rs) (.int .i64 s.rb));have cA:Below w.heap.size w ((w1.setCell ⟨w.heap.size+1+1,3,none⟩ (.int .i64 s.rs)).setCell ⟨w.heap.size+1+1,4,none⟩ (.int .i64 s.rb)):=((zA eA aA).setCell (by show _<=w.heap.size+1+1;omega) _).setCell (by show _<=w.heap.size+1+1;omega) _;have iA:=zB (show w.heap.size+3<=((w1.setCell ⟨w.heap.size+1+1,3,none⟩ (.int .i64 s.rs)).setCell ⟨w.heap.size+1+1,4,none⟩ (.int .i64 s.rb)).heap.size by simp only[World.size_setCell];have:=aA.size;have:=HS.out;omega);obtain⟨⟨x0,jA⟩,⟨x1,mA⟩,⟨x2,rA⟩,⟨x3,vA⟩,⟨x4,aB⟩,⟨x5,bB⟩⟩:=HX.out.zRX aA;obtain⟨⟨z0,lA⟩,⟨z1,dB⟩,⟨z2,nA⟩,⟨z3,kA⟩,⟨z4,tA⟩,⟨z5,sA⟩⟩:=HZ.out.zRX aA;clear aA eA HX HY HZ HS;go_wp2_with fail;clear x0 x1 x2 x3 x4 x5 z0 z1 z2 z3 z4 z5 jA mA rA vA aB bB lA dB nA kA tA sA;generalize (w1.setCell ⟨w.heap.size+1+1,3,none⟩ (.int .i64 s.rs)).setCell ⟨w.heap.size+1+1,4,none⟩ (.int .i64 s.rb)=W1 at dA gA fA iA cA ⊢;refine(zFT _ s.dn lo hi _ _ W1 (H1.out.zRX cA) hn).mono ?_;rintro e w2 ⟨⟨v',rfl,ho⟩,bA,iB⟩;obtain⟨-,av,cv,rfl,-,-⟩:=id ho;have HO:=zB ho;have fB:=zB (dA.out.zRX bA);have oA:=zB (gA.out.zRX bA);have eB:=zB (fA.out.zRX bA);have gB:=zA cA bA;clear ho bA dA gA fA cA;obtain⟨⟨x0,jA⟩,⟨x1,mA⟩,⟨x2,rA⟩,⟨x3,vA⟩,⟨x4,aB⟩,⟨x5,bB⟩⟩:=fB.out;obtain⟨⟨y0,nB⟩,⟨y1,jB⟩,⟨y2,mB⟩,⟨y3,pB⟩,⟨y4,lB⟩,⟨y5,kB⟩⟩:=oA.out;obtain⟨⟨z0,lA⟩,⟨z1,dB⟩,⟨z2,nA⟩,⟨z3,kA⟩,⟨z4,tA⟩,⟨z5,sA⟩⟩:=eB.out;go_wp2;have HR:=(show zi (w2.setCell ⟨w.heap.size+1+1,5,none⟩ (.slice av s.dn cv)) (w.heap.size+1) _ _ _ _ _ _ from(by
  obtain⟨h0,h1,h2,h3,h4,h5⟩:=oA.out;have hc:∀{j:Nat} {v:Value},zW w2 (w.heap.size+1) j v->zW (w2.setCell ⟨w.heap.size+1+1,5,none⟩ (.slice av s.dn cv)) (w.heap.size+1) j v:=fun hc=>hc.zRY _ (Or.inl (by omega))
  exact⟨hc h0,hc h1,hc h2,hc h3,hc h4,hc h5⟩)).put (.string s.name) (.int .i64 s.origin) (.int .i64 s.zRh) (.int .i64 s.rs) (.int .i64 s.rb) (.slice av s.dn cv)
 have oB:=iA.out;refine bodyPost_ret (v:=.agg #[.string s.name,.int .i64 s.origin,.int .i64 s.zRh,.int .i64 s.rs,.int .i64 s.rb,.slice av s.dn cv]) (by simp[results,Tryz.results89,go_sem,HR.1.1,HR.2.1.1,HR.2.2.1.1,HR.2.2.2.1.1,HR.2.2.2.2.1.1,HR.2.2.2.2.2.1]) rfl ⟨⟨_,W1.heap.size,rfl,?_,by omega,by simpa using iB⟩,?_⟩
 ·exact((((((HO.out.put _ (by omega)).put _ (by omega)).put _ (by omega)).put _ (by omega)).put _ (by omega)).put _ (by omega)).put _ (by omega)
 ·exact((((((gB.setCell (by show _<=w.heap.size+1+1;omega) _).setCell (by show _<=w.heap.size+1;omega) _).setCell (by show _<=w.heap.size+1;omega) _).setCell (by show _<=w.heap.size+1;omega) _).setCell (by show _<=w.heap.size+1;omega) _).setCell (by show _<=w.heap.size+1;omega) _).setCell (by show _<=w.heap.size+1;omega) _
theorem zNK(v:Value)(lo hi:Nat)(s:zl)(w:World)(h1:zU w lo hi v s.dn s.ds s.db)(hn:s.dn<=1048576) :
  Calls Tryz.prog 90 #[ye v s] w fun e w'=>(∃v' b,e = .returned (ye v' s)/\zm w' b v' s.dn s.ds s.db/\w.heap.size<=b/\b<w'.heap.size)/\Below w.heap.size w w':=by
 unfold ye;have H1:=zB h1;obtain⟨-,a,c,rfl,-⟩:=id h1;clear h1;have sA:∀Wa Wb Wc:World,Wa=w.alloc (.cells #[.int .i64 s.id,.string s.name,.string s.set,.int .i64 s.zRh,.int .i64 s.time,.int .i64 s.rs,.int .i64 s.rb,.slice a s.dn c] 119)->Wb=Wa.alloc (.cells #[.int .i64 0,.string ⟨#[]⟩,.string ⟨#[]⟩,.int .i64 0,.int .i64 0,.int .i64 0,.int .i64 0,.slice none 0 0] 99)->Wc=Wb.alloc (.cells #[.int .i64 s.id,.string s.name,.string s.set,.int .i64 s.zRh,.int .i64 s.time,.int .i64 0,.int .i64 0,.slice none 0 0] 99)->zC4 Wc w.heap.size (.int .i64 s.id) (.string s.name) (.string s.set) (.int .i64 s.zRh) (.int .i64 s.time) (.int .i64 s.rs) (.int .i64 s.rb) (.slice a s.dn c)/\zC4 Wc (w.heap.size+1) (.int .i64 0) (.string ⟨#[]⟩) (.string ⟨#[]⟩) (.int .i64 0) (.int .i64 0) (.int .i64 0) (.int .i64 0) (.slice none 0 0)/\zC4 Wc (w.heap.size+1+1) (.int .i64 s.id) (.string s.name) (.string s.set) (.int .i64 s.zRh) (.int .i64 s.time) (.int .i64 0) (.int .i64 0) (.slice none 0 0)/\Below w.heap.size w Wc/\Wc.heap.size=w.heap.size+3:=by
  rintro Wa Wb Wc ea eb ec;have ha:=zC w (.cells #[.int .i64 s.id,.string s.name,.string s.set,.int .i64 s.zRh,.int .i64 s.time,.int .i64 s.rs,.int .i64 s.rb,.slice a s.dn c] 119);have h1:=zC4.zRZ w (.int .i64 s.id) (.string s.name) (.string s.set) (.int .i64 s.zRh) (.int .i64 s.time) (.int .i64 s.rs) (.int .i64 s.rb) (.slice a s.dn c) 119;have z1:Wa.heap.size=w.heap.size+1:=(by rw[ea];exact World.size_alloc _ _);rw[<-ea]at ha h1;have hb:=zC Wa (.cells #[.int .i64 0,.string ⟨#[]⟩,.string ⟨#[]⟩,.int .i64 0,.int .i64 0,.int .i64 0,.int .i64 0,.slice none 0 0] 99);have h2:=zC4.zRZ Wa (.int .i64 0) (.string ⟨#[]⟩) (.string ⟨#[]⟩) (.int .i64 0) (.int .i64 0) (.int .i64 0) (.int .i64 0) (.slice none 0 0) 99;have z2:Wb.heap.size=w.heap.size+1+1:=(by rw[eb,World.size_alloc,z1]);rw[<-eb,z1]at h2;rw[<-eb]at hb;have hc:=zC Wb (.cells #[.int .i64 s.id,.string s.name,.string s.set,.int .i64 s.zRh,.int .i64 s.time,.int .i64 0,.int .i64 0,.slice none 0 0] 99);have h3:=zC4.zRZ Wb (.int .i64 s.id) (.string s.name) (.string s.set) (.int .i64 s.zRh) (.int .i64 s.time) (.int .i64 0) (.int .i64 0) (.slice none 0 0) 99;have z3:Wc.heap.size=w.heap.size+3:=(by rw[ec,World.size_alloc,z2]);rw[<-ec,z2]at h3;rw[<-ec]at hc;exact⟨(h1.zRX hb).zRX hc,h2.zRX hc,h3,zA (zA ha hb) hc,z3⟩
 obtain⟨hx,hy,hz,eA,fB⟩:=sA _ _ _ rfl rfl rfl;have HX:=zB hx;have HY:=zB hy;have HZ:=zB hz;have HS:=zB fB;clear hx hy hz sA fB;go_enter Tryz.func90,Tryz.ntmps90;go_wp2_with fail;generalize ((w.alloc (.cells #[.int .i64 s.id,.string s.name,.string s.set,.int .i64 s.zRh,.int .i64 s.time,.int .i64 s.rs,.int .i64 s.rb,.slice a s.dn c] 119)).alloc (.cells #[.int .i64 0,.string ⟨#[]⟩,.string ⟨#[]⟩,.int .i64 0,.int .i64 0,.int .i64 0,.int .i64 0,.slice none 0 0] 99)).alloc (.cells #[.int .i64 s.id,.string s.name,.string s.set,.int .i64 s.zRh,.int .i64 s.time,.int .i64 0,.int .i64 0,.slice none 0 0] 99)=W0 at HX HY HZ HS eA ⊢;refine(zGR s.rs s.rb W0).mono ?_;rintro e w1 ⟨rfl,aA⟩;have dA:=zB ((HX.out.zRX aA).off8 5 (.int .i64 s.rs) 6 (.int .i64 s.rb) (show w.heap.size+1+1≠_ by omega));have gA:=zB ((HY.out.zRX aA).off8 5 (.int .i64 s.rs) 6 (.int .i64 s.rb) (show w.heap.size+1+1≠_ by omega));have fA:=zB ((HZ.out.zRX aA).mid8 (.int .i64 s.rs) (.int .i64 s.rb));have cA:Below w.heap.size w ((w1.setCell ⟨w.heap.size+1+1,5,none⟩ (.int .i64 s.rs)).setCell ⟨w.heap.size+1+1,6,none⟩ (.int .i64 s.rb)):=((zA eA aA).setCell (by show _<=w.heap.size+1+1;omega) _).setCell (by show _<=w.heap.size+1+1;omega) _;have jA:=zB (show w.heap.size+3<=((w1.setCell ⟨w.heap.size+1+1,5,none⟩ (.int .i64 s.rs)).setCell ⟨w.heap.size+1+1,6,none⟩ (.int .i64 s.rb)).heap.size by simp only[World.size_setCell];have:=aA.size;have:=HS.out;omega);obtain⟨⟨x0,lA⟩,⟨x1,oA⟩,⟨x2,tA⟩,⟨x3,bB⟩,⟨x4,cB⟩,⟨x5,eB⟩,⟨x6,kA⟩,⟨x7,iA⟩⟩:=HX.out.zRX aA;obtain⟨⟨z0,nA⟩,⟨z1,gB⟩,⟨z2,pA⟩,⟨z3,mA⟩,⟨z4,aB⟩,⟨z5,vA⟩,⟨z6,dB⟩,⟨z7,iB⟩⟩:=HZ.out.zRX aA;clear aA eA HX HY HZ HS;go_wp2_with fail;clear x0 x1 x2 x3 x4 x5 x6 x7 lA oA tA bB cB eB kA iA z0 z1 z2 z3 z4 z5 z6 z7 nA gB pA mA aB vA dB iB;generalize (w1.setCell ⟨w.heap.size+1+1,5,none⟩ (.int .i64 s.rs)).setCell ⟨w.heap.size+1+1,6,none⟩ (.int .i64 s.rb)=W1 at dA gA fA jA cA ⊢;refine(zFT _ s.dn lo hi _ _ W1 (H1.out.zRX cA) hn).mono ?_;rintro e w2 ⟨⟨v',rfl,ho⟩,bA,mB⟩;obtain⟨-,av,cv,rfl,-,-⟩:=id ho;have HO:=zB ho;have kB:=zB (dA.out.zRX bA);have rA:=zB (gA.out.zRX bA);have jB:=zB (fA.out.zRX bA);have lB:=zA cA bA;clear ho bA dA gA fA cA;obtain⟨⟨x0,lA⟩,⟨x1,oA⟩,⟨x2,tA⟩,⟨x3,bB⟩,⟨x4,cB⟩,⟨x5,eB⟩,⟨x6,kA⟩,⟨x7,iA⟩⟩:=kB.out;obtain⟨⟨y0,vB⟩,⟨y1,nB⟩,⟨y2,sB⟩,⟨y3,bC⟩,⟨y4,rB⟩,⟨y5,pB⟩,⟨y6,oB⟩,⟨y7,tB⟩⟩:=rA.out;obtain⟨⟨z0,nA⟩,⟨z1,gB⟩,⟨z2,pA⟩,⟨z3,mA⟩,⟨z4,aB⟩,⟨z5,vA⟩,⟨z6,dB⟩,⟨z7,iB⟩⟩:=jB.out;go_wp2;have HR:=(show zC4 (w2.setCell ⟨w.heap.size+1+1,7,none⟩ (.slice av s.dn cv)) (w.heap.size+1) _ _ _ _ _ _ _ _ from(by
  obtain⟨h0,h1,h2,h3,h4,h5,h6,h7⟩:=rA.out;have hc:∀{j:Nat} {v:Value},zW w2 (w.heap.size+1) j v->zW (w2.setCell ⟨w.heap.size+1+1,7,none⟩ (.slice av s.dn cv)) (w.heap.size+1) j v:=fun hc=>hc.zRY _ (Or.inl (by omega))
  exact⟨hc h0,hc h1,hc h2,hc h3,hc h4,hc h5,hc h6,hc h7⟩)).put (.int .i64 s.id) (.string s.name) (.string s.set) (.int .i64 s.zRh) (.int .i64 s.time) (.int .i64 s.rs) (.int .i64 s.rb) (.slice av s.dn cv)
 have aC:=jA.out;refine bodyPost_ret (v:=.agg #[.int .i64 s.id,.string s.name,.string s.set,.int .i64 s.zRh,.int .i64 s.time,.int .i64 s.rs,.int .i64 s.rb,.slice av s.dn cv]) (by simp[results,Tryz.results90,go_sem,HR.1.1,HR.2.1.1,HR.2.2.1.1,HR.2.2.2.1.1,HR.2.2.2.2.1.1,HR.2.2.2.2.2.1.1,HR.2.2.2.2.2.2.1.1,HR.2.2.2.2.2.2.2.1]) rfl ⟨⟨_,W1.heap.size,rfl,?_,by omega,by simpa using mB⟩,?_⟩
 ·exact(((((((((HO.out.put _ (by omega)).put _ (by omega)).put _ (by omega)).put _ (by omega)).put _ (by omega)).put _ (by omega)).put _ (by omega)).put _ (by omega)).put _ (by omega))
 ·exact(((((((((lB.setCell (by show _<=w.heap.size+1+1;omega) _).setCell (by show _<=w.heap.size+1;omega) _).setCell (by show _<=w.heap.size+1;omega) _).setCell (by show _<=w.heap.size+1;omega) _).setCell (by show _<=w.heap.size+1;omega) _).setCell (by show _<=w.heap.size+1;omega) _).setCell (by show _<=w.heap.size+1;omega) _).setCell (by show _<=w.heap.size+1;omega) _).setCell (by show _<=w.heap.size+1;omega) _)
theorem zLx(f:Nat->qD):∀{n i:Nat},i<n->zE5 (f i)<=zBI f n
 | n+1,i,h=>by
  show zE5 (f i)<=zBI f n+zE5 (f n);by_cases e:i=n
  ·subst e;omega
  ·have:=zLx f (show i<n by omega);omega
theorem zJc(f:Nat->zl):∀{n i:Nat},i<n->zEB (f i)<=zA0 f n
 | n+1,i,h=>by
  show zEB (f i)<=zA0 f n+zEB (f n);by_cases e:i=n
  ·subst e;omega
  ·have:=zJc f (show i<n by omega);omega
theorem zJ2{W:zH}(h:yY W<=1048576):zDj W:=by
 unfold yY at h;refine⟨fun i hi=>?_,fun i hi=>?_⟩
 ·have:=zLx W.zRg hi;unfold zE5 at this;omega
 ·have:=zJc W.zRe hi;unfold zEB at this;omega
theorem zOx(W:zH)(k0:Int):zAn W k0<=k0+8*(yY W:Int):=by
 have h1:=zGq W.zRd.s k0 W.zRd.n;have h2:=zD4 W k0;have h3:=zFP W.zRg (zBG W.zRd k0) W.sn;have h4:=zEQ W.zRe (ze W.zRg (zBG W.zRd k0) W.sn) W.pn;have h7:yY W=W.zRd.n+ym W.zRd.s W.zRd.n+W.zRd.hn+(W.sn+zBI W.zRg W.sn)+(W.pn+zA0 W.zRe W.pn):=rfl;have h5:zBG W.zRd k0=qR W.zRd.s k0 W.zRd.n+W.zRd.hn:=rfl;have h6:zAn W k0=zM W.zRe (ze W.zRg (zBG W.zRd k0) W.sn) W.pn:=rfl;generalize zBG W.zRd k0=e at *;generalize ze W.zRg e W.sn=s at *;omega
theorem zEn{W:zH}{k0:Int}(h:yY W<=4000000)(h0:0<=k0)(h1:k0<=100000000):zAn W k0<=1000000000000/\0<=zAn W k0:=by
 have:=zOx W k0;have:=zD4 W k0;omega
theorem zFu{W:zH}(h:yY W<=1048576):qC W.zRd<=1048576/\W.sn<=1048576/\W.pn<=1048576/\zDj W:=by
 refine⟨?_,?_,?_,zJ2 h⟩
 all_goals
  unfold yY at h;omega
theorem zHG:∀(l:List (Int×Int)) (p:zI),qC (zv p l)=qC p+l.length
 | [],_=>rfl
 | x :: l,p=>by
  have h:=zHG l (zAM p x.1);have e:qC (zAM p x.1)=qC p+1:=rfl;show qC (zv (zAM p x.1) l)=_;rw[h,e,List.length_cons];omega
theorem zID(f:Nat->qD)(k c:Nat)(s:qD)(hs:zE5 s<=zE5 (f k)+c):∀n,zBI (fun j=>if j=k then s else f j) n<=zBI f n+(if k<n then c else 0)
 | 0=>Nat.zero_le _
 | n+1=>by
  have ih:=zID f k c s hs n;show zBI _ n+zE5 (if n=k then s else f n)<=zBI f n+zE5 (f n)+(if k<n+1 then c else 0);by_cases e:n=k
  ·subst e;rw[if_neg (Nat.lt_irrefl n)]at ih;rw[if_pos rfl,if_pos (Nat.lt_succ_self n)];omega
  ·rw[if_neg e];by_cases h:k<n
   ·rw[if_pos h]at ih;rw[if_pos (Nat.lt_succ_of_lt h)];omega
   ·rw[if_neg h]at ih;rw[if_neg (by omega)];omega
theorem zMb(W:zH)(k:Nat)(y:zCO)(hy:zG6 y)(hp:qC y.zRd<=qC W.zRd+40):yY (zML W k y)<=yY W+46:=by
 have hl:=zCb (zf y.old) (zh y.old) (zN W (W.zRg k).zRh).time y.old.length;have h3:=hy.2.1;have hY:(zE3 W k y).length+(zPT W k y).length=y.old.length:=hl;have aA:(zBW W k y).dn=(W.zRg k).dn+(zPT W k y).length:=by
  show(zDy W k y).length=_;unfold zDy;rw[List.length_append,zAt]
 have h1:=zID W.zRg k 3 (zBW W k y) (by
  show(zBW W k y).name.size+(zBW W k y).dn<=(W.zRg k).name.size+(W.zRg k).dn+3;rw[aA];show(W.zRg k).name.size+_<=_;omega) W.sn
 have h2:=zHG (zE3 W k y) y.zRd;have h5:(if k<W.sn then 3 else 0)<=3:=by split<;>omega
 have h7:yY (zML W k y)=qC (zv y.zRd (zE3 W k y))+(W.sn+zBI (fun j=>if j=k then zBW W k y else W.zRg j) W.sn)+(W.pn+zA0 W.zRe W.pn):=rfl;have h8:yY W=qC W.zRd+(W.sn+zBI W.zRg W.sn)+(W.pn+zA0 W.zRe W.pn):=rfl;omega
theorem zKH{W:zH}{k:Nat}{y:zCO}(hy:zG6 y)(hp:qC y.zRd<=qC W.zRd+40)(hN:yY W<=1048576):zAn (zBB W k y).world 1<=1000000000000/\0<=zAn (zBB W k y).world 1:=by
 unfold zBB;split
 ·have:=zMb W k y hy hp;exact zEn (W:=zML W k y) (by omega) (by decide) (by decide)
 ·exact zEn (W:=noW) (by decide) (by decide) (by decide)
def zBq(W:zH)(name:ByteArray)(zRj:Int)(data:ByteArray)(oo:zB9):Prop:=∃r o,zId W (∃i,i<2/\8000<((fun i=>match i with | 0=>name | _=>data) i).size) (∃i,i<0/\¬yI ((fun _=>⟨#[]⟩) i)) 1 (fun i=>match i with  | _=>zAU W name) (fun i=>match i with  | _=>2) r/\(r=none->∃k,zF5 W name k/\o=zBB W k (qo W.zRd (W.zRg k).rs (W.zRg k).rb zRj data W.time))/\oo=zMe r o
theorem zBq.uniq{W:zH}{name:ByteArray}{zRj:Int}{data:ByteArray}{o o':zB9}(h:zBq W name zRj data o)(h':zBq W name zRj data o'):o=o':=by
 obtain⟨r,a,h1,h2,rfl⟩:=h;obtain⟨r',b,g1,g2,rfl⟩:=h';obtain rfl:=h1.uniq g1;cases r with
 | some i=>rfl
 | none=>
  obtain⟨k,hk,rfl⟩:=h2 rfl;obtain⟨k',aA,rfl⟩:=g2 rfl;obtain rfl:=hk.uniq aA;rfl
open Classical in
noncomputable def yM(W:zH)(name:ByteArray)(zRj:Int)(data:ByteArray):zB9:=if h:∃o,zBq W name zRj data o then h.choose else zBz 0
theorem zEY{W:zH}{name:ByteArray}{zRj:Int}{data:ByteArray}{w w':World}{e:Ending}(h:zAD W name zRj data w e w'):zB0 (yM W name zRj data) w e w':=by
 obtain⟨r,o,h1,h2,h3⟩:=h;have hi:zBq W name zRj data (zMe r o):=⟨r,o,h1,h2,rfl⟩;have hx:∃o,zBq W name zRj data o:=⟨_,hi⟩;have he:yM W name zRj data=zMe r o:=by
  unfold yM;rw[dif_pos hx];exact hx.choose_spec.uniq hi
 rw[he];exact h3
theorem zGA{W:zH}{name:ByteArray}{zRj:Int}{data:ByteArray}(hN:yY W<=1048576):zAn (yM W name zRj data).world 1<=1000000000000/\0<=zAn (yM W name zRj data).world 1:=by
 have hz:∀c,zAn (zBz c).world 1<=1000000000000/\0<=zAn (zBz c).world 1:=fun c=>zEn (W:=noW) (by decide) (by decide) (by decide)
 unfold yM;split
 ·rename_i h
  obtain⟨r,o,h1,h2,h3⟩:=h.choose_spec;rw[h3];cases r with
  | some i=>exact hz _
  | none=>
   obtain⟨k,hk,rfl⟩:=h2 rfl;exact zKH (zFd _ _ _ _ _ _) (zHE _ _ _ _ _ _).1 hN
 ·exact hz _
theorem qf.row{w:World}{b n c:Nat}{a:Option Addr}{f:Nat->Int}(h:qf w b (.slice a n c) n f)(gA:n<c):w.ownsRow b 2 1 (.slice a n c) n (ic f n)/\a=some ⟨b,0,none⟩/\0<n:=by
 obtain⟨hm,a0,c0,hv,eA,hc,hr⟩:=h;simp only[Value.slice.injEq,true_and]at hv;obtain⟨rfl,rfl⟩:=hv;obtain⟨h0,rfl,dA,cA,bA,fA⟩:=hr gA;obtain⟨off,ha,aA⟩:=hc h0;simp only[Option.some.injEq,Addr.mk.injEq,true_and,and_true]at ha;subst ha;refine⟨⟨zBu _ _,.inr ⟨b,c,cA,rfl,Nat.le_refl _,bA,eA,dA,by simpa using fA,?_⟩⟩,rfl,h0⟩;apply List.ext_getElem?;intro j;by_cases hj:j<n
 ·have e:=(aA j hj).1;rw[Nat.zero_add,cell_of_row w b j cA _ (0,0) bA]at e;rw[List.getElem?_take,if_pos (by omega),zLZ f n j hj];simpa using e
 ·rw[List.getElem?_eq_none (by simp;omega),List.getElem?_eq_none (by rw[zBu];omega)]
theorem qf.block{w:World}{b n:Nat}{v:Value}{f:Nat->Int}(h:qf w b v n f)(h0:0<n):v.ownBlock=some b:=by
 obtain⟨_,a,c,rfl,_,hc,_⟩:=h;obtain⟨off,rfl,_⟩:=hc h0;rfl
theorem zKT:Tryz.prog.underlying 23=some (.slice 2):=by kernel_rfl
theorem zOm{w:World}{b n B:Nat}{v:Value}{f:Nat->Int}{x:Int}(h:qf w b v n f)(hn:n<=1000)(bA:w.cell? ⟨B,0,none⟩=some (.int .i64 x))(ty:TypeId) :
  ∃base g aA w',(Builtin.append_ #[23,23] ty #[v,.slice (some ⟨B,0,none⟩) 1 1]).run Tryz.prog w = .ok (.slice (some ⟨g,0,none⟩) (n+1) aA) w'/\w'.ownsRow base 2 1 (.slice (some ⟨g,0,none⟩) (n+1) aA) (n+1) (ic f n ++ [.int .i64 x])/\zF (fun k=>0<n/\v.ownBlock=some k) w w'/\((0<n/\v.ownBlock=some g)\/w.heap.size<=g)/\g<w'.heap.size:=by
 obtain⟨i0,fA,jA⟩:=Option.map_eq_some_iff.1 zDQ;simp only[Prod.mk.injEq]at jA;obtain⟨hz,hs,gA⟩:=jA;obtain⟨a,c,rfl⟩:∃a c,v = .slice a n c:=by obtain⟨_,a,c,e,_⟩:=h;exact⟨a,c,e⟩
 by_cases mA:n<c
 ·obtain⟨cA,rfl,h0⟩:=h.row mA;obtain⟨g,aA,w',hr,h2,h3,h4,h5⟩:=run_append_lies (P:=Tryz.prog) w 23 ty b 2 i0 _ 1 8 zKT fA hz hs gA rfl (by decide) _ n (ic f n) cA ⟨B,0,none⟩ 1 1 [.int .i64 x] rfl (zFk bA) (zQS x) (by omega) (by unfold maxLen;omega) (by omega) (by have:=cA.lt b rfl;omega) w.heap.size rfl;refine⟨b,g,aA,w',hr,h2,?_,?_,h5⟩
  ·refine⟨h3.os,h3.tape,h3.output,h3.size,fun k hk kA=>h3.block k hk (fun e=>kA ⟨h0,e.symm⟩)⟩
  ·exact h4.imp (fun h=>⟨h0,h⟩) (fun h=>by omega)
 ·obtain⟨hm,a0,c0,hv,rA,dA,-⟩:=h;simp only[Value.slice.injEq,true_and]at hv;obtain⟨rfl,rfl⟩:=hv;obtain rfl:c=n:=(by omega);by_cases h0:0<c
  ·obtain⟨off,rfl,lA⟩:=dA h0;obtain⟨v',w',hr,h1,h2⟩:=run_append_arg_grows (P:=Tryz.prog) w 23 ty 2 i0 _ 1 8 zKT fA hz hs gA rfl (by decide) ⟨b,off,none⟩ c c (ic f c) (by rw[zBu]) (fun j u hj=>by
     have iA:j<c:=by
      have:=(List.getElem?_eq_some_iff.1 hj).1;rw[zBu]at this;omega
     have eA:=zLZ f c j iA;rw[hj]at eA;injection eA with eA;subst eA;have e:(⟨b,off,none⟩:Addr).add j=⟨b,off+j,none⟩:=by
      unfold Addr.add;split
      ·simp_all
      ·simp
     rw[e];exact(lA j iA).1) ⟨B,0,none⟩ 1 1 [.int .i64 x] rfl (zFk bA) (by omega) (by unfold maxLen;omega) (by omega)
   obtain⟨g,aA,rfl,nA,oA,pA,-⟩:=qZ h1 (by omega);exact⟨_,g,aA,w',hr,h1,⟨h2.os,h2.tape,h2.output,h2.size,fun k hk _=>h2.block k hk (by simp)⟩,Or.inr oA,pA⟩
  ·obtain rfl:c=0:=(by omega);obtain⟨g,aA,w',hr,h2,h3,h4,h5⟩:=run_append_lies (P:=Tryz.prog) w 23 ty w.heap.size 2 i0 _ 1 8 zKT fA hz hs gA rfl (by decide) (.slice none 0 0) 0 [] ⟨by simp,Or.inl ⟨rfl,rfl⟩⟩ ⟨B,0,none⟩ 1 1 [.int .i64 x] rfl (zFk bA) (zQS x) (by omega) (by unfold maxLen;omega) (by omega) (Nat.le_refl _) w.heap.size rfl;refine⟨_,g,aA,w',?_,h2,⟨h3.os,h3.tape,h3.output,h3.size,fun k hk _=>h3.block k hk (by simp[Value.ownBlock])⟩,Or.inr ?_,h5⟩
   ·rw[zEA 23 ty 2 i0 a ⟨B,0,none⟩ 1 1 zKT fA (by omega) (by rw[gA];omega)];exact hr
   ·rcases h4 with h4 | h4
    ·cases h4
    ·omega
structure zRA (p:Prop):Prop where
 out:p
theorem zJH{A B:Prop}(f:zRA A->B)(h:A):B:=f ⟨h⟩
theorem zI0{wa wb:World}{S:Nat->Prop}{X g cA base:Nat}{v0 v1:Value}{q:zI}{x:Int}(ho:qW wa S v0 v1 q)(t:zF (fun k=>0<q.hn/\v1.ownBlock=some k) wa wb)
  (bA:wb.ownsRow base 2 1 (.slice (some ⟨g,0,none⟩) (q.hn+1) cA) (q.hn+1) (ic q.h q.hn ++ [.int .i64 x])) (fA:(0<q.hn/\v1.ownBlock=some g)\/¬S g) (hX:¬S X) (jA:g≠X) (hm:q.hn+1<=maxLen) :
  qW (wb.setCell ⟨X,1,none⟩ (.slice (some ⟨g,0,none⟩) (q.hn+1) cA)) (fun k=>S k\/k=g) v0 (.slice (some ⟨g,0,none⟩) (q.hn+1) cA) (zAM q x):=by
 obtain⟨bs,hb,kb,kv,h1,h2,h3,h4,h5⟩:=ho;have tX:=zF.put wb X 1 (.slice (some ⟨g,0,none⟩) (q.hn+1) cA);have dA:∀k,yi bs kb q.n q.s k->¬(0<q.hn/\v1.ownBlock=some k):=fun k hk hx=>by
  rw[h3.block hx.1]at hx;simp only[Option.some.injEq]at hx;exact h4 hx.1 (hx.2▸hk)
 have eA:∀k,yi bs kb q.n q.s k->¬k=X:=fun k hk e=>hX (e▸h5 k (Or.inl hk))
 have s1:=(h1.zRf t (fun h0=>dA _ (Or.inl ⟨h0,rfl⟩)) (fun i hi h=>dA _ (Or.inr ⟨i,hi,h,rfl⟩))).zRf tX (fun h0=>eA _ (Or.inl ⟨h0,rfl⟩)) (fun i hi h=>eA _ (Or.inr ⟨i,hi,h,rfl⟩));rw[<-zNR]at bA;have aA:=bA.kept (zCE tX) (Or.inr (by simp[Value.ownBlock];exact jA));obtain⟨gb,iA,gA⟩:=zFH (f:=(zAM q x).h) hm aA (fun e=>absurd e (Nat.succ_ne_zero _));obtain rfl:g=gb:=by have:=gA (Nat.succ_pos _);simpa[Value.ownBlock]using this
 refine⟨bs,g,kb,kv,s1,h2,iA,fun _ hx=>?_,fun k hk=>?_⟩
 ·rcases fA with⟨h0,he⟩ | he
  ·exact dA g hx ⟨h0,he⟩
  ·exact he (h5 g (Or.inl hx))
 ·rcases hk with hk | ⟨_,rfl⟩
  ·exact Or.inl (h5 k (Or.inl hk))
  ·exact Or.inr rfl
theorem zLS(V lo hi:Nat)(P:Nat->Prop)(z0 z1 z2 z3 v:Value)(tm nx:Int)(p:zI)(l:List (Int×Int))(w:World)(hV:zi w V z0 z1 (.int .i64 tm) (.int .i64 nx) z2 z3)(hP:qW w P z0 z1 p)(lA:∀j,P j->j<V)(hv:zU w lo hi v l.length (zf l) (zh l))(aC:V<lo)(cC:hi<=w.heap.size)(hl:l.length<=200)(gC:p.hn<=400) :
  Calls Tryz.prog 54 #[.pointer (some ⟨V,0,none⟩),v] w fun e w'=>e = .returned (.int .i64 (l.length:Int))/\∃y1,zi w' V z0 y1 (.int .i64 tm) (.int .i64 nx) z2 z3/\qW w' (fun j=>P j\/(w.heap.size<=j/\j<w'.heap.size)) z0 y1 (zv p l)/\zF (fun j=>j=V\/P j\/w.heap.size<=j) w w':=by
 have dC:=hV.1.lt;obtain⟨-,a,c,rfl,-,hx⟩:=hv;have HX:=zB hx;have HV:=zB hV;have HP:=zB hP;clear hV hP hx;go_enter Tryz.func54,Tryz.ntmps54;go_wp2_with fail
 go_loopw [5] (fun i wr=>∃(k:Nat) (y1:Value),k<=l.length/\i = .int .i64 k/\zi wr V z0 y1 (.int .i64 tm) (.int .i64 nx) z2 z3/\qW wr (fun j=>P j\/(w.heap.size<=j/\j<wr.heap.size)) z0 y1 (zv p (l.take k))/\zF (fun j=>j=V\/P j\/w.heap.size<=j) w wr) (fun i _=>l.length - (intOf i).toNat)
 case atStart=>exact⟨0,_,Nat.zero_le _,rfl,HV.out,HP.out.mono (fun j h=>Or.inl h),zF.refl _ _⟩
 case round=>
  obtain⟨k,y1,hk,rfl,gB,fB,sA⟩:=hrel;have aB:=zB gB;have oA:=zB fB;have pA:=zB sA;have eC:=sA.size;clear gB fB sA;by_cases bB:k<l.length
  ·have pB:(k:Int)<(l.length:Int):=(by omega);obtain⟨b,off,rfl,fC,vB,bA⟩:=HX.out (by omega);have q0:=(pA.out.cell (o:=off+k*2) (show b<w.heap.size by omega) (fun h=>by
    rcases h with h | h | h
    ·omega
    ·have:=lA b h;omega
    ·omega)).trans (bA k bB).1
   have nB:(zv p (l.take k)).hn<=1000:=by
    rw[(zJp (l.take k) p).2.2,List.length_take];omega
   obtain⟨bs,kB,kb,kv,i1,i2,i3,i4,i5⟩:=id oA.out;obtain⟨a1,c1,rfl⟩:∃a1 c1,y1 = .slice a1 (zv p (l.take k)).hn c1:=(by obtain⟨_,a1,c1,e,_⟩:=i3;exact⟨a1,c1,e⟩);have rA:Below wr.heap.size wr wr.drew:=(Below.refl _ _).drew;have jA:=zC wr.drew (.cells #[.int .i64 (zf l k)] 2);have fA:Below wr.heap.size wr (wr.drew.alloc (.cells #[.int .i64 (zf l k)] 2)):=zA rA jA;obtain⟨base,g,gA,w5,eB,aA,eA,iA,oB⟩:=zOm (B:=wr.drew.heap.size) (x:=zf l k) (i3.zRX fA) nB (World.cell?_alloc_at _ _ _ _ rfl) 23;have mB:(wr.drew.alloc (.cells #[.int .i64 (zf l k)] 2)).heap.size>=wr.heap.size+1:=(by rw[World.size_alloc];exact Nat.le_refl _);have iC:wr.heap.size+1<=w5.heap.size:=(by have:=eA.size;omega);have kA:∀j,0<(zv p (l.take k)).hn/\(Value.slice a1 (zv p (l.take k)).hn c1).ownBlock=some j->P j\/(w.heap.size<=j/\j<wr.heap.size):=fun j h=>by
    have e:=i3.block h.1;rw[h.2]at e;injection e with e;rw[e];exact i5 kB (Or.inr ⟨h.1,rfl⟩)
   have mA:∀j,0<(zv p (l.take k)).hn/\(Value.slice a1 (zv p (l.take k)).hn c1).ownBlock=some j->j≠V/\j≠b:=fun j h=>by
    rcases kA j h with h' | h'
    ·have:=lA j h';exact⟨by omega,by omega⟩
    ·exact⟨by omega,by omega⟩
   have jB:g≠V:=by
    rcases iA with h | h
    ·exact(mA g h).1
    ·omega
   have cB:=(aB.out.zRX fA).zRf eA (fun h=>(mA V h).1 rfl);have dA:=zB (show ∀w',Below wr.drew.heap.size wr.drew w'->(fun w':World=>w'.cell? ⟨b,off+k*2,none⟩=some (.int .i64 (zf l k))) w' from fun w' hb=>(hb.cell (p:=⟨b,off+k*2,none⟩) (show b<wr.heap.size by omega)).trans q0);have tA:=zB (show(fun w':World=>w'.cell? ⟨b,off+k*2,none⟩=some (.int .i64 (zf l k))) w5 from(eA.cell (o:=off+k*2) (show b<_ by omega) (fun h=>(mA b h).2 rfl)).trans ((fA.cell (p:=⟨b,off+k*2,none⟩) (show b<wr.heap.size by omega)).trans q0));have vA:=zF.put w5 V 1 (.slice (some ⟨g,0,none⟩) ((zv p (l.take k)).hn+1) gA);have dB:=zB (show(fun w':World=>w'.cell? ⟨b,off+k*2,none⟩=some (.int .i64 (zf l k))) (w5.setCell ⟨V,1,none⟩ (.slice (some ⟨g,0,none⟩) ((zv p (l.take k)).hn+1) gA))from(vA.cell (o:=off+k*2) (show b<w5.heap.size by omega) (fun h=>by omega)).trans tA.out);have sB:=zB (zI0 (X:=V) (oA.out.zRX fA) eA aA (iA.imp id (fun h hx=>by
    rcases hx with hx | hx
    ·have:=lA g hx;omega
    ·omega)) (fun hx=>by
    rcases hx with hx | hx
    ·have:=lA V hx;omega
    ·omega) jB (by unfold maxLen;omega))
   have rB:=zB (show zF (fun j=>j=V\/P j\/w.heap.size<=j) w (w5.setCell ⟨V,1,none⟩ (.slice (some ⟨g,0,none⟩) ((zv p (l.take k)).hn+1) gA))from(pA.out.trans ((zF.zRa fA).trans (eA.mono (fun j h=>by
    rcases kA j h with h' | h'
    ·exact Or.inr (Or.inl h')
    ·exact Or.inr (Or.inr h'.1))))).trans (vA.mono (fun j e=>Or.inl e)))
   have HR:=zB eB;have nA:=zB jA;have HG:=zB (show(0<(zv p (l.take k)).hn/\(Value.slice a1 (zv p (l.take k)).hn c1).ownBlock=some g)\/wr.heap.size<=g from iA.imp id (fun h=>by omega));have iB:=zB kA;obtain⟨x4,-⟩:=(aB.out.zRX rA).2.1;have X5:=zB ((jA.cell (zD x4)).trans x4);obtain⟨y4,bC⟩:=cB.2.1;have cA:=zB cB;clear eB aA eA iA cB jA fA bA i1 i2 i3 i4 i5 kA mA mB q0;go_wp2_with fail;refine wp_region_held_drew (S:=(fun w':World=>w'.cell? ⟨b,off+k*2,none⟩=some (.int .i64 (zf l k)))) (by kernel_rfl) (dA.out _ (Below.refl _ _)) (fun hHeld=>?_);generalize wr.drew=q0 at hHeld dA HR nA x4 X5 rA ⊢
   refine' zJH (fun hfin=>_) _
   rotate_left
   ·skip;refine tk 0 (h:=tk 1 (h:=tk 2 (h:=tk 3 (h:=tk 4 (h:=tk 6 (h:=tk 7 (h:=tk 8 (h:=tk 9 (h:=tk 10 (h:=?_))))))))));refine rd [5,11] (rc (fun K hK=>?_) (rc (fun K hK=>?_) .nil))
    ·go_simp
     (try go_wp2_with fail)
     refine hK.out _ _ (dA.out _ (Below.refl _ _)) ?_;clear hK K;intro hHeld
     try simp only[Act.put,s1,s2,s3]
     refine rd [11] (rc (fun K hK=>?_) .nil);go_simp
     (try go_wp2_with fail)
     refine hK.out _ _ (dA.out _ nA.out) ?_;clear hK K;intro hHeld
     try simp only[Act.put,s1,s2,s3]
     refine rd [12] (rc (fun K hK=>?_) .nil);refine yv rfl (.tmp 17) (.tmp 23) 23 rfl _ _ _ rfl rfl HR.out ?_
     (try go_wp2_with fail)
     refine hK.out _ _ (tA.out) ?_;clear hK K;intro hHeld
     try simp only[Act.put,s1,s2,s3]
     refine tk 13 (h:=tk 14 (h:=tk 15 (h:=?_)));refine rd [16] (rc (fun K hK=>?_) .nil);go_simp
     (try go_wp2_with fail)
     refine hK.out _ _ (dB.out) ?_;clear hK K;intro hHeld
     try simp only[Act.put,s1,s2,s3]
     refine wpAnyH_done (by kernel_rfl) ?_ _;exact hfin.out
    ·go_simp
     (try go_wp2_with fail)
     refine hK.out _ _ (dA.out _ nA.out) ?_;clear hK K;intro hHeld
     try simp only[Act.put,s1,s2,s3]
     refine rd [5] (rc (fun K hK=>?_) .nil);have lB:=X5.out;go_simp
     (try go_wp2_with fail)
     refine hK.out _ _ (dA.out _ nA.out) ?_;clear hK K;intro hHeld
     try simp only[Act.put,s1,s2,s3]
     clear lB;refine rd [12] (rc (fun K hK=>?_) .nil);refine yv rfl (.tmp 17) (.tmp 23) 23 rfl _ _ _ rfl rfl HR.out ?_
     (try go_wp2_with fail)
     refine hK.out _ _ (tA.out) ?_;clear hK K;intro hHeld
     try simp only[Act.put,s1,s2,s3]
     refine tk 13 (h:=tk 14 (h:=tk 15 (h:=?_)));refine rd [16] (rc (fun K hK=>?_) .nil);go_simp
     (try go_wp2_with fail)
     refine hK.out _ _ (dB.out) ?_;clear hK K;intro hHeld
     try simp only[Act.put,s1,s2,s3]
     refine wpAnyH_done (by kernel_rfl) ?_ _;exact hfin.out
   go_wp2_with fail;go_roundw
   case rel=>
    have tB:zi (w5.setCell ⟨V,1,none⟩ (.slice (some ⟨g,0,none⟩) ((zv p (l.take k)).hn+1) gA)) V z0 (.slice (some ⟨g,0,none⟩) ((zv p (l.take k)).hn+1) gA) (.int .i64 tm) (.int .i64 nx) z2 z3:=⟨cA.out.1.zRY _ (Or.inr (by decide)),cA.out.2.1.set _,cA.out.2.2.1.zRY _ (Or.inr (by decide)),cA.out.2.2.2.1.zRY _ (Or.inr (by decide)),cA.out.2.2.2.2.1.zRY _ (Or.inr (by decide)),cA.out.2.2.2.2.2.zRY _ (Or.inr (by decide))⟩;have he:zv p (l.take (k+1))=zAM (zv p (l.take k)) (zf l k):=by
     rw[List.take_succ_eq_append_getElem bB,zDo];congr 1;unfold zf;rw[List.getD_eq_getElem?_getD,List.getElem?_eq_getElem bB];rfl
    refine⟨k+1,_,by omega,by go_num,tB,?_,rB.out⟩;rw[he];refine sB.out.mono (fun j hj=>?_);have jC:=vA.size;rcases hj with(h | h) | rfl
    ·exact Or.inl h
    ·exact Or.inr ⟨h.1,by omega⟩
    ·rcases HG.out with h | h
     ·rcases iB.out j h with h' | h'
      ·exact Or.inl h'
      ·exact Or.inr ⟨h'.1,by omega⟩
     ·exact Or.inr ⟨by omega,by omega⟩
   case measure=>simp[intOf];omega
  ·obtain rfl:k=l.length:=(by omega);go_wp2_with fail;rw[List.take_length]at oA;go_ret;exact⟨rfl,y1,aB.out,oA.out,pA.out⟩
theorem zCl(c:Int)(w:World):Calls Tryz.prog 25 #[.int .i64 c] w fun e w'=>e = .returned (.agg #[.slice none 0 0,.slice none 0 0,.int .i64 0,.int .i64 0,.slice none 0 0,.slice none 0 0,.int .i64 0,.int .i64 0,.int .i64 c])/\Below w.heap.size w w':=by
 have ha:=zC w (.cells #[.slice none 0 0,.slice none 0 0,.int .i64 0,.int .i64 0,.slice none 0 0,.slice none 0 0,.int .i64 0,.int .i64 0,.int .i64 c] 39);have aA:=yj.zRZ w (.slice none 0 0) (.slice none 0 0) (.int .i64 0) (.int .i64 0) (.slice none 0 0) (.slice none 0 0) (.int .i64 0) (.int .i64 0) (.int .i64 c) 39;go_enter Tryz.func25,Tryz.ntmps25;go_wp2_with fail;refine bodyPost_ret (v:=.agg #[.slice none 0 0,.slice none 0 0,.int .i64 0,.int .i64 0,.slice none 0 0,.slice none 0 0,.int .i64 0,.int .i64 0,.int .i64 c]) (by simp[results,Tryz.results25,go_sem,aA.1.1,aA.2.1.1,aA.2.2.1.1,aA.2.2.2.1.1,aA.2.2.2.2.1.1,aA.2.2.2.2.2.1.1,aA.2.2.2.2.2.2.1.1,aA.2.2.2.2.2.2.2.1.1,aA.2.2.2.2.2.2.2.2.1]) rfl ?_;exact⟨rfl,ha⟩
theorem zJS{w:World}{k:Nat}{v:Value}{kv:Nat->Value}{dn:Nat->Nat}(hk:yg w 61 2 v (dn k))(h:∀i,i<k->yg w 61 2 (kv i) (dn i))(a:Addr)(u:Value):∀i,i<k+1->yg (w.setCell a u) 61 2 ((fun j=>if j=k then v else kv j) i) (dn i):=fun i hi=>by
 by_cases e:i=k
 ·subst e;simp only[if_true];exact hk.set a u
 ·simp only[if_neg e];exact(h i (by omega)).set a u
theorem zEl(w:World)(lo hi:Nat)(a:Option Addr)(n c:Nat)(f g:Nat->Int)(h:zU w lo hi (.slice a n c) n f g)(hn:n<=1048576)(ty:TypeId):∃a' c' kb w1,
  (Builtin.append_ #[62,62] ty #[.slice (some ⟨w.heap.size,0,none⟩) 0 0,.slice a n c]).run Tryz.prog (w.alloc (.cells #[] 61)) = .ok (.slice a' n c') w1/\zm w1 kb (.slice a' n c') n f g/\(0<n->w.heap.size<=kb/\kb<w1.heap.size)/\Below w.heap.size w w1/\yg w1 61 2 (.slice a' n c') n:=by
 obtain⟨m1,a0,c0,hv,mc,g1⟩:=h;simp only[Value.slice.injEq,true_and]at hv;obtain⟨rfl,rfl⟩:=hv;obtain⟨i0,eA,fA⟩:=Option.map_eq_some_iff.1 zCj;simp only[Prod.mk.injEq]at fA;obtain⟨hz,hs,iA⟩:=fA;have ht:Tryz.prog.underlying 62=some (.slice 61):=by kernel_rfl
 have aA:(w.alloc (.cells #[] 61)).ownsRow w.heap.size 61 2 (.slice (some ⟨w.heap.size,0,none⟩) 0 0) 0 []:=World.ownsRow_made w #[] 0 (Nat.le_refl _) (Nat.zero_le _) (by simp);have cA:=zC w (.cells #[] 61);by_cases h0:0<n
 ·obtain⟨b,off,rfl,_,_,hc⟩:=g1 h0;have dA:∀j,(⟨b,off,none⟩:Addr).add j=⟨b,off+j,none⟩:=fun j=>by unfold Addr.add;split<;>simp_all
  obtain⟨v',w1,hr,r1,r2,_⟩:=run_append_own (P:=Tryz.prog) (w.alloc (.cells #[] 61)) w.heap.size 62 ty 61 i0 (.agg #[.int .i64 0,.int .i64 0]) 2 16 ht eA hz hs iA rfl (by decide) _ 0 [] aA ⟨b,off,none⟩ n c (kc f g n) (zEZ f g n) (fun j u hj=>by
    have:=zFs hc j u hj;rw[dA]at this ⊢;exact(cA.cell (zD this)).trans this) (zJ3 f g n) (by unfold maxLen;omega) (by omega) (by simp)
  have bA:w1.ownsRow w.heap.size 61 2 v' n (kc f g n):=(by simpa using r1);obtain⟨kb,hp,hk⟩:=zCQ m1 bA;obtain⟨_,a',c',rfl,_⟩:=id hp;have gA:Below w.heap.size w w1:=cA.grown r2 (by simp) (fun q hq=>by have:=aA.lt q hq;omega);exact⟨a',c',kb,w1,hr,hp,hk,gA,qq bA (fun e=>by omega)⟩
 ·obtain rfl:n=0:=(by omega);have hr:=zA5 (P:=Tryz.prog) (w:=w.alloc (.cells #[] 61)) w.heap.size 62 ty 61 i0 2 c a ht eA _ 0 [] aA;exact⟨_,0,0,_,hr,⟨Nat.zero_le _,_,0,rfl,Nat.le_refl _,fun h=>absurd h (Nat.lt_irrefl _)⟩,fun h=>absurd h (Nat.lt_irrefl _),cA,Or.inl ⟨rfl,_,rfl⟩⟩
end Go.Proofs.YtmgeglgboadfiaaGreatDoor
