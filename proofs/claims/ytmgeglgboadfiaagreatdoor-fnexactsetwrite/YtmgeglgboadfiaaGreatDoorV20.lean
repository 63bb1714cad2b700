/- What the laws' own functions of marking leave (markText, markPtrS, markSlotS, markInt64S, markPool, markSlot). -/
import Derived.Test.YtmgeglgboadfiaaGreatDoorV19
set_option linter.unusedVariables false
set_option maxRecDepth 20000
set_option maxHeartbeats 4000000
namespace Go.Proofs.YtmgeglgboadfiaaGreatDoor
open Go.RowKit
def zA9(k:Nat)(out:ByteArray):ByteArray:=
 if h:k=0 then out else zA9 (k / 10) (⟨#[48+UInt8.ofNat (k % 10)]⟩ ++ out)
termination_by k
decreasing_by omega
def mtF(k:Int):ByteArray:=if k<=0 then⟨#[109,48]⟩else⟨#[109]⟩ ++ zA9 k.toNat ⟨#[]⟩
theorem zLz{n:Nat}(h:(n:Int)<=1000000000000):n<10 ^ (13 - (⟨#[]⟩:ByteArray).size):=by
 show n<10 ^ 13;omega
theorem zL5(x:UInt8)(out:ByteArray):((⟨#[x]⟩:ByteArray) ++ out).size=out.size+1:=by
 rw[ByteArray.size_append];show 1+out.size=_;omega
theorem zP8{m:Nat}{out:ByteArray}(h:m<10 ^ (13 - out.size)):m<=10000000000000:=by
 have h2:10 ^ (13 - out.size)<=10 ^ 13:=Nat.pow_le_pow_right (by omega) (by omega);omega
theorem zNn{m:Nat}{out:ByteArray}(x:UInt8)(h0:¬m=0)(h:m<10 ^ (13 - out.size))(h2:out.size<=13) :
  m / 10<10 ^ (13 - ((⟨#[x]⟩:ByteArray) ++ out).size)/\((⟨#[x]⟩:ByteArray) ++ out).size<=13:=by
 rw[zL5];by_cases e:out.size=13
 ·rw[e]at h;simp at h;omega
 ·obtain⟨j,hj⟩:∃j,13 - out.size=j+1:=⟨12 - out.size,by omega⟩;rw[hj,Nat.pow_succ]at h;have:13 - (out.size+1)=j:=(by omega);rw[this];exact⟨by omega,by omega⟩
theorem zQA{m:Nat}{out:ByteArray}(h0:¬m=0):zA9 (m / 10) (⟨#[48+UInt8.ofNat (m % 10)]⟩ ++ out)=zA9 m out:=by
 conv=>rhs;rw[zA9]
 rw[dif_neg h0]
theorem zQP(m:Nat):∀(out:ByteArray),m<10 ^ (13 - out.size)->out.size<=13->(zA9 m out).size<=13:=by
 induction m using Nat.strongRecOn with
 | _ m ih=>
  intro out h h2;by_cases h0:m=0
  ·rw[zA9,dif_pos h0];exact h2
  ·rw[zA9,dif_neg h0];have:=zNn (48+UInt8.ofNat (m % 10)) h0 h h2;exact ih (m / 10) (by omega) _ this.1 this.2
theorem zF0{k:Int}(hk:k<=1000000000000):(mtF k).size<=maxLen:=by
 unfold mtF maxLen;split
 ·decide
 ·have h:(zA9 k.toNat ⟨#[]⟩).size<=13:=zQP _ _ (zLz (by omega)) (Nat.zero_le _);rw[zL5];omega
theorem zPK(w:World)(n:Int):(convert 216 9 (.slice (some ⟨w.heap.size,0,none⟩) 1 1)).run Tryz.prog (w.alloc (.cells #[.int .u8 n] 5)) = .ok (.string ⟨#[UInt8.ofNat n.toNat]⟩) (w.alloc (.cells #[.int .u8 n] 5)):=
 run_convert_bytes_arg (P:=Tryz.prog) (w.alloc (.cells #[.int .u8 n] 5)) 216 5 (by kernel_rfl) (by kernel_rfl) w.heap.size 0 1 1 [n] rfl (fun i hi=>by
  obtain rfl:i=0:=(by omega);simp) 9 (by kernel_rfl)
theorem zAC(k:Int)(w:World)(hk:k<=1000000000000) :
  Calls Tryz.prog 114 #[.int .i64 k] w fun e w'=>e = .returned (.string (mtF k))/\Below w.heap.size w w':=by
 by_cases h0:k<=0
 ·have hm:Hid (mtF k=⟨#[109,48]⟩):=if_pos h0;go_enter Tryz.func114,Tryz.ntmps114;go_wp2;go_ret;exact⟨by rw[hm.out];rfl,Below.refl _ _⟩
 ·obtain⟨n,rfl⟩:=Int.eq_ofNat_of_zero_le (by omega:0<=k);have hm:Hid (mtF (n:Int)=⟨#[109]⟩ ++ zA9 n ⟨#[]⟩):=if_neg h0;have eA:Hid (n<10 ^ (13 - (⟨#[]⟩:ByteArray).size)):=zLz hk;have gA:=zPK;go_enter Tryz.func114,Tryz.ntmps114;go_wp2
  go_loopw [0,3] (fun v s wr=>∃(m:Nat) (out:ByteArray),v = .int .i64 m/\s = .string out/\m<10 ^ (13 - out.size)/\out.size<=13/\zA9 m out=zA9 n ⟨#[]⟩/\Below w.heap.size w wr) (fun v _ _=>(intOf v).toNat)
  case atStart=>exact⟨n,⟨#[]⟩,rfl,rfl,eA.out,Nat.zero_le _,rfl,Below.refl _ _⟩
  case round=>
   obtain⟨m,out,rfl,rfl,bA,dA,cA,hb⟩:=hrel;have aA:Hid (m<10 ^ (13 - out.size)/\zA9 m out=zA9 n ⟨#[]⟩):=⟨bA,cA⟩;have fA:=zP8 bA;clear bA cA;by_cases hz:m=0
   ·subst hz;go_wp2;go_ret;refine⟨?_,hb⟩;have e1:=aA.out.2;rw[zA9,dif_pos rfl]at e1;rw[hm.out,<-e1];rfl
   ·have iA:(0:Int)<(m:Int):=(by omega);have Hz:Hid (¬m=0):=hz;clear hz;go_wp2;go_roundw
    case rel=>
     have hn:=zNn (48+UInt8.ofNat (m % 10)) Hz.out aA.out.1 dA;exact⟨m / 10,_,by go_num,rfl,hn.1,hn.2,(zQA Hz.out).trans aA.out.2,hb.alloc hb.size _⟩
    case measure=>simp[intOf];omega
theorem za{P:Prop}(h:P):Hid P:=h
def zAr(b:Nat)(w w':World):Prop:=∀cur,w.heap[b]?=some (.cells cur 2 (0,0))->∃cur',w'.heap[b]?=some (.cells cur' 2 (0,0))/\cur'.size=cur.size
theorem zAr.refl(b:Nat)(w:World):zAr b w w:=fun aA h=>⟨aA,h,rfl⟩
theorem zAr.set{b:Nat}{w w':World}(h:zAr b w w')(o:Nat)(u:Value):zAr b w (w'.setCell ⟨b,o,none⟩ u):=fun bA hc=>by
 obtain⟨aA,h1,h2⟩:=h bA hc;exact⟨aA.setIfInBounds o u,zAY u h1,by simpa using h2⟩
theorem zAr.room{b:Nat}{w w':World}{a:Option Addr}{n c:Nat}(h:zAr b w w')(hr:zQw w b a n c):zQw w' b a n c:=fun bA=>by
 obtain⟨r0,r1,r2,cA,r3,r4⟩:=hr bA;obtain⟨aA,h1,h2⟩:=h cA r3;exact⟨r0,r1,r2,aA,h1,by omega⟩
theorem zHg(b:Nat)(v:Value)(n:Nat)(f:Nat->Int)(k0:Int)(w:World)(h1:qf w b v n f)(mA:0<=k0)(nA:k0+n<=1000000000000) :
  Calls Tryz.prog 113 #[v,.int .i64 k0] w fun e w'=>e = .returned (.int .i64 (k0+n))/\qf w' b v n (fun i=>k0+i)/\zF (fun k=>0<n/\k=b) w w':=by
 have jA:=h1;obtain⟨m1,a,c,rfl,mc,g1,bA⟩:=h1;have cA:=za bA;clear bA;by_cases gA:n=0
 ·subst gA;go_enter Tryz.func113,Tryz.ntmps113;go_wp2;refine wp_loop_rounds 1 ?_;rw[rounds_succ];go_wp2;go_ret;exact⟨by simp,⟨m1,a,c,rfl,mc,fun h=>absurd h (by omega),cA.out⟩,zF.refl _ _⟩
 ·obtain⟨off,rfl,g2⟩:=g1 (by omega);clear g1;have lA:=m1;unfold maxLen at m1;have G2:Hid (∀i,i<n->zW w b (off+i) (.int .i64 (f i))):=g2;clear g2 jA;go_enter Tryz.func113,Tryz.ntmps113;go_wp2
  go_loopw [1,5] (fun m i wr=>∃k:Nat,k<=n/\i = .int .i64 k/\m = .int .i64 (k0+k)/\(∀j,j<n->zW wr b (off+j) (.int .i64 (if j<k then k0+j else f j)))/\zF (fun k=>0<n/\k=b) w wr/\zAr b w wr) (fun _ i _=>n - (intOf i).toNat)
  case atStart=>exact⟨0,Nat.zero_le _,rfl,by simp,fun j hj=>by simpa using G2.out j hj,zF.refl _ _,zAr.refl _ _⟩
  case round=>
   obtain⟨k,hk,rfl,rfl,dA,ht,fA⟩:=hrel;have eA:=za fA;clear fA;have aA:Hid (∀j,j<n->zW wr b (off+j) (.int .i64 (if j<k then k0+j else f j))):=dA;clear dA;by_cases kA:k<n
   ·have iA:(k:Int)<(n:Int):=(by omega);obtain⟨hc,hf⟩:=aA.out k kA;go_wp2;go_roundw
    case rel=>
     refine⟨k+1,by omega,by go_num,by go_num,fun j hj=>?_,ht.setCell ⟨by omega,rfl⟩ _,eA.out.set _ _⟩;by_cases e:j=k
     ·subst e;rw[if_pos (by omega)];exact(aA.out j hj).set _
     ·have:=(aA.out j hj).zRY (b':=b) (o':=off+k) (.int .i64 (k0+k)) (Or.inr (by omega));by_cases e2:j<k
      ·rw[if_pos (by omega)];rw[if_pos e2]at this;exact this
      ·rw[if_neg (by omega)];rw[if_neg e2]at this;exact this
    case measure=>simp[intOf];omega
   ·obtain rfl:k=n:=(by omega);go_wp2;go_ret;refine⟨rfl,⟨lA,_,c,rfl,mc,fun _=>⟨off,rfl,fun i hi=>?_⟩,eA.out.room cA.out⟩,ht⟩;have:=aA.out i hi;rw[if_pos hi]at this;exact this
theorem zDm(b:Nat)(v:Value)(n:Nat)(f g:Nat->Int)(k0:Int)(w:World)(h1:zm w b v n f g)(iA:0<=k0)(kA:k0+2*n<=1000000000000) :
  Calls Tryz.prog 115 #[v,.int .i64 k0] w fun e w'=>e = .returned (.int .i64 (k0+2*n))/\zm w' b v n (fun i=>k0+2*i) (fun i=>k0+2*i+1)/\zF (fun k=>0<n/\k=b) w w':=by
 have eA:=h1;obtain⟨m1,a,c,rfl,mc,g1⟩:=h1;by_cases cA:n=0
 ·subst cA;go_enter Tryz.func115,Tryz.ntmps115;go_wp2;refine wp_loop_rounds 1 ?_;rw[rounds_succ];go_wp2;go_ret;exact⟨by simp,⟨m1,a,c,rfl,mc,fun h=>absurd h (by omega)⟩,zF.refl _ _⟩
 ·obtain⟨off,rfl,g2⟩:=g1 (by omega);clear g1;have gA:=m1;unfold maxLen at m1;have G2:Hid (∀i,i<n->zW w b (off+i*2) (.int .i64 (f i))/\zW w b (off+i*2+1) (.int .i64 (g i))):=g2;clear g2 eA;go_enter Tryz.func115,Tryz.ntmps115;go_wp2
  go_loopw [1,5] (fun m i wr=>∃k:Nat,k<=n/\i = .int .i64 k/\m = .int .i64 (k0+2*k)/\(∀j,j<n->zW wr b (off+j*2) (.int .i64 (if j<k then k0+2*j else f j))/\zW wr b (off+j*2+1) (.int .i64 (if j<k then k0+2*j+1 else g j)))/\zF (fun k=>0<n/\k=b) w wr) (fun _ i _=>n - (intOf i).toNat)
  case atStart=>exact⟨0,Nat.zero_le _,rfl,by simp,fun j hj=>by simpa using G2.out j hj,zF.refl _ _⟩
  case round=>
   obtain⟨k,hk,rfl,rfl,bA,ht⟩:=hrel;have aA:Hid (∀j,j<n->zW wr b (off+j*2) (.int .i64 (if j<k then k0+2*j else f j))/\zW wr b (off+j*2+1) (.int .i64 (if j<k then k0+2*j+1 else g j))):=bA;clear bA;by_cases fA:k<n
   ·have dA:(k:Int)<(n:Int):=(by omega);obtain⟨⟨hc,hf⟩,⟨lA,jA⟩⟩:=aA.out k fA;go_wp2;go_roundw
    case rel=>
     refine⟨k+1,by omega,by go_num,by go_num,fun j hj=>?_,(ht.setCell ⟨by omega,rfl⟩ _).setCell ⟨by omega,rfl⟩ _⟩;by_cases e:j=k
     ·subst e;rw[if_pos (by omega),if_pos (by omega)];exact⟨((aA.out j hj).1.set _).zRY _ (Or.inr (by omega)),((aA.out j hj).2.zRY _ (Or.inr (by omega))).set _⟩
     ·have t1:=((aA.out j hj).1.zRY (b':=b) (o':=off+k*2) (.int .i64 (k0+2*k)) (Or.inr (by omega))).zRY (b':=b) (o':=off+k*2+1) (.int .i64 (k0+2*k+1)) (Or.inr (by omega));have t2:=((aA.out j hj).2.zRY (b':=b) (o':=off+k*2) (.int .i64 (k0+2*k)) (Or.inr (by omega))).zRY (b':=b) (o':=off+k*2+1) (.int .i64 (k0+2*k+1)) (Or.inr (by omega));by_cases e2:j<k
      ·rw[if_pos (by omega),if_pos (by omega)];rw[if_pos e2]at t1 t2;exact⟨t1,t2⟩
      ·rw[if_neg (by omega),if_neg (by omega)];rw[if_neg e2]at t1 t2;exact⟨t1,t2⟩
    case measure=>simp[intOf];omega
   ·obtain rfl:k=n:=(by omega);go_wp2;go_ret;refine⟨rfl,⟨gA,_,c,rfl,mc,fun _=>⟨off,rfl,fun i hi=>?_⟩⟩,ht⟩;have:=aA.out i hi;rw[if_pos hi,if_pos hi]at this;exact this
def qR(f:Nat->zL)(k0:Int):Nat->Int
 | 0=>k0
 | j+1=>qR f k0 j+2+2*(f j).kn
def zQt(s:zL)(c:Int):zL:={zRi:=c,kn:=s.kn,ks:=fun i=>c+1+2*i,kb:=fun i=>c+1+2*i+1,data:=mtF (c+1+2*s.kn)}
theorem zIF(f:Nat->zL)(k0:Int)(j:Nat):∀m,qR f k0 j<=qR f k0 (j+m)
 | 0=>Int.le_refl _
 | m+1=>by
  have:=zIF f k0 j m;show _<=qR f k0 (j+m)+2+2*((f (j+m)).kn:Int);omega
theorem zCq(f:Nat->zL)(k0:Int){j n:Nat}(h:j<=n):qR f k0 j<=qR f k0 n:=by
 obtain⟨m,rfl⟩:=Nat.exists_eq_add_of_le h;exact zIF f k0 j m
def zEd(f:Nat->zL)(k0:Int)(j:Nat):zL:=zQt (f j) (qR f k0 j)
theorem zMf{w w1 w2:World}{bs off:Nat}{kb:Nat->Nat}{kv:Nat->Value}{n k:Nat}{f:Nat->zL}{s':zL}
  (h:∀j,j<n->zAF w bs (off+j*3) (kb j) (kv j) (f j)) (cA:yP kb n f) (hk:k<n)
  (t1:zF (fun b=>0<(f k).kn/\b=kb k) (w.setCell ⟨bs,off+k*3,none⟩ (.int .i64 s'.zRi)) w1) (t2:Below w1.heap.size w1 w2)
  (bA:s'.kn=(f k).kn) (hp:zm w1 (kb k) (kv k) s'.kn s'.ks s'.kb) (hs:s'.data.size<=maxLen) :
  ∀j,j<n->zAF (w2.setCell ⟨bs,off+k*3+2,none⟩ (.string s'.data)) bs (off+j*3) (kb j) (kv j) (if j=k then s' else f j):=by
 intro j hj;have nb:¬(0<(f k).kn/\bs=kb k):=fun hx=>(h k hk).zRk hx.1 hx.2.symm
 by_cases e:j=k
 ·subst e;rw[if_pos rfl];have aA:=h j hj;refine⟨?_,?_,?_,?_,hs,?_⟩
  ·exact(((aA.zRi.set _).zRf t1 nb).zRX t2).zRY _ (Or.inr (by omega))
  ·exact(((aA.kidsv.zRY _ (Or.inr (by omega))).zRf t1 nb).zRX t2).zRY _ (Or.inr (by omega))
  ·exact(((aA.data.zRY _ (Or.inr (by omega))).zRf t1 nb).zRX t2).set _
  ·refine(hp.zRX t2).zRf (zF.put _ _ _ _) (fun h0 hx=>?_);exact aA.zRk (bA▸h0) hx
  ·rw[bA];exact aA.zRk
 ·rw[if_neg e];have aA:=h j hj;have c0:=aA.zRi.zRY (b':=bs) (o':=off+k*3) (.int .i64 s'.zRi) (Or.inr (by omega));have c1:=aA.kidsv.zRY (b':=bs) (o':=off+k*3) (.int .i64 s'.zRi) (Or.inr (by omega));have c2:=aA.data.zRY (b':=bs) (o':=off+k*3) (.int .i64 s'.zRi) (Or.inr (by omega));have c3:=aA.kids.zRf (zF.put w bs (off+k*3) (.int .i64 s'.zRi)) (fun h0 hx=>aA.zRk h0 hx);refine⟨?_,?_,?_,?_,aA.zRn,aA.zRk⟩
  ·exact((c0.zRf t1 nb).zRX t2).zRY _ (Or.inr (by omega))
  ·exact((c1.zRf t1 nb).zRX t2).zRY _ (Or.inr (by omega))
  ·exact((c2.zRf t1 nb).zRX t2).zRY _ (Or.inr (by omega))
  ·refine((c3.zRf t1 (fun h0 hx=>cA j k hj hk e h0 hx.1 hx.2)).zRX t2).zRf (zF.put _ _ _ _) (fun h0 hx=>aA.zRk h0 hx)
theorem zN3(f:Nat->zL)(k0:Int)(j:Nat):(if j<0 then zEd f k0 j else f j)=f j:=if_neg (by omega)
theorem zQ5(f:Nat->zL)(k0:Int)(k j:Nat):(if j<k then zEd f k0 j else f j).kn=(f j).kn:=by split<;>rfl
theorem zI6(bs:Nat)(kb:Nat->Nat)(kv:Nat->Value)(v:Value)(n:Nat)(f:Nat->zL)(k0:Int)(w:World)(h1:qT w bs kb kv v n f)(jA:yP kb n f)(eB:0<=k0)(gA:qR f k0 n<=1000000000000) :
  Calls Tryz.prog 112 #[v,.int .i64 k0] w fun e w'=>e = .returned (.int .i64 (qR f k0 n))/\qT w' bs kb kv v n (zEd f k0)/\zF (ym bs kb n f) w w':=by
 obtain⟨m1,a,c,rfl,mc,g1⟩:=h1;by_cases nA:n=0
 ·subst nA;go_enter Tryz.func112,Tryz.ntmps112;go_wp2;refine wp_loop_rounds 1 ?_;rw[rounds_succ];go_wp2;go_ret;exact⟨by simp[qR],⟨m1,a,c,rfl,mc,fun h=>absurd h (by omega)⟩,zF.refl _ _⟩
 ·obtain⟨off,rfl,g2⟩:=g1 (by omega);clear g1;have rA:=m1;unfold maxLen at m1;have G2:Hid (∀j,j<n->zAF w bs (off+j*3) (kb j) (kv j) (f j)):=g2;have aB:Hid (yP kb n f):=jA;have kA:Hid (qR f k0 n<=1000000000000):=gA;clear g2 jA gA;go_enter Tryz.func112,Tryz.ntmps112;go_wp2
  go_loopw [1,5] (fun m i wr=>∃k:Nat,k<=n/\i = .int .i64 k/\m = .int .i64 (qR f k0 k)/\(∀j,j<n->zAF wr bs (off+j*3) (kb j) (kv j) (if j<k then zEd f k0 j else f j))/\zF (ym bs kb n f) w wr) (fun _ i _=>n - (intOf i).toNat)
  case atStart=>exact⟨0,Nat.zero_le _,rfl,rfl,fun j hj=>by rw[zN3];exact G2.out j hj,zF.refl _ _⟩
  case round=>
   obtain⟨k,hk,rfl,rfl,bA,ht⟩:=hrel;have aA:Hid (∀j,j<n->zAF wr bs (off+j*3) (kb j) (kv j) (if j<k then zEd f k0 j else f j)):=bA;clear bA;by_cases dA:k<n
   ·have sA:(k:Int)<(n:Int):=(by omega);have hs:=aA.out k dA;rw[if_neg (by omega)]at hs;have fB:k0<=qR f k0 k:=zCq f k0 (Nat.zero_le k);have cB:qR f k0 k+2+2*((f k).kn:Int)<=1000000000000:=Int.le_trans (zCq f k0 (show k+1<=n from dA)) kA.out;obtain⟨mA,tA⟩:=hs.zRi;obtain⟨pA,bB⟩:=hs.kidsv;obtain⟨cA,fA⟩:=hs.data;have Hs:Hid (zAF wr bs (off+k*3) (kb k) (kv k) (f k)):=hs;obtain⟨_,ka,kc,lA,_⟩:=hs.kids;clear hs;generalize hx:kv k=kvk at *;have Hx:Hid (kv k=kvk):=hx;clear hx;subst lA;go_wp2_with fail;refine(zDm (kb k) _ (f k).kn (f k).ks (f k).kb _ _ ?p1 ?p2 ?p3).mono ?_
    case p1=>exact Hs.out.kids.zRf (zF.put _ _ _ _) (fun h0 hx=>Hs.out.zRk h0 hx)
    case p2=>omega
    case p3=>omega
    rintro e w1 ⟨rfl,iA,eA⟩;have nb:¬(0<(f k).kn/\bs=kb k):=fun hx=>Hs.out.zRk hx.1 hx.2.symm
    have Hd:=((Hs.out.data.zRY (b':=bs) (o':=off+k*3) (.int .i64 (qR f k0 k)) (Or.inr (by omega))).zRf eA nb);have oA:Hid (zm w1 (kb k) (.slice ka (f k).kn kc) (f k).kn (fun i=>qR f k0 k+1+2*i) (fun i=>qR f k0 k+1+2*i+1)):=iA;clear nb iA mA tA pA bB cA fA;go_wp2_with fail;refine(zAC _ _ (by omega)).mono ?_;rintro e w2 ⟨rfl,cA⟩;obtain⟨dB,fA⟩:=Hd.zRX cA;clear Hd;go_wp2;go_roundw
    case rel=>
     refine⟨k+1,by omega,by go_num,congrArg (Value.int .i64) (by show _=qR f k0 k+2+2*((f k).kn:Int);omega),fun j hj=>?_,?_⟩
     ·have st:=zMf (s':=zEd f k0 k) aA.out (by
        intro i j hi hj vA h1 h2;rw[zQ5]at h1 h2;exact aB.out i j hi hj vA h1 h2) dA (by rw[if_neg (Nat.lt_irrefl k)];exact eA) cA (by rw[if_neg (Nat.lt_irrefl k)];rfl) (by rw[Hx.out];exact oA.out) (zF0 (by omega)) j hj
      by_cases e:j=k
      ·subst e;rw[if_pos rfl]at st;rw[if_pos (by omega)];exact st
      ·rw[if_neg e]at st;by_cases e2:j<k
       ·rw[if_pos e2]at st;rw[if_pos (by omega)];exact st
       ·rw[if_neg e2]at st;rw[if_neg (by omega)];exact st
     ·refine(((ht.setCell (Or.inl ⟨by omega,rfl⟩) _).trans (eA.mono ?_)).trans (zF.zRa cA)).setCell (Or.inl ⟨by omega,rfl⟩) _;rintro b ⟨hb,rfl⟩;exact Or.inr ⟨k,dA,hb,rfl⟩
    case measure=>simp[intOf];omega
   ·obtain rfl:k=n:=(by omega);go_wp2;go_ret;refine⟨rfl,⟨rA,_,c,rfl,mc,fun _=>⟨off,rfl,fun i hi=>?_⟩⟩,ht⟩;have:=aA.out i hi;rw[if_pos hi]at this;exact this
theorem zKb(bs hb:Nat)(kb:Nat->Nat)(kv:Nat->Value)(v0 v1:Value)(p:zI)(k0:Int)(w:World)
  (h1:qT w bs kb kv v0 p.n p.s) (jA:yP kb p.n p.s) (h2:qf w hb v1 p.hn p.h) (hd:0<p.hn->¬ym bs kb p.n p.s hb)
  (gA:0<=k0) (dA:qR p.s k0 p.n+p.hn<=1000000000000) :
  Calls Tryz.prog 42 #[.agg #[v0,v1],.int .i64 k0] w fun e w'=>e = .returned (.int .i64 (qR p.s k0 p.n+p.hn))/\qT w' bs kb kv v0 p.n (zEd p.s k0)/\qf w' hb v1 p.hn (fun i=>qR p.s k0 p.n+i)/\
   zF (fun k=>ym bs kb p.n p.s k\/(0<p.hn/\k=hb)) w w':=by
 have q1:=h1;have q2:=h2;obtain⟨_,a,c,rfl,_⟩:=h1;obtain⟨_,a',c',rfl,_⟩:=h2;have Hk:Hid (qR p.s k0 p.n+p.hn<=1000000000000):=dA;have bA:Hid (k0<=qR p.s k0 p.n):=zCq p.s k0 (Nat.zero_le p.n);clear dA;go_enter Tryz.func42,Tryz.ntmps42;go_wp2_with fail;have cA:=(Below.refl w.heap.size w).alloc (Nat.le_refl _) (.cells #[.slice a p.n c,.slice a' p.hn c'] 33);refine(zI6 bs kb kv _ p.n p.s _ _ (q1.zRX cA) jA gA (by have:=Hk.out;omega)).mono ?_;rintro e w1 ⟨rfl,fA,aA⟩;have nb:¬ym bs kb p.n p.s w.heap.size:=fun x=>Nat.lt_irrefl _ (q1.lt x)
 have e1:=aA.cell (b:=w.heap.size) (o:=1) (by simp) nb;simp at e1;go_wp2_with fail;refine(zHg hb _ p.hn p.h _ _ ((q2.zRX cA).zRf aA hd) (by have:=bA.out;omega) Hk.out).mono ?_;rintro e w2 ⟨rfl,iA,eA⟩;go_wp2;go_ret;refine⟨rfl,?_,iA,?_⟩
 ·refine fA.zRf eA (fun h0 hx=>?_) (fun i hi h0 hx=>?_)
  ·exact hd hx.1 (Or.inl ⟨h0,hx.2.symm⟩)
  ·exact hd hx.1 (Or.inr ⟨i,hi,h0,hx.2.symm⟩)
 ·exact((zF.zRa cA).trans (aA.mono fun k h=>Or.inl h)).trans (eA.mono fun k h=>Or.inr h)
def zQf(p:zI)(k0:Int):zI:={n:=p.n,s:=zEd p.s k0,hn:=p.hn,h:=fun i=>qR p.s k0 p.n+i}
def zA8(p:zI)(k0:Int):Int:=qR p.s k0 p.n+p.hn
def ze(f:Nat->qD)(k0:Int):Nat->Int
 | 0=>k0
 | j+1=>ze f k0 j+5+2*(f j).dn
def zOl(s:qD)(c:Int):qD:={name:=mtF (c),origin:=c+1,zRh:=c+1+1,rs:=c+1+1+1,rb:=c+1+1+1+1,dn:=s.dn,ds:=fun i=>c+1+1+1+1+1+2*i,db:=fun i=>c+1+1+1+1+1+2*i+1}
theorem zG5(f:Nat->qD)(k0:Int)(j:Nat):∀m,ze f k0 j<=ze f k0 (j+m)
 | 0=>Int.le_refl _
 | m+1=>by
  have:=zG5 f k0 j m;show _<=ze f k0 (j+m)+5+2*((f (j+m)).dn:Int);omega
theorem zDY(f:Nat->qD)(k0:Int){j n:Nat}(h:j<=n):ze f k0 j<=ze f k0 n:=by
 obtain⟨m,rfl⟩:=Nat.exists_eq_add_of_le h;exact zG5 f k0 j m
def zCk(f:Nat->qD)(k0:Int)(j:Nat):qD:=zOl (f j) (ze f k0 j)
theorem zMI(f:Nat->qD)(k0:Int)(j:Nat):(if j<0 then zCk f k0 j else f j)=f j:=if_neg (by omega)
theorem zOx(f:Nat->qD)(k0:Int)(k j:Nat):(if j<k then zCk f k0 j else f j).dn=(f j).dn:=by split<;>rfl
theorem zJ9(bs:Nat)(kb:Nat->Nat)(kv:Nat->Value)(v:Value)(n:Nat)(f:Nat->qD)(k0:Int)(w:World)(h1:yJ w bs kb kv v n f)(jB:zBO kb n f)(bC:0<=k0)(nA:ze f k0 n<=1000000000000) :
  Calls Tryz.prog 43 #[v,.int .i64 k0] w fun e w'=>e = .returned (.int .i64 (ze f k0 n))/\yJ w' bs kb kv v n (zCk f k0)/\zF (zCN bs kb n f) w w':=by
 obtain⟨m1,a,c,rfl,mc,g1⟩:=h1;by_cases nB:n=0
 ·subst nB;go_enter Tryz.func43,Tryz.ntmps43;go_wp2;refine wp_loop_rounds 1 ?_;rw[rounds_succ];go_wp2;go_ret;exact⟨by simp[ze],⟨m1,a,c,rfl,mc,fun h=>absurd h (by omega)⟩,zF.refl _ _⟩
 ·obtain⟨off,rfl,g2⟩:=g1 (by omega);clear g1;have oB:=m1;unfold maxLen at m1;have G2:=za g2;have tB:=za jB;have lB:=za nA;clear g2 jB nA;go_enter Tryz.func43,Tryz.ntmps43;go_wp2
  go_loopw [1,5] (fun m i wr=>∃k:Nat,k<=n/\i = .int .i64 k/\m = .int .i64 (ze f k0 k)/\(∀j,j<n->zAH wr bs (off+j*6) (kb j) (kv j) (if j<k then zCk f k0 j else f j))/\zF (zCN bs kb n f) w wr) (fun _ i _=>n - (intOf i).toNat)
  case atStart=>exact⟨0,Nat.zero_le _,rfl,rfl,fun j hj=>by rw[zMI];exact G2.out j hj,zF.refl _ _⟩
  case round=>
   obtain⟨k,hk,rfl,rfl,cA,ht⟩:=hrel;have bA:=za cA;clear cA;by_cases dA:k<n
   ·have pB:(k:Int)<(n:Int):=(by omega);have hs:=bA.out k dA;rw[if_neg (by omega)]at hs;have cC:k0<=ze f k0 k:=zDY f k0 (Nat.zero_le k);have aC:ze f k0 k+5+2*((f k).dn:Int)<=1000000000000:=Int.le_trans (zDY f k0 (show k+1<=n from dA)) lB.out;have Hs:=za hs;obtain⟨-,ka,kc,mB,-⟩:=hs.zRl;clear hs;generalize hx:kv k=kvk at *;have Hx:=za hx;clear hx;subst mB;obtain⟨⟨p0,kA⟩,⟨p1,lA⟩,⟨p2,gA⟩,⟨p3,iA⟩,⟨p4,fA⟩,⟨p5,jA⟩⟩:=And.intro Hs.out.c0 (And.intro Hs.out.c1 (And.intro Hs.out.c2 (And.intro Hs.out.c3 (And.intro Hs.out.c4 Hs.out.c5))));have HR:=za (yu.refl bs (off+k*6) 6 wr);go_wp2_with fail;clear p0 kA p1 lA p2 gA p3 iA p4 fA p5 jA;have sA:=za Hs.out.c0;have eB:=za Hs.out.c1;have bB:=za Hs.out.c2;have oA:=za Hs.out.c3;have gB:=za Hs.out.c4;have aB:=za Hs.out.c5;have mA:=za HR.out;refine(zAC _ wr (by omega)).mono ?_;rintro e w1 ⟨rfl,aA⟩;have rA:=za (sA.out.zRX aA);have dB:=za (eB.out.zRX aA);have tA:=za (bB.out.zRX aA);have cB:=za (oA.out.zRX aA);have iB:=za (gB.out.zRX aA);have fB:=za (aB.out.zRX aA);have sB:=za (mA.out.zRX aA);clear aA mA sA eB bB oA gB aB;obtain⟨p0,kA⟩:=rA.out;obtain⟨p1,lA⟩:=dB.out;obtain⟨p2,gA⟩:=tA.out;obtain⟨p3,iA⟩:=cB.out;obtain⟨p4,fA⟩:=iB.out;obtain⟨p5,jA⟩:=fB.out;go_wp2_with fail;clear p0 kA p1 lA p2 gA p3 iA p4 fA p5 jA;have Ea:=za (((((rA.out.set (.string (mtF (ze f k0 k)))).zRY (b':=bs) (o':=off+k*6+1) (.int .i64 (ze f k0 k+1)) (Or.inr (by omega))).zRY (b':=bs) (o':=off+k*6+2) (.int .i64 (ze f k0 k+1+1)) (Or.inr (by omega))).zRY (b':=bs) (o':=off+k*6+3) (.int .i64 (ze f k0 k+1+1+1)) (Or.inr (by omega))).zRY (b':=bs) (o':=off+k*6+3+1) (.int .i64 (ze f k0 k+1+1+1+1)) (Or.inr (by omega)));have Eb:=za (((((dB.out.zRY (b':=bs) (o':=off+k*6) (.string (mtF (ze f k0 k))) (Or.inr (by omega))).set (.int .i64 (ze f k0 k+1))).zRY (b':=bs) (o':=off+k*6+2) (.int .i64 (ze f k0 k+1+1)) (Or.inr (by omega))).zRY (b':=bs) (o':=off+k*6+3) (.int .i64 (ze f k0 k+1+1+1)) (Or.inr (by omega))).zRY (b':=bs) (o':=off+k*6+3+1) (.int .i64 (ze f k0 k+1+1+1+1)) (Or.inr (by omega)));have Ec:=za (((((tA.out.zRY (b':=bs) (o':=off+k*6) (.string (mtF (ze f k0 k))) (Or.inr (by omega))).zRY (b':=bs) (o':=off+k*6+1) (.int .i64 (ze f k0 k+1)) (Or.inr (by omega))).set (.int .i64 (ze f k0 k+1+1))).zRY (b':=bs) (o':=off+k*6+3) (.int .i64 (ze f k0 k+1+1+1)) (Or.inr (by omega))).zRY (b':=bs) (o':=off+k*6+3+1) (.int .i64 (ze f k0 k+1+1+1+1)) (Or.inr (by omega)));have Ed:=za (((((cB.out.zRY (b':=bs) (o':=off+k*6) (.string (mtF (ze f k0 k))) (Or.inr (by omega))).zRY (b':=bs) (o':=off+k*6+1) (.int .i64 (ze f k0 k+1)) (Or.inr (by omega))).zRY (b':=bs) (o':=off+k*6+2) (.int .i64 (ze f k0 k+1+1)) (Or.inr (by omega))).set (.int .i64 (ze f k0 k+1+1+1))).zRY (b':=bs) (o':=off+k*6+3+1) (.int .i64 (ze f k0 k+1+1+1+1)) (Or.inr (by omega)));have Ee:=za (((((iB.out.zRY (b':=bs) (o':=off+k*6) (.string (mtF (ze f k0 k))) (Or.inr (by omega))).zRY (b':=bs) (o':=off+k*6+1) (.int .i64 (ze f k0 k+1)) (Or.inr (by omega))).zRY (b':=bs) (o':=off+k*6+2) (.int .i64 (ze f k0 k+1+1)) (Or.inr (by omega))).zRY (b':=bs) (o':=off+k*6+3) (.int .i64 (ze f k0 k+1+1+1)) (Or.inr (by omega))).set (.int .i64 (ze f k0 k+1+1+1+1)));have Ef:=za (((((fB.out.zRY (b':=bs) (o':=off+k*6) (.string (mtF (ze f k0 k))) (Or.inr (by omega))).zRY (b':=bs) (o':=off+k*6+1) (.int .i64 (ze f k0 k+1)) (Or.inr (by omega))).zRY (b':=bs) (o':=off+k*6+2) (.int .i64 (ze f k0 k+1+1)) (Or.inr (by omega))).zRY (b':=bs) (o':=off+k*6+3) (.int .i64 (ze f k0 k+1+1+1)) (Or.inr (by omega))).zRY (b':=bs) (o':=off+k*6+3+1) (.int .i64 (ze f k0 k+1+1+1+1)) (Or.inr (by omega)));have eA:=za (((((sB.out.set (off+k*6) (.string (mtF (ze f k0 k))) (by omega) (by omega)).set (off+k*6+1) (.int .i64 (ze f k0 k+1)) (by omega) (by omega)).set (off+k*6+2) (.int .i64 (ze f k0 k+1+1)) (by omega) (by omega)).set (off+k*6+3) (.int .i64 (ze f k0 k+1+1+1)) (by omega) (by omega)).set (off+k*6+3+1) (.int .i64 (ze f k0 k+1+1+1+1)) (by omega) (by omega));generalize (((((w1.setCell ⟨bs,off+k*6,none⟩ (.string (mtF (ze f k0 k)))).setCell ⟨bs,off+k*6+1,none⟩ (.int .i64 (ze f k0 k+1))).setCell ⟨bs,off+k*6+2,none⟩ (.int .i64 (ze f k0 k+1+1))).setCell ⟨bs,off+k*6+3,none⟩ (.int .i64 (ze f k0 k+1+1+1))).setCell ⟨bs,off+k*6+3+1,none⟩ (.int .i64 (ze f k0 k+1+1+1+1)))=Y at Ea Eb Ec Ed Ee Ef eA ⊢;refine(zDm (kb k) _ (f k).dn (f k).ds (f k).db _ Y (Hs.out.zRl.zRf eA.out.zRf (fun h0 hx=>Hs.out.zRk h0 hx)) (by omega) (by omega)).mono ?_;rintro e wz ⟨rfl,vA,kB⟩;have vB:=za vA;have pA:=za kB;clear vA kB;go_wp2;go_roundw
    case rel=>
     refine⟨k+1,by omega,by go_num,congrArg (Value.int .i64) (by show _=ze f k0 k+5+2*((f k).dn:Int);omega),fun j hj=>?_,?_⟩
     ·have st:=zPH (s:=zCk f k0 k) bA.out (by
        intro i j hi hj rB h1 h2;rw[zOx]at h1 h2;exact tB.out i j hi hj rB h1 h2) dA eA.out (by rw[if_neg (Nat.lt_irrefl k)];exact pA.out) Ea.out Eb.out Ec.out Ed.out Ee.out (by rw[Hx.out];exact Ef.out) (by rw[if_neg (Nat.lt_irrefl k)];rfl) (by rw[Hx.out];exact vB.out) (zF0 (by omega)) j hj
      by_cases e:j=k
      ·subst e;rw[if_pos rfl]at st;rw[if_pos (by omega)];exact st
      ·rw[if_neg e]at st;by_cases e2:j<k
       ·rw[if_pos e2]at st;rw[if_pos (by omega)];exact st
       ·rw[if_neg e2]at st;rw[if_neg (by omega)];exact st
     ·refine(ht.trans (eA.out.zRf.mono ?_)).trans (pA.out.mono ?_)
      ·rintro b rfl;exact Or.inl ⟨by omega,rfl⟩
      ·rintro b ⟨hb,rfl⟩;exact Or.inr ⟨k,dA,hb,rfl⟩
    case measure=>simp[intOf];omega
   ·obtain rfl:k=n:=(by omega);go_wp2;go_ret;refine⟨rfl,⟨oB,_,c,rfl,mc,fun _=>⟨off,rfl,fun i hi=>?_⟩⟩,ht⟩;have:=bA.out i hi;rw[if_pos hi]at this;exact this
def zM(f:Nat->zl)(k0:Int):Nat->Int
 | 0=>k0
 | j+1=>zM f k0 j+7+2*(f j).dn
def zMT(s:zl)(c:Int):zl:={id:=c,name:=mtF (c+1),set:=mtF (c+1+1),zRh:=c+1+1+1,time:=c+1+1+1+1,rs:=c+1+1+1+1+1,rb:=c+1+1+1+1+1+1,dn:=s.dn,ds:=fun i=>c+1+1+1+1+1+1+1+2*i,db:=fun i=>c+1+1+1+1+1+1+1+2*i+1}
theorem zGM(f:Nat->zl)(k0:Int)(j:Nat):∀m,zM f k0 j<=zM f k0 (j+m)
 | 0=>Int.le_refl _
 | m+1=>by
  have:=zGM f k0 j m;show _<=zM f k0 (j+m)+7+2*((f (j+m)).dn:Int);omega
theorem zCs(f:Nat->zl)(k0:Int){j n:Nat}(h:j<=n):zM f k0 j<=zM f k0 n:=by
 obtain⟨m,rfl⟩:=Nat.exists_eq_add_of_le h;exact zGM f k0 j m
def zBl(f:Nat->zl)(k0:Int)(j:Nat):zl:=zMT (f j) (zM f k0 j)
theorem zKe(f:Nat->zl)(k0:Int)(j:Nat):(if j<0 then zBl f k0 j else f j)=f j:=if_neg (by omega)
theorem zNz(f:Nat->zl)(k0:Int)(k j:Nat):(if j<k then zBl f k0 j else f j).dn=(f j).dn:=by split<;>rfl
theorem zI4(bs:Nat)(kb:Nat->Nat)(kv:Nat->Value)(v:Value)(n:Nat)(f:Nat->zl)(k0:Int)(w:World)(h1:yT w bs kb kv v n f)(oC:zBA kb n f)(iD:0<=k0)(oB:zM f k0 n<=1000000000000) :
  Calls Tryz.prog 44 #[v,.int .i64 k0] w fun e w'=>e = .returned (.int .i64 (zM f k0 n))/\yT w' bs kb kv v n (zBl f k0)/\zF (zCI bs kb n f) w w':=by
 obtain⟨m1,a,c,rfl,mc,g1⟩:=h1;by_cases tC:n=0
 ·subst tC;go_enter Tryz.func44,Tryz.ntmps44;go_wp2;refine wp_loop_rounds 1 ?_;rw[rounds_succ];go_wp2;go_ret;exact⟨by simp[zM],⟨m1,a,c,rfl,mc,fun h=>absurd h (by omega)⟩,zF.refl _ _⟩
 ·obtain⟨off,rfl,g2⟩:=g1 (by omega);clear g1;have aD:=m1;unfold maxLen at m1;have G2:=za g2;have eD:=za oC;have rC:=za oB;clear g2 oC oB;go_enter Tryz.func44,Tryz.ntmps44;go_wp2
  go_loopw [1,5] (fun m i wr=>∃k:Nat,k<=n/\i = .int .i64 k/\m = .int .i64 (zM f k0 k)/\(∀j,j<n->zAK wr bs (off+j*8) (kb j) (kv j) (if j<k then zBl f k0 j else f j))/\zF (zCI bs kb n f) w wr) (fun _ i _=>n - (intOf i).toNat)
  case atStart=>exact⟨0,Nat.zero_le _,rfl,rfl,fun j hj=>by rw[zKe];exact G2.out j hj,zF.refl _ _⟩
  case round=>
   obtain⟨k,hk,rfl,rfl,jA,ht⟩:=hrel;have cA:=za jA;clear jA;by_cases nA:k<n
   ·have bD:(k:Int)<(n:Int):=(by omega);have hs:=cA.out k nA;rw[if_neg (by omega)]at hs;have jD:k0<=zM f k0 k:=zCs f k0 (Nat.zero_le k);have gD:zM f k0 k+7+2*((f k).dn:Int)<=1000000000000:=Int.le_trans (zCs f k0 (show k+1<=n from nA)) rC.out;have Hs:=za hs;obtain⟨-,ka,kc,sC,-⟩:=hs.zRl;clear hs;generalize hx:kv k=kvk at *;have Hx:=za hx;clear hx;subst sC;obtain⟨⟨p0,lA⟩,⟨p1,mA⟩,⟨p2,eA⟩,⟨p3,gA⟩,⟨p4,fA⟩,⟨p5,iA⟩,⟨p6,kA⟩,⟨p7,dA⟩⟩:=And.intro Hs.out.c0 (And.intro Hs.out.c1 (And.intro Hs.out.c2 (And.intro Hs.out.c3 (And.intro Hs.out.c4 (And.intro Hs.out.c5 (And.intro Hs.out.c6 Hs.out.c7))))));have HR:=za (yu.refl bs (off+k*8) 8 wr);go_wp2_with fail;clear p0 lA p1 mA p2 eA p3 gA p4 fA p5 iA p6 kA p7 dA;have bB:=za (Hs.out.c0.set (.int .i64 (zM f k0 k)));have fB:=za (Hs.out.c1.zRY (b':=bs) (o':=off+k*8) (.int .i64 (zM f k0 k)) (Or.inr (by omega)));have eB:=za (Hs.out.c2.zRY (b':=bs) (o':=off+k*8) (.int .i64 (zM f k0 k)) (Or.inr (by omega)));have sA:=za (Hs.out.c3.zRY (b':=bs) (o':=off+k*8) (.int .i64 (zM f k0 k)) (Or.inr (by omega)));have jB:=za (Hs.out.c4.zRY (b':=bs) (o':=off+k*8) (.int .i64 (zM f k0 k)) (Or.inr (by omega)));have dB:=za (Hs.out.c5.zRY (b':=bs) (o':=off+k*8) (.int .i64 (zM f k0 k)) (Or.inr (by omega)));have iB:=za (Hs.out.c6.zRY (b':=bs) (o':=off+k*8) (.int .i64 (zM f k0 k)) (Or.inr (by omega)));have cB:=za (Hs.out.c7.zRY (b':=bs) (o':=off+k*8) (.int .i64 (zM f k0 k)) (Or.inr (by omega)));have pA:=za (HR.out.set (off+k*8) (.int .i64 (zM f k0 k)) (by omega) (by omega));generalize (wr.setCell ⟨bs,off+k*8,none⟩ (.int .i64 (zM f k0 k)))=Y1 at bB fB eB sA jB dB iB cB pA ⊢;refine(zAC _ Y1 (by omega)).mono ?_;rintro e w1 ⟨rfl,aA⟩;have rB:=za (bB.out.zRX aA);have cC:=za (fB.out.zRX aA);have sB:=za (eB.out.zRX aA);have bC:=za (sA.out.zRX aA);have kC:=za (jB.out.zRX aA);have fC:=za (dB.out.zRX aA);have mC:=za (iB.out.zRX aA);have gC:=za (cB.out.zRX aA);have dD:=za (pA.out.zRX aA);clear aA pA bB fB eB sA jB dB iB cB;obtain⟨p0,lA⟩:=rB.out;obtain⟨p1,mA⟩:=cC.out;obtain⟨p2,eA⟩:=sB.out;obtain⟨p3,gA⟩:=bC.out;obtain⟨p4,fA⟩:=kC.out;obtain⟨p5,iA⟩:=fC.out;obtain⟨p6,kA⟩:=mC.out;obtain⟨p7,dA⟩:=gC.out;go_wp2_with fail;clear p0 lA p1 mA p2 eA p3 gA p4 fA p5 iA p6 kA p7 dA;have rA:=za (rB.out.zRY (b':=bs) (o':=off+k*8+1) (.string (mtF (zM f k0 k+1))) (Or.inr (by omega)));have kB:=za (cC.out.set (.string (mtF (zM f k0 k+1))));have aB:=za (sB.out.zRY (b':=bs) (o':=off+k*8+1) (.string (mtF (zM f k0 k+1))) (Or.inr (by omega)));have tA:=za (bC.out.zRY (b':=bs) (o':=off+k*8+1) (.string (mtF (zM f k0 k+1))) (Or.inr (by omega)));have gB:=za (kC.out.zRY (b':=bs) (o':=off+k*8+1) (.string (mtF (zM f k0 k+1))) (Or.inr (by omega)));have nB:=za (fC.out.zRY (b':=bs) (o':=off+k*8+1) (.string (mtF (zM f k0 k+1))) (Or.inr (by omega)));have mB:=za (mC.out.zRY (b':=bs) (o':=off+k*8+1) (.string (mtF (zM f k0 k+1))) (Or.inr (by omega)));have lB:=za (gC.out.zRY (b':=bs) (o':=off+k*8+1) (.string (mtF (zM f k0 k+1))) (Or.inr (by omega)));have vA:=za (dD.out.set (off+k*8+1) (.string (mtF (zM f k0 k+1))) (by omega) (by omega));generalize (w1.setCell ⟨bs,off+k*8+1,none⟩ (.string (mtF (zM f k0 k+1))))=Y2 at rA kB aB tA gB nB mB lB vA ⊢;refine(zAC _ Y2 (by omega)).mono ?_;rintro e w2 ⟨rfl,bA⟩;have jC:=za (rA.out.zRX bA);have tB:=za (kB.out.zRX bA);have dC:=za (aB.out.zRX bA);have lC:=za (tA.out.zRX bA);have eC:=za (gB.out.zRX bA);have nC:=za (nB.out.zRX bA);have aC:=za (mB.out.zRX bA);have iC:=za (lB.out.zRX bA);have vC:=za (vA.out.zRX bA);clear bA vA rA kB aB tA gB nB mB lB;obtain⟨p0,lA⟩:=jC.out;obtain⟨p1,mA⟩:=tB.out;obtain⟨p2,eA⟩:=dC.out;obtain⟨p3,gA⟩:=lC.out;obtain⟨p4,fA⟩:=eC.out;obtain⟨p5,iA⟩:=nC.out;obtain⟨p6,kA⟩:=aC.out;obtain⟨p7,dA⟩:=iC.out;go_wp2_with fail;clear p0 lA p1 mA p2 eA p3 gA p4 fA p5 iA p6 kA p7 dA;have Ea:=za (((((jC.out.zRY (b':=bs) (o':=off+k*8+2) (.string (mtF (zM f k0 k+1+1))) (Or.inr (by omega))).zRY (b':=bs) (o':=off+k*8+3) (.int .i64 (zM f k0 k+1+1+1)) (Or.inr (by omega))).zRY (b':=bs) (o':=off+k*8+4) (.int .i64 (zM f k0 k+1+1+1+1)) (Or.inr (by omega))).zRY (b':=bs) (o':=off+k*8+5) (.int .i64 (zM f k0 k+1+1+1+1+1)) (Or.inr (by omega))).zRY (b':=bs) (o':=off+k*8+5+1) (.int .i64 (zM f k0 k+1+1+1+1+1+1)) (Or.inr (by omega)));have Eb:=za (((((tB.out.zRY (b':=bs) (o':=off+k*8+2) (.string (mtF (zM f k0 k+1+1))) (Or.inr (by omega))).zRY (b':=bs) (o':=off+k*8+3) (.int .i64 (zM f k0 k+1+1+1)) (Or.inr (by omega))).zRY (b':=bs) (o':=off+k*8+4) (.int .i64 (zM f k0 k+1+1+1+1)) (Or.inr (by omega))).zRY (b':=bs) (o':=off+k*8+5) (.int .i64 (zM f k0 k+1+1+1+1+1)) (Or.inr (by omega))).zRY (b':=bs) (o':=off+k*8+5+1) (.int .i64 (zM f k0 k+1+1+1+1+1+1)) (Or.inr (by omega)));have Ec:=za (((((dC.out.set (.string (mtF (zM f k0 k+1+1)))).zRY (b':=bs) (o':=off+k*8+3) (.int .i64 (zM f k0 k+1+1+1)) (Or.inr (by omega))).zRY (b':=bs) (o':=off+k*8+4) (.int .i64 (zM f k0 k+1+1+1+1)) (Or.inr (by omega))).zRY (b':=bs) (o':=off+k*8+5) (.int .i64 (zM f k0 k+1+1+1+1+1)) (Or.inr (by omega))).zRY (b':=bs) (o':=off+k*8+5+1) (.int .i64 (zM f k0 k+1+1+1+1+1+1)) (Or.inr (by omega)));have Ed:=za (((((lC.out.zRY (b':=bs) (o':=off+k*8+2) (.string (mtF (zM f k0 k+1+1))) (Or.inr (by omega))).set (.int .i64 (zM f k0 k+1+1+1))).zRY (b':=bs) (o':=off+k*8+4) (.int .i64 (zM f k0 k+1+1+1+1)) (Or.inr (by omega))).zRY (b':=bs) (o':=off+k*8+5) (.int .i64 (zM f k0 k+1+1+1+1+1)) (Or.inr (by omega))).zRY (b':=bs) (o':=off+k*8+5+1) (.int .i64 (zM f k0 k+1+1+1+1+1+1)) (Or.inr (by omega)));have Ee:=za (((((eC.out.zRY (b':=bs) (o':=off+k*8+2) (.string (mtF (zM f k0 k+1+1))) (Or.inr (by omega))).zRY (b':=bs) (o':=off+k*8+3) (.int .i64 (zM f k0 k+1+1+1)) (Or.inr (by omega))).set (.int .i64 (zM f k0 k+1+1+1+1))).zRY (b':=bs) (o':=off+k*8+5) (.int .i64 (zM f k0 k+1+1+1+1+1)) (Or.inr (by omega))).zRY (b':=bs) (o':=off+k*8+5+1) (.int .i64 (zM f k0 k+1+1+1+1+1+1)) (Or.inr (by omega)));have Ef:=za (((((nC.out.zRY (b':=bs) (o':=off+k*8+2) (.string (mtF (zM f k0 k+1+1))) (Or.inr (by omega))).zRY (b':=bs) (o':=off+k*8+3) (.int .i64 (zM f k0 k+1+1+1)) (Or.inr (by omega))).zRY (b':=bs) (o':=off+k*8+4) (.int .i64 (zM f k0 k+1+1+1+1)) (Or.inr (by omega))).set (.int .i64 (zM f k0 k+1+1+1+1+1))).zRY (b':=bs) (o':=off+k*8+5+1) (.int .i64 (zM f k0 k+1+1+1+1+1+1)) (Or.inr (by omega)));have Eg:=za (((((aC.out.zRY (b':=bs) (o':=off+k*8+2) (.string (mtF (zM f k0 k+1+1))) (Or.inr (by omega))).zRY (b':=bs) (o':=off+k*8+3) (.int .i64 (zM f k0 k+1+1+1)) (Or.inr (by omega))).zRY (b':=bs) (o':=off+k*8+4) (.int .i64 (zM f k0 k+1+1+1+1)) (Or.inr (by omega))).zRY (b':=bs) (o':=off+k*8+5) (.int .i64 (zM f k0 k+1+1+1+1+1)) (Or.inr (by omega))).set (.int .i64 (zM f k0 k+1+1+1+1+1+1)));have Eh:=za (((((iC.out.zRY (b':=bs) (o':=off+k*8+2) (.string (mtF (zM f k0 k+1+1))) (Or.inr (by omega))).zRY (b':=bs) (o':=off+k*8+3) (.int .i64 (zM f k0 k+1+1+1)) (Or.inr (by omega))).zRY (b':=bs) (o':=off+k*8+4) (.int .i64 (zM f k0 k+1+1+1+1)) (Or.inr (by omega))).zRY (b':=bs) (o':=off+k*8+5) (.int .i64 (zM f k0 k+1+1+1+1+1)) (Or.inr (by omega))).zRY (b':=bs) (o':=off+k*8+5+1) (.int .i64 (zM f k0 k+1+1+1+1+1+1)) (Or.inr (by omega)));have oA:=za (((((vC.out.set (off+k*8+2) (.string (mtF (zM f k0 k+1+1))) (by omega) (by omega)).set (off+k*8+3) (.int .i64 (zM f k0 k+1+1+1)) (by omega) (by omega)).set (off+k*8+4) (.int .i64 (zM f k0 k+1+1+1+1)) (by omega) (by omega)).set (off+k*8+5) (.int .i64 (zM f k0 k+1+1+1+1+1)) (by omega) (by omega)).set (off+k*8+5+1) (.int .i64 (zM f k0 k+1+1+1+1+1+1)) (by omega) (by omega));generalize (((((w2.setCell ⟨bs,off+k*8+2,none⟩ (.string (mtF (zM f k0 k+1+1)))).setCell ⟨bs,off+k*8+3,none⟩ (.int .i64 (zM f k0 k+1+1+1))).setCell ⟨bs,off+k*8+4,none⟩ (.int .i64 (zM f k0 k+1+1+1+1))).setCell ⟨bs,off+k*8+5,none⟩ (.int .i64 (zM f k0 k+1+1+1+1+1))).setCell ⟨bs,off+k*8+5+1,none⟩ (.int .i64 (zM f k0 k+1+1+1+1+1+1)))=Y at Ea Eb Ec Ed Ee Ef Eg Eh oA ⊢;refine(zDm (kb k) _ (f k).dn (f k).ds (f k).db _ Y (Hs.out.zRl.zRf oA.out.zRf (fun h0 hx=>Hs.out.zRk h0 hx)) (by omega) (by omega)).mono ?_;rintro e wz ⟨rfl,vB,pC⟩;have fD:=za vB;have pB:=za pC;clear vB pC;go_wp2;go_roundw
    case rel=>
     refine⟨k+1,by omega,by go_num,congrArg (Value.int .i64) (by show _=zM f k0 k+7+2*((f k).dn:Int);omega),fun j hj=>?_,?_⟩
     ·have st:=zN9 (s:=zBl f k0 k) cA.out (by
        intro i j hi hj cD h1 h2;rw[zNz]at h1 h2;exact eD.out i j hi hj cD h1 h2) nA oA.out (by rw[if_neg (Nat.lt_irrefl k)];exact pB.out) Ea.out Eb.out Ec.out Ed.out Ee.out Ef.out Eg.out (by rw[Hx.out];exact Eh.out) (by rw[if_neg (Nat.lt_irrefl k)];rfl) (by rw[Hx.out];exact fD.out) ⟨zF0 (by omega),zF0 (by omega)⟩ j hj
      by_cases e:j=k
      ·subst e;rw[if_pos rfl]at st;rw[if_pos (by omega)];exact st
      ·rw[if_neg e]at st;by_cases e2:j<k
       ·rw[if_pos e2]at st;rw[if_pos (by omega)];exact st
       ·rw[if_neg e2]at st;rw[if_neg (by omega)];exact st
     ·refine(ht.trans (oA.out.zRf.mono ?_)).trans (pB.out.mono ?_)
      ·rintro b rfl;exact Or.inl ⟨by omega,rfl⟩
      ·rintro b ⟨hb,rfl⟩;exact Or.inr ⟨k,nA,hb,rfl⟩
    case measure=>simp[intOf];omega
   ·obtain rfl:k=n:=(by omega);go_wp2;go_ret;refine⟨rfl,⟨aD,_,c,rfl,mc,fun _=>⟨off,rfl,fun i hi=>?_⟩⟩,ht⟩;have:=cA.out i hi;rw[if_pos hi]at this;exact this
def zNU(W:zH)(k0:Int):zH:={zRd:=zQf W.zRd k0,time:=W.time,next:=W.next,sn:=W.sn,zRg:=zCk W.zRg (zA8 W.zRd k0),pn:=W.pn,zRe:=zBl W.zRe (ze W.zRg (zA8 W.zRd k0) W.sn)}
def zAs(W:zH)(k0:Int):Int:=zM W.zRe (ze W.zRg (zA8 W.zRd k0) W.sn) W.pn
theorem zQc(p:zI)(k0:Int):k0<=zA8 p k0:=by
 unfold zA8;have:=zCq p.s k0 (Nat.zero_le p.n);have h0:qR p.s k0 0=k0:=rfl;omega
theorem zDg(W:zH)(k0:Int):k0<=zA8 W.zRd k0/\zA8 W.zRd k0<=ze W.zRg (zA8 W.zRd k0) W.sn/\ze W.zRg (zA8 W.zRd k0) W.sn<=zAs W k0:=
 ⟨zQc _ _,zDY W.zRg (zA8 W.zRd k0) (Nat.zero_le _),zCs W.zRe (ze W.zRg (zA8 W.zRd k0) W.sn) (Nat.zero_le _)⟩
theorem zFJ(lo hi:Nat)(v0 v1 v2 v3:Value)(W:zH)(k0:Int)(w:World)(h:qM w lo hi v0 v1 v2 v3 W)(lA:0<=k0)(gA:zAs W k0<=1000000000000) :
  Calls Tryz.prog 13 #[zz v0 v1 v2 v3 W,.int .i64 k0] w fun e w'=>e = .returned (.int .i64 (zAs W k0))/\qM w' lo hi v0 v1 v2 v3 (zNU W k0)/\zF (fun k=>lo<=k/\k<hi) w w':=by
 obtain⟨a0,c0,a1,c1,a2,c2,a3,c3,rfl,rfl,rfl,rfl⟩:=h.form;obtain⟨P,Q,R,⟨⟨bs,hb,kb,kv,s1,s2,s3,s4,s5⟩,⟨bt,kt,vt,t1,t2,t3⟩,⟨bp,kp,vp,p1,p2,p3⟩,pq,pr,qr⟩,hl⟩:=h;have S1:=za s1;have S2:=za s2;have S3:=za s3;have S4:=za s4;have S5:=za s5;have T1:=za t1;have T2:=za t2;have T3:=za t3;have P1:=za p1;have P2:=za p2;have P3:=za p3;have aA:=za (And.intro pq (And.intro pr (And.intro qr hl)));have HE:=za (zDg W k0);have HK:=za gA;have HB:=za (zi.zRZ w (.slice a0 W.zRd.n c0) (.slice a1 W.zRd.hn c1) (.int .i64 W.time) (.int .i64 W.next) (.slice a2 W.sn c2) (.slice a3 W.pn c3) 37);have ha:=zC w (.cells #[.slice a0 W.zRd.n c0,.slice a1 W.zRd.hn c1,.int .i64 W.time,.int .i64 W.next,.slice a2 W.sn c2,.slice a3 W.pn c3] 37);have NA:=za (show ∀k,ym bs kb W.zRd.n W.zRd.s k\/(0<W.zRd.hn/\k=hb)->k<w.heap.size from fun k hk=>by
  rcases hk with hk | ⟨h0,rfl⟩
  ·exact s1.lt hk
  ·obtain⟨_,_,_,_,_,h3,_⟩:=s3;obtain⟨o,_,h4⟩:=h3 h0;exact(h4 0 h0).lt)
 have NB:=za (show ∀k,zCN bt kt W.sn W.zRg k->k<w.heap.size from fun k hk=>t1.lt hk);have NC:=za (show ∀k,zCI bp kp W.pn W.zRe k->k<w.heap.size from fun k hk=>p1.lt hk);clear s1 s2 s3 s4 s5 t1 t2 t3 p1 p2 p3 pq pr qr hl gA;obtain⟨⟨x0,-⟩,⟨x1,-⟩,⟨x2,-⟩,⟨x3,-⟩,⟨x4,-⟩,⟨x5,-⟩⟩:=HB.out;go_enter Tryz.func13,Tryz.ntmps13;go_wp2_with fail;clear x0 x1 x2 x3 x4 x5;have kA:(w.alloc (.cells #[.slice a0 W.zRd.n c0,.slice a1 W.zRd.hn c1,.int .i64 W.time,.int .i64 W.next,.slice a2 W.sn c2,.slice a3 W.pn c3] 37)).heap.size=w.heap.size+1:=World.size_alloc _ _;have pA:=za kA;clear kA;generalize w.alloc (.cells #[.slice a0 W.zRd.n c0,.slice a1 W.zRd.hn c1,.int .i64 W.time,.int .i64 W.next,.slice a2 W.sn c2,.slice a3 W.pn c3] 37)=W0 at ha HB pA ⊢;refine(zKb bs hb kb kv _ _ W.zRd k0 W0 (S1.out.zRX ha) S2.out (S3.out.zRX ha) S4.out lA (by have h1:=HE.out;have h2:=HK.out;unfold zA8 at h1;omega)).mono ?_;rintro e w1 ⟨rfl,g1,g2,bA⟩;have G1:=za g1;have G2:=za g2;have nA:=za bA;have eA:=za (HB.out.zRf bA (fun x=>absurd (NA.out _ x) (by omega)));have rA:=za ((T1.out.zRX ha).zRf bA (fun k hk x=>aA.out.1 k (S5.out k x) (T3.out k hk)));have sA:=za ((P1.out.zRX ha).zRf bA (fun k hk x=>aA.out.2.1 k (S5.out k x) (P3.out k hk)));clear g1 g2 bA HB;obtain⟨⟨x0,-⟩,⟨x1,-⟩,⟨x2,-⟩,⟨x3,-⟩,⟨x4,-⟩,⟨x5,-⟩⟩:=eA.out;go_wp2_with fail;clear x0 x1 x2 x3 x4 x5;refine(zJ9 bt kt vt _ W.sn W.zRg _ w1 rA.out T2.out (by have h1:=HE.out;unfold zA8 at h1;omega) (by have h1:=HE.out;have h2:=HK.out;unfold zA8 at h1;omega)).mono ?_;rintro e w2 ⟨rfl,g3,dA⟩;have G3:=za g3;have fA:=za dA;have iA:¬zCN bt kt W.sn W.zRg w.heap.size:=fun x=>absurd (NB.out _ x) (by omega)
 have mA:=za (eA.out.zRf dA iA);have oA:=za (sA.out.zRf dA (fun k hk x=>aA.out.2.2.1 k (T3.out k x) (P3.out k hk)));clear g3 dA eA iA;obtain⟨⟨x0,-⟩,⟨x1,-⟩,⟨x2,-⟩,⟨x3,-⟩,⟨x4,-⟩,⟨x5,-⟩⟩:=mA.out;go_wp2_with fail;clear x0 x1 x2 x3 x4 x5;refine(zI4 bp kp vp _ W.pn W.zRe _ w2 oA.out P2.out (by have h1:=HE.out;unfold zA8 at h1;omega) (by have h1:=HE.out;have h2:=HK.out;unfold zAs zA8 at *;omega)).mono ?_;rintro e w3 ⟨rfl,g4,jA⟩;have G4:=za g4;have cA:=za jA;clear g4 jA;go_wp2;go_ret;refine⟨rfl,⟨P,Q,R,⟨⟨bs,hb,kb,kv,?_,S2.out,?_,S4.out,S5.out⟩,⟨bt,kt,vt,?_,T2.out,T3.out⟩,⟨bp,kp,vp,G4.out,P2.out,P3.out⟩,aA.out.1,aA.out.2.1,aA.out.2.2.1⟩,aA.out.2.2.2⟩,?_⟩
 ·refine(G1.out.zRf fA.out (fun h0 x=>?_) (fun i hi h0 x=>?_)).zRf cA.out (fun h0 x=>?_) (fun i hi h0 x=>?_)
  ·exact aA.out.1 _ (S5.out _ (Or.inl (Or.inl ⟨h0,rfl⟩))) (T3.out _ x)
  ·exact aA.out.1 _ (S5.out _ (Or.inl (Or.inr ⟨i,hi,h0,rfl⟩))) (T3.out _ x)
  ·exact aA.out.2.1 _ (S5.out _ (Or.inl (Or.inl ⟨h0,rfl⟩))) (P3.out _ x)
  ·exact aA.out.2.1 _ (S5.out _ (Or.inl (Or.inr ⟨i,hi,h0,rfl⟩))) (P3.out _ x)
 ·refine(G2.out.zRf fA.out (fun h0 x=>?_)).zRf cA.out (fun h0 x=>?_)
  ·exact aA.out.1 _ (S5.out _ (Or.inr ⟨h0,rfl⟩)) (T3.out _ x)
  ·exact aA.out.2.1 _ (S5.out _ (Or.inr ⟨h0,rfl⟩)) (P3.out _ x)
 ·exact G3.out.zRf cA.out (fun k hk x=>aA.out.2.2.1 k (T3.out k hk) (P3.out k x))
 ·refine(((zF.zRa ha).trans (nA.out.mono ?_)).trans (fA.out.mono ?_)).trans (cA.out.mono ?_)
  ·exact fun k hk=>aA.out.2.2.2 k (Or.inl (S5.out k hk))
  ·exact fun k hk=>aA.out.2.2.2 k (Or.inr (Or.inl (T3.out k hk)))
  ·exact fun k hk=>aA.out.2.2.2 k (Or.inr (Or.inr (P3.out k hk)))
theorem zGg(f:Nat->zL)(k0:Int):∀n,qR f k0 n<=k0+2*(n:Int)+2*(yn f n:Int)
 | 0=>by show k0<=_;omega
 | n+1=>by
  have:=zGg f k0 n;show qR f k0 n+2+2*((f n).kn:Int)<=k0+2*((n+1:Nat):Int)+2*((yn f n+((f n).kn+(f n).data.size):Nat):Int);omega
theorem zFR(f:Nat->qD)(k0:Int):∀n,ze f k0 n<=k0+5*(n:Int)+2*(zBL f n:Int)
 | 0=>by show k0<=_;omega
 | n+1=>by
  have:=zFR f k0 n;show ze f k0 n+5+2*((f n).dn:Int)<=k0+5*((n+1:Nat):Int)+2*((zBL f n+((f n).name.size+(f n).dn):Nat):Int);omega
theorem zEM(f:Nat->zl)(k0:Int):∀n,zM f k0 n<=k0+7*(n:Int)+2*(zA0 f n:Int)
 | 0=>by show k0<=_;omega
 | n+1=>by
  have:=zEM f k0 n;show zM f k0 n+7+2*((f n).dn:Int)<=k0+7*((n+1:Nat):Int)+2*((zA0 f n+((f n).name.size+(f n).set.size+(f n).dn):Nat):Int);omega
theorem zNN{W:zH}(h:yU W<=4000000):zAs W 1<=1000000000000/\0<=zAs W 1:=by
 have h1:=zGg W.zRd.s 1 W.zRd.n;have h2:=zDg W 1;have h3:=zFR W.zRg (zA8 W.zRd 1) W.sn;have h4:=zEM W.zRe (ze W.zRg (zA8 W.zRd 1) W.sn) W.pn;unfold yU qC at h;have h5:zA8 W.zRd 1=qR W.zRd.s 1 W.zRd.n+W.zRd.hn:=rfl;have h6:zAs W 1=zM W.zRe (ze W.zRg (zA8 W.zRd 1) W.sn) W.pn:=rfl;generalize zA8 W.zRd 1=e at *;generalize ze W.zRg e W.sn=s at *;omega
theorem zGq(a b c d:Int)(w:World) :
  Calls Tryz.prog 174 #[.agg #[.int .i64 a,.int .i64 b],.agg #[.int .i64 c,.int .i64 d]] w fun e w'=>zG (zCM a b c d) e/\Below w.heap.size w w':=by
 by_cases h1:a=c
 ·by_cases h2:b=d
  ·subst h1 h2;go_enter Tryz.func174,Tryz.ntmps174;go_wp2;go_ret;exact⟨zG.yes ⟨rfl,rfl⟩,((Below.refl _ _).alloc (Nat.le_refl _) _).alloc (by simp) _⟩
  ·subst h1;have hb:(b != d)=true:=(by simp[h2]);have H2:Hid (¬zCM a b a d):=fun h=>h2 h.2
   clear h2;go_enter Tryz.func174,Tryz.ntmps174;go_wp2;go_ret;exact⟨zG.no H2.out,((Below.refl _ _).alloc (Nat.le_refl _) _).alloc (by simp) _⟩
 ·have hb:(a != c)=true:=(by simp[h1]);have H2:Hid (¬zCM a b c d):=fun h=>h1 h.1
  clear h1;go_enter Tryz.func174,Tryz.ntmps174;go_wp2;go_ret;exact⟨zG.no H2.out,((Below.refl _ _).alloc (Nat.le_refl _) _).alloc (by simp) _⟩
theorem zKq(v v':Value)(n n' lo hi lo' hi':Nat)(f f':Nat->Int)(w:World)(h1:qV w lo hi v n f)(h2:qV w lo' hi' v' n' f') :
  Calls Tryz.prog 109 #[v,v'] w fun e w'=>zG (zMc n n' f f') e/\Below w.heap.size w w':=by
 obtain⟨m1,a,c,rfl,mc,g1⟩:=h1;obtain⟨m2,a',c',rfl,jA,g2⟩:=h2;unfold maxLen at m1 m2;by_cases hn:n=n'
 ·subst hn;have eA:((n:Int) != (n:Int))=false:=(by simp);go_enter Tryz.func109,Tryz.ntmps109;go_wp2
  go_loopw [5] (fun i wr=>∃k:Nat,k<=n/\i = .int .i64 k/\(∀j,j<k->f j=f' j)/\Below w.heap.size w wr) (fun i _=>n - (intOf i).toNat)
  case atStart=>exact⟨0,Nat.zero_le _,rfl,fun j h=>absurd h (Nat.not_lt_zero _),Below.refl _ _⟩
  case round=>
   obtain⟨k,hk,rfl,cA,hb⟩:=hrel;have bA:Hid (∀j,j<k->f j=f' j):=cA;clear cA;by_cases aA:k<n
   ·have fA:(k:Int)<(n:Int):=(by omega);obtain⟨b,off,rfl,_,_,k1⟩:=g1 (by omega);obtain⟨b',dA,rfl,_,_,k2⟩:=g2 (by omega);have iA:wr.cell? ⟨b,off+k,none⟩=some (.int .i64 (f k)):=(hb.cell (zD (k1 k aA))).trans (k1 k aA);have kA:wr.cell? ⟨b',dA+k,none⟩=some (.int .i64 (f' k)):=(hb.cell (zD (k2 k aA))).trans (k2 k aA);clear k1 k2 g1 g2;by_cases he:f k=f' k
    ·have gA:(f k != f' k)=false:=(by simp[he]);have He:Hid (f k=f' k):=he;clear he;go_wp2_with fail
     go_quiet (fail)
     go_wp2;go_roundw
     case rel=>exact⟨k+1,by omega,by go_num,zo aA bA.out He.out,zg hb _⟩
     case measure=>simp[intOf];omega
    ·have gA:(f k != f' k)=true:=(by simp[he]);have He:Hid (¬f k=f' k):=he;clear he;go_wp2_with fail
     go_quiet (fail)
     go_wp2;go_ret;exact⟨zG.no fun h=>He.out (h.2 k aA),zg hb _⟩
   ·go_wp2;go_ret;exact⟨zG.yes ⟨rfl,fun i hi=>bA.out i (by omega)⟩,hb⟩
 ·have eA:((n:Int) != (n':Int))=true:=(by simp;omega);have Hn:Hid (¬n=n'):=hn;clear hn;go_enter Tryz.func109,Tryz.ntmps109;go_wp2;go_ret;exact⟨zG.no fun h=>Hn.out h.1,Below.refl _ _⟩
theorem zFh(v v':Value)(n n' lo hi lo' hi':Nat)(f g f' g':Nat->Int)(w:World)(h1:zU w lo hi v n f g)(h2:zU w lo' hi' v' n' f' g') :
  Calls Tryz.prog 175 #[v,v'] w fun e w'=>zG (zMY n n' f g f' g') e/\Below w.heap.size w w':=by
 obtain⟨m1,a,c,rfl,mc,g1⟩:=h1;obtain⟨m2,a',c',rfl,nA,g2⟩:=h2;unfold maxLen at m1 m2;by_cases hn:n=n'
 ·subst hn;have mA:((n:Int) != (n:Int))=false:=(by simp);go_enter Tryz.func175,Tryz.ntmps175;go_wp2
  go_loopw [5] (fun i wr=>∃k:Nat,k<=n/\i = .int .i64 k/\(∀j,j<k->f j=f' j/\g j=g' j)/\Below w.heap.size w wr) (fun i _=>n - (intOf i).toNat)
  case atStart=>exact⟨0,Nat.zero_le _,rfl,fun j h=>absurd h (Nat.not_lt_zero _),Below.refl _ _⟩
  case round=>
   obtain⟨k,hk,rfl,eA,hb⟩:=hrel;have dA:Hid (∀j,j<k->f j=f' j/\g j=g' j):=eA;clear eA;by_cases bA:k<n
   ·have lA:(k:Int)<(n:Int):=(by omega);obtain⟨b,off,rfl,_,_,k1⟩:=g1 (by omega);obtain⟨b',aA,rfl,_,_,k2⟩:=g2 (by omega);have gA:wr.cell? ⟨b,off+k*2,none⟩=some (.int .i64 (f k)):=(hb.cell (zD (k1 k bA).1)).trans (k1 k bA).1;have fA:wr.cell? ⟨b,off+k*2+1,none⟩=some (.int .i64 (g k)):=(hb.cell (zD (k1 k bA).2)).trans (k1 k bA).2;have jA:wr.cell? ⟨b',aA+k*2,none⟩=some (.int .i64 (f' k)):=(hb.cell (zD (k2 k bA).1)).trans (k2 k bA).1;have iA:wr.cell? ⟨b',aA+k*2+1,none⟩=some (.int .i64 (g' k)):=(hb.cell (zD (k2 k bA).2)).trans (k2 k bA).2;clear k1 k2 g1 g2;go_wp2_with fail;go_region_held3 (fun w'=>w'.cell? ⟨b,off+k*2,none⟩=some (.int .i64 (f k))/\w'.cell? ⟨b,off+k*2+1,none⟩=some (.int .i64 (g k))/\w'.cell? ⟨b',aA+k*2,none⟩=some (.int .i64 (f' k))/\w'.cell? ⟨b',aA+k*2+1,none⟩=some (.int .i64 (g' k))) (go_keep)
     (first | (go_at_call 174;refine(zGq _ _ _ _ _).mono ?_;rintro e w1 ⟨⟨t,rfl,ht⟩,cA⟩;have z1:=(cA.cell (p:=⟨b,off+k*2,none⟩) (zD gA)).trans gA;have z2:=(cA.cell (p:=⟨b,off+k*2+1,none⟩) (zD fA)).trans fA;have z3:=(cA.cell (p:=⟨b',aA+k*2,none⟩) (zD jA)).trans jA;have z4:=(cA.cell (p:=⟨b',aA+k*2+1,none⟩) (zD iA)).trans iA))
    have Ht:Hid (t=true↔zCM (f k) (g k) (f' k) (g' k)):=ht;have kA:=qd hb cA;clear ht z1 z2 z3 z4 gA fA jA iA cA;cases t
    ·go_wp2;go_ret;exact⟨zG.no fun h=>absurd (Ht.out.2 (h.2 k bA)) (by simp),kA⟩
    ·go_wp2;go_roundw
     case rel=>exact⟨k+1,by omega,by go_num,zo bA dA.out (Ht.out.1 rfl),kA⟩
     case measure=>simp[intOf];omega
   ·go_wp2;go_ret;exact⟨zG.yes ⟨rfl,fun i hi=>dA.out i (by omega)⟩,hb⟩
 ·have mA:((n:Int) != (n':Int))=true:=(by simp;omega);have Hn:Hid (¬n=n'):=hn;clear hn;go_enter Tryz.func175,Tryz.ntmps175;go_wp2;go_ret;exact⟨zG.no fun h=>Hn.out h.1,Below.refl _ _⟩
theorem zNO(v0 v1 v2 u0 u1 u2:Value)(lo hi lo' hi':Nat)(s t:zL)(w:World)(h1:qG w lo hi v0 v1 v2 s)(h2:qG w lo' hi' u0 u1 u2 t) :
  Calls Tryz.prog 173 #[.agg #[v0,v1,v2],.agg #[u0,u1,u2]] w fun e w'=>zG (zEe s t) e/\Below w.heap.size w w':=by
 obtain⟨rfl,p1,rfl,m1⟩:=h1;obtain⟨rfl,p2,rfl,m2⟩:=h2;have q1:=p1;have q2:=p2;obtain⟨_,a,c,rfl,_⟩:=p1;obtain⟨_,a',c',rfl,_⟩:=p2;by_cases h1:s.zRi=t.zRi
 ·have hb:(s.zRi != t.zRi)=false:=(by simp[h1]);have H1:Hid (s.zRi=t.zRi):=h1;clear h1;go_enter Tryz.func173,Tryz.ntmps173;go_wp2_with fail;have aA:=((Below.refl w.heap.size w).alloc (Nat.le_refl _) (.cells #[.int .i64 s.zRi,.slice a s.kn c,.string s.data] 127)).alloc (by simp) (.cells #[.int .i64 t.zRi,.slice a' t.kn c',.string t.data] 127);refine(zFh _ _ _ _ _ _ _ _ _ _ _ _ _ (q1.zRX aA) (q2.zRX aA)).mono ?_;rintro e w1 ⟨⟨x,rfl,hx⟩,bA⟩;have Hx:Hid (x=true↔zMY s.kn t.kn s.ks s.kb t.ks t.kb):=hx;have cA:=zA aA bA;have e1:=bA.cell (p:=⟨w.heap.size,2,none⟩) (by simp;omega);have e2:=bA.cell (p:=⟨w.heap.size+1,2,none⟩) (by simp);simp at e1 e2;clear hx bA aA;cases x
  ·go_wp2;go_ret;exact⟨zG.no fun h=>absurd (Hx.out.2 h.2.1) (by simp),cA⟩
  ·by_cases h3:s.data=t.data
   ·have dA:=zCt h3;have H3:Hid (s.data=t.data):=h3;clear h3;go_wp2;go_ret;exact⟨zG.yes ⟨H1.out,(by simpa using Hx.out),H3.out⟩,cA⟩
   ·have dA:=zEP h3;have H3:Hid (¬s.data=t.data):=h3;clear h3;go_wp2;go_ret;exact⟨zG.no fun h=>H3.out h.2.2,cA⟩
 ·have hb:(s.zRi != t.zRi)=true:=(by simp[h1]);have H1:Hid (¬s.zRi=t.zRi):=h1;clear h1;go_enter Tryz.func173,Tryz.ntmps173;go_wp2;go_ret;exact⟨zG.no fun h=>H1.out h.1,((Below.refl _ _).alloc (Nat.le_refl _) _).alloc (by simp) _⟩
theorem zLd(v v':Value)(n n' lo hi lo' hi':Nat)(f f':Nat->zL)(w:World)(h1:qA w lo hi v n f)(h2:qA w lo' hi' v' n' f') :
  Calls Tryz.prog 108 #[v,v'] w fun e w'=>zG (zKi n n' f f') e/\Below w.heap.size w w':=by
 obtain⟨m1,a,c,rfl,mc,g1⟩:=h1;obtain⟨m2,a',c',rfl,vA,g2⟩:=h2;unfold maxLen at m1 m2;by_cases hn:n=n'
 ·subst hn;have pA:((n:Int) != (n:Int))=false:=(by simp);go_enter Tryz.func108,Tryz.ntmps108;go_wp2
  go_loopw [5] (fun i wr=>∃k:Nat,k<=n/\i = .int .i64 k/\(∀j,j<k->zEe (f j) (f' j))/\Below w.heap.size w wr) (fun i _=>n - (intOf i).toNat)
  case atStart=>exact⟨0,Nat.zero_le _,rfl,fun j h=>absurd h (Nat.not_lt_zero _),Below.refl _ _⟩
  case round=>
   obtain⟨k,hk,rfl,cA,hb⟩:=hrel;have dA:Hid (∀j,j<k->zEe (f j) (f' j)):=cA;clear cA;by_cases eA:k<n
   ·have tA:(k:Int)<(n:Int):=(by omega);obtain⟨b,off,rfl,_,_,k1⟩:=g1 (by omega);obtain⟨b',aA,rfl,_,_,k2⟩:=g2 (by omega);obtain⟨x0,x1,x2,c0,c1,c2,hs⟩:=k1 k eA;obtain⟨y0,y1,y2,d0,d1,d2,ht⟩:=k2 k eA;have lA:=(hb.cell (zD c0)).trans c0;have fA:=(hb.cell (zD c1)).trans c1;have kA:=(hb.cell (zD c2)).trans c2;have jA:=(hb.cell (zD d0)).trans d0;have gA:=(hb.cell (zD d1)).trans d1;have iA:=(hb.cell (zD d2)).trans d2;have oA:=hs.zRX hb;have nA:=ht.zRX hb;clear k1 k2 g1 g2 c0 c1 c2 d0 d1 d2 hs ht;have rA:=oA;have sA:=nA;obtain⟨rfl,⟨_,sa,sc,rfl,_⟩,rfl,_⟩:=rA;obtain⟨rfl,⟨_,ta,tc,rfl,_⟩,rfl,_⟩:=sA;go_wp2_with fail;go_region_held3 (fun w'=>w'.cell? ⟨b,off+k*3,none⟩=some (.int .i64 (f k).zRi)/\w'.cell? ⟨b,off+k*3+1,none⟩=some (.slice sa (f k).kn sc)/\w'.cell? ⟨b,off+k*3+2,none⟩=some (.string (f k).data)/\w'.cell? ⟨b',aA+k*3,none⟩=some (.int .i64 (f' k).zRi)/\w'.cell? ⟨b',aA+k*3+1,none⟩=some (.slice ta (f' k).kn tc)/\w'.cell? ⟨b',aA+k*3+2,none⟩=some (.string (f' k).data)) (go_keep)
     (first | (go_at_call 173;refine(zNO _ _ _ _ _ _ lo hi lo' hi' (f k) (f' k) _ ?_ ?_).mono ?_;(exact oA.zRX ((Below.refl _ _).drew));(exact nA.zRX ((Below.refl _ _).drew));rintro e w1 ⟨⟨t,rfl,hx⟩,bA⟩;have z1:=(bA.cell (p:=⟨b,off+k*3,none⟩) (zD lA)).trans lA;have z2:=(bA.cell (p:=⟨b,off+k*3+1,none⟩) (zD fA)).trans fA;have z3:=(bA.cell (p:=⟨b,off+k*3+2,none⟩) (zD kA)).trans kA;have y1:=(bA.cell (p:=⟨b',aA+k*3,none⟩) (zD jA)).trans jA;have y2:=(bA.cell (p:=⟨b',aA+k*3+1,none⟩) (zD gA)).trans gA;have y3:=(bA.cell (p:=⟨b',aA+k*3+2,none⟩) (zD iA)).trans iA))
    have Ht:Hid (t=true↔zEe (f k) (f' k)):=hx;have mA:=qd hb bA;clear hx z1 z2 z3 y1 y2 y3 lA fA kA jA gA iA bA;cases t
    ·go_wp2;go_ret;exact⟨zG.no fun h=>absurd (Ht.out.2 (h.2 k eA)) (by simp),mA⟩
    ·go_wp2;go_roundw
     case rel=>exact⟨k+1,by omega,by go_num,zo eA dA.out (Ht.out.1 rfl),mA⟩
     case measure=>simp[intOf];omega
   ·go_wp2;go_ret;exact⟨zG.yes ⟨rfl,fun i hi=>dA.out i (by omega)⟩,hb⟩
 ·have pA:((n:Int) != (n':Int))=true:=(by simp;omega);have Hn:Hid (¬n=n'):=hn;clear hn;go_enter Tryz.func108,Tryz.ntmps108;go_wp2;go_ret;exact⟨zG.no fun h=>Hn.out h.1,Below.refl _ _⟩
theorem zMu(v0 v1 u0 u1:Value)(lo hi lo' hi':Nat)(p q:zI)(w:World)(h1:zu w lo hi v0 v1 p)(h2:zu w lo' hi' u0 u1 q) :
  Calls Tryz.prog 39 #[.agg #[v0,v1],.agg #[u0,u1]] w fun e w'=>zG (zJ3 p q) e/\Below w.heap.size w w':=by
 have q1:=h1;have q2:=h2;obtain⟨⟨_,a,c,rfl,_⟩,⟨_,a1,c1,rfl,_⟩⟩:=h1;obtain⟨⟨_,b,d,rfl,_⟩,⟨_,b1,d1,rfl,_⟩⟩:=h2;go_enter Tryz.func39,Tryz.ntmps39;go_wp2_with fail;have bA:=((Below.refl w.heap.size w).alloc (Nat.le_refl _) (.cells #[.slice a p.n c,.slice a1 p.hn c1] 33)).alloc (by simp) (.cells #[.slice b q.n d,.slice b1 q.hn d1] 33);refine(zLd _ _ _ _ _ _ _ _ _ _ _ (q1.1.zRX bA) (q2.1.zRX bA)).mono ?_;rintro e w1 ⟨⟨x,rfl,hx⟩,cA⟩;have Hx:Hid (x=true↔zKi p.n q.n p.s q.s):=hx;have aA:=zA bA cA;have e1:=cA.cell (p:=⟨w.heap.size,1,none⟩) (by simp;omega);have e2:=cA.cell (p:=⟨w.heap.size+1,1,none⟩) (by simp);simp at e1 e2;clear hx cA bA;cases x
 ·go_wp2;go_ret;exact⟨zG.no fun h=>absurd (Hx.out.2 h.1) (by simp),aA⟩
 ·go_wp2_with fail;refine(zKq _ _ _ _ _ _ _ _ _ _ _ (q1.2.zRX aA) (q2.2.zRX aA)).mono ?_;rintro e w2 ⟨⟨y,rfl,hy⟩,dA⟩;have Hy:Hid (y=true↔zMc p.hn q.hn p.h q.h):=hy;have eA:=zA aA dA;clear hy dA aA;cases y
  ·go_wp2;go_ret;exact⟨zG.no fun h=>absurd (Hy.out.2 h.2) (by simp),eA⟩
  ·go_wp2;go_ret;exact⟨zG.yes ⟨(by simpa using Hx.out),(by simpa using Hy.out)⟩,eA⟩
end Go.Proofs.YtmgeglgboadfiaaGreatDoor
