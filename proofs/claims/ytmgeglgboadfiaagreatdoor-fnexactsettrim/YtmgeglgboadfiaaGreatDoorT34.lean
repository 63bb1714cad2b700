/- One of a row of sets or snapshots is turned (no law is proved here). -/
import Derived.Test.YtmgeglgboadfiaaGreatDoorT18
set_option linter.unusedVariables false
set_option maxRecDepth 20000
set_option maxHeartbeats 4000000
namespace Go.Proofs.YtmgeglgboadfiaaGreatDoor
open Go.RowKit
structure yw(bs o n:Nat)(w w':World):Prop where
 zRR:zF(fun b=>b=bs) w w'
 kept:∀x v,(x<o\/o+n<=x)->zX w bs x v->zX w' bs x v
theorem yw.refl(bs o n:Nat)(w:World):yw bs o n w w:=⟨zF.refl _ _,fun _ _ _ h=>h⟩
theorem yw.set{bs o n:Nat}{w w':World}(h:yw bs o n w w')(x:Nat)(u:Value)(h1:o<=x)(h2:x<o+n):yw bs o n w(w'.setCell ⟨bs,x,none⟩ u):=
 ⟨h.zRR.setCell(p:=⟨bs,x,none⟩) rfl u,fun y v hy hc=>(h.kept y v hy hc).zRK u(Or.inr(by omega))⟩
theorem yw.zRJ{bs o n:Nat}{w w' w2:World}(h:yw bs o n w w')(t:Below w'.heap.size w' w2):yw bs o n w w2:=
 ⟨h.zRR.trans(zF.zRM t),fun y v hy hc=>(h.kept y v hy hc).zRJ t⟩
theorem zPn{w w1 w2:World}{bs off n k:Nat}{kb:Nat->Nat}{kv:Nat->Value}{f:Nat->qC}{s:qC}(h:∀j,j<n->zAE w bs(off+j*6)(kb j)(kv j)(f j))(bA:zBJ kb n f)(hk:k<n)
  (r:yw bs(off+k*6) 6 w w1)(t:zF(fun b=>0<(f k).dn/\b=kb k) w1 w2)(c0:zX w1 bs(off+k*6)(.string s.name))(c1:zX w1 bs((off+k*6)+1)(.int .i64 s.origin))(c2:zX w1 bs((off+k*6)+2)(.int .i64 s.zRT))(c3:zX w1 bs((off+k*6)+3)(.int .i64 s.rs))(c4:zX w1 bs((off+k*6)+4)(.int .i64 s.rb))(c5:zX w1 bs(off+k*6+5)(kv k))(cA:s.dn=(f k).dn)(hp:zj w2(kb k)(kv k) s.dn s.ds s.db)(hs:s.name.size<=maxLen) :
  ∀j,j<n->zAE w2 bs(off+j*6)(kb j)(kv j)(if j=k then s else f j):=by
 intro j hj;have nb:¬(0<(f k).dn/\bs=kb k):=fun hx=>(h k hk).zRW hx.1 hx.2.symm
 by_cases e:j=k
 ·subst e;rw [if_pos rfl];exact⟨c0.zRR t nb,c1.zRR t nb,c2.zRR t nb,c3.zRR t nb,c4.zRR t nb,c5.zRR t nb,hp,hs,by rw [cA];exact(h j hj).zRW⟩
 ·rw [if_neg e];have aA:=h j hj;refine⟨(r.kept _ _(by omega) aA.c0).zRR t nb,(r.kept _ _(by omega) aA.c1).zRR t nb,(r.kept _ _(by omega) aA.c2).zRR t nb,(r.kept _ _(by omega) aA.c3).zRR t nb,(r.kept _ _(by omega) aA.c4).zRR t nb,(r.kept _ _(by omega) aA.c5).zRR t nb,?_,aA.zRZ,aA.zRW⟩;exact(aA.zRX.zRR r.zRR(fun h0 hx=>aA.zRW h0 hx)).zRR t(fun h0 hx=>bA j k hj hk e h0 hx.1 hx.2)
theorem zOa{w w1 w2:World}{bs off n k:Nat}{kb:Nat->Nat}{kv:Nat->Value}{f:Nat->zm}{s:zm}(h:∀j,j<n->zAG w bs(off+j*8)(kb j)(kv j)(f j))(bA:zA6 kb n f)(hk:k<n)
  (r:yw bs(off+k*8) 8 w w1)(t:zF(fun b=>0<(f k).dn/\b=kb k) w1 w2)(c0:zX w1 bs(off+k*8)(.int .i64 s.id))(c1:zX w1 bs((off+k*8)+1)(.string s.name))(c2:zX w1 bs((off+k*8)+2)(.string s.set))(c3:zX w1 bs((off+k*8)+3)(.int .i64 s.zRT))(c4:zX w1 bs((off+k*8)+4)(.int .i64 s.time))(c5:zX w1 bs((off+k*8)+5)(.int .i64 s.rs))(c6:zX w1 bs((off+k*8)+6)(.int .i64 s.rb))(c7:zX w1 bs(off+k*8+7)(kv k))(cA:s.dn=(f k).dn)(hp:zj w2(kb k)(kv k) s.dn s.ds s.db)(hs:s.name.size<=maxLen/\s.set.size<=maxLen) :
  ∀j,j<n->zAG w2 bs(off+j*8)(kb j)(kv j)(if j=k then s else f j):=by
 intro j hj;have nb:¬(0<(f k).dn/\bs=kb k):=fun hx=>(h k hk).zRW hx.1 hx.2.symm
 by_cases e:j=k
 ·subst e;rw [if_pos rfl];exact⟨c0.zRR t nb,c1.zRR t nb,c2.zRR t nb,c3.zRR t nb,c4.zRR t nb,c5.zRR t nb,c6.zRR t nb,c7.zRR t nb,hp,hs,by rw [cA];exact(h j hj).zRW⟩
 ·rw [if_neg e];have aA:=h j hj;refine⟨(r.kept _ _(by omega) aA.c0).zRR t nb,(r.kept _ _(by omega) aA.c1).zRR t nb,(r.kept _ _(by omega) aA.c2).zRR t nb,(r.kept _ _(by omega) aA.c3).zRR t nb,(r.kept _ _(by omega) aA.c4).zRR t nb,(r.kept _ _(by omega) aA.c5).zRR t nb,(r.kept _ _(by omega) aA.c6).zRR t nb,(r.kept _ _(by omega) aA.c7).zRR t nb,?_,aA.zRZ,aA.zRW⟩;exact(aA.zRX.zRR r.zRR(fun h0 hx=>aA.zRW h0 hx)).zRR t(fun h0 hx=>bA j k hj hk e h0 hx.1 hx.2)
def zBE(k:Nat)(out:ByteArray):ByteArray:=
 if h:k=0 then out else zBE(k / 10)(⟨#[48+UInt8.ofNat(k % 10)]⟩ ++ out)
termination_by k
decreasing_by omega
def mtF(k:Int):ByteArray:=if k<=0 then⟨#[109,48]⟩else⟨#[109]⟩ ++ zBE k.toNat ⟨#[]⟩
theorem zLd{n:Nat}(h:(n:Int)<=1000000000000):n<10 ^ (13 - (⟨#[]⟩:ByteArray).size):=by
 show n<10 ^ 13;omega
theorem zK4(x:UInt8)(out:ByteArray):((⟨#[x]⟩:ByteArray) ++ out).size=out.size+1:=by
 rw [ByteArray.size_append];show 1+out.size=_;omega
theorem zOh{m:Nat}{out:ByteArray}(h:m<10 ^ (13 - out.size)):m<=10000000000000:=by
 have h2:10 ^ (13 - out.size)<=10 ^ 13:=Nat.pow_le_pow_right(by omega)(by omega);omega
theorem zNY{m:Nat}{out:ByteArray}(x:UInt8)(h0:¬m=0)(h:m<10 ^ (13 - out.size))(h2:out.size<=13) :
  m / 10<10 ^ (13 - ((⟨#[x]⟩:ByteArray) ++ out).size)/\((⟨#[x]⟩:ByteArray) ++ out).size<=13:=by
 rw [zK4];by_cases e:out.size=13
 ·rw [e] at h;simp at h;omega
 ·obtain⟨j,hj⟩:∃j,13 - out.size=j+1:=⟨12 - out.size,by omega⟩;rw [hj,Nat.pow_succ] at h;have:13 - (out.size+1)=j:=(by omega);rw [this];exact⟨by omega,by omega⟩
theorem zPz{m:Nat}{out:ByteArray}(h0:¬m=0):zBE(m / 10)(⟨#[48+UInt8.ofNat(m % 10)]⟩ ++ out)=zBE m out:=by
 conv=>rhs;rw [zBE]
 rw [dif_neg h0]
theorem zQG(m:Nat):∀(out:ByteArray),m<10 ^ (13 - out.size)->out.size<=13->(zBE m out).size<=13:=by
 induction m using Nat.strongRecOn with
 |_ m ih=>
  intro out h h2;by_cases h0:m=0
  ·rw [zBE,dif_pos h0];exact h2
  ·rw [zBE,dif_neg h0];have:=zNY(48+UInt8.ofNat(m % 10)) h0 h h2;exact ih(m / 10)(by omega) _ this.1 this.2
theorem zFn{k:Int}(hk:k<=1000000000000):(mtF k).size<=maxLen:=by
 unfold mtF maxLen;split
 ·decide
 ·have h:(zBE k.toNat ⟨#[]⟩).size<=13:=zQG _ _(zLd(by omega))(Nat.zero_le _);rw [zK4];omega
theorem zOu(w:World)(n:Int):(convert 216 9(.slice(some ⟨w.heap.size,0,none⟩) 1 1)).run Tryz.prog(w.alloc(.cells #[.int .u8 n] 5)) = .ok(.string ⟨#[UInt8.ofNat n.toNat]⟩)(w.alloc(.cells #[.int .u8 n] 5)):=
 run_convert_bytes_arg(P:=Tryz.prog)(w.alloc(.cells #[.int .u8 n] 5)) 216 5(by kernel_rfl)(by kernel_rfl) w.heap.size 0 1 1 [n] rfl(fun i hi=>by
  obtain rfl:i=0:=(by omega);simp) 9(by kernel_rfl)
theorem zAB(k:Int)(w:World)(hk:k<=1000000000000) :
  Calls Tryz.prog 114 #[.int .i64 k] w fun e w'=>e = .returned(.string(mtF k))/\Below w.heap.size w w':=by
 by_cases h0:k<=0
 ·have hm:Hid(mtF k=⟨#[109,48]⟩):=if_pos h0;go_enter Tryz.func114,Tryz.ntmps114;go_wp2;go_ret;exact⟨by rw [hm.out];rfl,Below.refl _ _⟩
 ·obtain⟨n,rfl⟩:=Int.eq_ofNat_of_zero_le(by omega:0<=k);have hm:Hid(mtF(n:Int)=⟨#[109]⟩ ++ zBE n ⟨#[]⟩):=if_neg h0;have bA:Hid(n<10 ^ (13 - (⟨#[]⟩:ByteArray).size)):=zLd hk;have eA:=zOu;go_enter Tryz.func114,Tryz.ntmps114;go_wp2
  go_loopw [0,3](fun v s wr=>∃(m:Nat)(out:ByteArray),v = .int .i64 m/\s = .string out/\m<10 ^ (13 - out.size)/\out.size<=13/\zBE m out=zBE n ⟨#[]⟩/\Below w.heap.size w wr)(fun v _ _=>(intOf v).toNat)
  case atStart=>exact⟨n,⟨#[]⟩,rfl,rfl,bA.out,Nat.zero_le _,rfl,Below.refl _ _⟩
  case round=>
   obtain⟨m,out,rfl,rfl,hm1,hm2,hm3,hb⟩:=hrel;have aA:Hid(m<10 ^ (13 - out.size)/\zBE m out=zBE n ⟨#[]⟩):=⟨hm1,hm3⟩;have cA:=zOh hm1;clear hm1 hm3;by_cases hz:m=0
   ·subst hz;go_wp2;go_ret;refine⟨?_,hb⟩;have e1:=aA.out.2;rw [zBE,dif_pos rfl] at e1;rw [hm.out,<-e1];rfl
   ·have dA:(0:Int)<(m:Int):=(by omega);have Hz:Hid(¬m=0):=hz;clear hz;go_wp2;go_roundw
    case rel=>
     have hn:=zNY(48+UInt8.ofNat(m % 10)) Hz.out aA.out.1 hm2;exact⟨m / 10,_,by go_num,rfl,hn.1,hn.2,(zPz Hz.out).trans aA.out.2,hb.alloc hb.size _⟩
    case measure=>simp [intOf];omega
theorem za{P:Prop}(h:P):Hid P:=h
def zAo(b:Nat)(w w':World):Prop:=∀cur,w.heap[b]?=some(.cells cur 2(0,0))->∃cur',w'.heap[b]?=some(.cells cur' 2(0,0))/\cur'.size=cur.size
theorem zAo.refl(b:Nat)(w:World):zAo b w w:=fun aA h=>⟨aA,h,rfl⟩
theorem zAo.set{b:Nat}{w w':World}(h:zAo b w w')(o:Nat)(u:Value):zAo b w(w'.setCell ⟨b,o,none⟩ u):=fun bA hc=>by
 obtain⟨aA,h1,h2⟩:=h bA hc;exact⟨aA.setIfInBounds o u,zAU u h1,by simpa using h2⟩
theorem zAo.room{b:Nat}{w w':World}{a:Option Addr}{n c:Nat}(h:zAo b w w')(hr:zQf w b a n c):zQf w' b a n c:=fun bA=>by
 obtain⟨r0,r1,r2,cur,r3,r4⟩:=hr bA;obtain⟨aA,h1,h2⟩:=h cur r3;exact⟨r0,r1,r2,aA,h1,by omega⟩
theorem zHv(b:Nat)(v:Value)(n:Nat)(f:Nat->Int)(k0:Int)(w:World)(h1:qj w b v n f)(jA:0<=k0)(kA:k0+n<=1000000000000) :
  Calls Tryz.prog 113 #[v,.int .i64 k0] w fun e w'=>e = .returned(.int .i64(k0+n))/\qj w' b v n(fun i=>k0+i)/\zF(fun k=>0<n/\k=b) w w':=by
 have dA:=h1;obtain⟨m1,a,c,rfl,mc,g1,hroom⟩:=h1;have bA:=za hroom;clear hroom;by_cases gA:n=0
 ·subst gA;go_enter Tryz.func113,Tryz.ntmps113;go_wp2;refine wp_loop_rounds 1 ?_;rw [rounds_succ];go_wp2;go_ret;exact⟨by simp,⟨m1,a,c,rfl,mc,fun h=>absurd h(by omega),bA.out⟩,zF.refl _ _⟩
 ·obtain⟨off,rfl,g2⟩:=g1(by omega);clear g1;have iA:=m1;unfold maxLen at m1;have G2:Hid(∀i,i<n->zX w b(off+i)(.int .i64(f i))):=g2;clear g2 dA;go_enter Tryz.func113,Tryz.ntmps113;go_wp2
  go_loopw [1,5](fun m i wr=>∃k:Nat,k<=n/\i = .int .i64 k/\m = .int .i64(k0+k)/\(∀j,j<n->zX wr b(off+j)(.int .i64(if j<k then k0+j else f j)))/\zF(fun k=>0<n/\k=b) w wr/\zAo b w wr)(fun _ i _=>n - (intOf i).toNat)
  case atStart=>exact⟨0,Nat.zero_le _,rfl,by simp,fun j hj=>by simpa using G2.out j hj,zF.refl _ _,zAo.refl _ _⟩
  case round=>
   obtain⟨k,hk,rfl,rfl,hall,ht,hsh⟩:=hrel;have cA:=za hsh;clear hsh;have aA:Hid(∀j,j<n->zX wr b(off+j)(.int .i64(if j<k then k0+j else f j))):=hall;clear hall;by_cases eA:k<n
   ·have fA:(k:Int)<(n:Int):=(by omega);obtain⟨hc,hf⟩:=aA.out k eA;go_wp2;go_roundw
    case rel=>
     refine⟨k+1,by omega,by go_num,by go_num,fun j hj=>?_,ht.setCell ⟨by omega,rfl⟩ _,cA.out.set _ _⟩;by_cases e:j=k
     ·subst e;rw [if_pos(by omega)];exact(aA.out j hj).set _
     ·have:=(aA.out j hj).zRK(b':=b)(o':=off+k)(.int .i64(k0+k))(Or.inr(by omega));by_cases e2:j<k
      ·rw [if_pos(by omega)];rw [if_pos e2] at this;exact this
      ·rw [if_neg(by omega)];rw [if_neg e2] at this;exact this
    case measure=>simp [intOf];omega
   ·obtain rfl:k=n:=(by omega);go_wp2;go_ret;refine⟨rfl,⟨iA,_,c,rfl,mc,fun _=>⟨off,rfl,fun i hi=>?_⟩,cA.out.room bA.out⟩,ht⟩;have:=aA.out i hi;rw [if_pos hi] at this;exact this
theorem zDo(b:Nat)(v:Value)(n:Nat)(f g:Nat->Int)(k0:Int)(w:World)(h1:zj w b v n f g)(gA:0<=k0)(iA:k0+2*n<=1000000000000) :
  Calls Tryz.prog 115 #[v,.int .i64 k0] w fun e w'=>e = .returned(.int .i64(k0+2*n))/\zj w' b v n(fun i=>k0+2*i)(fun i=>k0+2*i+1)/\zF(fun k=>0<n/\k=b) w w':=by
 have bA:=h1;obtain⟨m1,a,c,rfl,mc,g1⟩:=h1;by_cases eA:n=0
 ·subst eA;go_enter Tryz.func115,Tryz.ntmps115;go_wp2;refine wp_loop_rounds 1 ?_;rw [rounds_succ];go_wp2;go_ret;exact⟨by simp,⟨m1,a,c,rfl,mc,fun h=>absurd h(by omega)⟩,zF.refl _ _⟩
 ·obtain⟨off,rfl,g2⟩:=g1(by omega);clear g1;have fA:=m1;unfold maxLen at m1;have G2:Hid(∀i,i<n->zX w b(off+i*2)(.int .i64(f i))/\zX w b(off+i*2+1)(.int .i64(g i))):=g2;clear g2 bA;go_enter Tryz.func115,Tryz.ntmps115;go_wp2
  go_loopw [1,5](fun m i wr=>∃k:Nat,k<=n/\i = .int .i64 k/\m = .int .i64(k0+2*k)/\(∀j,j<n->zX wr b(off+j*2)(.int .i64(if j<k then k0+2*j else f j))/\zX wr b(off+j*2+1)(.int .i64(if j<k then k0+2*j+1 else g j)))/\zF(fun k=>0<n/\k=b) w wr)(fun _ i _=>n - (intOf i).toNat)
  case atStart=>exact⟨0,Nat.zero_le _,rfl,by simp,fun j hj=>by simpa using G2.out j hj,zF.refl _ _⟩
  case round=>
   obtain⟨k,hk,rfl,rfl,hall,ht⟩:=hrel;have aA:Hid(∀j,j<n->zX wr b(off+j*2)(.int .i64(if j<k then k0+2*j else f j))/\zX wr b(off+j*2+1)(.int .i64(if j<k then k0+2*j+1 else g j))):=hall;clear hall;by_cases cA:k<n
   ·have dA:(k:Int)<(n:Int):=(by omega);obtain⟨⟨hc,hf⟩,⟨hc2,hf2⟩⟩:=aA.out k cA;go_wp2;go_roundw
    case rel=>
     refine⟨k+1,by omega,by go_num,by go_num,fun j hj=>?_,(ht.setCell ⟨by omega,rfl⟩ _).setCell ⟨by omega,rfl⟩ _⟩;by_cases e:j=k
     ·subst e;rw [if_pos(by omega),if_pos(by omega)];exact⟨((aA.out j hj).1.set _).zRK _(Or.inr(by omega)),((aA.out j hj).2.zRK _(Or.inr(by omega))).set _⟩
     ·have t1:=((aA.out j hj).1.zRK(b':=b)(o':=off+k*2)(.int .i64(k0+2*k))(Or.inr(by omega))).zRK(b':=b)(o':=off+k*2+1)(.int .i64(k0+2*k+1))(Or.inr(by omega));have t2:=((aA.out j hj).2.zRK(b':=b)(o':=off+k*2)(.int .i64(k0+2*k))(Or.inr(by omega))).zRK(b':=b)(o':=off+k*2+1)(.int .i64(k0+2*k+1))(Or.inr(by omega));by_cases e2:j<k
      ·rw [if_pos(by omega),if_pos(by omega)];rw [if_pos e2] at t1 t2;exact⟨t1,t2⟩
      ·rw [if_neg(by omega),if_neg(by omega)];rw [if_neg e2] at t1 t2;exact⟨t1,t2⟩
    case measure=>simp [intOf];omega
   ·obtain rfl:k=n:=(by omega);go_wp2;go_ret;refine⟨rfl,⟨fA,_,c,rfl,mc,fun _=>⟨off,rfl,fun i hi=>?_⟩⟩,ht⟩;have:=aA.out i hi;rw [if_pos hi,if_pos hi] at this;exact this
def qU(f:Nat->zL)(k0:Int):Nat->Int
 |0=>k0
 |j+1=>qU f k0 j+2+2*(f j).kn
def zQj(s:zL)(c:Int):zL:={zRU:=c,kn:=s.kn,ks:=fun i=>c+1+2*i,kb:=fun i=>c+1+2*i+1,data:=mtF(c+1+2*s.kn)}
theorem zIF(f:Nat->zL)(k0:Int)(j:Nat):∀m,qU f k0 j<=qU f k0(j+m)
 |0=>Int.le_refl _
 |m+1=>by
  have:=zIF f k0 j m;show _<=qU f k0(j+m)+2+2*((f(j+m)).kn:Int);omega
theorem zCX(f:Nat->zL)(k0:Int){j n:Nat}(h:j<=n):qU f k0 j<=qU f k0 n:=by
 obtain⟨m,rfl⟩:=Nat.exists_eq_add_of_le h;exact zIF f k0 j m
def zEK(f:Nat->zL)(k0:Int)(j:Nat):zL:=zQj(f j)(qU f k0 j)
theorem zMg{w w1 w2:World}{bs off:Nat}{kb:Nat->Nat}{kv:Nat->Value}{n k:Nat}{f:Nat->zL}{s':zL}
  (h:∀j,j<n->yy w bs(off+j*3)(kb j)(kv j)(f j))(cA:yS kb n f)(hk:k<n)
  (t1:zF(fun b=>0<(f k).kn/\b=kb k)(w.setCell ⟨bs,off+k*3,none⟩(.int .i64 s'.zRU)) w1)(t2:Below w1.heap.size w1 w2)
  (bA:s'.kn=(f k).kn)(hp:zj w1(kb k)(kv k) s'.kn s'.ks s'.kb)(hs:s'.data.size<=maxLen) :
  ∀j,j<n->yy(w2.setCell ⟨bs,off+k*3+2,none⟩(.string s'.data)) bs(off+j*3)(kb j)(kv j)(if j=k then s' else f j):=by
 intro j hj;have nb:¬(0<(f k).kn/\bs=kb k):=fun hx=>(h k hk).zRW hx.1 hx.2.symm
 by_cases e:j=k
 ·subst e;rw [if_pos rfl];have aA:=h j hj;refine⟨?_,?_,?_,?_,hs,?_⟩
  ·exact(((aA.zRU.set _).zRR t1 nb).zRJ t2).zRK _(Or.inr(by omega))
  ·exact(((aA.kidsv.zRK _(Or.inr(by omega))).zRR t1 nb).zRJ t2).zRK _(Or.inr(by omega))
  ·exact(((aA.data.zRK _(Or.inr(by omega))).zRR t1 nb).zRJ t2).set _
  ·refine(hp.zRJ t2).zRR(zF.put _ _ _ _)(fun h0 hx=>?_);exact aA.zRW(bA▸h0) hx
  ·rw [bA];exact aA.zRW
 ·rw [if_neg e];have aA:=h j hj;have c0:=aA.zRU.zRK(b':=bs)(o':=off+k*3)(.int .i64 s'.zRU)(Or.inr(by omega));have c1:=aA.kidsv.zRK(b':=bs)(o':=off+k*3)(.int .i64 s'.zRU)(Or.inr(by omega));have c2:=aA.data.zRK(b':=bs)(o':=off+k*3)(.int .i64 s'.zRU)(Or.inr(by omega));have c3:=aA.kids.zRR(zF.put w bs(off+k*3)(.int .i64 s'.zRU))(fun h0 hx=>aA.zRW h0 hx);refine⟨?_,?_,?_,?_,aA.zRZ,aA.zRW⟩
  ·exact((c0.zRR t1 nb).zRJ t2).zRK _(Or.inr(by omega))
  ·exact((c1.zRR t1 nb).zRJ t2).zRK _(Or.inr(by omega))
  ·exact((c2.zRR t1 nb).zRJ t2).zRK _(Or.inr(by omega))
  ·refine((c3.zRR t1(fun h0 hx=>cA j k hj hk e h0 hx.1 hx.2)).zRJ t2).zRR(zF.put _ _ _ _)(fun h0 hx=>aA.zRW h0 hx)
theorem zNr(f:Nat->zL)(k0:Int)(j:Nat):(if j<0 then zEK f k0 j else f j)=f j:=if_neg(by omega)
theorem zQe(f:Nat->zL)(k0:Int)(k j:Nat):(if j<k then zEK f k0 j else f j).kn=(f j).kn:=by split<;>rfl
theorem zI9(bs:Nat)(kb:Nat->Nat)(kv:Nat->Value)(v:Value)(n:Nat)(f:Nat->zL)(k0:Int)(w:World)(h1:qW w bs kb kv v n f)(dA:yS kb n f)(tA:0<=k0)(eA:qU f k0 n<=1000000000000) :
  Calls Tryz.prog 112 #[v,.int .i64 k0] w fun e w'=>e = .returned(.int .i64(qU f k0 n))/\qW w' bs kb kv v n(zEK f k0)/\zF(yk bs kb n f) w w':=by
 obtain⟨m1,a,c,rfl,mc,g1⟩:=h1;by_cases mA:n=0
 ·subst mA;go_enter Tryz.func112,Tryz.ntmps112;go_wp2;refine wp_loop_rounds 1 ?_;rw [rounds_succ];go_wp2;go_ret;exact⟨by simp [qU],⟨m1,a,c,rfl,mc,fun h=>absurd h(by omega)⟩,zF.refl _ _⟩
 ·obtain⟨off,rfl,g2⟩:=g1(by omega);clear g1;have nA:=m1;unfold maxLen at m1;have G2:Hid(∀j,j<n->yy w bs(off+j*3)(kb j)(kv j)(f j)):=g2;have gA:Hid(yS kb n f):=dA;have fA:Hid(qU f k0 n<=1000000000000):=eA;clear g2 dA eA;go_enter Tryz.func112,Tryz.ntmps112;go_wp2
  go_loopw [1,5](fun m i wr=>∃k:Nat,k<=n/\i = .int .i64 k/\m = .int .i64(qU f k0 k)/\(∀j,j<n->yy wr bs(off+j*3)(kb j)(kv j)(if j<k then zEK f k0 j else f j))/\zF(yk bs kb n f) w wr)(fun _ i _=>n - (intOf i).toNat)
  case atStart=>exact⟨0,Nat.zero_le _,rfl,rfl,fun j hj=>by rw [zNr];exact G2.out j hj,zF.refl _ _⟩
  case round=>
   obtain⟨k,hk,rfl,rfl,hall,ht⟩:=hrel;have aA:Hid(∀j,j<n->yy wr bs(off+j*3)(kb j)(kv j)(if j<k then zEK f k0 j else f j)):=hall;clear hall;by_cases cA:k<n
   ·have oA:(k:Int)<(n:Int):=(by omega);have hs:=aA.out k cA;rw [if_neg(by omega)] at hs;have rA:k0<=qU f k0 k:=zCX f k0(Nat.zero_le k);have pA:qU f k0 k+2+2*((f k).kn:Int)<=1000000000000:=Int.le_trans(zCX f k0(show k+1<=n from cA)) fA.out;obtain⟨kA,hf0⟩:=hs.zRU;obtain⟨iA,hf1⟩:=hs.kidsv;obtain⟨bA,hf2⟩:=hs.data;have Hs:Hid(yy wr bs(off+k*3)(kb k)(kv k)(f k)):=hs;obtain⟨_,ka,kc,hkv,_⟩:=hs.kids;clear hs;generalize hx:kv k=kvk at *;have Hx:Hid(kv k=kvk):=hx;clear hx;subst hkv;go_wp2_with fail;refine(zDo(kb k) _(f k).kn(f k).ks(f k).kb _ _ ?p1 ?p2 ?p3).mono ?_
    case p1=>exact Hs.out.kids.zRR(zF.put _ _ _ _)(fun h0 hx=>Hs.out.zRW h0 hx)
    case p2=>omega
    case p3=>omega
    rintro e w1 ⟨rfl,hp1,ht1⟩;have nb:¬(0<(f k).kn/\bs=kb k):=fun hx=>Hs.out.zRW hx.1 hx.2.symm
    have Hd:=((Hs.out.data.zRK(b':=bs)(o':=off+k*3)(.int .i64(qU f k0 k))(Or.inr(by omega))).zRR ht1 nb);have lA:Hid(zj w1(kb k)(.slice ka(f k).kn kc)(f k).kn(fun i=>qU f k0 k+1+2*i)(fun i=>qU f k0 k+1+2*i+1)):=hp1;clear nb hp1 kA hf0 iA hf1 bA hf2;go_wp2_with fail;refine(zAB _ _(by omega)).mono ?_;rintro e w2 ⟨rfl,bA⟩;obtain⟨sA,hf2⟩:=Hd.zRJ bA;clear Hd;go_wp2;go_roundw
    case rel=>
     refine⟨k+1,by omega,by go_num,congrArg(Value.int .i64)(by show _=qU f k0 k+2+2*((f k).kn:Int);omega),fun j hj=>?_,?_⟩
     ·have st:=zMg(s':=zEK f k0 k) aA.out(by
        intro i j hi hj jA h1 h2;rw [zQe] at h1 h2;exact gA.out i j hi hj jA h1 h2) cA(by rw [if_neg(Nat.lt_irrefl k)];exact ht1) bA(by rw [if_neg(Nat.lt_irrefl k)];rfl)(by rw [Hx.out];exact lA.out)(zFn(by omega)) j hj
      by_cases e:j=k
      ·subst e;rw [if_pos rfl] at st;rw [if_pos(by omega)];exact st
      ·rw [if_neg e] at st;by_cases e2:j<k
       ·rw [if_pos e2] at st;rw [if_pos(by omega)];exact st
       ·rw [if_neg e2] at st;rw [if_neg(by omega)];exact st
     ·refine(((ht.setCell(Or.inl ⟨by omega,rfl⟩) _).trans(ht1.mono ?_)).trans(zF.zRM bA)).setCell(Or.inl ⟨by omega,rfl⟩) _;rintro b ⟨hb,rfl⟩;exact Or.inr ⟨k,cA,hb,rfl⟩
    case measure=>simp [intOf];omega
   ·obtain rfl:k=n:=(by omega);go_wp2;go_ret;refine⟨rfl,⟨nA,_,c,rfl,mc,fun _=>⟨off,rfl,fun i hi=>?_⟩⟩,ht⟩;have:=aA.out i hi;rw [if_pos hi] at this;exact this
theorem zKU(bs hb:Nat)(kb:Nat->Nat)(kv:Nat->Value)(v0 v1:Value)(p:zJ)(k0:Int)(w:World)
  (h1:qW w bs kb kv v0 p.n p.s)(eA:yS kb p.n p.s)(h2:qj w hb v1 p.hn p.h)(hd:0<p.hn->¬yk bs kb p.n p.s hb)
  (dA:0<=k0)(cA:qU p.s k0 p.n+p.hn<=1000000000000) :
  Calls Tryz.prog 42 #[.agg #[v0,v1],.int .i64 k0] w fun e w'=>e = .returned(.int .i64(qU p.s k0 p.n+p.hn))/\qW w' bs kb kv v0 p.n(zEK p.s k0)/\qj w' hb v1 p.hn(fun i=>qU p.s k0 p.n+i)/\
   zF(fun k=>yk bs kb p.n p.s k\/(0<p.hn/\k=hb)) w w':=by
 have q1:=h1;have q2:=h2;obtain⟨_,a,c,rfl,_⟩:=h1;obtain⟨_,a',c',rfl,_⟩:=h2;have Hk:Hid(qU p.s k0 p.n+p.hn<=1000000000000):=cA;have bA:Hid(k0<=qU p.s k0 p.n):=zCX p.s k0(Nat.zero_le p.n);clear cA;go_enter Tryz.func42,Tryz.ntmps42;go_wp2_with fail;have aA:=(Below.refl w.heap.size w).alloc(Nat.le_refl _)(.cells #[.slice a p.n c,.slice a' p.hn c'] 33);refine(zI9 bs kb kv _ p.n p.s _ _(q1.zRJ aA) eA dA(by have:=Hk.out;omega)).mono ?_;rintro e w1 ⟨rfl,hs1,ht1⟩;have nb:¬yk bs kb p.n p.s w.heap.size:=fun x=>Nat.lt_irrefl _(q1.lt x)
 have e1:=ht1.cell(b:=w.heap.size)(o:=1)(by simp) nb;simp at e1;go_wp2_with fail;refine(zHv hb _ p.hn p.h _ _((q2.zRJ aA).zRR ht1 hd)(by have:=bA.out;omega) Hk.out).mono ?_;rintro e w2 ⟨rfl,hs2,ht2⟩;go_wp2;go_ret;refine⟨rfl,?_,hs2,?_⟩
 ·refine hs1.zRR ht2(fun h0 hx=>?_)(fun i hi h0 hx=>?_)
  ·exact hd hx.1(Or.inl ⟨h0,hx.2.symm⟩)
  ·exact hd hx.1(Or.inr ⟨i,hi,h0,hx.2.symm⟩)
 ·exact((zF.zRM aA).trans(ht1.mono fun k h=>Or.inl h)).trans(ht2.mono fun k h=>Or.inr h)
def zQV(p:zJ)(k0:Int):zJ:={n:=p.n,s:=zEK p.s k0,hn:=p.hn,h:=fun i=>qU p.s k0 p.n+i}
def zBA(p:zJ)(k0:Int):Int:=qU p.s k0 p.n+p.hn
end Go.Proofs.YtmgeglgboadfiaaGreatDoor
