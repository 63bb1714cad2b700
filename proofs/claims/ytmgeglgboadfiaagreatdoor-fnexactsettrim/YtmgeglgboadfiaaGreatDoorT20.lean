/- Which refusal: what follows of it (no law is proved here). -/
import Derived.Test.YtmgeglgboadfiaaGreatDoorT19
set_option linter.unusedVariables false
set_option maxRecDepth 20000
set_option maxHeartbeats 4000000
namespace Go.Proofs.YtmgeglgboadfiaaGreatDoor
open Go.RowKit
theorem zOB{W:zH}{x:ByteArray}(h:zAR W x):∃k,zGA W x k:=by
 obtain⟨k,hk,hn⟩:=h
 induction k using Nat.strongRecOn with
 | _ k ih=>
  by_cases e:∃j,j<k/\(W.zRS j).name=x
  ·obtain⟨j,hj,hx⟩:=e;exact ih j hj (by omega) hx
  ·exact⟨k,hk,hn,fun j hj hx=>e ⟨j,hj,hx⟩⟩
theorem zHX.all{W:zH}{a b:Prop}{m:Nat}{Q:Nat->Prop}{ei:Nat->Nat}(h:zHX W a b m Q ei none):∀j,j<m->Q j:=by
 rcases h with⟨_,e⟩ | ⟨_,_,e⟩ | ⟨_,_,_,k,hk,_,_,e⟩ | ⟨_,_,_,h4,_⟩
 ·cases e
 ·cases e
 ·cases e
 ·exact h4
theorem zHX.uniq{W:zH}{a b:Prop}{m:Nat}{Q:Nat->Prop}{ei:Nat->Nat}{r r':Option Nat}(h:zHX W a b m Q ei r)(h':zHX W a b m Q ei r'):r=r':=by
 rcases h with⟨h1,e⟩ | ⟨h1,h2,e⟩ | ⟨h1,h2,h3,i,hi,hn,hl,e⟩ | ⟨h1,h2,h3,h4,e⟩
 ·rcases h' with⟨g1,e'⟩ | ⟨g1,g2,e'⟩ | ⟨g1,g2,g3,j,hj,gn,gl,e'⟩ | ⟨g1,g2,g3,g4,e'⟩
  ·rw[e,e']
  ·exact absurd h1 g1
  ·exact absurd h1 g1
  ·exact absurd h1 g1
 ·rcases h' with⟨g1,e'⟩ | ⟨g1,g2,e'⟩ | ⟨g1,g2,g3,j,hj,gn,gl,e'⟩ | ⟨g1,g2,g3,g4,e'⟩
  ·exact absurd g1 h1
  ·rw[e,e']
  ·rcases h2 with h | h
   ·exact absurd g2 h
   ·exact absurd h g3
  ·rcases h2 with h | h
   ·exact absurd g2 h
   ·exact absurd h g3
 ·rcases h' with⟨g1,e'⟩ | ⟨g1,g2,e'⟩ | ⟨g1,g2,g3,j,hj,gn,gl,e'⟩ | ⟨g1,g2,g3,g4,e'⟩
  ·exact absurd g1 h1
  ·rcases g2 with h | h
   ·exact absurd h2 h
   ·exact absurd h h3
  ·rcases Nat.lt_trichotomy i j with h | h | h
   ·exact absurd (gl i h) hn
   ·rw[e,e',h]
   ·exact absurd (hl j h) gn
  ·exact absurd (g4 i hi) hn
 ·rcases h' with⟨g1,e'⟩ | ⟨g1,g2,e'⟩ | ⟨g1,g2,g3,j,hj,gn,gl,e'⟩ | ⟨g1,g2,g3,g4,e'⟩
  ·exact absurd g1 h1
  ·rcases g2 with h | h
   ·exact absurd h2 h
   ·exact absurd h h3
  ·exact absurd (h4 j hj) gn
  ·rw[e,e']
theorem zQZ{a:ByteArray}:(∃i,i<1/\8000<((fun (_:Nat)=>a) i).size)↔8000<a.size:=⟨fun ⟨_,_,h⟩=>h,fun h=>⟨0,by omega,h⟩⟩
def zAd(W:zH)(name:ByteArray)(zRV:Int)(w:World)(e:Ending)(w':World):Prop:=∃r o,zHX W (∃i,i<1/\8000<((fun (_:Nat)=>name) i).size) (∃i,i<0/\¬yM ((fun _=>⟨#[]⟩) i)) 1 (fun i=>match i with  | _=>zAR W name) (fun i=>match i with  | _=>2) r/\(r=none->∃k,zGA W name k/\o=zA8 W k (zAM W.zRQ (W.zRS k).rs (W.zRS k).rb zRV W.time))/\zBu (zMR r o) w e w'
theorem zAd.ill{W:zH}{name:ByteArray}{zRV:Int}{w w':World}{e:Ending}{i:Nat}(hr:zHX W (∃i,i<1/\8000<((fun (_:Nat)=>name) i).size) (∃i,i<0/\¬yM ((fun _=>⟨#[]⟩) i)) 1 (fun i=>match i with  | _=>zAR W name) (fun i=>match i with  | _=>2) (some i))(h:zBu (zBy (zBW i)) w e w'):zAd W name zRV w e w':=⟨some i,zBy 0,hr,fun e=>(by cases e),h⟩
theorem zG9(p:Nat->Addr)(v0 v1 v2 v3:Value)(lo hi:Nat)(W:zH)(name:ByteArray)(zRV:Int)(w:World)(hE:zEr w p)(h:zl w lo hi v0 v1 v2 v3 W)(cA:zCK W)(b1:qD W.zRQ<=1048576)(b2:W.sn<=1048576)(b3:W.pn<=1048576)(b4:zDb W)(bA:name.size<=maxLen)(aA:(Lit.int .i64 zRV).wf=true) :
  Calls Tryz.prog 17 #[zz v0 v1 v2 v3 W,.string name,.int .i64 zRV] w (zAd W name zRV w):=by
 by_cases hs:zAR W name
 ·obtain⟨k,hk⟩:=zOB hs;refine(zEA p v0 v1 v2 v3 lo hi W name zRV (zA8 W k (zAM W.zRQ (W.zRS k).rs (W.zRS k).rb zRV W.time)) w hE h cA b1 b2 b3 b4 bA aA ?_).mono ?_
  ·intro B0 B1 C w' z0 z1 z2 z3 k0 l0 k1 l1 hI _ _ hq dA hb ho hC;have hS:=(zGG W).1 hI;have hx:=cA (W.pn+k) (by have:=hk.1;unfold zq;omega);rw[yH]at hx;exact zI6 p C k B0 B1 z0 z1 z2 z3 W name zRV w' (hE.zRJ hb) hI (zMb hS.zRa _) hx hk (b4.1 k hk.1) dA k0 l0 k1 l1 ho hC
  ·rintro e w' ⟨r,h1,h2⟩;exact⟨r,_,h1,fun _=>⟨k,hk,rfl⟩,h2⟩
 ·refine(zEA p v0 v1 v2 v3 lo hi W name zRV (zBy 0) w hE h cA b1 b2 b3 b4 bA aA ?_).mono ?_
  ·intro B0 B1 C w' z0 z1 z2 z3 k0 l0 k1 l1 hI _ _ hq dA hb ho hC;exact absurd (hq 0 (by omega)) hs
  ·rintro e w' ⟨r,h1,h2⟩;exact⟨r,_,h1,fun e=>absurd ((e▸h1).all 0 (by omega)) hs,h2⟩
open Go.Maps
def zEt(s:qC):Nat:=s.name.size+s.dn
def zBM(f:Nat->qC):Nat->Nat
 | 0=>0
 | k+1=>zBM f k+zEt (f k)
def zDs(s:zm):Nat:=s.name.size+s.set.size+s.dn
def zAw(f:Nat->zm):Nat->Nat
 | 0=>0
 | k+1=>zAw f k+zDs (f k)
def yZ(W:zH):Nat:=qD W.zRQ+(W.sn+zBM W.zRS W.sn)+(W.pn+zAw W.zRP W.pn)
theorem zOG(v:Value)(lo hi:Nat)(s:qC)(left:Int)(w:World)(h1:zU w lo hi v s.dn s.ds s.db)(m1:s.name.size<=maxLen)(gA:0<=left)(fA:left<=1048576) :
  Calls Tryz.prog 66 #[zDO v s,.int .i64 left] w fun e w'=>zC6 (zEt s) left e/\Below w.heap.size w w':=by
 unfold zDO;have H1:=zB h1;obtain⟨-,a,c,rfl,-⟩:=id h1;clear h1;unfold maxLen at m1;have aA:=zC w (.cells #[.string s.name,.int .i64 s.origin,.int .i64 s.zRT,.int .i64 s.rs,.int .i64 s.rb,.slice a s.dn c] 116);go_enter Tryz.func66,Tryz.ntmps66;by_cases h:left - (s.name.size:Int)<0
 ·go_wp2;go_ret;exact⟨⟨-1,rfl,by omega,by omega,by omega⟩,aA⟩
 ·go_wp2_with fail;refine(zFE _ s.dn lo hi _ _ _ _ (H1.out.zRJ aA) (by omega) (by omega)).mono ?_;rintro e w1 ⟨⟨r,rfl,bA,iA,eA⟩,dA⟩;have cA:=zA aA dA;have Hr:=zB bA;clear bA dA aA;by_cases h2:r<0
  ·go_wp2;go_ret;exact⟨⟨-1,rfl,by omega,by omega,by omega⟩,cA⟩
  ·go_wp2;go_ret;refine⟨⟨_,rfl,fun _=>?_,by omega,by omega⟩,cA⟩;have:=Hr.out (by omega);unfold zEt;omega
theorem zM6(v:Value)(lo hi:Nat)(s:zm)(left:Int)(w:World)(h1:zU w lo hi v s.dn s.ds s.db)(m1:s.name.size<=maxLen)(m2:s.set.size<=maxLen)(gA:0<=left)(fA:left<=1048576) :
  Calls Tryz.prog 67 #[ye v s,.int .i64 left] w fun e w'=>zC6 (zDs s) left e/\Below w.heap.size w w':=by
 unfold ye;have H1:=zB h1;obtain⟨-,a,c,rfl,-⟩:=id h1;clear h1;unfold maxLen at m1 m2;have aA:=zC w (.cells #[.int .i64 s.id,.string s.name,.string s.set,.int .i64 s.zRT,.int .i64 s.time,.int .i64 s.rs,.int .i64 s.rb,.slice a s.dn c] 119);go_enter Tryz.func67,Tryz.ntmps67;by_cases h:left - (s.name.size:Int)<0
 ·go_wp2;go_ret;exact⟨⟨-1,rfl,by omega,by omega,by omega⟩,aA⟩
 ·by_cases h':left - (s.name.size:Int) - (s.set.size:Int)<0
  ·go_wp2;go_ret;exact⟨⟨-1,rfl,by omega,by omega,by omega⟩,aA⟩
  ·go_wp2_with fail;refine(zFE _ s.dn lo hi _ _ _ _ (H1.out.zRJ aA) (by omega) (by omega)).mono ?_;rintro e w1 ⟨⟨r,rfl,bA,iA,eA⟩,dA⟩;have cA:=zA aA dA;have Hr:=zB bA;clear bA dA aA;by_cases h2:r<0
   ·go_wp2;go_ret;exact⟨⟨-1,rfl,by omega,by omega,by omega⟩,cA⟩
   ·go_wp2;go_ret;refine⟨⟨_,rfl,fun _=>?_,by omega,by omega⟩,cA⟩;have:=Hr.out (by omega);unfold zDs;omega
structure yw (bs o n:Nat) (w w':World):Prop where
 zRR:zF (fun b=>b=bs) w w'
 kept:∀x v,(x<o\/o+n<=x)->zX w bs x v->zX w' bs x v
theorem yw.refl(bs o n:Nat)(w:World):yw bs o n w w:=⟨zF.refl _ _,fun _ _ _ h=>h⟩
theorem yw.set{bs o n:Nat}{w w':World}(h:yw bs o n w w')(x:Nat)(u:Value)(h1:o<=x)(h2:x<o+n):yw bs o n w (w'.setCell ⟨bs,x,none⟩ u):=
 ⟨h.zRR.setCell (p:=⟨bs,x,none⟩) rfl u,fun y v hy hc=>(h.kept y v hy hc).zRK u (Or.inr (by omega))⟩
theorem yw.zRJ{bs o n:Nat}{w w' w2:World}(h:yw bs o n w w')(t:Below w'.heap.size w' w2):yw bs o n w w2:=
 ⟨h.zRR.trans (zF.zRM t),fun y v hy hc=>(h.kept y v hy hc).zRJ t⟩
theorem zOe{w w1 w2:World}{bs off n k:Nat}{kb:Nat->Nat}{kv:Nat->Value}{f:Nat->qC}{s:qC}(h:∀j,j<n->zAE w bs (off+j*6) (kb j) (kv j) (f j))(cA:zBL kb n f)(hk:k<n)
  (r:yw bs (off+k*6) 6 w w1) (t:zF (fun b=>0<(f k).dn/\b=kb k) w1 w2) (c0:zX w1 bs (off+k*6) (.string s.name)) (c1:zX w1 bs ((off+k*6)+1) (.int .i64 s.origin)) (c2:zX w1 bs ((off+k*6)+2) (.int .i64 s.zRT)) (c3:zX w1 bs ((off+k*6)+3) (.int .i64 s.rs)) (c4:zX w1 bs ((off+k*6)+4) (.int .i64 s.rb)) (c5:zX w1 bs (off+k*6+5) (kv k)) (bA:s.dn=(f k).dn) (hp:zj w2 (kb k) (kv k) s.dn s.ds s.db) (hs:s.name.size<=maxLen) :
  ∀j,j<n->zAE w2 bs (off+j*6) (kb j) (kv j) (if j=k then s else f j):=by
 intro j hj;have nb:¬(0<(f k).dn/\bs=kb k):=fun hx=>(h k hk).zRW hx.1 hx.2.symm
 by_cases e:j=k
 ·subst e;rw[if_pos rfl];exact⟨c0.zRR t nb,c1.zRR t nb,c2.zRR t nb,c3.zRR t nb,c4.zRR t nb,c5.zRR t nb,hp,hs,by rw[bA];exact(h j hj).zRW⟩
 ·rw[if_neg e];have aA:=h j hj;refine⟨(r.kept _ _ (by omega) aA.c0).zRR t nb,(r.kept _ _ (by omega) aA.c1).zRR t nb,(r.kept _ _ (by omega) aA.c2).zRR t nb,(r.kept _ _ (by omega) aA.c3).zRR t nb,(r.kept _ _ (by omega) aA.c4).zRR t nb,(r.kept _ _ (by omega) aA.c5).zRR t nb,?_,aA.zRZ,aA.zRW⟩;exact(aA.zRX.zRR r.zRR (fun h0 hx=>aA.zRW h0 hx)).zRR t (fun h0 hx=>cA j k hj hk e h0 hx.1 hx.2)
theorem zOK{w w1 w2:World}{bs off n k:Nat}{kb:Nat->Nat}{kv:Nat->Value}{f:Nat->zm}{s:zm}(h:∀j,j<n->zAG w bs (off+j*8) (kb j) (kv j) (f j))(cA:zBD kb n f)(hk:k<n)
  (r:yw bs (off+k*8) 8 w w1) (t:zF (fun b=>0<(f k).dn/\b=kb k) w1 w2) (c0:zX w1 bs (off+k*8) (.int .i64 s.id)) (c1:zX w1 bs ((off+k*8)+1) (.string s.name)) (c2:zX w1 bs ((off+k*8)+2) (.string s.set)) (c3:zX w1 bs ((off+k*8)+3) (.int .i64 s.zRT)) (c4:zX w1 bs ((off+k*8)+4) (.int .i64 s.time)) (c5:zX w1 bs ((off+k*8)+5) (.int .i64 s.rs)) (c6:zX w1 bs ((off+k*8)+6) (.int .i64 s.rb)) (c7:zX w1 bs (off+k*8+7) (kv k)) (bA:s.dn=(f k).dn) (hp:zj w2 (kb k) (kv k) s.dn s.ds s.db) (hs:s.name.size<=maxLen/\s.set.size<=maxLen) :
  ∀j,j<n->zAG w2 bs (off+j*8) (kb j) (kv j) (if j=k then s else f j):=by
 intro j hj;have nb:¬(0<(f k).dn/\bs=kb k):=fun hx=>(h k hk).zRW hx.1 hx.2.symm
 by_cases e:j=k
 ·subst e;rw[if_pos rfl];exact⟨c0.zRR t nb,c1.zRR t nb,c2.zRR t nb,c3.zRR t nb,c4.zRR t nb,c5.zRR t nb,c6.zRR t nb,c7.zRR t nb,hp,hs,by rw[bA];exact(h j hj).zRW⟩
 ·rw[if_neg e];have aA:=h j hj;refine⟨(r.kept _ _ (by omega) aA.c0).zRR t nb,(r.kept _ _ (by omega) aA.c1).zRR t nb,(r.kept _ _ (by omega) aA.c2).zRR t nb,(r.kept _ _ (by omega) aA.c3).zRR t nb,(r.kept _ _ (by omega) aA.c4).zRR t nb,(r.kept _ _ (by omega) aA.c5).zRR t nb,(r.kept _ _ (by omega) aA.c6).zRR t nb,(r.kept _ _ (by omega) aA.c7).zRR t nb,?_,aA.zRZ,aA.zRW⟩;exact(aA.zRX.zRR r.zRR (fun h0 hx=>aA.zRW h0 hx)).zRR t (fun h0 hx=>cA j k hj hk e h0 hx.1 hx.2)
def zBA(k:Nat)(out:ByteArray):ByteArray:=
 if h:k=0 then out else zBA (k / 10) (⟨#[48+UInt8.ofNat (k % 10)]⟩ ++ out)
termination_by k
decreasing_by omega
def mtF(k:Int):ByteArray:=if k<=0 then⟨#[109,48]⟩else⟨#[109]⟩ ++ zBA k.toNat ⟨#[]⟩
theorem zK8{n:Nat}(h:(n:Int)<=1000000000000):n<10 ^ (13 - (⟨#[]⟩:ByteArray).size):=by
 show n<10 ^ 13;omega
theorem zLp(x:UInt8)(out:ByteArray):((⟨#[x]⟩:ByteArray) ++ out).size=out.size+1:=by
 rw[ByteArray.size_append];show 1+out.size=_;omega
theorem zPK{m:Nat}{out:ByteArray}(h:m<10 ^ (13 - out.size)):m<=10000000000000:=by
 have h2:10 ^ (13 - out.size)<=10 ^ 13:=Nat.pow_le_pow_right (by omega) (by omega);omega
theorem zNE{m:Nat}{out:ByteArray}(x:UInt8)(h0:¬m=0)(h:m<10 ^ (13 - out.size))(h2:out.size<=13) :
  m / 10<10 ^ (13 - ((⟨#[x]⟩:ByteArray) ++ out).size)/\((⟨#[x]⟩:ByteArray) ++ out).size<=13:=by
 rw[zLp];by_cases e:out.size=13
 ·rw[e]at h;simp at h;omega
 ·obtain⟨j,hj⟩:∃j,13 - out.size=j+1:=⟨12 - out.size,by omega⟩;rw[hj,Nat.pow_succ]at h;have:13 - (out.size+1)=j:=(by omega);rw[this];exact⟨by omega,by omega⟩
theorem zP4{m:Nat}{out:ByteArray}(h0:¬m=0):zBA (m / 10) (⟨#[48+UInt8.ofNat (m % 10)]⟩ ++ out)=zBA m out:=by
 conv=>rhs;rw[zBA]
 rw[dif_neg h0]
theorem zQN(m:Nat):∀(out:ByteArray),m<10 ^ (13 - out.size)->out.size<=13->(zBA m out).size<=13:=by
 induction m using Nat.strongRecOn with
 | _ m ih=>
  intro out h h2;by_cases h0:m=0
  ·rw[zBA,dif_pos h0];exact h2
  ·rw[zBA,dif_neg h0];have:=zNE (48+UInt8.ofNat (m % 10)) h0 h h2;exact ih (m / 10) (by omega) _ this.1 this.2
theorem zGB{k:Int}(hk:k<=1000000000000):(mtF k).size<=maxLen:=by
 unfold mtF maxLen;split
 ·decide
 ·have h:(zBA k.toNat ⟨#[]⟩).size<=13:=zQN _ _ (zK8 (by omega)) (Nat.zero_le _);rw[zLp];omega
theorem zO7(w:World)(n:Int):(convert 216 9 (.slice (some ⟨w.heap.size,0,none⟩) 1 1)).run Tryz.prog (w.alloc (.cells #[.int .u8 n] 5)) = .ok (.string ⟨#[UInt8.ofNat n.toNat]⟩) (w.alloc (.cells #[.int .u8 n] 5)):=
 run_convert_bytes_arg (P:=Tryz.prog) (w.alloc (.cells #[.int .u8 n] 5)) 216 5 (by kernel_rfl) (by kernel_rfl) w.heap.size 0 1 1 [n] rfl (fun i hi=>by
  obtain rfl:i=0:=(by omega);simp) 9 (by kernel_rfl)
theorem zAA(k:Int)(w:World)(hk:k<=1000000000000) :
  Calls Tryz.prog 114 #[.int .i64 k] w fun e w'=>e = .returned (.string (mtF k))/\Below w.heap.size w w':=by
 by_cases h0:k<=0
 ·have hm:Hid (mtF k=⟨#[109,48]⟩):=if_pos h0;go_enter Tryz.func114,Tryz.ntmps114;go_wp2;go_ret;exact⟨by rw[hm.out];rfl,Below.refl _ _⟩
 ·obtain⟨n,rfl⟩:=Int.eq_ofNat_of_zero_le (by omega:0<=k);have hm:Hid (mtF (n:Int)=⟨#[109]⟩ ++ zBA n ⟨#[]⟩):=if_neg h0;have eA:Hid (n<10 ^ (13 - (⟨#[]⟩:ByteArray).size)):=zK8 hk;have iA:=zO7;go_enter Tryz.func114,Tryz.ntmps114;go_wp2
  go_loopw [0,3] (fun v s wr=>∃(m:Nat) (out:ByteArray),v = .int .i64 m/\s = .string out/\m<10 ^ (13 - out.size)/\out.size<=13/\zBA m out=zBA n ⟨#[]⟩/\Below w.heap.size w wr) (fun v _ _=>(intOf v).toNat)
  case atStart=>exact⟨n,⟨#[]⟩,rfl,rfl,eA.out,Nat.zero_le _,rfl,Below.refl _ _⟩
  case round=>
   obtain⟨m,out,rfl,rfl,aA,dA,cA,hb⟩:=hrel;have bA:Hid (m<10 ^ (13 - out.size)/\zBA m out=zBA n ⟨#[]⟩):=⟨aA,cA⟩;have gA:=zPK aA;clear aA cA;by_cases hz:m=0
   ·subst hz;go_wp2;go_ret;refine⟨?_,hb⟩;have e1:=bA.out.2;rw[zBA,dif_pos rfl]at e1;rw[hm.out,<-e1];rfl
   ·have fA:(0:Int)<(m:Int):=(by omega);have Hz:Hid (¬m=0):=hz;clear hz;go_wp2;go_roundw
    case rel=>
     have hn:=zNE (48+UInt8.ofNat (m % 10)) Hz.out bA.out.1 dA;exact⟨m / 10,_,by go_num,rfl,hn.1,hn.2,(zP4 Hz.out).trans bA.out.2,hb.alloc hb.size _⟩
    case measure=>simp[intOf];omega
theorem za{P:Prop}(h:P):Hid P:=h
def zAq(b:Nat)(w w':World):Prop:=∀cur,w.heap[b]?=some (.cells cur 2 (0,0))->∃cur',w'.heap[b]?=some (.cells cur' 2 (0,0))/\cur'.size=cur.size
theorem zAq.refl(b:Nat)(w:World):zAq b w w:=fun aA h=>⟨aA,h,rfl⟩
theorem zAq.set{b:Nat}{w w':World}(h:zAq b w w')(o:Nat)(u:Value):zAq b w (w'.setCell ⟨b,o,none⟩ u):=fun bA hc=>by
 obtain⟨aA,h1,h2⟩:=h bA hc;exact⟨aA.setIfInBounds o u,zAV u h1,by simpa using h2⟩
theorem zAq.room{b:Nat}{w w':World}{a:Option Addr}{n c:Nat}(h:zAq b w w')(hr:zQt w b a n c):zQt w' b a n c:=fun cA=>by
 obtain⟨r0,r1,r2,bA,r3,r4⟩:=hr cA;obtain⟨aA,h1,h2⟩:=h bA r3;exact⟨r0,r1,r2,aA,h1,by omega⟩
theorem zH5(b:Nat)(v:Value)(n:Nat)(f:Nat->Int)(k0:Int)(w:World)(h1:qk w b v n f)(mA:0<=k0)(nA:k0+n<=1000000000000) :
  Calls Tryz.prog 113 #[v,.int .i64 k0] w fun e w'=>e = .returned (.int .i64 (k0+n))/\qk w' b v n (fun i=>k0+i)/\zF (fun k=>0<n/\k=b) w w':=by
 have iA:=h1;obtain⟨m1,a,c,rfl,mc,g1,bA⟩:=h1;have cA:=za bA;clear bA;by_cases lA:n=0
 ·subst lA;go_enter Tryz.func113,Tryz.ntmps113;go_wp2;refine wp_loop_rounds 1 ?_;rw[rounds_succ];go_wp2;go_ret;exact⟨by simp,⟨m1,a,c,rfl,mc,fun h=>absurd h (by omega),cA.out⟩,zF.refl _ _⟩
 ·obtain⟨off,rfl,g2⟩:=g1 (by omega);clear g1;have gA:=m1;unfold maxLen at m1;have G2:Hid (∀i,i<n->zX w b (off+i) (.int .i64 (f i))):=g2;clear g2 iA;go_enter Tryz.func113,Tryz.ntmps113;go_wp2
  go_loopw [1,5] (fun m i wr=>∃k:Nat,k<=n/\i = .int .i64 k/\m = .int .i64 (k0+k)/\(∀j,j<n->zX wr b (off+j) (.int .i64 (if j<k then k0+j else f j)))/\zF (fun k=>0<n/\k=b) w wr/\zAq b w wr) (fun _ i _=>n - (intOf i).toNat)
  case atStart=>exact⟨0,Nat.zero_le _,rfl,by simp,fun j hj=>by simpa using G2.out j hj,zF.refl _ _,zAq.refl _ _⟩
  case round=>
   obtain⟨k,hk,rfl,rfl,dA,ht,fA⟩:=hrel;have eA:=za fA;clear fA;have aA:Hid (∀j,j<n->zX wr b (off+j) (.int .i64 (if j<k then k0+j else f j))):=dA;clear dA;by_cases jA:k<n
   ·have kA:(k:Int)<(n:Int):=(by omega);obtain⟨hc,hf⟩:=aA.out k jA;go_wp2;go_roundw
    case rel=>
     refine⟨k+1,by omega,by go_num,by go_num,fun j hj=>?_,ht.setCell ⟨by omega,rfl⟩ _,eA.out.set _ _⟩;by_cases e:j=k
     ·subst e;rw[if_pos (by omega)];exact(aA.out j hj).set _
     ·have:=(aA.out j hj).zRK (b':=b) (o':=off+k) (.int .i64 (k0+k)) (Or.inr (by omega));by_cases e2:j<k
      ·rw[if_pos (by omega)];rw[if_pos e2]at this;exact this
      ·rw[if_neg (by omega)];rw[if_neg e2]at this;exact this
    case measure=>simp[intOf];omega
   ·obtain rfl:k=n:=(by omega);go_wp2;go_ret;refine⟨rfl,⟨gA,_,c,rfl,mc,fun _=>⟨off,rfl,fun i hi=>?_⟩,eA.out.room cA.out⟩,ht⟩;have:=aA.out i hi;rw[if_pos hi]at this;exact this
theorem zDe(b:Nat)(v:Value)(n:Nat)(f g:Nat->Int)(k0:Int)(w:World)(h1:zj w b v n f g)(jA:0<=k0)(lA:k0+2*n<=1000000000000) :
  Calls Tryz.prog 115 #[v,.int .i64 k0] w fun e w'=>e = .returned (.int .i64 (k0+2*n))/\zj w' b v n (fun i=>k0+2*i) (fun i=>k0+2*i+1)/\zF (fun k=>0<n/\k=b) w w':=by
 have dA:=h1;obtain⟨m1,a,c,rfl,mc,g1⟩:=h1;by_cases gA:n=0
 ·subst gA;go_enter Tryz.func115,Tryz.ntmps115;go_wp2;refine wp_loop_rounds 1 ?_;rw[rounds_succ];go_wp2;go_ret;exact⟨by simp,⟨m1,a,c,rfl,mc,fun h=>absurd h (by omega)⟩,zF.refl _ _⟩
 ·obtain⟨off,rfl,g2⟩:=g1 (by omega);clear g1;have cA:=m1;unfold maxLen at m1;have G2:Hid (∀i,i<n->zX w b (off+i*2) (.int .i64 (f i))/\zX w b (off+i*2+1) (.int .i64 (g i))):=g2;clear g2 dA;go_enter Tryz.func115,Tryz.ntmps115;go_wp2
  go_loopw [1,5] (fun m i wr=>∃k:Nat,k<=n/\i = .int .i64 k/\m = .int .i64 (k0+2*k)/\(∀j,j<n->zX wr b (off+j*2) (.int .i64 (if j<k then k0+2*j else f j))/\zX wr b (off+j*2+1) (.int .i64 (if j<k then k0+2*j+1 else g j)))/\zF (fun k=>0<n/\k=b) w wr) (fun _ i _=>n - (intOf i).toNat)
  case atStart=>exact⟨0,Nat.zero_le _,rfl,by simp,fun j hj=>by simpa using G2.out j hj,zF.refl _ _⟩
  case round=>
   obtain⟨k,hk,rfl,rfl,bA,ht⟩:=hrel;have aA:Hid (∀j,j<n->zX wr b (off+j*2) (.int .i64 (if j<k then k0+2*j else f j))/\zX wr b (off+j*2+1) (.int .i64 (if j<k then k0+2*j+1 else g j))):=bA;clear bA;by_cases eA:k<n
   ·have fA:(k:Int)<(n:Int):=(by omega);obtain⟨⟨hc,hf⟩,⟨iA,kA⟩⟩:=aA.out k eA;go_wp2;go_roundw
    case rel=>
     refine⟨k+1,by omega,by go_num,by go_num,fun j hj=>?_,(ht.setCell ⟨by omega,rfl⟩ _).setCell ⟨by omega,rfl⟩ _⟩;by_cases e:j=k
     ·subst e;rw[if_pos (by omega),if_pos (by omega)];exact⟨((aA.out j hj).1.set _).zRK _ (Or.inr (by omega)),((aA.out j hj).2.zRK _ (Or.inr (by omega))).set _⟩
     ·have t1:=((aA.out j hj).1.zRK (b':=b) (o':=off+k*2) (.int .i64 (k0+2*k)) (Or.inr (by omega))).zRK (b':=b) (o':=off+k*2+1) (.int .i64 (k0+2*k+1)) (Or.inr (by omega));have t2:=((aA.out j hj).2.zRK (b':=b) (o':=off+k*2) (.int .i64 (k0+2*k)) (Or.inr (by omega))).zRK (b':=b) (o':=off+k*2+1) (.int .i64 (k0+2*k+1)) (Or.inr (by omega));by_cases e2:j<k
      ·rw[if_pos (by omega),if_pos (by omega)];rw[if_pos e2]at t1 t2;exact⟨t1,t2⟩
      ·rw[if_neg (by omega),if_neg (by omega)];rw[if_neg e2]at t1 t2;exact⟨t1,t2⟩
    case measure=>simp[intOf];omega
   ·obtain rfl:k=n:=(by omega);go_wp2;go_ret;refine⟨rfl,⟨cA,_,c,rfl,mc,fun _=>⟨off,rfl,fun i hi=>?_⟩⟩,ht⟩;have:=aA.out i hi;rw[if_pos hi,if_pos hi]at this;exact this
def qT(f:Nat->zL)(k0:Int):Nat->Int
 | 0=>k0
 | j+1=>qT f k0 j+2+2*(f j).kn
def zQw(s:zL)(c:Int):zL:={zRU:=c,kn:=s.kn,ks:=fun i=>c+1+2*i,kb:=fun i=>c+1+2*i+1,data:=mtF (c+1+2*s.kn)}
theorem zHh(f:Nat->zL)(k0:Int)(j:Nat):∀m,qT f k0 j<=qT f k0 (j+m)
 | 0=>Int.le_refl _
 | m+1=>by
  have:=zHh f k0 j m;show _<=qT f k0 (j+m)+2+2*((f (j+m)).kn:Int);omega
theorem zCa(f:Nat->zL)(k0:Int){j n:Nat}(h:j<=n):qT f k0 j<=qT f k0 n:=by
 obtain⟨m,rfl⟩:=Nat.exists_eq_add_of_le h;exact zHh f k0 j m
def zDy(f:Nat->zL)(k0:Int)(j:Nat):zL:=zQw (f j) (qT f k0 j)
theorem zMq{w w1 w2:World}{bs off:Nat}{kb:Nat->Nat}{kv:Nat->Value}{n k:Nat}{f:Nat->zL}{s':zL}
  (h:∀j,j<n->zAD w bs (off+j*3) (kb j) (kv j) (f j)) (cA:yS kb n f) (hk:k<n)
  (t1:zF (fun b=>0<(f k).kn/\b=kb k) (w.setCell ⟨bs,off+k*3,none⟩ (.int .i64 s'.zRU)) w1) (t2:Below w1.heap.size w1 w2)
  (bA:s'.kn=(f k).kn) (hp:zj w1 (kb k) (kv k) s'.kn s'.ks s'.kb) (hs:s'.data.size<=maxLen) :
  ∀j,j<n->zAD (w2.setCell ⟨bs,off+k*3+2,none⟩ (.string s'.data)) bs (off+j*3) (kb j) (kv j) (if j=k then s' else f j):=by
 intro j hj;have nb:¬(0<(f k).kn/\bs=kb k):=fun hx=>(h k hk).zRW hx.1 hx.2.symm
 by_cases e:j=k
 ·subst e;rw[if_pos rfl];have aA:=h j hj;refine⟨?_,?_,?_,?_,hs,?_⟩
  ·exact(((aA.zRU.set _).zRR t1 nb).zRJ t2).zRK _ (Or.inr (by omega))
  ·exact(((aA.kidsv.zRK _ (Or.inr (by omega))).zRR t1 nb).zRJ t2).zRK _ (Or.inr (by omega))
  ·exact(((aA.data.zRK _ (Or.inr (by omega))).zRR t1 nb).zRJ t2).set _
  ·refine(hp.zRJ t2).zRR (zF.put _ _ _ _) (fun h0 hx=>?_);exact aA.zRW (bA▸h0) hx
  ·rw[bA];exact aA.zRW
 ·rw[if_neg e];have aA:=h j hj;have c0:=aA.zRU.zRK (b':=bs) (o':=off+k*3) (.int .i64 s'.zRU) (Or.inr (by omega));have c1:=aA.kidsv.zRK (b':=bs) (o':=off+k*3) (.int .i64 s'.zRU) (Or.inr (by omega));have c2:=aA.data.zRK (b':=bs) (o':=off+k*3) (.int .i64 s'.zRU) (Or.inr (by omega));have c3:=aA.kids.zRR (zF.put w bs (off+k*3) (.int .i64 s'.zRU)) (fun h0 hx=>aA.zRW h0 hx);refine⟨?_,?_,?_,?_,aA.zRZ,aA.zRW⟩
  ·exact((c0.zRR t1 nb).zRJ t2).zRK _ (Or.inr (by omega))
  ·exact((c1.zRR t1 nb).zRJ t2).zRK _ (Or.inr (by omega))
  ·exact((c2.zRR t1 nb).zRJ t2).zRK _ (Or.inr (by omega))
  ·refine((c3.zRR t1 (fun h0 hx=>cA j k hj hk e h0 hx.1 hx.2)).zRJ t2).zRR (zF.put _ _ _ _) (fun h0 hx=>aA.zRW h0 hx)
theorem zN2(f:Nat->zL)(k0:Int)(j:Nat):(if j<0 then zDy f k0 j else f j)=f j:=if_neg (by omega)
theorem zQg(f:Nat->zL)(k0:Int)(k j:Nat):(if j<k then zDy f k0 j else f j).kn=(f j).kn:=by split<;>rfl
theorem zI4(bs:Nat)(kb:Nat->Nat)(kv:Nat->Value)(v:Value)(n:Nat)(f:Nat->zL)(k0:Int)(w:World)(h1:qV w bs kb kv v n f)(fA:yS kb n f)(cB:0<=k0)(iA:qT f k0 n<=1000000000000) :
  Calls Tryz.prog 112 #[v,.int .i64 k0] w fun e w'=>e = .returned (.int .i64 (qT f k0 n))/\qV w' bs kb kv v n (zDy f k0)/\zF (yr bs kb n f) w w':=by
 obtain⟨m1,a,c,rfl,mc,g1⟩:=h1;by_cases bB:n=0
 ·subst bB;go_enter Tryz.func112,Tryz.ntmps112;go_wp2;refine wp_loop_rounds 1 ?_;rw[rounds_succ];go_wp2;go_ret;exact⟨by simp[qT],⟨m1,a,c,rfl,mc,fun h=>absurd h (by omega)⟩,zF.refl _ _⟩
 ·obtain⟨off,rfl,g2⟩:=g1 (by omega);clear g1;have sA:=m1;unfold maxLen at m1;have G2:Hid (∀j,j<n->zAD w bs (off+j*3) (kb j) (kv j) (f j)):=g2;have mA:Hid (yS kb n f):=fA;have rA:Hid (qT f k0 n<=1000000000000):=iA;clear g2 fA iA;go_enter Tryz.func112,Tryz.ntmps112;go_wp2
  go_loopw [1,5] (fun m i wr=>∃k:Nat,k<=n/\i = .int .i64 k/\m = .int .i64 (qT f k0 k)/\(∀j,j<n->zAD wr bs (off+j*3) (kb j) (kv j) (if j<k then zDy f k0 j else f j))/\zF (yr bs kb n f) w wr) (fun _ i _=>n - (intOf i).toNat)
  case atStart=>exact⟨0,Nat.zero_le _,rfl,rfl,fun j hj=>by rw[zN2];exact G2.out j hj,zF.refl _ _⟩
  case round=>
   obtain⟨k,hk,rfl,rfl,cA,ht⟩:=hrel;have aA:Hid (∀j,j<n->zAD wr bs (off+j*3) (kb j) (kv j) (if j<k then zDy f k0 j else f j)):=cA;clear cA;by_cases dA:k<n
   ·have vA:(k:Int)<(n:Int):=(by omega);have hs:=aA.out k dA;rw[if_neg (by omega)]at hs;have fB:k0<=qT f k0 k:=zCa f k0 (Nat.zero_le k);have eB:qT f k0 k+2+2*((f k).kn:Int)<=1000000000000:=Int.le_trans (zCa f k0 (show k+1<=n from dA)) rA.out;obtain⟨pA,nA⟩:=hs.zRU;obtain⟨oA,tA⟩:=hs.kidsv;obtain⟨bA,gA⟩:=hs.data;have Hs:Hid (zAD wr bs (off+k*3) (kb k) (kv k) (f k)):=hs;obtain⟨_,ka,kc,kA,_⟩:=hs.kids;clear hs;generalize hx:kv k=kvk at *;have Hx:Hid (kv k=kvk):=hx;clear hx;subst kA;go_wp2_with fail;refine(zDe (kb k) _ (f k).kn (f k).ks (f k).kb _ _ ?p1 ?p2 ?p3).mono ?_
    case p1=>exact Hs.out.kids.zRR (zF.put _ _ _ _) (fun h0 hx=>Hs.out.zRW h0 hx)
    case p2=>omega
    case p3=>omega
    rintro e w1 ⟨rfl,jA,eA⟩;have nb:¬(0<(f k).kn/\bs=kb k):=fun hx=>Hs.out.zRW hx.1 hx.2.symm
    have Hd:=((Hs.out.data.zRK (b':=bs) (o':=off+k*3) (.int .i64 (qT f k0 k)) (Or.inr (by omega))).zRR eA nb);have aB:Hid (zj w1 (kb k) (.slice ka (f k).kn kc) (f k).kn (fun i=>qT f k0 k+1+2*i) (fun i=>qT f k0 k+1+2*i+1)):=jA;clear nb jA pA nA oA tA bA gA;go_wp2_with fail;refine(zAA _ _ (by omega)).mono ?_;rintro e w2 ⟨rfl,bA⟩;obtain⟨dB,gA⟩:=Hd.zRJ bA;clear Hd;go_wp2;go_roundw
    case rel=>
     refine⟨k+1,by omega,by go_num,congrArg (Value.int .i64) (by show _=qT f k0 k+2+2*((f k).kn:Int);omega),fun j hj=>?_,?_⟩
     ·have st:=zMq (s':=zDy f k0 k) aA.out (by
        intro i j hi hj lA h1 h2;rw[zQg]at h1 h2;exact mA.out i j hi hj lA h1 h2) dA (by rw[if_neg (Nat.lt_irrefl k)];exact eA) bA (by rw[if_neg (Nat.lt_irrefl k)];rfl) (by rw[Hx.out];exact aB.out) (zGB (by omega)) j hj
      by_cases e:j=k
      ·subst e;rw[if_pos rfl]at st;rw[if_pos (by omega)];exact st
      ·rw[if_neg e]at st;by_cases e2:j<k
       ·rw[if_pos e2]at st;rw[if_pos (by omega)];exact st
       ·rw[if_neg e2]at st;rw[if_neg (by omega)];exact st
     ·refine(((ht.setCell (Or.inl ⟨by omega,rfl⟩) _).trans (eA.mono ?_)).trans (zF.zRM bA)).setCell (Or.inl ⟨by omega,rfl⟩) _;rintro b ⟨hb,rfl⟩;exact Or.inr ⟨k,dA,hb,rfl⟩
    case measure=>simp[intOf];omega
   ·obtain rfl:k=n:=(by omega);go_wp2;go_ret;refine⟨rfl,⟨sA,_,c,rfl,mc,fun _=>⟨off,rfl,fun i hi=>?_⟩⟩,ht⟩;have:=aA.out i hi;rw[if_pos hi]at this;exact this
theorem zJ7(bs hb:Nat)(kb:Nat->Nat)(kv:Nat->Value)(v0 v1:Value)(p:zJ)(k0:Int)(w:World)
  (h1:qV w bs kb kv v0 p.n p.s) (iA:yS kb p.n p.s) (h2:qk w hb v1 p.hn p.h) (hd:0<p.hn->¬yr bs kb p.n p.s hb)
  (jA:0<=k0) (eA:qT p.s k0 p.n+p.hn<=1000000000000) :
  Calls Tryz.prog 42 #[.agg #[v0,v1],.int .i64 k0] w fun e w'=>e = .returned (.int .i64 (qT p.s k0 p.n+p.hn))/\qV w' bs kb kv v0 p.n (zDy p.s k0)/\qk w' hb v1 p.hn (fun i=>qT p.s k0 p.n+i)/\
   zF (fun k=>yr bs kb p.n p.s k\/(0<p.hn/\k=hb)) w w':=by
 have q1:=h1;have q2:=h2;obtain⟨_,a,c,rfl,_⟩:=h1;obtain⟨_,a',c',rfl,_⟩:=h2;have Hk:Hid (qT p.s k0 p.n+p.hn<=1000000000000):=eA;have cA:Hid (k0<=qT p.s k0 p.n):=zCa p.s k0 (Nat.zero_le p.n);clear eA;go_enter Tryz.func42,Tryz.ntmps42;go_wp2_with fail;have aA:=(Below.refl w.heap.size w).alloc (Nat.le_refl _) (.cells #[.slice a p.n c,.slice a' p.hn c'] 33);refine(zI4 bs kb kv _ p.n p.s _ _ (q1.zRJ aA) iA jA (by have:=Hk.out;omega)).mono ?_;rintro e w1 ⟨rfl,gA,bA⟩;have nb:¬yr bs kb p.n p.s w.heap.size:=fun x=>Nat.lt_irrefl _ (q1.lt x)
 have e1:=bA.cell (b:=w.heap.size) (o:=1) (by simp) nb;simp at e1;go_wp2_with fail;refine(zH5 hb _ p.hn p.h _ _ ((q2.zRJ aA).zRR bA hd) (by have:=cA.out;omega) Hk.out).mono ?_;rintro e w2 ⟨rfl,fA,dA⟩;go_wp2;go_ret;refine⟨rfl,?_,fA,?_⟩
 ·refine gA.zRR dA (fun h0 hx=>?_) (fun i hi h0 hx=>?_)
  ·exact hd hx.1 (Or.inl ⟨h0,hx.2.symm⟩)
  ·exact hd hx.1 (Or.inr ⟨i,hi,h0,hx.2.symm⟩)
 ·exact((zF.zRM aA).trans (bA.mono fun k h=>Or.inl h)).trans (dA.mono fun k h=>Or.inr h)
def zQW(p:zJ)(k0:Int):zJ:={n:=p.n,s:=zDy p.s k0,hn:=p.hn,h:=fun i=>qT p.s k0 p.n+i}
def zBB(p:zJ)(k0:Int):Int:=qT p.s k0 p.n+p.hn
def ze(f:Nat->qC)(k0:Int):Nat->Int
 | 0=>k0
 | j+1=>ze f k0 j+5+2*(f j).dn
def zOb(s:qC)(c:Int):qC:={name:=mtF (c),origin:=c+1,zRT:=c+1+1,rs:=c+1+1+1,rb:=c+1+1+1+1,dn:=s.dn,ds:=fun i=>c+1+1+1+1+1+2*i,db:=fun i=>c+1+1+1+1+1+2*i+1}
theorem zGu(f:Nat->qC)(k0:Int)(j:Nat):∀m,ze f k0 j<=ze f k0 (j+m)
 | 0=>Int.le_refl _
 | m+1=>by
  have:=zGu f k0 j m;show _<=ze f k0 (j+m)+5+2*((f (j+m)).dn:Int);omega
theorem zDL(f:Nat->qC)(k0:Int){j n:Nat}(h:j<=n):ze f k0 j<=ze f k0 n:=by
 obtain⟨m,rfl⟩:=Nat.exists_eq_add_of_le h;exact zGu f k0 j m
def zCl(f:Nat->qC)(k0:Int)(j:Nat):qC:=zOb (f j) (ze f k0 j)
theorem zL5(f:Nat->qC)(k0:Int)(j:Nat):(if j<0 then zCl f k0 j else f j)=f j:=if_neg (by omega)
theorem zPu(f:Nat->qC)(k0:Int)(k j:Nat):(if j<k then zCl f k0 j else f j).dn=(f j).dn:=by split<;>rfl
theorem zKj(bs:Nat)(kb:Nat->Nat)(kv:Nat->Value)(v:Value)(n:Nat)(f:Nat->qC)(k0:Int)(w:World)(h1:yN w bs kb kv v n f)(oA:zBL kb n f)(aC:0<=k0)(fB:ze f k0 n<=1000000000000) :
  Calls Tryz.prog 43 #[v,.int .i64 k0] w fun e w'=>e = .returned (.int .i64 (ze f k0 n))/\yN w' bs kb kv v n (zCl f k0)/\zF (zCB bs kb n f) w w':=by
 obtain⟨m1,a,c,rfl,mc,g1⟩:=h1;by_cases vB:n=0
 ·subst vB;go_enter Tryz.func43,Tryz.ntmps43;go_wp2;refine wp_loop_rounds 1 ?_;rw[rounds_succ];go_wp2;go_ret;exact⟨by simp[ze],⟨m1,a,c,rfl,mc,fun h=>absurd h (by omega)⟩,zF.refl _ _⟩
 ·obtain⟨off,rfl,g2⟩:=g1 (by omega);clear g1;have rB:=m1;unfold maxLen at m1;have G2:=za g2;have nB:=za oA;have pB:=za fB;clear g2 oA fB;go_enter Tryz.func43,Tryz.ntmps43;go_wp2
  go_loopw [1,5] (fun m i wr=>∃k:Nat,k<=n/\i = .int .i64 k/\m = .int .i64 (ze f k0 k)/\(∀j,j<n->zAE wr bs (off+j*6) (kb j) (kv j) (if j<k then zCl f k0 j else f j))/\zF (zCB bs kb n f) w wr) (fun _ i _=>n - (intOf i).toNat)
  case atStart=>exact⟨0,Nat.zero_le _,rfl,rfl,fun j hj=>by rw[zL5];exact G2.out j hj,zF.refl _ _⟩
  case round=>
   obtain⟨k,hk,rfl,rfl,cA,ht⟩:=hrel;have bA:=za cA;clear cA;by_cases eA:k<n
   ·have sB:(k:Int)<(n:Int):=(by omega);have hs:=bA.out k eA;rw[if_neg (by omega)]at hs;have cC:k0<=ze f k0 k:=zDL f k0 (Nat.zero_le k);have bC:ze f k0 k+5+2*((f k).dn:Int)<=1000000000000:=Int.le_trans (zDL f k0 (show k+1<=n from eA)) pB.out;have Hs:=za hs;obtain⟨-,ka,kc,lB,-⟩:=hs.zRX;clear hs;generalize hx:kv k=kvk at *;have Hx:=za hx;clear hx;subst lB;obtain⟨⟨p0,kA⟩,⟨p1,gA⟩,⟨p2,jA⟩,⟨p3,lA⟩,⟨p4,iA⟩,⟨p5,fA⟩⟩:=And.intro Hs.out.c0 (And.intro Hs.out.c1 (And.intro Hs.out.c2 (And.intro Hs.out.c3 (And.intro Hs.out.c4 Hs.out.c5))));have HR:=za (yw.refl bs (off+k*6) 6 wr);go_wp2_with fail;clear p0 kA p1 gA p2 jA p3 lA p4 iA p5 fA;have mA:=za Hs.out.c0;have aB:=za Hs.out.c1;have vA:=za Hs.out.c2;have cB:=za Hs.out.c3;have gB:=za Hs.out.c4;have kB:=za Hs.out.c5;have rA:=za HR.out;refine(zAA _ wr (by omega)).mono ?_;rintro e w1 ⟨rfl,aA⟩;have pA:=za (mA.out.zRJ aA);have jB:=za (aB.out.zRJ aA);have sA:=za (vA.out.zRJ aA);have dB:=za (cB.out.zRJ aA);have eB:=za (gB.out.zRJ aA);have tA:=za (kB.out.zRJ aA);have tB:=za (rA.out.zRJ aA);clear aA rA mA aB vA cB gB kB;obtain⟨p0,kA⟩:=pA.out;obtain⟨p1,gA⟩:=jB.out;obtain⟨p2,jA⟩:=sA.out;obtain⟨p3,lA⟩:=dB.out;obtain⟨p4,iA⟩:=eB.out;obtain⟨p5,fA⟩:=tA.out;go_wp2_with fail;clear p0 kA p1 gA p2 jA p3 lA p4 iA p5 fA;have Ea:=za (((((pA.out.set (.string (mtF (ze f k0 k)))).zRK (b':=bs) (o':=off+k*6+1) (.int .i64 (ze f k0 k+1)) (Or.inr (by omega))).zRK (b':=bs) (o':=off+k*6+2) (.int .i64 (ze f k0 k+1+1)) (Or.inr (by omega))).zRK (b':=bs) (o':=off+k*6+3) (.int .i64 (ze f k0 k+1+1+1)) (Or.inr (by omega))).zRK (b':=bs) (o':=off+k*6+3+1) (.int .i64 (ze f k0 k+1+1+1+1)) (Or.inr (by omega)));have Eb:=za (((((jB.out.zRK (b':=bs) (o':=off+k*6) (.string (mtF (ze f k0 k))) (Or.inr (by omega))).set (.int .i64 (ze f k0 k+1))).zRK (b':=bs) (o':=off+k*6+2) (.int .i64 (ze f k0 k+1+1)) (Or.inr (by omega))).zRK (b':=bs) (o':=off+k*6+3) (.int .i64 (ze f k0 k+1+1+1)) (Or.inr (by omega))).zRK (b':=bs) (o':=off+k*6+3+1) (.int .i64 (ze f k0 k+1+1+1+1)) (Or.inr (by omega)));have Ec:=za (((((sA.out.zRK (b':=bs) (o':=off+k*6) (.string (mtF (ze f k0 k))) (Or.inr (by omega))).zRK (b':=bs) (o':=off+k*6+1) (.int .i64 (ze f k0 k+1)) (Or.inr (by omega))).set (.int .i64 (ze f k0 k+1+1))).zRK (b':=bs) (o':=off+k*6+3) (.int .i64 (ze f k0 k+1+1+1)) (Or.inr (by omega))).zRK (b':=bs) (o':=off+k*6+3+1) (.int .i64 (ze f k0 k+1+1+1+1)) (Or.inr (by omega)));have Ed:=za (((((dB.out.zRK (b':=bs) (o':=off+k*6) (.string (mtF (ze f k0 k))) (Or.inr (by omega))).zRK (b':=bs) (o':=off+k*6+1) (.int .i64 (ze f k0 k+1)) (Or.inr (by omega))).zRK (b':=bs) (o':=off+k*6+2) (.int .i64 (ze f k0 k+1+1)) (Or.inr (by omega))).set (.int .i64 (ze f k0 k+1+1+1))).zRK (b':=bs) (o':=off+k*6+3+1) (.int .i64 (ze f k0 k+1+1+1+1)) (Or.inr (by omega)));have Ee:=za (((((eB.out.zRK (b':=bs) (o':=off+k*6) (.string (mtF (ze f k0 k))) (Or.inr (by omega))).zRK (b':=bs) (o':=off+k*6+1) (.int .i64 (ze f k0 k+1)) (Or.inr (by omega))).zRK (b':=bs) (o':=off+k*6+2) (.int .i64 (ze f k0 k+1+1)) (Or.inr (by omega))).zRK (b':=bs) (o':=off+k*6+3) (.int .i64 (ze f k0 k+1+1+1)) (Or.inr (by omega))).set (.int .i64 (ze f k0 k+1+1+1+1)));have Ef:=za (((((tA.out.zRK (b':=bs) (o':=off+k*6) (.string (mtF (ze f k0 k))) (Or.inr (by omega))).zRK (b':=bs) (o':=off+k*6+1) (.int .i64 (ze f k0 k+1)) (Or.inr (by omega))).zRK (b':=bs) (o':=off+k*6+2) (.int .i64 (ze f k0 k+1+1)) (Or.inr (by omega))).zRK (b':=bs) (o':=off+k*6+3) (.int .i64 (ze f k0 k+1+1+1)) (Or.inr (by omega))).zRK (b':=bs) (o':=off+k*6+3+1) (.int .i64 (ze f k0 k+1+1+1+1)) (Or.inr (by omega)));have dA:=za (((((tB.out.set (off+k*6) (.string (mtF (ze f k0 k))) (by omega) (by omega)).set (off+k*6+1) (.int .i64 (ze f k0 k+1)) (by omega) (by omega)).set (off+k*6+2) (.int .i64 (ze f k0 k+1+1)) (by omega) (by omega)).set (off+k*6+3) (.int .i64 (ze f k0 k+1+1+1)) (by omega) (by omega)).set (off+k*6+3+1) (.int .i64 (ze f k0 k+1+1+1+1)) (by omega) (by omega));generalize (((((w1.setCell ⟨bs,off+k*6,none⟩ (.string (mtF (ze f k0 k)))).setCell ⟨bs,off+k*6+1,none⟩ (.int .i64 (ze f k0 k+1))).setCell ⟨bs,off+k*6+2,none⟩ (.int .i64 (ze f k0 k+1+1))).setCell ⟨bs,off+k*6+3,none⟩ (.int .i64 (ze f k0 k+1+1+1))).setCell ⟨bs,off+k*6+3+1,none⟩ (.int .i64 (ze f k0 k+1+1+1+1)))=Y at Ea Eb Ec Ed Ee Ef dA ⊢;refine(zDe (kb k) _ (f k).dn (f k).ds (f k).db _ Y (Hs.out.zRX.zRR dA.out.zRR (fun h0 hx=>Hs.out.zRW h0 hx)) (by omega) (by omega)).mono ?_;rintro e wz ⟨rfl,bB,iB⟩;have oB:=za bB;have nA:=za iB;clear bB iB;go_wp2;go_roundw
    case rel=>
     refine⟨k+1,by omega,by go_num,congrArg (Value.int .i64) (by show _=ze f k0 k+5+2*((f k).dn:Int);omega),fun j hj=>?_,?_⟩
     ·have st:=zOe (s:=zCl f k0 k) bA.out (by
        intro i j hi hj mB h1 h2;rw[zPu]at h1 h2;exact nB.out i j hi hj mB h1 h2) eA dA.out (by rw[if_neg (Nat.lt_irrefl k)];exact nA.out) Ea.out Eb.out Ec.out Ed.out Ee.out (by rw[Hx.out];exact Ef.out) (by rw[if_neg (Nat.lt_irrefl k)];rfl) (by rw[Hx.out];exact oB.out) (zGB (by omega)) j hj
      by_cases e:j=k
      ·subst e;rw[if_pos rfl]at st;rw[if_pos (by omega)];exact st
      ·rw[if_neg e]at st;by_cases e2:j<k
       ·rw[if_pos e2]at st;rw[if_pos (by omega)];exact st
       ·rw[if_neg e2]at st;rw[if_neg (by omega)];exact st
     ·refine(ht.trans (dA.out.zRR.mono ?_)).trans (nA.out.mono ?_)
      ·rintro b rfl;exact Or.inl ⟨by omega,rfl⟩
      ·rintro b ⟨hb,rfl⟩;exact Or.inr ⟨k,eA,hb,rfl⟩
    case measure=>simp[intOf];omega
   ·obtain rfl:k=n:=(by omega);go_wp2;go_ret;refine⟨rfl,⟨rB,_,c,rfl,mc,fun _=>⟨off,rfl,fun i hi=>?_⟩⟩,ht⟩;have:=bA.out i hi;rw[if_pos hi]at this;exact this
def zM(f:Nat->zm)(k0:Int):Nat->Int
 | 0=>k0
 | j+1=>zM f k0 j+7+2*(f j).dn
def zMW(s:zm)(c:Int):zm:={id:=c,name:=mtF (c+1),set:=mtF (c+1+1),zRT:=c+1+1+1,time:=c+1+1+1+1,rs:=c+1+1+1+1+1,rb:=c+1+1+1+1+1+1,dn:=s.dn,ds:=fun i=>c+1+1+1+1+1+1+1+2*i,db:=fun i=>c+1+1+1+1+1+1+1+2*i+1}
theorem zF3(f:Nat->zm)(k0:Int)(j:Nat):∀m,zM f k0 j<=zM f k0 (j+m)
 | 0=>Int.le_refl _
 | m+1=>by
  have:=zF3 f k0 j m;show _<=zM f k0 (j+m)+7+2*((f (j+m)).dn:Int);omega
theorem zCR(f:Nat->zm)(k0:Int){j n:Nat}(h:j<=n):zM f k0 j<=zM f k0 n:=by
 obtain⟨m,rfl⟩:=Nat.exists_eq_add_of_le h;exact zF3 f k0 j m
def zBh(f:Nat->zm)(k0:Int)(j:Nat):zm:=zMW (f j) (zM f k0 j)
theorem zKW(f:Nat->zm)(k0:Int)(j:Nat):(if j<0 then zBh f k0 j else f j)=f j:=if_neg (by omega)
theorem zOE(f:Nat->zm)(k0:Int)(k j:Nat):(if j<k then zBh f k0 j else f j).dn=(f j).dn:=by split<;>rfl
theorem zI8(bs:Nat)(kb:Nat->Nat)(kv:Nat->Value)(v:Value)(n:Nat)(f:Nat->zm)(k0:Int)(w:World)(h1:yV w bs kb kv v n f)(pB:zBD kb n f)(gD:0<=k0)(mC:zM f k0 n<=1000000000000) :
  Calls Tryz.prog 44 #[v,.int .i64 k0] w fun e w'=>e = .returned (.int .i64 (zM f k0 n))/\yV w' bs kb kv v n (zBh f k0)/\zF (zB6 bs kb n f) w w':=by
 obtain⟨m1,a,c,rfl,mc,g1⟩:=h1;by_cases fD:n=0
 ·subst fD;go_enter Tryz.func44,Tryz.ntmps44;go_wp2;refine wp_loop_rounds 1 ?_;rw[rounds_succ];go_wp2;go_ret;exact⟨by simp[zM],⟨m1,a,c,rfl,mc,fun h=>absurd h (by omega)⟩,zF.refl _ _⟩
 ·obtain⟨off,rfl,g2⟩:=g1 (by omega);clear g1;have cD:=m1;unfold maxLen at m1;have G2:=za g2;have tC:=za pB;have bD:=za mC;clear g2 pB mC;go_enter Tryz.func44,Tryz.ntmps44;go_wp2
  go_loopw [1,5] (fun m i wr=>∃k:Nat,k<=n/\i = .int .i64 k/\m = .int .i64 (zM f k0 k)/\(∀j,j<n->zAG wr bs (off+j*8) (kb j) (kv j) (if j<k then zBh f k0 j else f j))/\zF (zB6 bs kb n f) w wr) (fun _ i _=>n - (intOf i).toNat)
  case atStart=>exact⟨0,Nat.zero_le _,rfl,rfl,fun j hj=>by rw[zKW];exact G2.out j hj,zF.refl _ _⟩
  case round=>
   obtain⟨k,hk,rfl,rfl,lA,ht⟩:=hrel;have cA:=za lA;clear lA;by_cases oA:k<n
   ·have dD:(k:Int)<(n:Int):=(by omega);have hs:=cA.out k oA;rw[if_neg (by omega)]at hs;have jD:k0<=zM f k0 k:=zCR f k0 (Nat.zero_le k);have iD:zM f k0 k+7+2*((f k).dn:Int)<=1000000000000:=Int.le_trans (zCR f k0 (show k+1<=n from oA)) bD.out;have Hs:=za hs;obtain⟨-,ka,kc,rC,-⟩:=hs.zRX;clear hs;generalize hx:kv k=kvk at *;have Hx:=za hx;clear hx;subst rC;obtain⟨⟨p0,kA⟩,⟨p1,fA⟩,⟨p2,iA⟩,⟨p3,mA⟩,⟨p4,gA⟩,⟨p5,dA⟩,⟨p6,eA⟩,⟨p7,jA⟩⟩:=And.intro Hs.out.c0 (And.intro Hs.out.c1 (And.intro Hs.out.c2 (And.intro Hs.out.c3 (And.intro Hs.out.c4 (And.intro Hs.out.c5 (And.intro Hs.out.c6 Hs.out.c7))))));have HR:=za (yw.refl bs (off+k*8) 8 wr);go_wp2_with fail;clear p0 kA p1 fA p2 iA p3 mA p4 gA p5 dA p6 eA p7 jA;have pA:=za (Hs.out.c0.set (.int .i64 (zM f k0 k)));have dB:=za (Hs.out.c1.zRK (b':=bs) (o':=off+k*8) (.int .i64 (zM f k0 k)) (Or.inr (by omega)));have cB:=za (Hs.out.c2.zRK (b':=bs) (o':=off+k*8) (.int .i64 (zM f k0 k)) (Or.inr (by omega)));have jB:=za (Hs.out.c3.zRK (b':=bs) (o':=off+k*8) (.int .i64 (zM f k0 k)) (Or.inr (by omega)));have mB:=za (Hs.out.c4.zRK (b':=bs) (o':=off+k*8) (.int .i64 (zM f k0 k)) (Or.inr (by omega)));have nB:=za (Hs.out.c5.zRK (b':=bs) (o':=off+k*8) (.int .i64 (zM f k0 k)) (Or.inr (by omega)));have eB:=za (Hs.out.c6.zRK (b':=bs) (o':=off+k*8) (.int .i64 (zM f k0 k)) (Or.inr (by omega)));have gB:=za (Hs.out.c7.zRK (b':=bs) (o':=off+k*8) (.int .i64 (zM f k0 k)) (Or.inr (by omega)));have sA:=za (HR.out.set (off+k*8) (.int .i64 (zM f k0 k)) (by omega) (by omega));generalize (wr.setCell ⟨bs,off+k*8,none⟩ (.int .i64 (zM f k0 k)))=Y1 at pA dB cB jB mB nB eB gB sA ⊢;refine(zAA _ Y1 (by omega)).mono ?_;rintro e w1 ⟨rfl,aA⟩;have rB:=za (pA.out.zRJ aA);have pC:=za (dB.out.zRJ aA);have aC:=za (cB.out.zRJ aA);have jC:=za (jB.out.zRJ aA);have kC:=za (mB.out.zRJ aA);have bC:=za (nB.out.zRJ aA);have gC:=za (eB.out.zRJ aA);have eC:=za (gB.out.zRJ aA);have eD:=za (sA.out.zRJ aA);clear aA sA pA dB cB jB mB nB eB gB;obtain⟨p0,kA⟩:=rB.out;obtain⟨p1,fA⟩:=pC.out;obtain⟨p2,iA⟩:=aC.out;obtain⟨p3,mA⟩:=jC.out;obtain⟨p4,gA⟩:=kC.out;obtain⟨p5,dA⟩:=bC.out;obtain⟨p6,eA⟩:=gC.out;obtain⟨p7,jA⟩:=eC.out;go_wp2_with fail;clear p0 kA p1 fA p2 iA p3 mA p4 gA p5 dA p6 eA p7 jA;have rA:=za (rB.out.zRK (b':=bs) (o':=off+k*8+1) (.string (mtF (zM f k0 k+1))) (Or.inr (by omega)));have tA:=za (pC.out.set (.string (mtF (zM f k0 k+1))));have vA:=za (aC.out.zRK (b':=bs) (o':=off+k*8+1) (.string (mtF (zM f k0 k+1))) (Or.inr (by omega)));have fB:=za (jC.out.zRK (b':=bs) (o':=off+k*8+1) (.string (mtF (zM f k0 k+1))) (Or.inr (by omega)));have iB:=za (kC.out.zRK (b':=bs) (o':=off+k*8+1) (.string (mtF (zM f k0 k+1))) (Or.inr (by omega)));have kB:=za (bC.out.zRK (b':=bs) (o':=off+k*8+1) (.string (mtF (zM f k0 k+1))) (Or.inr (by omega)));have bB:=za (gC.out.zRK (b':=bs) (o':=off+k*8+1) (.string (mtF (zM f k0 k+1))) (Or.inr (by omega)));have aB:=za (eC.out.zRK (b':=bs) (o':=off+k*8+1) (.string (mtF (zM f k0 k+1))) (Or.inr (by omega)));have lB:=za (eD.out.set (off+k*8+1) (.string (mtF (zM f k0 k+1))) (by omega) (by omega));generalize (w1.setCell ⟨bs,off+k*8+1,none⟩ (.string (mtF (zM f k0 k+1))))=Y2 at rA tA vA fB iB kB bB aB lB ⊢;refine(zAA _ Y2 (by omega)).mono ?_;rintro e w2 ⟨rfl,bA⟩;have dC:=za (rA.out.zRJ bA);have cC:=za (tA.out.zRJ bA);have tB:=za (vA.out.zRJ bA);have sB:=za (fB.out.zRJ bA);have vB:=za (iB.out.zRJ bA);have nC:=za (kB.out.zRJ bA);have fC:=za (bB.out.zRJ bA);have lC:=za (aB.out.zRJ bA);have aD:=za (lB.out.zRJ bA);clear bA lB rA tA vA fB iB kB bB aB;obtain⟨p0,kA⟩:=dC.out;obtain⟨p1,fA⟩:=cC.out;obtain⟨p2,iA⟩:=tB.out;obtain⟨p3,mA⟩:=sB.out;obtain⟨p4,gA⟩:=vB.out;obtain⟨p5,dA⟩:=nC.out;obtain⟨p6,eA⟩:=fC.out;obtain⟨p7,jA⟩:=lC.out;go_wp2_with fail;clear p0 kA p1 fA p2 iA p3 mA p4 gA p5 dA p6 eA p7 jA;have Ea:=za (((((dC.out.zRK (b':=bs) (o':=off+k*8+2) (.string (mtF (zM f k0 k+1+1))) (Or.inr (by omega))).zRK (b':=bs) (o':=off+k*8+3) (.int .i64 (zM f k0 k+1+1+1)) (Or.inr (by omega))).zRK (b':=bs) (o':=off+k*8+4) (.int .i64 (zM f k0 k+1+1+1+1)) (Or.inr (by omega))).zRK (b':=bs) (o':=off+k*8+5) (.int .i64 (zM f k0 k+1+1+1+1+1)) (Or.inr (by omega))).zRK (b':=bs) (o':=off+k*8+5+1) (.int .i64 (zM f k0 k+1+1+1+1+1+1)) (Or.inr (by omega)));have Eb:=za (((((cC.out.zRK (b':=bs) (o':=off+k*8+2) (.string (mtF (zM f k0 k+1+1))) (Or.inr (by omega))).zRK (b':=bs) (o':=off+k*8+3) (.int .i64 (zM f k0 k+1+1+1)) (Or.inr (by omega))).zRK (b':=bs) (o':=off+k*8+4) (.int .i64 (zM f k0 k+1+1+1+1)) (Or.inr (by omega))).zRK (b':=bs) (o':=off+k*8+5) (.int .i64 (zM f k0 k+1+1+1+1+1)) (Or.inr (by omega))).zRK (b':=bs) (o':=off+k*8+5+1) (.int .i64 (zM f k0 k+1+1+1+1+1+1)) (Or.inr (by omega)));have Ec:=za (((((tB.out.set (.string (mtF (zM f k0 k+1+1)))).zRK (b':=bs) (o':=off+k*8+3) (.int .i64 (zM f k0 k+1+1+1)) (Or.inr (by omega))).zRK (b':=bs) (o':=off+k*8+4) (.int .i64 (zM f k0 k+1+1+1+1)) (Or.inr (by omega))).zRK (b':=bs) (o':=off+k*8+5) (.int .i64 (zM f k0 k+1+1+1+1+1)) (Or.inr (by omega))).zRK (b':=bs) (o':=off+k*8+5+1) (.int .i64 (zM f k0 k+1+1+1+1+1+1)) (Or.inr (by omega)));have Ed:=za (((((sB.out.zRK (b':=bs) (o':=off+k*8+2) (.string (mtF (zM f k0 k+1+1))) (Or.inr (by omega))).set (.int .i64 (zM f k0 k+1+1+1))).zRK (b':=bs) (o':=off+k*8+4) (.int .i64 (zM f k0 k+1+1+1+1)) (Or.inr (by omega))).zRK (b':=bs) (o':=off+k*8+5) (.int .i64 (zM f k0 k+1+1+1+1+1)) (Or.inr (by omega))).zRK (b':=bs) (o':=off+k*8+5+1) (.int .i64 (zM f k0 k+1+1+1+1+1+1)) (Or.inr (by omega)));have Ee:=za (((((vB.out.zRK (b':=bs) (o':=off+k*8+2) (.string (mtF (zM f k0 k+1+1))) (Or.inr (by omega))).zRK (b':=bs) (o':=off+k*8+3) (.int .i64 (zM f k0 k+1+1+1)) (Or.inr (by omega))).set (.int .i64 (zM f k0 k+1+1+1+1))).zRK (b':=bs) (o':=off+k*8+5) (.int .i64 (zM f k0 k+1+1+1+1+1)) (Or.inr (by omega))).zRK (b':=bs) (o':=off+k*8+5+1) (.int .i64 (zM f k0 k+1+1+1+1+1+1)) (Or.inr (by omega)));have Ef:=za (((((nC.out.zRK (b':=bs) (o':=off+k*8+2) (.string (mtF (zM f k0 k+1+1))) (Or.inr (by omega))).zRK (b':=bs) (o':=off+k*8+3) (.int .i64 (zM f k0 k+1+1+1)) (Or.inr (by omega))).zRK (b':=bs) (o':=off+k*8+4) (.int .i64 (zM f k0 k+1+1+1+1)) (Or.inr (by omega))).set (.int .i64 (zM f k0 k+1+1+1+1+1))).zRK (b':=bs) (o':=off+k*8+5+1) (.int .i64 (zM f k0 k+1+1+1+1+1+1)) (Or.inr (by omega)));have Eg:=za (((((fC.out.zRK (b':=bs) (o':=off+k*8+2) (.string (mtF (zM f k0 k+1+1))) (Or.inr (by omega))).zRK (b':=bs) (o':=off+k*8+3) (.int .i64 (zM f k0 k+1+1+1)) (Or.inr (by omega))).zRK (b':=bs) (o':=off+k*8+4) (.int .i64 (zM f k0 k+1+1+1+1)) (Or.inr (by omega))).zRK (b':=bs) (o':=off+k*8+5) (.int .i64 (zM f k0 k+1+1+1+1+1)) (Or.inr (by omega))).set (.int .i64 (zM f k0 k+1+1+1+1+1+1)));have Eh:=za (((((lC.out.zRK (b':=bs) (o':=off+k*8+2) (.string (mtF (zM f k0 k+1+1))) (Or.inr (by omega))).zRK (b':=bs) (o':=off+k*8+3) (.int .i64 (zM f k0 k+1+1+1)) (Or.inr (by omega))).zRK (b':=bs) (o':=off+k*8+4) (.int .i64 (zM f k0 k+1+1+1+1)) (Or.inr (by omega))).zRK (b':=bs) (o':=off+k*8+5) (.int .i64 (zM f k0 k+1+1+1+1+1)) (Or.inr (by omega))).zRK (b':=bs) (o':=off+k*8+5+1) (.int .i64 (zM f k0 k+1+1+1+1+1+1)) (Or.inr (by omega)));have nA:=za (((((aD.out.set (off+k*8+2) (.string (mtF (zM f k0 k+1+1))) (by omega) (by omega)).set (off+k*8+3) (.int .i64 (zM f k0 k+1+1+1)) (by omega) (by omega)).set (off+k*8+4) (.int .i64 (zM f k0 k+1+1+1+1)) (by omega) (by omega)).set (off+k*8+5) (.int .i64 (zM f k0 k+1+1+1+1+1)) (by omega) (by omega)).set (off+k*8+5+1) (.int .i64 (zM f k0 k+1+1+1+1+1+1)) (by omega) (by omega));generalize (((((w2.setCell ⟨bs,off+k*8+2,none⟩ (.string (mtF (zM f k0 k+1+1)))).setCell ⟨bs,off+k*8+3,none⟩ (.int .i64 (zM f k0 k+1+1+1))).setCell ⟨bs,off+k*8+4,none⟩ (.int .i64 (zM f k0 k+1+1+1+1))).setCell ⟨bs,off+k*8+5,none⟩ (.int .i64 (zM f k0 k+1+1+1+1+1))).setCell ⟨bs,off+k*8+5+1,none⟩ (.int .i64 (zM f k0 k+1+1+1+1+1+1)))=Y at Ea Eb Ec Ed Ee Ef Eg Eh nA ⊢;refine(zDe (kb k) _ (f k).dn (f k).ds (f k).db _ Y (Hs.out.zRX.zRR nA.out.zRR (fun h0 hx=>Hs.out.zRW h0 hx)) (by omega) (by omega)).mono ?_;rintro e wz ⟨rfl,iC,oC⟩;have vC:=za iC;have oB:=za oC;clear iC oC;go_wp2;go_roundw
    case rel=>
     refine⟨k+1,by omega,by go_num,congrArg (Value.int .i64) (by show _=zM f k0 k+7+2*((f k).dn:Int);omega),fun j hj=>?_,?_⟩
     ·have st:=zOK (s:=zBh f k0 k) cA.out (by
        intro i j hi hj sC h1 h2;rw[zOE]at h1 h2;exact tC.out i j hi hj sC h1 h2) oA nA.out (by rw[if_neg (Nat.lt_irrefl k)];exact oB.out) Ea.out Eb.out Ec.out Ed.out Ee.out Ef.out Eg.out (by rw[Hx.out];exact Eh.out) (by rw[if_neg (Nat.lt_irrefl k)];rfl) (by rw[Hx.out];exact vC.out) ⟨zGB (by omega),zGB (by omega)⟩ j hj
      by_cases e:j=k
      ·subst e;rw[if_pos rfl]at st;rw[if_pos (by omega)];exact st
      ·rw[if_neg e]at st;by_cases e2:j<k
       ·rw[if_pos e2]at st;rw[if_pos (by omega)];exact st
       ·rw[if_neg e2]at st;rw[if_neg (by omega)];exact st
     ·refine(ht.trans (nA.out.zRR.mono ?_)).trans (oB.out.mono ?_)
      ·rintro b rfl;exact Or.inl ⟨by omega,rfl⟩
      ·rintro b ⟨hb,rfl⟩;exact Or.inr ⟨k,oA,hb,rfl⟩
    case measure=>simp[intOf];omega
   ·obtain rfl:k=n:=(by omega);go_wp2;go_ret;refine⟨rfl,⟨cD,_,c,rfl,mc,fun _=>⟨off,rfl,fun i hi=>?_⟩⟩,ht⟩;have:=cA.out i hi;rw[if_pos hi]at this;exact this
def zNg(W:zH)(k0:Int):zH:={zRQ:=zQW W.zRQ k0,time:=W.time,next:=W.next,sn:=W.sn,zRS:=zCl W.zRS (zBB W.zRQ k0),pn:=W.pn,zRP:=zBh W.zRP (ze W.zRS (zBB W.zRQ k0) W.sn)}
def zAk(W:zH)(k0:Int):Int:=zM W.zRP (ze W.zRS (zBB W.zRQ k0) W.sn) W.pn
theorem zP1(p:zJ)(k0:Int):k0<=zBB p k0:=by
 unfold zBB;have:=zCa p.s k0 (Nat.zero_le p.n);have h0:qT p.s k0 0=k0:=rfl;omega
theorem zDq(W:zH)(k0:Int):k0<=zBB W.zRQ k0/\zBB W.zRQ k0<=ze W.zRS (zBB W.zRQ k0) W.sn/\ze W.zRS (zBB W.zRQ k0) W.sn<=zAk W k0:=
 ⟨zP1 _ _,zDL W.zRS (zBB W.zRQ k0) (Nat.zero_le _),zCR W.zRP (ze W.zRS (zBB W.zRQ k0) W.sn) (Nat.zero_le _)⟩
theorem zE8(lo hi:Nat)(v0 v1 v2 v3:Value)(W:zH)(k0:Int)(w:World)(h:qN w lo hi v0 v1 v2 v3 W)(rA:0<=k0)(jA:zAk W k0<=1000000000000) :
  Calls Tryz.prog 13 #[zz v0 v1 v2 v3 W,.int .i64 k0] w fun e w'=>e = .returned (.int .i64 (zAk W k0))/\qN w' lo hi v0 v1 v2 v3 (zNg W k0)/\zF (fun k=>lo<=k/\k<hi) w w':=by
 obtain⟨a0,c0,a1,c1,a2,c2,a3,c3,rfl,rfl,rfl,rfl⟩:=h.form;obtain⟨P,Q,R,⟨⟨bs,hb,kb,kv,s1,s2,s3,s4,s5⟩,⟨bt,kt,vt,t1,t2,t3⟩,⟨bp,kp,vp,p1,p2,p3⟩,pq,pr,qr⟩,hl⟩:=h;have S1:=za s1;have S2:=za s2;have S3:=za s3;have S4:=za s4;have S5:=za s5;have T1:=za t1;have T2:=za t2;have T3:=za t3;have P1:=za p1;have P2:=za p2;have P3:=za p3;have aA:=za (And.intro pq (And.intro pr (And.intro qr hl)));have HE:=za (zDq W k0);have HK:=za jA;have HB:=za (zi.zRL w (.slice a0 W.zRQ.n c0) (.slice a1 W.zRQ.hn c1) (.int .i64 W.time) (.int .i64 W.next) (.slice a2 W.sn c2) (.slice a3 W.pn c3) 37);have ha:=zC w (.cells #[.slice a0 W.zRQ.n c0,.slice a1 W.zRQ.hn c1,.int .i64 W.time,.int .i64 W.next,.slice a2 W.sn c2,.slice a3 W.pn c3] 37);have NA:=za (show ∀k,yr bs kb W.zRQ.n W.zRQ.s k\/(0<W.zRQ.hn/\k=hb)->k<w.heap.size from fun k hk=>by
  rcases hk with hk | ⟨h0,rfl⟩
  ·exact s1.lt hk
  ·obtain⟨_,_,_,_,_,h3,_⟩:=s3;obtain⟨o,_,h4⟩:=h3 h0;exact(h4 0 h0).lt)
 have NB:=za (show ∀k,zCB bt kt W.sn W.zRS k->k<w.heap.size from fun k hk=>t1.lt hk);have NC:=za (show ∀k,zB6 bp kp W.pn W.zRP k->k<w.heap.size from fun k hk=>p1.lt hk);clear s1 s2 s3 s4 s5 t1 t2 t3 p1 p2 p3 pq pr qr hl jA;obtain⟨⟨x0,-⟩,⟨x1,-⟩,⟨x2,-⟩,⟨x3,-⟩,⟨x4,-⟩,⟨x5,-⟩⟩:=HB.out;go_enter Tryz.func13,Tryz.ntmps13;go_wp2_with fail;clear x0 x1 x2 x3 x4 x5;have iA:(w.alloc (.cells #[.slice a0 W.zRQ.n c0,.slice a1 W.zRQ.hn c1,.int .i64 W.time,.int .i64 W.next,.slice a2 W.sn c2,.slice a3 W.pn c3] 37)).heap.size=w.heap.size+1:=World.size_alloc _ _;have mA:=za iA;clear iA;generalize w.alloc (.cells #[.slice a0 W.zRQ.n c0,.slice a1 W.zRQ.hn c1,.int .i64 W.time,.int .i64 W.next,.slice a2 W.sn c2,.slice a3 W.pn c3] 37)=W0 at ha HB mA ⊢;refine(zJ7 bs hb kb kv _ _ W.zRQ k0 W0 (S1.out.zRJ ha) S2.out (S3.out.zRJ ha) S4.out rA (by have h1:=HE.out;have h2:=HK.out;unfold zBB at h1;omega)).mono ?_;rintro e w1 ⟨rfl,g1,g2,bA⟩;have G1:=za g1;have G2:=za g2;have oA:=za bA;have fA:=za (HB.out.zRR bA (fun x=>absurd (NA.out _ x) (by omega)));have pA:=za ((T1.out.zRJ ha).zRR bA (fun k hk x=>aA.out.1 k (S5.out k x) (T3.out k hk)));have nA:=za ((P1.out.zRJ ha).zRR bA (fun k hk x=>aA.out.2.1 k (S5.out k x) (P3.out k hk)));clear g1 g2 bA HB;obtain⟨⟨x0,-⟩,⟨x1,-⟩,⟨x2,-⟩,⟨x3,-⟩,⟨x4,-⟩,⟨x5,-⟩⟩:=fA.out;go_wp2_with fail;clear x0 x1 x2 x3 x4 x5;refine(zKj bt kt vt _ W.sn W.zRS _ w1 pA.out T2.out (by have h1:=HE.out;unfold zBB at h1;omega) (by have h1:=HE.out;have h2:=HK.out;unfold zBB at h1;omega)).mono ?_;rintro e w2 ⟨rfl,g3,cA⟩;have G3:=za g3;have eA:=za cA;have gA:¬zCB bt kt W.sn W.zRS w.heap.size:=fun x=>absurd (NB.out _ x) (by omega)
 have lA:=za (fA.out.zRR cA gA);have sA:=za (nA.out.zRR cA (fun k hk x=>aA.out.2.2.1 k (T3.out k x) (P3.out k hk)));clear g3 cA fA gA;obtain⟨⟨x0,-⟩,⟨x1,-⟩,⟨x2,-⟩,⟨x3,-⟩,⟨x4,-⟩,⟨x5,-⟩⟩:=lA.out;go_wp2_with fail;clear x0 x1 x2 x3 x4 x5;refine(zI8 bp kp vp _ W.pn W.zRP _ w2 sA.out P2.out (by have h1:=HE.out;unfold zBB at h1;omega) (by have h1:=HE.out;have h2:=HK.out;unfold zAk zBB at *;omega)).mono ?_;rintro e w3 ⟨rfl,g4,kA⟩;have G4:=za g4;have dA:=za kA;clear g4 kA;go_wp2;go_ret;refine⟨rfl,⟨P,Q,R,⟨⟨bs,hb,kb,kv,?_,S2.out,?_,S4.out,S5.out⟩,⟨bt,kt,vt,?_,T2.out,T3.out⟩,⟨bp,kp,vp,G4.out,P2.out,P3.out⟩,aA.out.1,aA.out.2.1,aA.out.2.2.1⟩,aA.out.2.2.2⟩,?_⟩
 ·refine(G1.out.zRR eA.out (fun h0 x=>?_) (fun i hi h0 x=>?_)).zRR dA.out (fun h0 x=>?_) (fun i hi h0 x=>?_)
  ·exact aA.out.1 _ (S5.out _ (Or.inl (Or.inl ⟨h0,rfl⟩))) (T3.out _ x)
  ·exact aA.out.1 _ (S5.out _ (Or.inl (Or.inr ⟨i,hi,h0,rfl⟩))) (T3.out _ x)
  ·exact aA.out.2.1 _ (S5.out _ (Or.inl (Or.inl ⟨h0,rfl⟩))) (P3.out _ x)
  ·exact aA.out.2.1 _ (S5.out _ (Or.inl (Or.inr ⟨i,hi,h0,rfl⟩))) (P3.out _ x)
 ·refine(G2.out.zRR eA.out (fun h0 x=>?_)).zRR dA.out (fun h0 x=>?_)
  ·exact aA.out.1 _ (S5.out _ (Or.inr ⟨h0,rfl⟩)) (T3.out _ x)
  ·exact aA.out.2.1 _ (S5.out _ (Or.inr ⟨h0,rfl⟩)) (P3.out _ x)
 ·exact G3.out.zRR dA.out (fun k hk x=>aA.out.2.2.1 k (T3.out k hk) (P3.out k x))
 ·refine(((zF.zRM ha).trans (oA.out.mono ?_)).trans (eA.out.mono ?_)).trans (dA.out.mono ?_)
  ·exact fun k hk=>aA.out.2.2.2 k (Or.inl (S5.out k hk))
  ·exact fun k hk=>aA.out.2.2.2 k (Or.inr (Or.inl (T3.out k hk)))
  ·exact fun k hk=>aA.out.2.2.2 k (Or.inr (Or.inr (P3.out k hk)))
theorem zGH(f:Nat->zL)(k0:Int):∀n,qT f k0 n<=k0+2*(n:Int)+2*(yn f n:Int)
 | 0=>by show k0<=_;omega
 | n+1=>by
  have:=zGH f k0 n;show qT f k0 n+2+2*((f n).kn:Int)<=k0+2*((n+1:Nat):Int)+2*((yn f n+((f n).kn+(f n).data.size):Nat):Int);omega
theorem zFC(f:Nat->qC)(k0:Int):∀n,ze f k0 n<=k0+5*(n:Int)+2*(zBM f n:Int)
 | 0=>by show k0<=_;omega
 | n+1=>by
  have:=zFC f k0 n;show ze f k0 n+5+2*((f n).dn:Int)<=k0+5*((n+1:Nat):Int)+2*((zBM f n+((f n).name.size+(f n).dn):Nat):Int);omega
theorem zEG(f:Nat->zm)(k0:Int):∀n,zM f k0 n<=k0+7*(n:Int)+2*(zAw f n:Int)
 | 0=>by show k0<=_;omega
 | n+1=>by
  have:=zEG f k0 n;show zM f k0 n+7+2*((f n).dn:Int)<=k0+7*((n+1:Nat):Int)+2*((zAw f n+((f n).name.size+(f n).set.size+(f n).dn):Nat):Int);omega
theorem zMT{W:zH}(h:yZ W<=4000000):zAk W 1<=1000000000000/\0<=zAk W 1:=by
 have h1:=zGH W.zRQ.s 1 W.zRQ.n;have h2:=zDq W 1;have h3:=zFC W.zRS (zBB W.zRQ 1) W.sn;have h4:=zEG W.zRP (ze W.zRS (zBB W.zRQ 1) W.sn) W.pn;unfold yZ qD at h;have h5:zBB W.zRQ 1=qT W.zRQ.s 1 W.zRQ.n+W.zRQ.hn:=rfl;have h6:zAk W 1=zM W.zRP (ze W.zRS (zBB W.zRQ 1) W.sn) W.pn:=rfl;generalize zBB W.zRQ 1=e at *;generalize ze W.zRS e W.sn=s at *;omega
end Go.Proofs.YtmgeglgboadfiaaGreatDoor
