/- A part of the proof. -/
import Derived.Test.YtgabgheflgjgiaaGreatDoorU29
import Derived.Test.YtgabgheflgjgiaaGreatDoorU2
import Derived.Laws.BytesArg
set_option linter.unusedVariables false
set_option maxRecDepth 20000
set_option maxHeartbeats 4000000
namespace Go.Proofs.YtgabgheflgjgiaaGreatDoor
open Go.RowKit
structure Wee (W:zH):Prop where
 zOv:qA W.zOv<=1048576
 sn:W.sn<=1048576
 pn:W.pn<=1048576
 deads:zAt W
structure zCU (o:zCW):Prop where
 world:o.code=0->Wee o.world
 id0:0<=o.id
 id1:o.id<1000000000000000000
 many0:0<=o.many
 many1:o.many<1000000000000000000
 code0:0<=o.code
 code1:o.code<1000000000000000000
theorem yT:(0:Int)<1000000000000000000:=by decide
theorem zKs(i:Nat):0<zEU i/\zEU i<100:=by
 unfold zEU;split<;>decide
theorem zJJ{c:Int}(h:0<c/\c<100):zCU (yB c):=by
 refine⟨fun e=>?_,Int.le_refl _,yT,Int.le_refl _,yT,?_,?_⟩
 ·have e':c=0:=e;omega
 ·show 0<=c;omega
 ·show c<_;omega
structure Low (W:zH):Prop where
 zOv:qA W.zOv<=10000
 sn:W.sn<=8
 pn:W.pn<=20
 zOy:∀i,i<W.sn->(W.zOy i).dn<=200
 zOw:∀i,i<W.pn->(W.zOw i).dn<=200
theorem zDC{W:zH}(h:zEn W):Low W:=by
 have hh:=zHB ((qM W).1 h) 0;exact⟨zDp h.right,h.zO3.zOy.1,h.zO3.zOw.1,fun i hi=>(hh.2 i hi).1.1,fun i hi=>(hh.1 i hi).1.1⟩
theorem zA3:∀(l:List (Int×Int)) (p:zI),qA (zW p l)=qA p+l.length
 | [],_=>rfl
 | x :: l,p=>by
  have h:=zA3 l (zBs p x.1);have e:qA (zBs p x.1)=qA p+1:=rfl;show qA (zW (zBs p x.1) l)=_;rw[h,e,List.length_cons];omega
theorem zIC(W:zH)(s:zu):(q9 W s).length<=73:=by
 have h1:=zAX (zg (zY W.zOv s.rs s.rb)) (zj (zY W.zOv s.rs s.rb)) (zN W s.zO0).time (zY W.zOv s.rs s.rb).length;have h2:=qs W.zOv s.rs s.rb;unfold q9;omega
theorem zBC{W:zH}{a b:Prop}{m:Nat}{Q:Nat->Prop}{ei:Nat->Nat}{r:Option Nat}{o:zCW}(h:zCj W a b m Q ei r)(hd:zEn W->r=none->zCU o):zCU (zHg r o):=by
 cases r with
 | some i=>exact zJJ (zKs i)
 | none=>exact hd h.impl rfl
theorem zLD{W:zH}(h:Low W){k:Nat}(hk:k<=W.sn){s:zu}(hs:s.dn=0):Wee (zBg W k s):=by
 refine⟨by have:=h.zOv;show qA W.zOv<=_;omega,by have:=h.sn;show W.sn+1<=_;omega,by have:=h.pn;show W.pn<=_;omega,fun i hi=>?_,fun i hi=>?_⟩
 ·have aA:i<W.sn+1:=hi;show(ins W.zOy k s i).dn<=_;unfold ins;by_cases h1:i<k
  ·rw[if_pos h1];have:=h.zOy i (by omega);omega
  ·rw[if_neg h1];by_cases h2:i=k
   ·rw[if_pos h2,hs];omega
   ·rw[if_neg h2];have:=h.zOy (i - 1) (by omega);omega
 ·have:=h.zOw i hi;show(W.zOw i).dn<=_;omega
theorem zAA.good{W:zH}{name:ByteArray}{w w':World}{e:Ending}(h:zAA W name w e w'):∃o,zCU o/\zw o w e w':=by
 obtain⟨r,o,h1,h2,h3⟩:=h;refine⟨_,zBC h1 (fun hI hr=>?_),h3⟩;obtain⟨k,hk,rfl⟩:=h2 hr;exact⟨fun _=>zLD (zDC hI) hk.1 rfl,Int.le_refl _,yT,Int.le_refl _,yT,Int.le_refl _,yT⟩
theorem qz.good{W:zH}{aA:Int}{name:ByteArray}{w w':World}{e:Ending}(h:qz W aA name w e w'):∃o,zCU o/\zw o w e w':=by
 obtain⟨r,o,h1,h2,h3⟩:=h;refine⟨_,zBC h1 (fun hI hr=>?_),h3⟩;obtain⟨k,hk,rfl⟩:=h2 hr;exact⟨fun _=>zLD (zDC hI) hk.1 rfl,Int.le_refl _,yT,Int.le_refl _,yT,Int.le_refl _,yT⟩
theorem ql.good{W:zH}{set name:ByteArray}{w w':World}{e:Ending}(h:ql W set name w e w'):∃o,zCU o/\zw o w e w':=by
 obtain⟨r,o,h1,h2,h3⟩:=h;refine⟨_,zBC h1 (fun hI hr=>?_),h3⟩;obtain⟨k,hk,rfl⟩:=h2 hr;have hL:=zDC hI;have hn:=hI.zO3.next;refine⟨fun _=>⟨by have:=hL.zOv;show qA W.zOv<=_;omega,by have:=hL.sn;show W.sn<=_;omega,by have:=hL.pn;show W.pn+1<=_;omega,fun i hi=>?_,fun i hi=>?_⟩,by show 0<=W.next;have:=hn.1;omega,by show W.next<_;have:=hn.2;omega,Int.le_refl _,yT,Int.le_refl _,yT⟩
 ·show(if i=k then {W.zOy k with zO0:=W.next,dn:=0}else W.zOy i).dn<=_;by_cases e:i=k
  ·rw[if_pos e];exact Nat.zero_le _
  ·rw[if_neg e];have:=hL.zOy i hi;omega
 ·have aA:i<W.pn+1:=hi;show(if i=W.pn then zA4 W k name set else W.zOw i).dn<=_;by_cases e:i=W.pn
  ·rw[if_pos e];show(W.zOy k).dn<=_;have:=hL.zOy k hk.1;omega
  ·rw[if_neg e];have:=hL.zOw i (by omega);omega
theorem yL.good{W:zH}{name:ByteArray}{w w':World}{e:Ending}(h:yL W name w e w'):∃o,zCU o/\zw o w e w':=by
 obtain⟨r,o,h1,h2,h3⟩:=h;refine⟨_,zBC h1 (fun hI hr=>?_),h3⟩;obtain⟨k,hk,rfl⟩:=h2 hr;have hL:=zDC hI;have hs:=zIC W (W.zOy k);refine⟨fun _=>⟨by have:=hL.zOv;show qA (zW W.zOv (q9 W (W.zOy k)))<=_;rw[zA3];omega,by have:=hL.sn;show W.sn<=_;omega,by have:=hL.pn;show W.pn<=_;omega,fun i hi=>?_,fun i hi=>?_⟩,Int.le_refl _,yT,by show(0:Int)<=((q9 W (W.zOy k)).length:Int);omega,by show((q9 W (W.zOy k)).length:Int)<_;omega,Int.le_refl _,yT⟩
 ·show(if i=k then zK8 W (W.zOy k)else W.zOy i).dn<=_;by_cases e:i=k
  ·rw[if_pos e];exact Nat.zero_le _
  ·rw[if_neg e];have:=hL.zOy i hi;omega
 ·have:=hL.zOw i hi;show(W.zOw i).dn<=_;omega
theorem qv.good{W:zH}{name:ByteArray}{w w':World}{e:Ending}(h:qv W name w e w'):∃o,zCU o/\zw o w e w':=by
 obtain⟨r,o,h1,h2,h3⟩:=h;refine⟨_,zBC h1 (fun hI hr=>?_),h3⟩;obtain⟨k,hk,rfl⟩:=h2 hr;have hL:=zDC hI;have hs:=zIC W (W.zOy k);refine⟨fun _=>⟨by have:=hL.zOv;show qA (zW W.zOv (q9 W (W.zOy k)))<=_;rw[zA3];omega,by have:=hL.sn;show W.sn - 1<=_;omega,by have:=hL.pn;show W.pn<=_;omega,fun i hi=>?_,fun i hi=>?_⟩,Int.le_refl _,yT,by show(0:Int)<=((q9 W (W.zOy k)).length:Int);omega,by show((q9 W (W.zOy k)).length:Int)<_;omega,Int.le_refl _,yT⟩
 ·have aA:i<W.sn - 1:=hi;show(if i<k then W.zOy i else W.zOy (i+1)).dn<=_;by_cases e:i<k
  ·rw[if_pos e];have:=hL.zOy i (by omega);omega
  ·rw[if_neg e];have:=hL.zOy (i+1) (by omega);omega
 ·have:=hL.zOw i hi;show(W.zOw i).dn<=_;omega
theorem yX.good{W:zH}{name:ByteArray}{w w':World}{e:Ending}(h:yX W name w e w'):∃o,zCU o/\zw o w e w':=by
 obtain⟨r,o,h1,h2,h3⟩:=h;refine⟨_,zBC h1 (fun hI hr=>?_),h3⟩;obtain⟨k,k2,hk,bA,rfl⟩:=h2 hr;have hL:=zDC hI;have aA:0<=(qi W name).origin/\(qi W name).origin<=900000:=by
  by_cases h0:(qi W name).origin=0
  ·rw[h0];exact⟨by decide,by decide⟩
  ·obtain⟨j,hj,e⟩:=zIo ((qM W).1 hI).zO3 h0;have:=hI.zO3.range j hj;have:=hI.zO3.next.2;omega
 refine⟨fun _=>⟨by have:=hL.zOv;show qA W.zOv<=_;omega,by have:=hL.sn;show W.sn<=_;omega,by have:=hL.pn;show W.pn<=_;omega,fun i hi=>?_,fun i hi=>?_⟩,aA.1,by show(qi W name).origin<_;omega,Int.le_refl _,yT,Int.le_refl _,yT⟩
 ·have e1:=(zBY (orgTo W.zOy k (W.zOy k2).origin) k2 ((yW W name).getD 0 qu).id i).1;have e2:=(zBY W.zOy k (W.zOy k2).origin i).1;show(orgTo (orgTo W.zOy k (W.zOy k2).origin) k2 ((yW W name).getD 0 qu).id i).dn<=_;rw[e1,e2];have:=hL.zOy i hi;omega
 ·show(zAa W name (yW W name) W.pn i).dn<=_;have:=hL.zOw i hi;unfold zAa;split
  ·show(W.zOw i).dn<=_;omega
  ·omega
theorem zJf(W:zH)(g:zd)(n:Nat)(f h:Nat->Int):(sdD W g n f h).length<=g.dn+n/\(sdY W g n f h).length<=n:=by
 have h1:=zJW f h (zN W g.zO0).time n;have h2:=zAX f h (zN W g.zO0).time n;unfold sdD sdO sdY;rw[List.length_append,zAK];omega
theorem qw.good{W:zH}{cA:Int}{w w':World}{e:Ending}(h:qw W cA w e w'):∃o,zCU o/\zw o w e w':=by
 obtain⟨r,o,h1,h2,h3⟩:=h;refine⟨_,zBC h1 (fun hI hr=>?_),h3⟩;have hL:=zDC hI;obtain⟨k,hk,⟨i,hi,rfl⟩ | ⟨i,hi,rfl⟩⟩:=h2 hr
 ·have hd:=zJf W (W.zOw k) (W.zOw i).dn (W.zOw i).ds (W.zOw i).db;have a1:=hL.zOw k hk.1;have a2:=hL.zOw i hi.1;have hy:(zHA W k i).length<=200:=Nat.le_trans hd.2 a2;have aA:∀j,j<W.pn->(zG9 W k i j).dn<=400:=fun j hj=>by
   unfold zG9;by_cases e:j=i
   ·rw[if_pos e];show(sdD W (W.zOw k) (W.zOw i).dn (W.zOw i).ds (W.zOw i).db).length<=_;omega
   ·rw[if_neg e];have:=hL.zOw j hj;omega
  refine⟨fun _=>⟨by have:=hL.zOv;show qA (zW W.zOv (zHA W k i))<=_;rw[zA3];omega,by have:=hL.sn;show W.sn<=_;omega,by have:=hL.pn;show W.pn - 1<=_;omega,fun j hj=>?_,fun j hj=>?_⟩,Int.le_refl _,yT,by show(0:Int)<=((zHA W k i).length:Int);omega,by show((zHA W k i).length:Int)<_;omega,Int.le_refl _,yT⟩
  ·have:=hL.zOy j hj;show(W.zOy j).dn<=_;omega
  ·have bA:j<W.pn - 1:=hj;show(if j<k then zG9 W k i j else zG9 W k i (j+1)).dn<=_;by_cases e:j<k
   ·rw[if_pos e];have:=aA j (by omega);omega
   ·rw[if_neg e];have:=aA (j+1) (by omega);omega
 ·have hd:=zJf W (W.zOw k) (W.zOy i).dn (W.zOy i).ds (W.zOy i).db;have a1:=hL.zOw k hk.1;have a2:=hL.zOy i hi.1;have hy:(zFX W k i).length<=200:=Nat.le_trans hd.2 a2;refine⟨fun _=>⟨by have:=hL.zOv;show qA (zW W.zOv (zFX W k i))<=_;rw[zA3];omega,by have:=hL.sn;show W.sn<=_;omega,by have:=hL.pn;show W.pn - 1<=_;omega,fun j hj=>?_,fun j hj=>?_⟩,Int.le_refl _,yT,by show(0:Int)<=((zFX W k i).length:Int);omega,by show((zFX W k i).length:Int)<_;omega,Int.le_refl _,yT⟩
  ·show(zHh W k i j).dn<=_;unfold zHh;by_cases e:j=i
   ·rw[if_pos e];show(sdD W (W.zOw k) (W.zOy i).dn (W.zOy i).ds (W.zOy i).db).length<=_;omega
   ·rw[if_neg e];have:=hL.zOy j hj;omega
  ·have bA:j<W.pn - 1:=hj;show(if j<k then W.zOw j else W.zOw (j+1)).dn<=_;by_cases e:j<k
   ·rw[if_pos e];have:=hL.zOw j (by omega);omega
   ·rw[if_neg e];have:=hL.zOw (j+1) (by omega);omega
theorem zJI{W:zH}(hL:Low W){k:Nat}(hk:k<W.sn){y:zCV}(hy:zHo y)(hp:qA y.zOv<=qA W.zOv+40):zCU (zDB W k y):=by
 have hl:=zAX (zg y.old) (zj y.old) (zN W (W.zOy k).zO0).time y.old.length;have h3:=hy.2.1;have hY:(zHe W k y).length+(zNh W k y).length=y.old.length:=hl;have aA:(zEa W k y).dn=(W.zOy k).dn+(zNh W k y).length:=by
  show(zGA W k y).length=_;unfold zGA;rw[List.length_append,zAK]
 have a1:=hL.zOy k hk;unfold zDB;by_cases hc:y.code=0
 ·rw[if_pos hc];refine⟨fun _=>⟨by have:=hL.zOv;show qA (zW y.zOv (zHe W k y))<=_;rw[zA3];omega,by have:=hL.sn;show W.sn<=_;omega,by have:=hL.pn;show W.pn<=_;omega,fun i hi=>?_,fun i hi=>?_⟩,Int.le_refl _,yT,by show(0:Int)<=((zHe W k y).length:Int);omega,by show((zHe W k y).length:Int)<_;omega,Int.le_refl _,yT⟩
  ·show(if i=k then zEa W k y else W.zOy i).dn<=_;by_cases e:i=k
   ·rw[if_pos e,aA];omega
   ·rw[if_neg e];have:=hL.zOy i hi;omega
  ·have:=hL.zOw i hi;show(W.zOw i).dn<=_;omega
 ·rw[if_neg hc];rcases hy.1 with h | ⟨i,-,h⟩
  ·exact absurd h hc
  ·rw[h];exact zJJ (zKs i)
theorem zAQ.good{W:zH}{name:ByteArray}{zO2:Int}{w w':World}{e:Ending}(h:zAQ W name zO2 w e w'):∃o,zCU o/\zw o w e w':=by
 obtain⟨r,o,h1,h2,h3⟩:=h;refine⟨_,zBC h1 (fun hI hr=>?_),h3⟩;obtain⟨k,hk,rfl⟩:=h2 hr;exact zJI (zDC hI) hk.1 (zII _ _ _ _ _) (zHS _ _ _ _ _).1
theorem yU.good{W:zH}{name:ByteArray}{zO2:Int}{data:ByteArray}{w w':World}{e:Ending}(h:yU W name zO2 data w e w'):∃o,zCU o/\zw o w e w':=by
 obtain⟨r,o,h1,h2,h3⟩:=h;refine⟨_,zBC h1 (fun hI hr=>?_),h3⟩;obtain⟨k,hk,rfl⟩:=h2 hr;exact zJI (zDC hI) hk.1 (zHW _ _ _ _ _ _) (zF6 _ _ _ _ _ _).1
theorem zMM(w:World)(n:Int):(convert 46 9 (.slice (some ⟨w.heap.size,0,none⟩) 1 1)).run Tryz.prog (w.alloc (.cells #[.int .u8 n] 5)) = .ok (.string ⟨#[UInt8.ofNat n.toNat]⟩) (w.alloc (.cells #[.int .u8 n] 5)):=
 run_convert_bytes_arg (P:=Tryz.prog) (w.alloc (.cells #[.int .u8 n] 5)) 46 5 (by kernel_rfl) (by kernel_rfl) w.heap.size 0 1 1 [n] rfl (fun i hi=>by
  obtain rfl:i=0:=(by omega);simp) 9 (by kernel_rfl)
def zN6(e:Ending):Prop:=∃d:ByteArray,e = .returned (.string d)/\d.size<=20
theorem zCI(n:Int)(w:World)(h0:0<=n)(h1:n<1000000000000000000):Calls Tryz.prog 31 #[.int .i64 n] w fun e w'=>zN6 e/\Below w.heap.size w w':=by
 by_cases hz:n=0
 ·subst hz;go_enter Tryz.func31,Tryz.ntmps31;go_wp2;go_ret;exact⟨⟨_,rfl,by decide⟩,Below.refl _ _⟩
 have jA:(n == 0)=false:=by rw[beq_eq_false_iff_ne];exact hz
 have dA:¬n<0:=by omega
 go_enter Tryz.func31,Tryz.ntmps31;go_wp2
 go_loopw [0,4] (fun vn vo wr=>∃(m:Int) (d:ByteArray) (k:Nat),vn = .int .i64 m/\vo = .string d/\0<=m/\m<1000000000000000000/\m<10 ^ k/\d.size+k=18/\Below w.heap.size w wr) (fun vn _ _=>(intOf vn).toNat)
 case atStart=>exact⟨n,⟨#[]⟩,18,rfl,rfl,h0,h1,h1,rfl,Below.refl _ _⟩
 case round=>
  obtain⟨m,d,k,rfl,rfl,aA,iA,bA,hk,hb⟩:=hrel;have HB:=zG hb;have Hm:=zG bA;clear hb bA;by_cases hm:m=0
  ·subst hm;go_wp2;go_ret;exact⟨⟨_,rfl,by omega⟩,HB.out⟩
  ·have gA:(m != 0)=true:=(by rw[bne_iff_ne];exact hm);have hr:m.tmod 10=m % 10:=Int.tmod_eq_emod_of_nonneg aA;have hq:m.tdiv 10=m / 10:=Int.tdiv_eq_ediv_of_nonneg aA;have fA:¬m % 10<0:=(by omega);have eA:=zMM wr (48+m % 10);have ha:=zC wr (.cells #[.int .u8 (48+m % 10)] 5);have cA:=zG (zA HB.out ha);obtain⟨k',rfl⟩:∃k',k=k'+1:=by
    cases k with
    | zero=>exfalso;have:=Hm.out;simp at this;omega
    | succ k'=>exact⟨k',rfl⟩
   have Hq:=zG (show m / 10<10 ^ k' by
    have:=Hm.out;rw[Int.pow_succ]at this;generalize (10:Int) ^ k'=P at this ⊢;omega)
   clear ha;go_wp2;go_roundw
   case rel=>exact⟨m / 10,_,k',rfl,rfl,by omega,by omega,Hq.out,by rw[ByteArray.size_append];show 1+d.size+k'=18;omega,cA.out⟩
   case measure=>simp[intOf];omega
structure zN7 (w:World) (D:Nat) (P:Nat->Prop) (v0 v1 v2 v3 u0 u1 u2 u3:Value) (S:zBA) (l1 h1 l2 h2:Nat):Prop where
 box:zAm w D v0 v1 (.int .i64 S.zOx.time) (.int .i64 S.zOx.next) v2 v3 u0 u1 (.int .i64 S.zOz.time) (.int .i64 S.zOz.next) u2 u3
 zOx:zf w l1 h1 v0 v1 v2 v3 S.zOx
 zOz:zf w l2 h2 u0 u1 u2 u3 S.zOz
 hi1:h1<=w.heap.size
 hi2:h2<=w.heap.size
 d1:D<l1\/h1<=D
 d2:D<l2\/h2<=D
 out:∀k,P k->k≠D/\(k<l1\/h1<=k)/\(k<l2\/h2<=k)
 w1:Wee S.zOx
 w2:Wee S.zOz
def zAS(w:World)(D:Nat)(P:Nat->Prop):Prop:=∃v0 v1 v2 v3 u0 u1 u2 u3 S l1 h1 l2 h2,zN7 w D P v0 v1 v2 v3 u0 u1 u2 u3 S l1 h1 l2 h2
theorem zAS.zOr{w w':World}{D:Nat}{P T:Nat->Prop}(h:zAS w D P)(t:zE T w w')(hT:∀k,T k->P k):zAS w' D P:=by
 obtain⟨v0,v1,v2,v3,u0,u1,u2,u3,S,l1,h1,l2,h2,h⟩:=h;exact⟨v0,v1,v2,v3,u0,u1,u2,u3,S,l1,h1,l2,h2,h.box.zOr t (fun e=>(h.out D (hT D e)).1 rfl),h.zOx.zOr t (fun k hk=>(h.out k (hT k hk)).2.1),h.zOz.zOr t (fun k hk=>(h.out k (hT k hk)).2.2),Nat.le_trans h.hi1 t.size,Nat.le_trans h.hi2 t.size,h.d1,h.d2,h.out,h.w1,h.w2⟩
theorem zAS.zOp{w w':World}{D:Nat}{P:Nat->Prop}(h:zAS w D P)(t:Below w.heap.size w w'):zAS w' D P:=h.zOr (T:=fun _=>False) (zE.zOs t) (fun k hk=>hk.elim)
theorem zAS.less{w:World}{D:Nat}{P Q:Nat->Prop}(h:zAS w D P)(hQ:∀k,Q k->P k):zAS w D Q:=by
 obtain⟨v0,v1,v2,v3,u0,u1,u2,u3,S,l1,h1,l2,h2,h⟩:=h;exact⟨v0,v1,v2,v3,u0,u1,u2,u3,S,l1,h1,l2,h2,h.box,h.zOx,h.zOz,h.hi1,h.hi2,h.d1,h.d2,fun k hk=>h.out k (hQ k hk),h.w1,h.w2⟩
theorem zAS.lt{w:World}{D:Nat}{P:Nat->Prop}(h:zAS w D P):D<w.heap.size:=by
 obtain⟨v0,v1,v2,v3,u0,u1,u2,u3,S,l1,h1,l2,h2,h⟩:=h;exact zD h.box.1.1
def zNU(n:Nat)(e:Ending):Prop:=∃d:ByteArray,e = .returned (.string d)/\d.size<=n
def zDW(n:Nat)(D:Nat)(P:Nat->Prop)(w:World)(e:Ending)(w':World):Prop:=zNU n e/\zAS w' D P/\zE (fun k=>k=D) w w'
theorem zLJ{w:World}{D lo hi:Nat}{P:Nat->Prop}{v0 v1 v2 v3:Value}{W:zH}(hD:zAS w D P)(hO:zf w lo hi v0 v1 v2 v3 W)(bA:hi<=w.heap.size)(hd:D<lo\/hi<=D)(hP:∀k,P k->k<lo\/hi<=k)(hw:Wee W) :
  zAS ((((((w.setCell ⟨D,0,none⟩ v0).setCell ⟨D,1,none⟩ v1).setCell ⟨D,2,none⟩ (.int .i64 W.time)).setCell ⟨D,3,none⟩ (.int .i64 W.next)).setCell ⟨D,4,none⟩ v2).setCell ⟨D,5,none⟩ v3) D P:=by
 obtain⟨q0,q1,q2,q3,p0,p1,p2,p3,S,l1,h1,l2,h2,hA⟩:=hD;have aA:=zE.put12a w D v0 v1 (.int .i64 W.time) (.int .i64 W.next) v2 v3;have hk:∀k,(fun k=>k=D) k->k=D:=fun k h=>h
 refine⟨v0,v1,v2,v3,p0,p1,p2,p3,⟨W,S.zOz⟩,lo,hi,l2,h2,?_⟩;constructor
 ·exact hA.box.put12a v0 v1 (.int .i64 W.time) (.int .i64 W.next) v2 v3
 ·exact hO.zOr aA (fun k h=>by rw[hk k h];exact hd)
 ·exact hA.zOz.zOr aA (fun k h=>by rw[hk k h];exact hA.d2)
 ·exact Nat.le_trans bA aA.size
 ·exact Nat.le_trans hA.hi2 aA.size
 ·exact hd
 ·exact hA.d2
 ·exact fun k h=>⟨(hA.out k h).1,hP k h,(hA.out k h).2.2⟩
 ·exact hw
 ·exact hA.w2
theorem zBL(D lo hi:Nat)(P:Nat->Prop)(b1 b2:Bool)(v0 v1 v2 v3:Value)(o:zCW)(w:World)(hD:zAS w D P)(hO:zf w lo hi v0 v1 v2 v3 o.world)(lA:hi<=w.heap.size)(hd:D<lo\/hi<=D)(hP:∀k,P k->k<lo\/hi<=k)(hg:zCU o) :
  Calls Tryz.prog 19 #[.pointer (some ⟨D,0,none⟩),zIK v0 v1 v2 v3 o,.bool b1,.bool b2] w (zDW 100 D P w):=by
 have HO:=zG hO;have HD:=zG hD;have HG:=zG hg;obtain⟨a0,c0,a1,c1,a2,c2,a3,c3,rfl,rfl,rfl,rfl⟩:=hO.form;have oA:=hD.lt;clear hO hD hg;obtain⟨oW,dA,bA,aA⟩:=o;dsimp only at HO ⊢;have ha:=zC w (.cells #[.slice a0 oW.zOv.n c0,.slice a1 oW.zOv.hn c1,.int .i64 oW.time,.int .i64 oW.next,.slice a2 oW.sn c2,.slice a3 oW.pn c3,.int .i64 dA,.int .i64 bA,.int .i64 aA] 71);have hX:=zBi.zOt w (.slice a0 oW.zOv.n c0) (.slice a1 oW.zOv.hn c1) (.int .i64 oW.time) (.int .i64 oW.next) (.slice a2 oW.sn c2) (.slice a3 oW.pn c3) (.int .i64 dA) (.int .i64 bA) (.int .i64 aA) 71;obtain⟨⟨x0,-⟩,⟨x1,-⟩,⟨x2,-⟩,⟨x3,-⟩,⟨x4,-⟩,⟨x5,-⟩,⟨x6,-⟩,⟨x7,-⟩,⟨x8,-⟩⟩:=id hX;go_enter Tryz.func19,Tryz.ntmps19;by_cases hc:aA=0;rotate_left
 ·have pA:(aA != 0)=true:=(by rw[bne_iff_ne];exact hc);go_wp2_with fail;refine(zCI aA _ HG.out.code0 HG.out.code1).mono ?_;rintro e w2 ⟨⟨d,rfl,kA⟩,cA⟩;have HB:=zG (zA ha cA);clear cA ha x0 x1 x2 x3 x4 x5 x6 x7 x8 hX;go_wp2;go_ret;exact⟨⟨_,rfl,by rw[ByteArray.size_append];show 6+d.size<=100;omega⟩,HD.out.zOp HB.out,zE.zOs HB.out⟩
 subst hc;have HW:=zG (HG.out.world rfl);have jA:=fun w':World=>zC w' (.cells #[.slice a0 oW.zOv.n c0,.slice a1 oW.zOv.hn c1,.int .i64 oW.time,.int .i64 oW.next,.slice a2 oW.sn c2,.slice a3 oW.pn c3,.int .i64 dA,.int .i64 bA,.int .i64 0] 71)
 have eA:=zG ((zLJ HD.out HO.out lA hd hP HW.out).zOp (jA _));have gA:=zG ((zE.put12a w D (.slice a0 oW.zOv.n c0) (.slice a1 oW.zOv.hn c1) (.int .i64 oW.time) (.int .i64 oW.next) (.slice a2 oW.sn c2) (.slice a3 oW.pn c3)).trans (zE.zOs (jA _)));obtain⟨q0,q1,q2,q3,p0,p1,p2,p3,S,l1,h1,l2,h2,hA⟩:=HD.out;obtain⟨⟨y0,z0⟩,⟨y1,z1⟩,⟨y2,z2⟩,⟨y3,z3⟩,⟨y4,z4⟩,⟨y5,z5⟩,-⟩:=hA.box;have mA:D≠w.heap.size:=by omega
 have nA:w.heap.size≠D:=by omega
 clear hA hX ha jA;cases b1
 ·cases b2
  ·go_wp2;go_ret;exact⟨⟨_,rfl,by decide⟩,eA.out,gA.out⟩
  ·go_wp2_with fail;refine(zCI bA _ HG.out.many0 HG.out.many1).mono ?_;rintro e w2 ⟨⟨d,rfl,kA⟩,cA⟩;have fA:=zG (eA.out.zOp cA);have iA:=zG (gA.out.trans (zE.zOs cA));clear cA;go_wp2;go_ret;exact⟨⟨_,rfl,by rw[ByteArray.size_append];show 3+d.size<=100;omega⟩,fA.out,iA.out⟩
 ·go_wp2_with fail;refine(zCI dA _ HG.out.id0 HG.out.id1).mono ?_;rintro e w2 ⟨⟨d,rfl,kA⟩,cA⟩;have fA:=zG (eA.out.zOp cA);have iA:=zG (gA.out.trans (zE.zOs cA));clear cA;go_wp2;go_ret;exact⟨⟨_,rfl,by rw[ByteArray.size_append];show 3+d.size<=100;omega⟩,fA.out,iA.out⟩
structure zKj (o:zGV):Prop where
 store:o.code=0->Wee o.store.zOx/\Wee o.store.zOz
 code0:0<=o.code
 code1:o.code<1000000000000000000
theorem zJ7{w:World}{D lo hi:Nat}{P:Nat->Prop}{v0 v1 v2 v3 u0 u1 u2 u3:Value}{S:zBA}(hD:zAS w D P)(hO:zBk w lo hi v0 v1 v2 v3 u0 u1 u2 u3 S)(bA:hi<=w.heap.size)(hd:D<lo\/hi<=D)(hP:∀k,P k->k<lo\/hi<=k)(hw:Wee S.zOx/\Wee S.zOz) :
  zAS (put12 w D v0 v1 (.int .i64 S.zOx.time) (.int .i64 S.zOx.next) v2 v3 u0 u1 (.int .i64 S.zOz.time) (.int .i64 S.zOz.next) u2 u3) D P:=by
 obtain⟨q0,q1,q2,q3,p0,p1,p2,p3,S0,l1,h1,l2,h2,hA⟩:=hD;obtain⟨a1,b1,a2,b2,g1,g2,g3,g4,g5,g6,-⟩:=hO;have aA:=zE.put12 w D v0 v1 (.int .i64 S.zOx.time) (.int .i64 S.zOx.next) v2 v3 u0 u1 (.int .i64 S.zOz.time) (.int .i64 S.zOz.next) u2 u3;have hk:∀k,(fun k=>k=D) k->k=D:=fun k h=>h
 refine⟨v0,v1,v2,v3,u0,u1,u2,u3,S,a1,b1,a2,b2,?_⟩;constructor
 ·exact hA.box.put v0 v1 (.int .i64 S.zOx.time) (.int .i64 S.zOx.next) v2 v3 u0 u1 (.int .i64 S.zOz.time) (.int .i64 S.zOz.next) u2 u3
 ·exact g1.zOr aA (fun k h=>by rw[hk k h];omega)
 ·exact g2.zOr aA (fun k h=>by rw[hk k h];omega)
 ·exact Nat.le_trans (by omega) aA.size
 ·exact Nat.le_trans (by omega) aA.size
 ·omega
 ·omega
 ·exact fun k h=>⟨(hA.out k h).1,by have:=hP k h;omega,by have:=hP k h;omega⟩
 ·exact hw.1
 ·exact hw.2
theorem zJv(D lo hi:Nat)(P:Nat->Prop)(v0 v1 v2 v3 u0 u1 u2 u3:Value)(o:zGV)(w:World)(hD:zAS w D P)(hO:zBk w lo hi v0 v1 v2 v3 u0 u1 u2 u3 o.store)(fA:hi<=w.heap.size)(hd:D<lo\/hi<=D)(hP:∀k,P k->k<lo\/hi<=k)(hg:zKj o) :
  Calls Tryz.prog 33 #[.pointer (some ⟨D,0,none⟩),zN5 v0 v1 v2 v3 u0 u1 u2 u3 o] w (zDW 100 D P w):=by
 have HO:=zG hO;have HD:=zG hD;have HG:=zG hg;obtain⟨a0,c0,a1,c1,a2,c2,a3,c3,rfl,rfl,rfl,rfl⟩:=hO.at.zOx.form;obtain⟨e0,f0,e1,f1,e2,f2,e3,f3,rfl,rfl,rfl,rfl⟩:=hO.at.zOz.form;have mA:=hD.lt;clear hO hD hg;obtain⟨oS,aA⟩:=o;dsimp only at HO ⊢;have ha:=zC w (.cells #[.slice a0 oS.zOx.zOv.n c0,.slice a1 oS.zOx.zOv.hn c1,.int .i64 oS.zOx.time,.int .i64 oS.zOx.next,.slice a2 oS.zOx.sn c2,.slice a3 oS.zOx.pn c3,.slice e0 oS.zOz.zOv.n f0,.slice e1 oS.zOz.zOv.hn f1,.int .i64 oS.zOz.time,.int .i64 oS.zOz.next,.slice e2 oS.zOz.sn f2,.slice e3 oS.zOz.pn f3,.int .i64 aA] 83);have hX:=zA8.zOt w (.slice a0 oS.zOx.zOv.n c0) (.slice a1 oS.zOx.zOv.hn c1) (.int .i64 oS.zOx.time) (.int .i64 oS.zOx.next) (.slice a2 oS.zOx.sn c2) (.slice a3 oS.zOx.pn c3) (.slice e0 oS.zOz.zOv.n f0) (.slice e1 oS.zOz.zOv.hn f1) (.int .i64 oS.zOz.time) (.int .i64 oS.zOz.next) (.slice e2 oS.zOz.sn f2) (.slice e3 oS.zOz.pn f3) (.int .i64 aA) 83;obtain⟨⟨x0,-⟩,⟨x1,-⟩,⟨x2,-⟩,⟨x3,-⟩,⟨x4,-⟩,⟨x5,-⟩,⟨x6,-⟩,⟨x7,-⟩,⟨x8,-⟩,⟨x9,-⟩,⟨jA,-⟩,⟨kA,-⟩,⟨lA,-⟩⟩:=hX;go_enter Tryz.func33,Tryz.ntmps33;by_cases hc:aA=0;rotate_left
 ·have nA:(aA != 0)=true:=(by rw[bne_iff_ne];exact hc);go_wp2_with fail;refine(zCI aA _ HG.out.code0 HG.out.code1).mono ?_;rintro e w2 ⟨⟨d,rfl,oA⟩,cA⟩;have HB:=zG (zA ha cA);clear cA ha x0 x1 x2 x3 x4 x5 x6 x7 x8 x9 jA kA lA;go_wp2;go_ret;exact⟨⟨_,rfl,by rw[ByteArray.size_append];show 6+d.size<=100;omega⟩,HD.out.zOp HB.out,zE.zOs HB.out⟩
 subst hc;have bA:=fun w':World=>zC w' (.cells #[.slice a0 oS.zOx.zOv.n c0,.slice a1 oS.zOx.zOv.hn c1,.int .i64 oS.zOx.time,.int .i64 oS.zOx.next,.slice a2 oS.zOx.sn c2,.slice a3 oS.zOx.pn c3,.slice e0 oS.zOz.zOv.n f0,.slice e1 oS.zOz.zOv.hn f1,.int .i64 oS.zOz.time,.int .i64 oS.zOz.next,.slice e2 oS.zOz.sn f2,.slice e3 oS.zOz.pn f3,.int .i64 0] 83)
 have dA:=zG ((zJ7 HD.out HO.out fA hd hP (HG.out.store rfl)).zOp (bA _));have eA:=zG ((zE.put12 w D (.slice a0 oS.zOx.zOv.n c0) (.slice a1 oS.zOx.zOv.hn c1) (.int .i64 oS.zOx.time) (.int .i64 oS.zOx.next) (.slice a2 oS.zOx.sn c2) (.slice a3 oS.zOx.pn c3) (.slice e0 oS.zOz.zOv.n f0) (.slice e1 oS.zOz.zOv.hn f1) (.int .i64 oS.zOz.time) (.int .i64 oS.zOz.next) (.slice e2 oS.zOz.sn f2) (.slice e3 oS.zOz.pn f3)).trans (zE.zOs (bA _)));obtain⟨q0,q1,q2,q3,p0,p1,p2,p3,S,l1,h1,l2,h2,hA⟩:=HD.out;obtain⟨⟨y0,z0⟩,⟨y1,z1⟩,⟨y2,z2⟩,⟨y3,z3⟩,⟨y4,z4⟩,⟨y5,z5⟩,⟨y6,z6⟩,⟨y7,z7⟩,⟨y8,z8⟩,⟨y9,z9⟩,⟨pA,sA⟩,⟨rA,tA⟩⟩:=hA.box;have gA:D≠w.heap.size:=by omega
 have iA:w.heap.size≠D:=by omega
 clear hA ha bA;go_wp2;go_ret;exact⟨⟨_,rfl,by decide⟩,dA.out,eA.out⟩
theorem zNd:(Tryz.prog.info? 5).map (fun i=>(i.zero,i.size,i.bytes))=some (some (.int .u8 0),1,1):=by kernel_rfl
def zNJ:ByteArray:=strOfNums [0,0,0,0,0,0,0,0,0,0,0,0,0,0,0,0]
theorem zOi(w1:World):(convert 46 9 (.slice (some ⟨w1.heap.size,0,none⟩) 16 16)).run Tryz.prog (w1.alloc (.cells (zDO #[.int .u8 0] 16) 5)) = .ok (.string zNJ) (w1.alloc (.cells (zDO #[.int .u8 0] 16) 5)):=
 run_convert_bytes_arg (P:=Tryz.prog) _ 46 5 (by kernel_rfl) (by kernel_rfl) w1.heap.size 0 16 16 [0,0,0,0,0,0,0,0,0,0,0,0,0,0,0,0] rfl (fun i hi=>by
  have:=(zMs w1 #[.int .u8 0] 16 i 0 5 hi (by simp)).1;rw[Nat.zero_add];have e:([0,0,0,0,0,0,0,0,0,0,0,0,0,0,0,0]:List Int).getD i 0=0:=by
   rcases i with _ | _ | _ | _ | _ | _ | _ | _ | _ | _ | _ | _ | _ | _ | _ | _ | k
   all_goals first | rfl | omega
  rw[e];simpa using this) 9 (by kernel_rfl)
def zMC(p:zI)(xs xb zO2:Int)(d:ByteArray):Prop:=
 (qR p xs xb/\zAB zO2->(Nil (zz p xs xb zO2.toNat) (qD p xs xb zO2.toNat)->d=zNJ)/\(¬Nil (zz p xs xb zO2.toNat) (qD p xs xb zO2.toNat)->d=(p.s (zz p xs xb zO2.toNat).toNat).data))/\(¬(qR p xs xb/\zAB zO2)->d=⟨#[]⟩)
theorem zFg(v0 v1:Value)(lo hi:Nat)(p:zI)(xs xb zO2:Int)(w:World)(h1:qm w lo hi v0 v1 p) :
  Calls Tryz.prog 60 #[.agg #[v0,v1],.agg #[.int .i64 xs,.int .i64 xb],.int .i64 zO2] w fun e w'=>(∃d,e = .returned (.string d)/\zMC p xs xb zO2 d)/\Below w.heap.size w w':=by
 have Hp:=zF h1;obtain⟨a,c,a',c',rfl,rfl⟩:∃a c a' c',v0 = .slice a p.n c/\v1 = .slice a' p.hn c':=by
  obtain⟨⟨_,a,c,h1,_⟩,⟨_,a',c',h3,_⟩⟩:=h1;exact⟨a,c,a',c',h1,h3⟩
 clear h1;have eB:=zB1 w (.slice a p.n c) (.slice a' p.hn c') (.int .i64 xs) (.int .i64 xb) 36 99;go_enter Tryz.func60,Tryz.ntmps60;go_wp2_with fail;generalize (w.alloc (.cells #[.slice a p.n c,.slice a' p.hn c'] 36)).alloc (.cells #[.int .i64 xs,.int .i64 xb] 99)=W at eB ⊢;obtain⟨hB,hX,vA,hz⟩:=eB;refine(zBJ _ _ lo hi p xs xb W (Hp.out.zOp vA)).mono ?_;rintro e w1 ⟨⟨t,rfl,ht⟩,cA⟩;have nA:=zF (hB.zOp cA);have bB:=zF (hX.zOp cA);have iA:=zA vA cA;have rB:w.heap.size+2<=w1.heap.size:=by have:=cA.size;omega
 clear hB hX vA cA hz;by_cases hR:qR p xs xb
 ·have HR:=zF hR;obtain rfl:t=true:=ht.2 hR;clear ht hR;obtain⟨⟨x0,x1⟩,⟨x2,x3⟩⟩:=nA.out;obtain⟨⟨y0,y1⟩,⟨y2,y3⟩⟩:=bB.out;by_cases hN:zAB zO2
  ·have aA:=zF hN;obtain⟨n,rfl⟩:=Int.eq_ofNat_of_zero_le hN.1;have dA:n<64:=(by have:=hN.2;omega);clear hN;go_wp2_with (first | (go_at_call 59;refine(yV _ _).mono ?_;rintro e w2 ⟨⟨t2,rfl,eA⟩,rfl⟩;obtain rfl:t2=true:=eA.2 aA.out;clear eA) | fail);go_wp2_with fail;refine(zDk _ _ lo hi p xs xb n _ (Hp.out.zOp iA) HR.out dA).mono ?_;rintro e w3 ⟨rfl,kA⟩;have aB:=zF (nA.out.zOp kA);have cB:=zA iA kA;have oB:=kA.size;clear kA x0 x1 x2 x3 y0 y1 y2 y3 nA bB;have tA:=zC w3 (.cells #[.int .i64 (zz p xs xb n),.int .i64 (qD p xs xb n)] 99);have jA:=zC (w3.alloc (.cells #[.int .i64 (zz p xs xb n),.int .i64 (qD p xs xb n)] 99)) (.cells #[.int .i64 (qS p xs xb n),.int .i64 (qU p xs xb n)] 99);have gA:=zF ((zk.zOt w3 (.int .i64 (zz p xs xb n)) (.int .i64 (qD p xs xb n)) 99).zOp jA);have oA:=zF ((aB.out.zOp tA).zOp jA);have pA:=zA (zA cB tA) jA;clear tA jA aB;have iB:=zF (zGM HR.out dA);go_wp2_with fail;generalize (w3.alloc (.cells #[.int .i64 (zz p xs xb n),.int .i64 (qD p xs xb n)] 99)).alloc (.cells #[.int .i64 (qS p xs xb n),.int .i64 (qU p xs xb n)] 99)=w4 at gA oA pA ⊢;generalize w3.heap.size=X at gA oB ⊢;refine(yN (zz p xs xb n) (qD p xs xb n) w4).mono ?_;rintro e w5 ⟨⟨t5,rfl,mA⟩,lA⟩;have fB:=zF (oA.out.zOp lA);have gB:=zF (gA.out.zOp lA);have rA:=zA pA lA;clear lA pA cB oA gA;by_cases bA:Nil (zz p xs xb n) (qD p xs xb n)
   ·have fA:=zF bA;obtain rfl:t5=true:=mA.2 bA;clear mA bA;have dB:=zGr 46 5 (.int .u8 0) 1 1 (by kernel_rfl) zNd rfl 16 (by omega) (by omega);have kB:∀w,(Instr.makeSlice 46 (.int .i64 16) (.int .i64 16)).run Tryz.prog w = .ok (.slice (some ⟨w.heap.size,0,none⟩) 16 16) (w.alloc (.cells (zDO #[.int .u8 0] 16) 5)):=dB;clear dB;have pB:=zOi w5;have jB:=zA rA (zC w5 (.cells (zDO #[.int .u8 0] 16) 5));go_wp2;go_ret;exact⟨⟨_,rfl,⟨fun _=>⟨fun _=>rfl,fun h=>absurd fA.out h⟩,fun h=>absurd ⟨HR.out,aA.out⟩ h⟩⟩,jB⟩
   ·have fA:=zF bA;obtain rfl:t5=false:=zP mA bA;clear mA bA;have sA:zA9 p (zz p xs xb n) (qD p xs xb n):=iB.out.resolve_left fA.out;obtain⟨m,hm⟩:=Int.eq_ofNat_of_zero_le sA.1.2.1;have lB:m<p.n:=(by have:=sA.1.2.2.1;omega);have mB:(m:Int)<(p.n:Int):=(by omega);obtain⟨b,off,ka,kc,rfl,nB⟩:=(Hp.out.1.zOp rA).cells lB;obtain⟨q0,q1,q2,_⟩:=nB;obtain⟨⟨x0,x1⟩,⟨x2,x3⟩⟩:=fB.out;obtain⟨⟨y0,y1⟩,⟨y2,y3⟩⟩:=gB.out;rw[hm]at y0;have Hm:=zF hm;clear hm sA;go_wp2;go_ret;refine⟨⟨_,rfl,⟨fun _=>⟨fun h=>absurd h fA.out,fun _=>?_⟩,fun h=>absurd ⟨HR.out,aA.out⟩ h⟩⟩,rA⟩;show(p.s m).data=(p.s (zz p xs xb n).toNat).data;rw[Hm.out];rfl
  ·have aA:=zF hN;clear hN;go_wp2_with (first | (go_at_call 59;refine(yV _ _).mono ?_;rintro e w2 ⟨⟨t2,rfl,eA⟩,rfl⟩;obtain rfl:t2=false:=zP eA aA.out;clear eA) | fail);go_wp2;go_ret;exact⟨⟨_,rfl,⟨fun h=>absurd h.2 aA.out,fun _=>rfl⟩⟩,iA⟩
 ·have HR:=zF hR;obtain rfl:t=false:=zP ht hR;clear ht hR;go_wp2;go_ret;exact⟨⟨_,rfl,⟨fun h=>absurd h.1 HR.out,fun _=>rfl⟩⟩,iA⟩
theorem zKz:(Tryz.prog.info? 5).map (fun i=>(i.zero,i.size,i.bytes))=some (some (.int .u8 0),1,1):=by kernel_rfl
def zCC(w:World)(base:Nat)(v:Value)(l:List Int):Prop:=w.ownsRow base 5 1 v l.length (l.map (Value.int .u8))
theorem zCC.zOp{w w':World}{base:Nat}{v:Value}{l:List Int}(h:zCC w base v l)(t:Below w.heap.size w w'):zCC w' base v l:=zD1 h t
theorem zCC.form{w:World}{base:Nat}{v:Value}{l:List Int}(h:zCC w base v l):∃a c,v = .slice a l.length c:=by
 rcases h.2 with⟨rfl,e⟩ | ⟨g,cap,aA,rfl,-⟩
 ·rw[e];exact⟨_,_,rfl⟩
 ·exact⟨_,_,rfl⟩
theorem zCC.conv{w:World}{base:Nat}{v:Value}{l:List Int}(h:zCC w base v l):(convert 46 9 v).run Tryz.prog w = .ok (.string (strOfNums l)) w:=by
 have h':=h;unfold zCC at h';rcases h'.2 with⟨rfl,e⟩ | ⟨g,cap,aA,rfl,-⟩
 ·obtain rfl:l = []:=List.eq_nil_of_length_eq_zero e;exact run_convert_bytes_nil (P:=Tryz.prog) w 46 5 (by kernel_rfl) (by kernel_rfl) 0 0 9 (by kernel_rfl)
 ·refine run_convert_bytes_arg (P:=Tryz.prog) w 46 5 (by kernel_rfl) (by kernel_rfl) g 0 l.length cap l rfl (fun i hi=>?_) 9 (by kernel_rfl);rw[Nat.zero_add,h'.cellAt i (by omega),List.getElem?_map,List.getElem?_eq_getElem hi,List.getD_eq_getElem?_getD,List.getElem?_eq_getElem hi];rfl
theorem zH5{w:World}{base:Nat}{v:Value}{l:List Int}{r:Int}(h:w.ownsRow base 5 1 v (l.length+1) (l.map (Value.int .u8) ++ [.int .u8 r])):zCC w base v (l ++ [r]):=by
 unfold zCC;rw[List.length_append,List.map_append];exact h
def zNQ(e:Ending):Prop:=∃d:ByteArray,e = .returned (.string d)/\d.size=16
theorem zJM(s:ByteArray)(w:World)(hs:s.size<=100000):Calls Tryz.prog 22 #[.string s] w fun e w'=>zNQ e/\Below w.heap.size w w':=by
 obtain⟨i0,oA,mA⟩:=Option.map_eq_some_iff.1 zKz;simp only[Prod.mk.injEq]at mA;have HI:=zG (And.intro oA mA);clear oA mA;have ha:=zC w (.cells #[] 5);have L1:=zG (show zCC (w.alloc (.cells #[] 5)) w.heap.size (.slice (some ⟨w.heap.size,0,none⟩) 0 0) [] from World.ownsRow_lit (e:=5) (size:=1) w #[] 0 (Nat.le_refl _) (by unfold maxLen;omega) rfl);go_enter Tryz.func22,Tryz.ntmps22;go_wp2
 go_loopw [3,4] (fun v i wr=>∃(k:Nat) (l:List Int),k<=16/\i = .int .i64 k/\l.length=k/\zCC wr w.heap.size v l/\Below w.heap.size w wr) (fun _ i _=>16 - (intOf i).toNat)
 case atStart=>exact⟨0,[],Nat.zero_le _,rfl,rfl,L1.out,ha⟩
 case round=>
  clear L1 ha;obtain⟨k,l,hk,rfl,hl,hr,hb⟩:=hrel;have Hr:=zG hr;have HB:=zG hb;have Hl:=zG hl;obtain⟨va,vc,rfl⟩:=hr.form;rw[hl]at Hr ⊢;have nA:=hr.conv;rw[hl]at nA;have vA:=hb.size;clear hr hb hl;by_cases tA:k<16
  ·have pA:(k:Int)<16:=(by omega);have h0:(0:Int)<=(k:Int):=(by omega);clear nA;have cA:∀r,zCC (wr.alloc (.cells #[.int .u8 r] 5)) w.heap.size (.slice va k vc) l:=fun r=>Hr.out.zOp (zC _ _)
   have gA:=fun r=>World.news_of_block (heap_alloc_last wr (.cells #[.int .u8 r] 5))
   have fA:=fun r=>zA HB.out (zC wr (.cells #[.int .u8 r] 5))
   have hz:=fun r=>show(wr.alloc (.cells #[.int .u8 r] 5)).heap.size=wr.heap.size+1 from World.size_alloc _ _
   by_cases sA:k<s.size
   ·have kA:(k:Int)<(s.size:Int):=(by omega);have eA:=zG (show(wr.alloc (.cells #[.int .u8 (s[k].toNat:Int)] 5)).ownsRow w.heap.size 5 1 (.slice va k vc) k (l.map (Value.int .u8))by have h:=cA (s[k].toNat:Int);unfold zCC at h;rw[Hl.out]at h;exact h);have HN:=zG (gA (s[k].toNat:Int));have dA:=zG (fA (s[k].toNat:Int));have rA:=hz (s[k].toNat:Int);clear cA gA fA hz;go_wp2_with (first
     | (at_builtin;refine wpList_append_lies _ rfl _ _ 46 rfl w.heap.size 5 i0 (.int .u8 0) 1 1 (by kernel_rfl) HI.out.1 HI.out.2.1 HI.out.2.2.1 HI.out.2.2.2 rfl (by decide) _ _ _ rfl eA.out ⟨wr.heap.size,0,none⟩ 1 1 [.int .u8 (s[k].toNat:Int)] rfl rfl HN.out (by simp[Value.oneCell']) (by decide) (by unfold maxLen;omega) (by omega) (by omega) _ rfl ?_;intro g' iA w4 bA aA jA lA)
     | go_in)
    go_roundw
    case rel=>exact⟨k+1,l ++ [(s[k].toNat:Int)],by omega,by go_num,by rw[List.length_append,Hl.out];rfl,zH5 (by rw[Hl.out];exact bA),dA.out.grown aA dA.out.size (fun q hq=>(eA.out.lt q hq).1)⟩
    case measure=>simp[intOf];omega
   ·have kA:¬(k:Int)<(s.size:Int):=(by omega);have eA:=zG (show(wr.alloc (.cells #[.int .u8 46] 5)).ownsRow w.heap.size 5 1 (.slice va k vc) k (l.map (Value.int .u8))by have h:=cA 46;unfold zCC at h;rw[Hl.out]at h;exact h);have HN:=zG (gA 46);have dA:=zG (fA 46);have rA:=hz 46;clear cA gA fA hz;go_wp2_with (first
     | (at_builtin;refine wpList_append_lies _ rfl _ _ 46 rfl w.heap.size 5 i0 (.int .u8 0) 1 1 (by kernel_rfl) HI.out.1 HI.out.2.1 HI.out.2.2.1 HI.out.2.2.2 rfl (by decide) _ _ _ rfl eA.out ⟨wr.heap.size,0,none⟩ 1 1 [.int .u8 46] rfl rfl HN.out (by simp[Value.oneCell']) (by decide) (by unfold maxLen;omega) (by omega) (by omega) _ rfl ?_;intro g' iA w4 bA aA jA lA)
     | go_in)
    go_roundw
    case rel=>exact⟨k+1,l ++ [46],by omega,by go_num,by rw[List.length_append,Hl.out];rfl,zH5 (by rw[Hl.out];exact bA),dA.out.grown aA dA.out.size (fun q hq=>(eA.out.lt q hq).1)⟩
    case measure=>simp[intOf];omega
  ·obtain rfl:k=16:=(by omega);go_wp2;go_ret;exact⟨⟨_,rfl,by rw[strOfNums_size,Hl.out]⟩,HB.out⟩
end Go.Proofs.YtgabgheflgjgiaaGreatDoor
