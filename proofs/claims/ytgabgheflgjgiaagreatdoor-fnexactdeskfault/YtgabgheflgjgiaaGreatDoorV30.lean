/- A part of the proof. -/
import Derived.Test.YtgabgheflgjgiaaGreatDoorV29
import Derived.Test.YtgabgheflgjgiaaGreatDoorV2
import Derived.Laws.BytesArg
set_option linter.unusedVariables false
set_option maxRecDepth 20000
set_option maxHeartbeats 4000000
namespace Go.Proofs.YtgabgheflgjgiaaGreatDoor
open Go.RowKit
structure Wee (W:zH):Prop where
 zOa:qA W.zOa<=1048576
 sn:W.sn<=1048576
 pn:W.pn<=1048576
 deads:zAs W
structure zCR (o:zCT):Prop where
 world:o.code=0->Wee o.world
 id0:0<=o.id
 id1:o.id<1000000000000000000
 many0:0<=o.many
 many1:o.many<1000000000000000000
 code0:0<=o.code
 code1:o.code<1000000000000000000
theorem yT:(0:Int)<1000000000000000000:=by decide
theorem zKd(i:Nat):0<zEO i/\zEO i<100:=by
 unfold zEO;split<;>decide
theorem zI6{c:Int}(h:0<c/\c<100):zCR (yB c):=by
 refine⟨fun e=>?_,Int.le_refl _,yT,Int.le_refl _,yT,?_,?_⟩
 ·have e':c=0:=e;omega
 ·show 0<=c;omega
 ·show c<_;omega
structure Low (W:zH):Prop where
 zOa:qA W.zOa<=10000
 sn:W.sn<=8
 pn:W.pn<=20
 zOd:∀i,i<W.sn->(W.zOd i).dn<=200
 zOb:∀i,i<W.pn->(W.zOb i).dn<=200
theorem zC8{W:zH}(h:zEf W):Low W:=by
 have hh:=zGz ((qM W).1 h) 0;exact⟨zDj h.right,h.zOj.zOd.1,h.zOj.zOb.1,fun i hi=>(hh.2 i hi).1.1,fun i hi=>(hh.1 i hi).1.1⟩
theorem zA2:∀(l:List (Int×Int)) (p:zI),qA (zW p l)=qA p+l.length
 | [],_=>rfl
 | x :: l,p=>by
  have h:=zA2 l (zBq p x.1);have e:qA (zBq p x.1)=qA p+1:=rfl;show qA (zW (zBq p x.1) l)=_;rw[h,e,List.length_cons];omega
theorem zH0(W:zH)(s:zu):(q9 W s).length<=73:=by
 have h1:=zAW (zg (zY W.zOa s.rs s.rb)) (zj (zY W.zOa s.rs s.rb)) (zN W s.zOg).time (zY W.zOa s.rs s.rb).length;have h2:=qs W.zOa s.rs s.rb;unfold q9;omega
theorem zBB{W:zH}{a b:Prop}{m:Nat}{Q:Nat->Prop}{ei:Nat->Nat}{r:Option Nat}{o:zCT}(h:zCg W a b m Q ei r)(hd:zEf W->r=none->zCR o):zCR (zHU r o):=by
 cases r with
 | some i=>exact zI6 (zKd i)
 | none=>exact hd h.impl rfl
theorem zKx{W:zH}(h:Low W){k:Nat}(hk:k<=W.sn){s:zu}(hs:s.dn=0):Wee (zBe W k s):=by
 refine⟨by have:=h.zOa;show qA W.zOa<=_;omega,by have:=h.sn;show W.sn+1<=_;omega,by have:=h.pn;show W.pn<=_;omega,fun i hi=>?_,fun i hi=>?_⟩
 ·have aA:i<W.sn+1:=hi;show(ins W.zOd k s i).dn<=_;unfold ins;by_cases h1:i<k
  ·rw[if_pos h1];have:=h.zOd i (by omega);omega
  ·rw[if_neg h1];by_cases h2:i=k
   ·rw[if_pos h2,hs];omega
   ·rw[if_neg h2];have:=h.zOd (i - 1) (by omega);omega
 ·have:=h.zOb i hi;show(W.zOb i).dn<=_;omega
theorem yz.good{W:zH}{name:ByteArray}{w w':World}{e:Ending}(h:yz W name w e w'):∃o,zCR o/\zw o w e w':=by
 obtain⟨r,o,h1,h2,h3⟩:=h;refine⟨_,zBB h1 (fun hI hr=>?_),h3⟩;obtain⟨k,hk,rfl⟩:=h2 hr;exact⟨fun _=>zKx (zC8 hI) hk.1 rfl,Int.le_refl _,yT,Int.le_refl _,yT,Int.le_refl _,yT⟩
theorem qz.good{W:zH}{aA:Int}{name:ByteArray}{w w':World}{e:Ending}(h:qz W aA name w e w'):∃o,zCR o/\zw o w e w':=by
 obtain⟨r,o,h1,h2,h3⟩:=h;refine⟨_,zBB h1 (fun hI hr=>?_),h3⟩;obtain⟨k,hk,rfl⟩:=h2 hr;exact⟨fun _=>zKx (zC8 hI) hk.1 rfl,Int.le_refl _,yT,Int.le_refl _,yT,Int.le_refl _,yT⟩
theorem ql.good{W:zH}{set name:ByteArray}{w w':World}{e:Ending}(h:ql W set name w e w'):∃o,zCR o/\zw o w e w':=by
 obtain⟨r,o,h1,h2,h3⟩:=h;refine⟨_,zBB h1 (fun hI hr=>?_),h3⟩;obtain⟨k,hk,rfl⟩:=h2 hr;have hL:=zC8 hI;have hn:=hI.zOj.next;refine⟨fun _=>⟨by have:=hL.zOa;show qA W.zOa<=_;omega,by have:=hL.sn;show W.sn<=_;omega,by have:=hL.pn;show W.pn+1<=_;omega,fun i hi=>?_,fun i hi=>?_⟩,by show 0<=W.next;have:=hn.1;omega,by show W.next<_;have:=hn.2;omega,Int.le_refl _,yT,Int.le_refl _,yT⟩
 ·show(if i=k then {W.zOd k with zOg:=W.next,dn:=0}else W.zOd i).dn<=_;by_cases e:i=k
  ·rw[if_pos e];exact Nat.zero_le _
  ·rw[if_neg e];have:=hL.zOd i hi;omega
 ·have aA:i<W.pn+1:=hi;show(if i=W.pn then zA3 W k name set else W.zOb i).dn<=_;by_cases e:i=W.pn
  ·rw[if_pos e];show(W.zOd k).dn<=_;have:=hL.zOd k hk.1;omega
  ·rw[if_neg e];have:=hL.zOb i (by omega);omega
theorem yL.good{W:zH}{name:ByteArray}{w w':World}{e:Ending}(h:yL W name w e w'):∃o,zCR o/\zw o w e w':=by
 obtain⟨r,o,h1,h2,h3⟩:=h;refine⟨_,zBB h1 (fun hI hr=>?_),h3⟩;obtain⟨k,hk,rfl⟩:=h2 hr;have hL:=zC8 hI;have hs:=zH0 W (W.zOd k);refine⟨fun _=>⟨by have:=hL.zOa;show qA (zW W.zOa (q9 W (W.zOd k)))<=_;rw[zA2];omega,by have:=hL.sn;show W.sn<=_;omega,by have:=hL.pn;show W.pn<=_;omega,fun i hi=>?_,fun i hi=>?_⟩,Int.le_refl _,yT,by show(0:Int)<=((q9 W (W.zOd k)).length:Int);omega,by show((q9 W (W.zOd k)).length:Int)<_;omega,Int.le_refl _,yT⟩
 ·show(if i=k then zKs W (W.zOd k)else W.zOd i).dn<=_;by_cases e:i=k
  ·rw[if_pos e];exact Nat.zero_le _
  ·rw[if_neg e];have:=hL.zOd i hi;omega
 ·have:=hL.zOb i hi;show(W.zOb i).dn<=_;omega
theorem qv.good{W:zH}{name:ByteArray}{w w':World}{e:Ending}(h:qv W name w e w'):∃o,zCR o/\zw o w e w':=by
 obtain⟨r,o,h1,h2,h3⟩:=h;refine⟨_,zBB h1 (fun hI hr=>?_),h3⟩;obtain⟨k,hk,rfl⟩:=h2 hr;have hL:=zC8 hI;have hs:=zH0 W (W.zOd k);refine⟨fun _=>⟨by have:=hL.zOa;show qA (zW W.zOa (q9 W (W.zOd k)))<=_;rw[zA2];omega,by have:=hL.sn;show W.sn - 1<=_;omega,by have:=hL.pn;show W.pn<=_;omega,fun i hi=>?_,fun i hi=>?_⟩,Int.le_refl _,yT,by show(0:Int)<=((q9 W (W.zOd k)).length:Int);omega,by show((q9 W (W.zOd k)).length:Int)<_;omega,Int.le_refl _,yT⟩
 ·have aA:i<W.sn - 1:=hi;show(if i<k then W.zOd i else W.zOd (i+1)).dn<=_;by_cases e:i<k
  ·rw[if_pos e];have:=hL.zOd i (by omega);omega
  ·rw[if_neg e];have:=hL.zOd (i+1) (by omega);omega
 ·have:=hL.zOb i hi;show(W.zOb i).dn<=_;omega
theorem yX.good{W:zH}{name:ByteArray}{w w':World}{e:Ending}(h:yX W name w e w'):∃o,zCR o/\zw o w e w':=by
 obtain⟨r,o,h1,h2,h3⟩:=h;refine⟨_,zBB h1 (fun hI hr=>?_),h3⟩;obtain⟨k,k2,hk,bA,rfl⟩:=h2 hr;have hL:=zC8 hI;have aA:0<=(qi W name).zOf/\(qi W name).zOf<=900000:=by
  by_cases h0:(qi W name).zOf=0
  ·rw[h0];exact⟨by decide,by decide⟩
  ·obtain⟨j,hj,e⟩:=zIb ((qM W).1 hI).zOj h0;have:=hI.zOj.range j hj;have:=hI.zOj.next.2;omega
 refine⟨fun _=>⟨by have:=hL.zOa;show qA W.zOa<=_;omega,by have:=hL.sn;show W.sn<=_;omega,by have:=hL.pn;show W.pn<=_;omega,fun i hi=>?_,fun i hi=>?_⟩,aA.1,by show(qi W name).zOf<_;omega,Int.le_refl _,yT,Int.le_refl _,yT⟩
 ·have e1:=(zBW (orgTo W.zOd k (W.zOd k2).zOf) k2 ((yW W name).getD 0 qu).id i).1;have e2:=(zBW W.zOd k (W.zOd k2).zOf i).1;show(orgTo (orgTo W.zOd k (W.zOd k2).zOf) k2 ((yW W name).getD 0 qu).id i).dn<=_;rw[e1,e2];have:=hL.zOd i hi;omega
 ·show(zAZ W name (yW W name) W.pn i).dn<=_;have:=hL.zOb i hi;unfold zAZ;split
  ·show(W.zOb i).dn<=_;omega
  ·omega
theorem zJS(W:zH)(g:zd)(n:Nat)(f h:Nat->Int):(sdD W g n f h).length<=g.dn+n/\(sdY W g n f h).length<=n:=by
 have h1:=zJJ f h (zN W g.zOg).time n;have h2:=zAW f h (zN W g.zOg).time n;unfold sdD sdO sdY;rw[List.length_append,zAJ];omega
theorem qw.good{W:zH}{cA:Int}{w w':World}{e:Ending}(h:qw W cA w e w'):∃o,zCR o/\zw o w e w':=by
 obtain⟨r,o,h1,h2,h3⟩:=h;refine⟨_,zBB h1 (fun hI hr=>?_),h3⟩;have hL:=zC8 hI;obtain⟨k,hk,⟨i,hi,rfl⟩ | ⟨i,hi,rfl⟩⟩:=h2 hr
 ·have hd:=zJS W (W.zOb k) (W.zOb i).dn (W.zOb i).ds (W.zOb i).db;have a1:=hL.zOb k hk.1;have a2:=hL.zOb i hi.1;have hy:(zGy W k i).length<=200:=Nat.le_trans hd.2 a2;have aA:∀j,j<W.pn->(zGx W k i j).dn<=400:=fun j hj=>by
   unfold zGx;by_cases e:j=i
   ·rw[if_pos e];show(sdD W (W.zOb k) (W.zOb i).dn (W.zOb i).ds (W.zOb i).db).length<=_;omega
   ·rw[if_neg e];have:=hL.zOb j hj;omega
  refine⟨fun _=>⟨by have:=hL.zOa;show qA (zW W.zOa (zGy W k i))<=_;rw[zA2];omega,by have:=hL.sn;show W.sn<=_;omega,by have:=hL.pn;show W.pn - 1<=_;omega,fun j hj=>?_,fun j hj=>?_⟩,Int.le_refl _,yT,by show(0:Int)<=((zGy W k i).length:Int);omega,by show((zGy W k i).length:Int)<_;omega,Int.le_refl _,yT⟩
  ·have:=hL.zOd j hj;show(W.zOd j).dn<=_;omega
  ·have bA:j<W.pn - 1:=hj;show(if j<k then zGx W k i j else zGx W k i (j+1)).dn<=_;by_cases e:j<k
   ·rw[if_pos e];have:=aA j (by omega);omega
   ·rw[if_neg e];have:=aA (j+1) (by omega);omega
 ·have hd:=zJS W (W.zOb k) (W.zOd i).dn (W.zOd i).ds (W.zOd i).db;have a1:=hL.zOb k hk.1;have a2:=hL.zOd i hi.1;have hy:(zFO W k i).length<=200:=Nat.le_trans hd.2 a2;refine⟨fun _=>⟨by have:=hL.zOa;show qA (zW W.zOa (zFO W k i))<=_;rw[zA2];omega,by have:=hL.sn;show W.sn<=_;omega,by have:=hL.pn;show W.pn - 1<=_;omega,fun j hj=>?_,fun j hj=>?_⟩,Int.le_refl _,yT,by show(0:Int)<=((zFO W k i).length:Int);omega,by show((zFO W k i).length:Int)<_;omega,Int.le_refl _,yT⟩
  ·show(zHV W k i j).dn<=_;unfold zHV;by_cases e:j=i
   ·rw[if_pos e];show(sdD W (W.zOb k) (W.zOd i).dn (W.zOd i).ds (W.zOd i).db).length<=_;omega
   ·rw[if_neg e];have:=hL.zOd j hj;omega
  ·have bA:j<W.pn - 1:=hj;show(if j<k then W.zOb j else W.zOb (j+1)).dn<=_;by_cases e:j<k
   ·rw[if_pos e];have:=hL.zOb j (by omega);omega
   ·rw[if_neg e];have:=hL.zOb (j+1) (by omega);omega
theorem zI5{W:zH}(hL:Low W){k:Nat}(hk:k<W.sn){y:zCS}(hy:zHc y)(hp:qA y.zOa<=qA W.zOa+40):zCR (zC7 W k y):=by
 have hl:=zAW (zg y.old) (zj y.old) (zN W (W.zOd k).zOg).time y.old.length;have h3:=hy.2.1;have hY:(zHS W k y).length+(zNO W k y).length=y.old.length:=hl;have aA:(zES W k y).dn=(W.zOd k).dn+(zNO W k y).length:=by
  show(zFz W k y).length=_;unfold zFz;rw[List.length_append,zAJ]
 have a1:=hL.zOd k hk;unfold zC7;by_cases hc:y.code=0
 ·rw[if_pos hc];refine⟨fun _=>⟨by have:=hL.zOa;show qA (zW y.zOa (zHS W k y))<=_;rw[zA2];omega,by have:=hL.sn;show W.sn<=_;omega,by have:=hL.pn;show W.pn<=_;omega,fun i hi=>?_,fun i hi=>?_⟩,Int.le_refl _,yT,by show(0:Int)<=((zHS W k y).length:Int);omega,by show((zHS W k y).length:Int)<_;omega,Int.le_refl _,yT⟩
  ·show(if i=k then zES W k y else W.zOd i).dn<=_;by_cases e:i=k
   ·rw[if_pos e,aA];omega
   ·rw[if_neg e];have:=hL.zOd i hi;omega
  ·have:=hL.zOb i hi;show(W.zOb i).dn<=_;omega
 ·rw[if_neg hc];rcases hy.1 with h | ⟨i,-,h⟩
  ·exact absurd h hc
  ·rw[h];exact zI6 (zKd i)
theorem zAP.good{W:zH}{name:ByteArray}{zOi:Int}{w w':World}{e:Ending}(h:zAP W name zOi w e w'):∃o,zCR o/\zw o w e w':=by
 obtain⟨r,o,h1,h2,h3⟩:=h;refine⟨_,zBB h1 (fun hI hr=>?_),h3⟩;obtain⟨k,hk,rfl⟩:=h2 hr;exact zI5 (zC8 hI) hk.1 (zH6 _ _ _ _ _) (zHG _ _ _ _ _).1
theorem yU.good{W:zH}{name:ByteArray}{zOi:Int}{data:ByteArray}{w w':World}{e:Ending}(h:yU W name zOi data w e w'):∃o,zCR o/\zw o w e w':=by
 obtain⟨r,o,h1,h2,h3⟩:=h;refine⟨_,zBB h1 (fun hI hr=>?_),h3⟩;obtain⟨k,hk,rfl⟩:=h2 hr;exact zI5 (zC8 hI) hk.1 (zHK _ _ _ _ _ _) (zFw _ _ _ _ _ _).1
theorem zL5(w:World)(n:Int):(convert 46 9 (.slice (some ⟨w.heap.size,0,none⟩) 1 1)).run Tryz.prog (w.alloc (.cells #[.int .u8 n] 5)) = .ok (.string ⟨#[UInt8.ofNat n.toNat]⟩) (w.alloc (.cells #[.int .u8 n] 5)):=
 run_convert_bytes_arg (P:=Tryz.prog) (w.alloc (.cells #[.int .u8 n] 5)) 46 5 (by kernel_rfl) (by kernel_rfl) w.heap.size 0 1 1 [n] rfl (fun i hi=>by
  obtain rfl:i=0:=(by omega);simp) 9 (by kernel_rfl)
def zNm(e:Ending):Prop:=∃d:ByteArray,e = .returned (.string d)/\d.size<=20
theorem zCF(n:Int)(w:World)(h0:0<=n)(h1:n<1000000000000000000):Calls Tryz.prog 31 #[.int .i64 n] w fun e w'=>zNm e/\Below w.heap.size w w':=by
 by_cases hz:n=0
 ·subst hz;go_enter Tryz.func31,Tryz.ntmps31;go_wp2;go_ret;exact⟨⟨_,rfl,by decide⟩,Below.refl _ _⟩
 have iA:(n == 0)=false:=by rw[beq_eq_false_iff_ne];exact hz
 have dA:¬n<0:=by omega
 go_enter Tryz.func31,Tryz.ntmps31;go_wp2
 go_loopw [0,4] (fun vn vo wr=>∃(m:Int) (d:ByteArray) (k:Nat),vn = .int .i64 m/\vo = .string d/\0<=m/\m<1000000000000000000/\m<10 ^ k/\d.size+k=18/\Below w.heap.size w wr) (fun vn _ _=>(intOf vn).toNat)
 case atStart=>exact⟨n,⟨#[]⟩,18,rfl,rfl,h0,h1,h1,rfl,Below.refl _ _⟩
 case round=>
  obtain⟨m,d,k,rfl,rfl,aA,gA,bA,hk,hb⟩:=hrel;have HB:=zG hb;have Hm:=zG bA;clear hb bA;by_cases hm:m=0
  ·subst hm;go_wp2;go_ret;exact⟨⟨_,rfl,by omega⟩,HB.out⟩
  ·have fA:(m != 0)=true:=(by rw[bne_iff_ne];exact hm);have hr:m.tmod 10=m % 10:=Int.tmod_eq_emod_of_nonneg aA;have hq:m.tdiv 10=m / 10:=Int.tdiv_eq_ediv_of_nonneg aA;have hd0:¬m % 10<0:=(by omega);have eA:=zL5 wr (48+m % 10);have ha:=zC wr (.cells #[.int .u8 (48+m % 10)] 5);have cA:=zG (zA HB.out ha);obtain⟨k',rfl⟩:∃k',k=k'+1:=by
    cases k with
    | zero=>exfalso;have:=Hm.out;simp at this;omega
    | succ k'=>exact⟨k',rfl⟩
   have Hq:=zG (show m / 10<10 ^ k' by
    have:=Hm.out;rw[Int.pow_succ]at this;generalize (10:Int) ^ k'=P at this ⊢;omega)
   clear ha;go_wp2;go_roundw
   case rel=>exact⟨m / 10,_,k',rfl,rfl,by omega,by omega,Hq.out,by rw[ByteArray.size_append];show 1+d.size+k'=18;omega,cA.out⟩
   case measure=>simp[intOf];omega
structure zNn (w:World) (D:Nat) (P:Nat->Prop) (v0 v1 v2 v3 u0 u1 u2 u3:Value) (S:zA9) (l1 h1 l2 h2:Nat):Prop where
 box:zAl w D v0 v1 (.int .i64 S.zOc.time) (.int .i64 S.zOc.next) v2 v3 u0 u1 (.int .i64 S.zOe.time) (.int .i64 S.zOe.next) u2 u3
 zOc:zf w l1 h1 v0 v1 v2 v3 S.zOc
 zOe:zf w l2 h2 u0 u1 u2 u3 S.zOe
 hi1:h1<=w.heap.size
 hi2:h2<=w.heap.size
 d1:D<l1\/h1<=D
 d2:D<l2\/h2<=D
 out:∀k,P k->k≠D/\(k<l1\/h1<=k)/\(k<l2\/h2<=k)
 w1:Wee S.zOc
 w2:Wee S.zOe
def zAR(w:World)(D:Nat)(P:Nat->Prop):Prop:=∃v0 v1 v2 v3 u0 u1 u2 u3 S l1 h1 l2 h2,zNn w D P v0 v1 v2 v3 u0 u1 u2 u3 S l1 h1 l2 h2
theorem zAR.zOW{w w':World}{D:Nat}{P T:Nat->Prop}(h:zAR w D P)(t:zE T w w')(hT:∀k,T k->P k):zAR w' D P:=by
 obtain⟨v0,v1,v2,v3,u0,u1,u2,u3,S,l1,h1,l2,h2,h⟩:=h;exact⟨v0,v1,v2,v3,u0,u1,u2,u3,S,l1,h1,l2,h2,h.box.zOW t (fun e=>(h.out D (hT D e)).1 rfl),h.zOc.zOW t (fun k hk=>(h.out k (hT k hk)).2.1),h.zOe.zOW t (fun k hk=>(h.out k (hT k hk)).2.2),Nat.le_trans h.hi1 t.size,Nat.le_trans h.hi2 t.size,h.d1,h.d2,h.out,h.w1,h.w2⟩
theorem zAR.zOU{w w':World}{D:Nat}{P:Nat->Prop}(h:zAR w D P)(t:Below w.heap.size w w'):zAR w' D P:=h.zOW (T:=fun _=>False) (zE.zOX t) (fun k hk=>hk.elim)
theorem zAR.less{w:World}{D:Nat}{P Q:Nat->Prop}(h:zAR w D P)(hQ:∀k,Q k->P k):zAR w D Q:=by
 obtain⟨v0,v1,v2,v3,u0,u1,u2,u3,S,l1,h1,l2,h2,h⟩:=h;exact⟨v0,v1,v2,v3,u0,u1,u2,u3,S,l1,h1,l2,h2,h.box,h.zOc,h.zOe,h.hi1,h.hi2,h.d1,h.d2,fun k hk=>h.out k (hQ k hk),h.w1,h.w2⟩
theorem zAR.lt{w:World}{D:Nat}{P:Nat->Prop}(h:zAR w D P):D<w.heap.size:=by
 obtain⟨v0,v1,v2,v3,u0,u1,u2,u3,S,l1,h1,l2,h2,h⟩:=h;exact zD h.box.1.1
def zNC(n:Nat)(e:Ending):Prop:=∃d:ByteArray,e = .returned (.string d)/\d.size<=n
def zDR(n:Nat)(D:Nat)(P:Nat->Prop)(w:World)(e:Ending)(w':World):Prop:=zNC n e/\zAR w' D P/\zE (fun k=>k=D) w w'
theorem zK3{w:World}{D lo hi:Nat}{P:Nat->Prop}{v0 v1 v2 v3:Value}{W:zH}(hD:zAR w D P)(hO:zf w lo hi v0 v1 v2 v3 W)(bA:hi<=w.heap.size)(hd:D<lo\/hi<=D)(hP:∀k,P k->k<lo\/hi<=k)(hw:Wee W) :
  zAR ((((((w.setCell ⟨D,0,none⟩ v0).setCell ⟨D,1,none⟩ v1).setCell ⟨D,2,none⟩ (.int .i64 W.time)).setCell ⟨D,3,none⟩ (.int .i64 W.next)).setCell ⟨D,4,none⟩ v2).setCell ⟨D,5,none⟩ v3) D P:=by
 obtain⟨q0,q1,q2,q3,p0,p1,p2,p3,S,l1,h1,l2,h2,hA⟩:=hD;have aA:=zE.put12a w D v0 v1 (.int .i64 W.time) (.int .i64 W.next) v2 v3;have hk:∀k,(fun k=>k=D) k->k=D:=fun k h=>h
 refine⟨v0,v1,v2,v3,p0,p1,p2,p3,⟨W,S.zOe⟩,lo,hi,l2,h2,?_⟩;constructor
 ·exact hA.box.put12a v0 v1 (.int .i64 W.time) (.int .i64 W.next) v2 v3
 ·exact hO.zOW aA (fun k h=>by rw[hk k h];exact hd)
 ·exact hA.zOe.zOW aA (fun k h=>by rw[hk k h];exact hA.d2)
 ·exact Nat.le_trans bA aA.size
 ·exact Nat.le_trans hA.hi2 aA.size
 ·exact hd
 ·exact hA.d2
 ·exact fun k h=>⟨(hA.out k h).1,hP k h,(hA.out k h).2.2⟩
 ·exact hw
 ·exact hA.w2
theorem zBK(D lo hi:Nat)(P:Nat->Prop)(b1 b2:Bool)(v0 v1 v2 v3:Value)(o:zCT)(w:World)(hD:zAR w D P)(hO:zf w lo hi v0 v1 v2 v3 o.world)(kA:hi<=w.heap.size)(hd:D<lo\/hi<=D)(hP:∀k,P k->k<lo\/hi<=k)(hg:zCR o) :
  Calls Tryz.prog 19 #[.pointer (some ⟨D,0,none⟩),zH8 v0 v1 v2 v3 o,.bool b1,.bool b2] w (zDR 100 D P w):=by
 have HO:=zG hO;have HD:=zG hD;have HG:=zG hg;obtain⟨a0,c0,a1,c1,a2,c2,a3,c3,rfl,rfl,rfl,rfl⟩:=hO.form;have nA:=hD.lt;clear hO hD hg;obtain⟨oW,dA,bA,aA⟩:=o;dsimp only at HO ⊢;have ha:=zC w (.cells #[.slice a0 oW.zOa.n c0,.slice a1 oW.zOa.hn c1,.int .i64 oW.time,.int .i64 oW.next,.slice a2 oW.sn c2,.slice a3 oW.pn c3,.int .i64 dA,.int .i64 bA,.int .i64 aA] 71);have hX:=zBg.zOY w (.slice a0 oW.zOa.n c0) (.slice a1 oW.zOa.hn c1) (.int .i64 oW.time) (.int .i64 oW.next) (.slice a2 oW.sn c2) (.slice a3 oW.pn c3) (.int .i64 dA) (.int .i64 bA) (.int .i64 aA) 71;obtain⟨⟨x0,-⟩,⟨x1,-⟩,⟨x2,-⟩,⟨x3,-⟩,⟨x4,-⟩,⟨x5,-⟩,⟨x6,-⟩,⟨x7,-⟩,⟨x8,-⟩⟩:=id hX;go_enter Tryz.func19,Tryz.ntmps19;by_cases hc:aA=0;rotate_left
 ·have oA:(aA != 0)=true:=(by rw[bne_iff_ne];exact hc);go_wp2_with fail;refine(zCF aA _ HG.out.code0 HG.out.code1).mono ?_;rintro e w2 ⟨⟨d,rfl,hd2⟩,cA⟩;have HB:=zG (zA ha cA);clear cA ha x0 x1 x2 x3 x4 x5 x6 x7 x8 hX;go_wp2;go_ret;exact⟨⟨_,rfl,by rw[ByteArray.size_append];show 6+d.size<=100;omega⟩,HD.out.zOU HB.out,zE.zOX HB.out⟩
 subst hc;have HW:=zG (HG.out.world rfl);have jA:=fun w':World=>zC w' (.cells #[.slice a0 oW.zOa.n c0,.slice a1 oW.zOa.hn c1,.int .i64 oW.time,.int .i64 oW.next,.slice a2 oW.sn c2,.slice a3 oW.pn c3,.int .i64 dA,.int .i64 bA,.int .i64 0] 71)
 have eA:=zG ((zK3 HD.out HO.out kA hd hP HW.out).zOU (jA _));have gA:=zG ((zE.put12a w D (.slice a0 oW.zOa.n c0) (.slice a1 oW.zOa.hn c1) (.int .i64 oW.time) (.int .i64 oW.next) (.slice a2 oW.sn c2) (.slice a3 oW.pn c3)).trans (zE.zOX (jA _)));obtain⟨q0,q1,q2,q3,p0,p1,p2,p3,S,l1,h1,l2,h2,hA⟩:=HD.out;obtain⟨⟨y0,z0⟩,⟨y1,z1⟩,⟨y2,z2⟩,⟨y3,z3⟩,⟨y4,z4⟩,⟨y5,z5⟩,-⟩:=hA.box;have lA:D≠w.heap.size:=by omega
 have mA:w.heap.size≠D:=by omega
 clear hA hX ha jA;cases b1
 ·cases b2
  ·go_wp2;go_ret;exact⟨⟨_,rfl,by decide⟩,eA.out,gA.out⟩
  ·go_wp2_with fail;refine(zCF bA _ HG.out.many0 HG.out.many1).mono ?_;rintro e w2 ⟨⟨d,rfl,hd2⟩,cA⟩;have fA:=zG (eA.out.zOU cA);have iA:=zG (gA.out.trans (zE.zOX cA));clear cA;go_wp2;go_ret;exact⟨⟨_,rfl,by rw[ByteArray.size_append];show 3+d.size<=100;omega⟩,fA.out,iA.out⟩
 ·go_wp2_with fail;refine(zCF dA _ HG.out.id0 HG.out.id1).mono ?_;rintro e w2 ⟨⟨d,rfl,hd2⟩,cA⟩;have fA:=zG (eA.out.zOU cA);have iA:=zG (gA.out.trans (zE.zOX cA));clear cA;go_wp2;go_ret;exact⟨⟨_,rfl,by rw[ByteArray.size_append];show 3+d.size<=100;omega⟩,fA.out,iA.out⟩
structure zKU (o:zGK):Prop where
 store:o.code=0->Wee o.store.zOc/\Wee o.store.zOe
 code0:0<=o.code
 code1:o.code<1000000000000000000
theorem zJu{w:World}{D lo hi:Nat}{P:Nat->Prop}{v0 v1 v2 v3 u0 u1 u2 u3:Value}{S:zA9}(hD:zAR w D P)(hO:zBi w lo hi v0 v1 v2 v3 u0 u1 u2 u3 S)(bA:hi<=w.heap.size)(hd:D<lo\/hi<=D)(hP:∀k,P k->k<lo\/hi<=k)(hw:Wee S.zOc/\Wee S.zOe) :
  zAR (put12 w D v0 v1 (.int .i64 S.zOc.time) (.int .i64 S.zOc.next) v2 v3 u0 u1 (.int .i64 S.zOe.time) (.int .i64 S.zOe.next) u2 u3) D P:=by
 obtain⟨q0,q1,q2,q3,p0,p1,p2,p3,S0,l1,h1,l2,h2,hA⟩:=hD;obtain⟨a1,b1,a2,b2,g1,g2,g3,g4,g5,g6,-⟩:=hO;have aA:=zE.put12 w D v0 v1 (.int .i64 S.zOc.time) (.int .i64 S.zOc.next) v2 v3 u0 u1 (.int .i64 S.zOe.time) (.int .i64 S.zOe.next) u2 u3;have hk:∀k,(fun k=>k=D) k->k=D:=fun k h=>h
 refine⟨v0,v1,v2,v3,u0,u1,u2,u3,S,a1,b1,a2,b2,?_⟩;constructor
 ·exact hA.box.put v0 v1 (.int .i64 S.zOc.time) (.int .i64 S.zOc.next) v2 v3 u0 u1 (.int .i64 S.zOe.time) (.int .i64 S.zOe.next) u2 u3
 ·exact g1.zOW aA (fun k h=>by rw[hk k h];omega)
 ·exact g2.zOW aA (fun k h=>by rw[hk k h];omega)
 ·exact Nat.le_trans (by omega) aA.size
 ·exact Nat.le_trans (by omega) aA.size
 ·omega
 ·omega
 ·exact fun k h=>⟨(hA.out k h).1,by have:=hP k h;omega,by have:=hP k h;omega⟩
 ·exact hw.1
 ·exact hw.2
theorem zJi(D lo hi:Nat)(P:Nat->Prop)(v0 v1 v2 v3 u0 u1 u2 u3:Value)(o:zGK)(w:World)(hD:zAR w D P)(hO:zBi w lo hi v0 v1 v2 v3 u0 u1 u2 u3 o.store)(fA:hi<=w.heap.size)(hd:D<lo\/hi<=D)(hP:∀k,P k->k<lo\/hi<=k)(hg:zKU o) :
  Calls Tryz.prog 33 #[.pointer (some ⟨D,0,none⟩),zNl v0 v1 v2 v3 u0 u1 u2 u3 o] w (zDR 100 D P w):=by
 have HO:=zG hO;have HD:=zG hD;have HG:=zG hg;obtain⟨a0,c0,a1,c1,a2,c2,a3,c3,rfl,rfl,rfl,rfl⟩:=hO.at.zOc.form;obtain⟨e0,f0,e1,f1,e2,f2,e3,f3,rfl,rfl,rfl,rfl⟩:=hO.at.zOe.form;have mA:=hD.lt;clear hO hD hg;obtain⟨oS,aA⟩:=o;dsimp only at HO ⊢;have ha:=zC w (.cells #[.slice a0 oS.zOc.zOa.n c0,.slice a1 oS.zOc.zOa.hn c1,.int .i64 oS.zOc.time,.int .i64 oS.zOc.next,.slice a2 oS.zOc.sn c2,.slice a3 oS.zOc.pn c3,.slice e0 oS.zOe.zOa.n f0,.slice e1 oS.zOe.zOa.hn f1,.int .i64 oS.zOe.time,.int .i64 oS.zOe.next,.slice e2 oS.zOe.sn f2,.slice e3 oS.zOe.pn f3,.int .i64 aA] 83);have hX:=zA7.zOY w (.slice a0 oS.zOc.zOa.n c0) (.slice a1 oS.zOc.zOa.hn c1) (.int .i64 oS.zOc.time) (.int .i64 oS.zOc.next) (.slice a2 oS.zOc.sn c2) (.slice a3 oS.zOc.pn c3) (.slice e0 oS.zOe.zOa.n f0) (.slice e1 oS.zOe.zOa.hn f1) (.int .i64 oS.zOe.time) (.int .i64 oS.zOe.next) (.slice e2 oS.zOe.sn f2) (.slice e3 oS.zOe.pn f3) (.int .i64 aA) 83;obtain⟨⟨x0,-⟩,⟨x1,-⟩,⟨x2,-⟩,⟨x3,-⟩,⟨x4,-⟩,⟨x5,-⟩,⟨x6,-⟩,⟨x7,-⟩,⟨x8,-⟩,⟨x9,-⟩,⟨jA,-⟩,⟨kA,-⟩,⟨lA,-⟩⟩:=hX;go_enter Tryz.func33,Tryz.ntmps33;by_cases hc:aA=0;rotate_left
 ·have nA:(aA != 0)=true:=(by rw[bne_iff_ne];exact hc);go_wp2_with fail;refine(zCF aA _ HG.out.code0 HG.out.code1).mono ?_;rintro e w2 ⟨⟨d,rfl,hd2⟩,cA⟩;have HB:=zG (zA ha cA);clear cA ha x0 x1 x2 x3 x4 x5 x6 x7 x8 x9 jA kA lA;go_wp2;go_ret;exact⟨⟨_,rfl,by rw[ByteArray.size_append];show 6+d.size<=100;omega⟩,HD.out.zOU HB.out,zE.zOX HB.out⟩
 subst hc;have bA:=fun w':World=>zC w' (.cells #[.slice a0 oS.zOc.zOa.n c0,.slice a1 oS.zOc.zOa.hn c1,.int .i64 oS.zOc.time,.int .i64 oS.zOc.next,.slice a2 oS.zOc.sn c2,.slice a3 oS.zOc.pn c3,.slice e0 oS.zOe.zOa.n f0,.slice e1 oS.zOe.zOa.hn f1,.int .i64 oS.zOe.time,.int .i64 oS.zOe.next,.slice e2 oS.zOe.sn f2,.slice e3 oS.zOe.pn f3,.int .i64 0] 83)
 have dA:=zG ((zJu HD.out HO.out fA hd hP (HG.out.store rfl)).zOU (bA _));have eA:=zG ((zE.put12 w D (.slice a0 oS.zOc.zOa.n c0) (.slice a1 oS.zOc.zOa.hn c1) (.int .i64 oS.zOc.time) (.int .i64 oS.zOc.next) (.slice a2 oS.zOc.sn c2) (.slice a3 oS.zOc.pn c3) (.slice e0 oS.zOe.zOa.n f0) (.slice e1 oS.zOe.zOa.hn f1) (.int .i64 oS.zOe.time) (.int .i64 oS.zOe.next) (.slice e2 oS.zOe.sn f2) (.slice e3 oS.zOe.pn f3)).trans (zE.zOX (bA _)));obtain⟨q0,q1,q2,q3,p0,p1,p2,p3,S,l1,h1,l2,h2,hA⟩:=HD.out;obtain⟨⟨y0,z0⟩,⟨y1,z1⟩,⟨y2,z2⟩,⟨y3,z3⟩,⟨y4,z4⟩,⟨y5,z5⟩,⟨y6,z6⟩,⟨y7,z7⟩,⟨y8,z8⟩,⟨y9,z9⟩,⟨oA,rA⟩,⟨pA,sA⟩⟩:=hA.box;have gA:D≠w.heap.size:=by omega
 have iA:w.heap.size≠D:=by omega
 clear hA ha bA;go_wp2;go_ret;exact⟨⟨_,rfl,by decide⟩,dA.out,eA.out⟩
theorem zNL:(Tryz.prog.info? 5).map (fun i=>(i.zero,i.size,i.bytes))=some (some (.int .u8 0),1,1):=by kernel_rfl
def zM1:ByteArray:=strOfNums [0,0,0,0,0,0,0,0,0,0,0,0,0,0,0,0]
theorem zOO(w1:World):(convert 46 9 (.slice (some ⟨w1.heap.size,0,none⟩) 16 16)).run Tryz.prog (w1.alloc (.cells (zDK #[.int .u8 0] 16) 5)) = .ok (.string zM1) (w1.alloc (.cells (zDK #[.int .u8 0] 16) 5)):=
 run_convert_bytes_arg (P:=Tryz.prog) _ 46 5 (by kernel_rfl) (by kernel_rfl) w1.heap.size 0 16 16 [0,0,0,0,0,0,0,0,0,0,0,0,0,0,0,0] rfl (fun i hi=>by
  have:=(zMa w1 #[.int .u8 0] 16 i 0 5 hi (by simp)).1;rw[Nat.zero_add];have e:([0,0,0,0,0,0,0,0,0,0,0,0,0,0,0,0]:List Int).getD i 0=0:=by
   rcases i with _ | _ | _ | _ | _ | _ | _ | _ | _ | _ | _ | _ | _ | _ | _ | _ | k
   all_goals first | rfl | omega
  rw[e];simpa using this) 9 (by kernel_rfl)
def zLv(p:zI)(xs xb zOi:Int)(d:ByteArray):Prop:=
 (qR p xs xb/\zAA zOi->(Nil (zz p xs xb zOi.toNat) (qD p xs xb zOi.toNat)->d=zM1)/\(¬Nil (zz p xs xb zOi.toNat) (qD p xs xb zOi.toNat)->d=(p.s (zz p xs xb zOi.toNat).toNat).data))/\(¬(qR p xs xb/\zAA zOi)->d=⟨#[]⟩)
theorem zFX(v0 v1:Value)(lo hi:Nat)(p:zI)(xs xb zOi:Int)(w:World)(h1:qm w lo hi v0 v1 p) :
  Calls Tryz.prog 60 #[.agg #[v0,v1],.agg #[.int .i64 xs,.int .i64 xb],.int .i64 zOi] w fun e w'=>(∃d,e = .returned (.string d)/\zLv p xs xb zOi d)/\Below w.heap.size w w':=by
 have Hp:=zF h1;obtain⟨a,c,a',c',rfl,rfl⟩:∃a c a' c',v0 = .slice a p.n c/\v1 = .slice a' p.hn c':=by
  obtain⟨⟨_,a,c,h1,_⟩,⟨_,a',c',h3,_⟩⟩:=h1;exact⟨a,c,a',c',h1,h3⟩
 clear h1;have cB:=zBz w (.slice a p.n c) (.slice a' p.hn c') (.int .i64 xs) (.int .i64 xb) 36 99;go_enter Tryz.func60,Tryz.ntmps60;go_wp2_with fail;generalize (w.alloc (.cells #[.slice a p.n c,.slice a' p.hn c'] 36)).alloc (.cells #[.int .i64 xs,.int .i64 xb] 99)=W at cB ⊢;obtain⟨hB,hX,sA,hz⟩:=cB;refine(zBI _ _ lo hi p xs xb W (Hp.out.zOU sA)).mono ?_;rintro e w1 ⟨⟨t,rfl,ht⟩,cA⟩;have lA:=zF (hB.zOU cA);have vA:=zF (hX.zOU cA);have gA:=zA sA cA;have hz1:w.heap.size+2<=w1.heap.size:=by have:=cA.size;omega
 clear hB hX sA cA hz;by_cases hR:qR p xs xb
 ·have HR:=zF hR;obtain rfl:t=true:=ht.2 hR;clear ht hR;obtain⟨⟨x0,x1⟩,⟨x2,x3⟩⟩:=lA.out;obtain⟨⟨y0,y1⟩,⟨y2,y3⟩⟩:=vA.out;by_cases hN:zAA zOi
  ·have aA:=zF hN;obtain⟨n,rfl⟩:=Int.eq_ofNat_of_zero_le hN.1;have dA:n<64:=(by have:=hN.2;omega);clear hN;go_wp2_with (first | (go_at_call 59;refine(yV _ _).mono ?_;rintro e w2 ⟨⟨t2,rfl,ht2⟩,rfl⟩;obtain rfl:t2=true:=ht2.2 aA.out;clear ht2) | fail);go_wp2_with fail;refine(zDe _ _ lo hi p xs xb n _ (Hp.out.zOU gA) HR.out dA).mono ?_;rintro e w3 ⟨rfl,jA⟩;have tA:=zF (lA.out.zOU jA);have aB:=zA gA jA;have hz3:=jA.size;clear jA x0 x1 x2 x3 y0 y1 y2 y3 lA vA;have rA:=zC w3 (.cells #[.int .i64 (zz p xs xb n),.int .i64 (qD p xs xb n)] 99);have iA:=zC (w3.alloc (.cells #[.int .i64 (zz p xs xb n),.int .i64 (qD p xs xb n)] 99)) (.cells #[.int .i64 (qS p xs xb n),.int .i64 (qU p xs xb n)] 99);have fA:=zF ((zk.zOY w3 (.int .i64 (zz p xs xb n)) (.int .i64 (qD p xs xb n)) 99).zOU iA);have mA:=zF ((tA.out.zOU rA).zOU iA);have nA:=zA (zA aB rA) iA;clear rA iA tA;have fB:=zF (zGB HR.out dA);go_wp2_with fail;generalize (w3.alloc (.cells #[.int .i64 (zz p xs xb n),.int .i64 (qD p xs xb n)] 99)).alloc (.cells #[.int .i64 (qS p xs xb n),.int .i64 (qU p xs xb n)] 99)=w4 at fA mA nA ⊢;generalize w3.heap.size=X at fA hz3 ⊢;refine(yN (zz p xs xb n) (qD p xs xb n) w4).mono ?_;rintro e w5 ⟨⟨t5,rfl,ht5⟩,kA⟩;have dB:=zF (mA.out.zOU kA);have eB:=zF (fA.out.zOU kA);have oA:=zA nA kA;clear kA nA aB mA fA;by_cases bA:Nil (zz p xs xb n) (qD p xs xb n)
   ·have eA:=zF bA;obtain rfl:t5=true:=ht5.2 bA;clear ht5 bA;have bB:=zGf 46 5 (.int .u8 0) 1 1 (by kernel_rfl) zNL rfl 16 (by omega) (by omega);have iB:∀w,(Instr.makeSlice 46 (.int .i64 16) (.int .i64 16)).run Tryz.prog w = .ok (.slice (some ⟨w.heap.size,0,none⟩) 16 16) (w.alloc (.cells (zDK #[.int .u8 0] 16) 5)):=bB;clear bB;have mB:=zOO w5;have gB:=zA oA (zC w5 (.cells (zDK #[.int .u8 0] 16) 5));go_wp2;go_ret;exact⟨⟨_,rfl,⟨fun _=>⟨fun _=>rfl,fun h=>absurd eA.out h⟩,fun h=>absurd ⟨HR.out,aA.out⟩ h⟩⟩,gB⟩
   ·have eA:=zF bA;obtain rfl:t5=false:=zP ht5 bA;clear ht5 bA;have pA:zA8 p (zz p xs xb n) (qD p xs xb n):=fB.out.resolve_left eA.out;obtain⟨m,hm⟩:=Int.eq_ofNat_of_zero_le pA.1.2.1;have jB:m<p.n:=(by have:=pA.1.2.2.1;omega);have kB:(m:Int)<(p.n:Int):=(by omega);obtain⟨b,off,ka,kc,rfl,lB⟩:=(Hp.out.1.zOU oA).cells jB;obtain⟨q0,q1,q2,_⟩:=lB;obtain⟨⟨x0,x1⟩,⟨x2,x3⟩⟩:=dB.out;obtain⟨⟨y0,y1⟩,⟨y2,y3⟩⟩:=eB.out;rw[hm]at y0;have Hm:=zF hm;clear hm pA;go_wp2;go_ret;refine⟨⟨_,rfl,⟨fun _=>⟨fun h=>absurd h eA.out,fun _=>?_⟩,fun h=>absurd ⟨HR.out,aA.out⟩ h⟩⟩,oA⟩;show(p.s m).data=(p.s (zz p xs xb n).toNat).data;rw[Hm.out];rfl
  ·have aA:=zF hN;clear hN;go_wp2_with (first | (go_at_call 59;refine(yV _ _).mono ?_;rintro e w2 ⟨⟨t2,rfl,ht2⟩,rfl⟩;obtain rfl:t2=false:=zP ht2 aA.out;clear ht2) | fail);go_wp2;go_ret;exact⟨⟨_,rfl,⟨fun h=>absurd h.2 aA.out,fun _=>rfl⟩⟩,gA⟩
 ·have HR:=zF hR;obtain rfl:t=false:=zP ht hR;clear ht hR;go_wp2;go_ret;exact⟨⟨_,rfl,⟨fun h=>absurd h.1 HR.out,fun _=>rfl⟩⟩,gA⟩
theorem zKj:(Tryz.prog.info? 5).map (fun i=>(i.zero,i.size,i.bytes))=some (some (.int .u8 0),1,1):=by kernel_rfl
def zCA(w:World)(base:Nat)(v:Value)(l:List Int):Prop:=w.ownsRow base 5 1 v l.length (l.map (Value.int .u8))
theorem zCA.zOU{w w':World}{base:Nat}{v:Value}{l:List Int}(h:zCA w base v l)(t:Below w.heap.size w w'):zCA w' base v l:=zDv h t
theorem zCA.form{w:World}{base:Nat}{v:Value}{l:List Int}(h:zCA w base v l):∃a c,v = .slice a l.length c:=by
 rcases h.2 with⟨rfl,e⟩ | ⟨g,cap,aA,rfl,-⟩
 ·rw[e];exact⟨_,_,rfl⟩
 ·exact⟨_,_,rfl⟩
theorem zCA.conv{w:World}{base:Nat}{v:Value}{l:List Int}(h:zCA w base v l):(convert 46 9 v).run Tryz.prog w = .ok (.string (strOfNums l)) w:=by
 have h':=h;unfold zCA at h';rcases h'.2 with⟨rfl,e⟩ | ⟨g,cap,aA,rfl,-⟩
 ·obtain rfl:l = []:=List.eq_nil_of_length_eq_zero e;exact run_convert_bytes_nil (P:=Tryz.prog) w 46 5 (by kernel_rfl) (by kernel_rfl) 0 0 9 (by kernel_rfl)
 ·refine run_convert_bytes_arg (P:=Tryz.prog) w 46 5 (by kernel_rfl) (by kernel_rfl) g 0 l.length cap l rfl (fun i hi=>?_) 9 (by kernel_rfl);rw[Nat.zero_add,h'.cellAt i (by omega),List.getElem?_map,List.getElem?_eq_getElem hi,List.getD_eq_getElem?_getD,List.getElem?_eq_getElem hi];rfl
theorem zHt{w:World}{base:Nat}{v:Value}{l:List Int}{r:Int}(h:w.ownsRow base 5 1 v (l.length+1) (l.map (Value.int .u8) ++ [.int .u8 r])):zCA w base v (l ++ [r]):=by
 unfold zCA;rw[List.length_append,List.map_append];exact h
def zM8(e:Ending):Prop:=∃d:ByteArray,e = .returned (.string d)/\d.size=16
theorem zI9(s:ByteArray)(w:World)(hs:s.size<=100000):Calls Tryz.prog 22 #[.string s] w fun e w'=>zM8 e/\Below w.heap.size w w':=by
 obtain⟨i0,oA,mA⟩:=Option.map_eq_some_iff.1 zKj;simp only[Prod.mk.injEq]at mA;have HI:=zG (And.intro oA mA);clear oA mA;have ha:=zC w (.cells #[] 5);have L1:=zG (show zCA (w.alloc (.cells #[] 5)) w.heap.size (.slice (some ⟨w.heap.size,0,none⟩) 0 0) [] from World.ownsRow_lit (e:=5) (size:=1) w #[] 0 (Nat.le_refl _) (by unfold maxLen;omega) rfl);go_enter Tryz.func22,Tryz.ntmps22;go_wp2
 go_loopw [3,4] (fun v i wr=>∃(k:Nat) (l:List Int),k<=16/\i = .int .i64 k/\l.length=k/\zCA wr w.heap.size v l/\Below w.heap.size w wr) (fun _ i _=>16 - (intOf i).toNat)
 case atStart=>exact⟨0,[],Nat.zero_le _,rfl,rfl,L1.out,ha⟩
 case round=>
  clear L1 ha;obtain⟨k,l,hk,rfl,hl,hr,hb⟩:=hrel;have Hr:=zG hr;have HB:=zG hb;have Hl:=zG hl;obtain⟨va,vc,rfl⟩:=hr.form;rw[hl]at Hr ⊢;have nA:=hr.conv;rw[hl]at nA;have sA:=hb.size;clear hr hb hl;by_cases hlt:k<16
  ·have pA:(k:Int)<16:=(by omega);have h0:(0:Int)<=(k:Int):=(by omega);clear nA;have cA:∀r,zCA (wr.alloc (.cells #[.int .u8 r] 5)) w.heap.size (.slice va k vc) l:=fun r=>Hr.out.zOU (zC _ _)
   have gA:=fun r=>World.news_of_block (heap_alloc_last wr (.cells #[.int .u8 r] 5))
   have fA:=fun r=>zA HB.out (zC wr (.cells #[.int .u8 r] 5))
   have hz:=fun r=>show(wr.alloc (.cells #[.int .u8 r] 5)).heap.size=wr.heap.size+1 from World.size_alloc _ _
   by_cases rA:k<s.size
   ·have kA:(k:Int)<(s.size:Int):=(by omega);have eA:=zG (show(wr.alloc (.cells #[.int .u8 (s[k].toNat:Int)] 5)).ownsRow w.heap.size 5 1 (.slice va k vc) k (l.map (Value.int .u8))by have h:=cA (s[k].toNat:Int);unfold zCA at h;rw[Hl.out]at h;exact h);have HN:=zG (gA (s[k].toNat:Int));have dA:=zG (fA (s[k].toNat:Int));have hz2:=hz (s[k].toNat:Int);clear cA gA fA hz;go_wp2_with (first
     | (at_builtin;refine wpList_append_lies _ rfl _ _ 46 rfl w.heap.size 5 i0 (.int .u8 0) 1 1 (by kernel_rfl) HI.out.1 HI.out.2.1 HI.out.2.2.1 HI.out.2.2.2 rfl (by decide) _ _ _ rfl eA.out ⟨wr.heap.size,0,none⟩ 1 1 [.int .u8 (s[k].toNat:Int)] rfl rfl HN.out (by simp[Value.oneCell']) (by decide) (by unfold maxLen;omega) (by omega) (by omega) _ rfl ?_;intro g' iA w4 bA aA jA lA)
     | go_in)
    go_roundw
    case rel=>exact⟨k+1,l ++ [(s[k].toNat:Int)],by omega,by go_num,by rw[List.length_append,Hl.out];rfl,zHt (by rw[Hl.out];exact bA),dA.out.grown aA dA.out.size (fun q hq=>(eA.out.lt q hq).1)⟩
    case measure=>simp[intOf];omega
   ·have kA:¬(k:Int)<(s.size:Int):=(by omega);have eA:=zG (show(wr.alloc (.cells #[.int .u8 46] 5)).ownsRow w.heap.size 5 1 (.slice va k vc) k (l.map (Value.int .u8))by have h:=cA 46;unfold zCA at h;rw[Hl.out]at h;exact h);have HN:=zG (gA 46);have dA:=zG (fA 46);have hz2:=hz 46;clear cA gA fA hz;go_wp2_with (first
     | (at_builtin;refine wpList_append_lies _ rfl _ _ 46 rfl w.heap.size 5 i0 (.int .u8 0) 1 1 (by kernel_rfl) HI.out.1 HI.out.2.1 HI.out.2.2.1 HI.out.2.2.2 rfl (by decide) _ _ _ rfl eA.out ⟨wr.heap.size,0,none⟩ 1 1 [.int .u8 46] rfl rfl HN.out (by simp[Value.oneCell']) (by decide) (by unfold maxLen;omega) (by omega) (by omega) _ rfl ?_;intro g' iA w4 bA aA jA lA)
     | go_in)
    go_roundw
    case rel=>exact⟨k+1,l ++ [46],by omega,by go_num,by rw[List.length_append,Hl.out];rfl,zHt (by rw[Hl.out];exact bA),dA.out.grown aA dA.out.size (fun q hq=>(eA.out.lt q hq).1)⟩
    case measure=>simp[intOf];omega
  ·obtain rfl:k=16:=(by omega);go_wp2;go_ret;exact⟨⟨_,rfl,by rw[strOfNums_size,Hl.out]⟩,HB.out⟩
end Go.Proofs.YtgabgheflgjgiaaGreatDoor
