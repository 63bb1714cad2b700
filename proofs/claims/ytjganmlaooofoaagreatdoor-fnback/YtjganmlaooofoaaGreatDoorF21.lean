/- A part of the proof. -/
import Derived.Test.YtjganmlaooofoaaGreatDoorF20
import Derived.Test.YtjganmlaooofoaaGreatDoorF17
import Derived.LaidEql
import Derived.Stop.Asserts
import Derived.RowKitTokens
set_option linter.unusedVariables false
set_option maxRecDepth 20000
set_option maxHeartbeats 4000000
namespace Go.Proofs.YtjganmlaooofoaaGreatDoor
open Go.RowKit Go.Maps
theorem zNE(v0 v1 v2 v3:Value)(lo hi:Nat)(W:zB)(A:Nat)(w:World)(h:yO w lo hi v0 v1 v2 v3 W)(hp:W.pn<=20)(hs:W.sn<=8)(hA:zDT w lo hi W A)(hD:zEU W)(hP:zFM W) :
  Calls Tryz.prog 70 #[zA8 v0 v1 v2 v3 W,zKc A] w fun e w'=>zL (∀i,i<W.sn->zDc W (W.zeK i).name (W.zeK i).zeL (W.zeK i).origin) e/\Below w.heap.size w w':=by
 have Hp:=zC h;have HA:=zC hA;have HD:=zC hD;have HP:=zC hP;obtain⟨m2,a',c',rfl,oA,-⟩:=id h.zeK;unfold maxLen at m2;clear h hA hD hP;have ha:=zD w (.cells #[v0,v1,.int .i64 W.time,.int .i64 W.next,.slice a' W.sn c',v3] 30);have HB:=zC (zAN.new w v0 v1 (.int .i64 W.time) (.int .i64 W.next) (.slice a' W.sn c') v3 30);obtain⟨x0,x2,x4,x6,x8,jA⟩:=HB.out.c;go_enter Tryz.func70,Tryz.ntmps70;go_wp2;clear x0 x2 x4 x6 x8 jA
 go_loopw [10] (fun i wr=>∃k:Nat,k<=W.sn/\i = .int .i64 k/\(∀j,j<k->zDc W (W.zeK j).name (W.zeK j).zeL (W.zeK j).origin)/\zAN wr w.heap.size v0 v1 (.int .i64 W.time) (.int .i64 W.next) (.slice a' W.sn c') v3/\Below w.heap.size w wr) (fun i _=>W.sn - (intOf i).toNat)
 case atStart=>exact⟨0,Nat.zero_le _,rfl,fun j hj=>absurd hj (Nat.not_lt_zero _),HB.out,ha⟩
 case round=>
  clear HB ha;obtain⟨k,hk,rfl,cA,hX,hb⟩:=hrel;have bA:=zC cA;have HX:=zC hX;clear cA hX;by_cases dA:k<W.sn;rotate_left
  ·obtain rfl:k=W.sn:=(by omega);go_wp2;go_ret;exact⟨zL.yes bA.out,hb⟩
  have nA:(k:Int)<(W.sn:Int):=(by omega);obtain⟨b,off,vd,rfl,aA⟩:=(Hp.out.zeK.zeF hb).cells dA;obtain⟨-,ad,cd,rfl,-,-⟩:=id aA.dead;have iA:=zD wr (.cells #[.string (W.zeK k).name,.int .i64 (W.zeK k).origin,.int .i64 (W.zeK k).zeL,.int .i64 (W.zeK k).rs,.int .i64 (W.zeK k).rb,.slice ad (W.zeK k).dn cd] 44);have HV:=zC (zAN.new wr (.string (W.zeK k).name) (.int .i64 (W.zeK k).origin) (.int .i64 (W.zeK k).zeL) (.int .i64 (W.zeK k).rs) (.int .i64 (W.zeK k).rb) (.slice ad (W.zeK k).dn cd) 44);have fA:=zC (HX.out.zeF iA);have eA:=zA hb iA;have q0:=aA.c0;have q1:=aA.c1;have q2:=aA.c2;have q3:=aA.c3;have q4:=aA.c4;have q5:=aA.c5;obtain⟨y0,y1,y2,y3,y4,y5⟩:=HV.out.c;obtain⟨x0,x2,x4,x6,x8,jA⟩:=fA.out.c;clear aA iA;go_wp2_with fail;clear q0 q1 q2 q3 q4 q5 y0 y1 y2 y3 y4 y5 x0 x2 x4 x6 x8 jA HX hb HV;refine(zOU v0 v1 _ v3 lo hi W A ad cd (W.zeK k) _ (Hp.out.zeF eA) hp (HA.out.zeF eA) HD.out HP.out (HP.out.zeM k dA) (HP.out.zeK k dA)).mono ?_;rintro e w6 ⟨⟨t6,rfl,lA⟩,gA⟩;have mA:=zC (fA.out.zeF gA);have kA:=zA eA gA;have Ht:=zC lA;clear lA gA eA fA;cases t6
  ·have Hn:=zC (show ¬zDc W (W.zeK k).name (W.zeK k).zeL (W.zeK k).origin from fun hA=>absurd (Ht.out.2 hA) (by simp));clear Ht;go_wp2;go_ret;exact⟨zL.no fun hA=>Hn.out (hA k dA),kA⟩
  ·have Hn:=zC (Ht.out.1 rfl);clear Ht;go_wp2;go_roundw
   case rel=>exact⟨k+1,by omega,by go_num,yJ dA bA.out Hn.out,mA.out,kA⟩
   case measure=>simp[intOf];omega
structure zEc (W:zB):Prop where
 time:zGl W.time 1 900000
 next:zGl W.next 1 900000
 zeK:zbs W.sn W.zeK
 zeJ:zXw W
structure zCa (W:zB):Prop where
 zeM:zEc W
 right:zg W.pool
 prevs:∀i,i<memN W->zMG W i
 lines:∀i,i<W.sn->zDc W (W.zeK i).name (W.zeK i).zeL (W.zeK i).origin
 trees:zXy W
 homes:zJa W
theorem zEc.range{W:zB}(h:zEc W):∀i,i<W.pn->1<=(W.zeJ i).id/\(W.zeJ i).id<W.next/\1<=(W.zeJ i).time/\(W.zeJ i).time<W.time
 | 0,hi=>by
  have:=(h.zeJ.2.1 0 hi).2.2.2;have h1:Mid 0 (W.zeJ 0).id W.next:=this.1;have h2:Mid 0 (W.zeJ 0).time W.time:=this.2;have a1:=h1.1;have a2:=h1.2;have a3:=h2.1;have a4:=h2.2;omega
 | i+1,hi=>by
  have ih:=h.range i (by omega);have:=(h.zeJ.2.1 (i+1) hi).2.2.2;have h1:Mid (W.zeJ i).id (W.zeJ (i+1)).id W.next:=this.1;have h2:Mid (W.zeJ i).time (W.zeJ (i+1)).time W.time:=this.2;have a1:=h1.1;have a2:=h1.2;have a3:=h2.1;have a4:=h2.2;omega
theorem zEc.rise{W:zB}(h:zEc W):∀i,i<W.pn->∀j,j<i->(W.zeJ j).id<(W.zeJ i).id
 | 0,_,j,hj=>absurd hj (Nat.not_lt_zero _)
 | i+1,hi,j,hj=>by
  have h1:Mid (W.zeJ i).id (W.zeJ (i+1)).id W.next:=(h.zeJ.2.1 (i+1) hi).2.2.2.1;have a1:=h1.1;by_cases e:j=i
  ·subst e;exact a1
  ·have:=h.rise i (by omega) j (by omega);omega
theorem zEc.dist{W:zB}(h:zEc W):zEU W:=fun i hi j hj e=>by have:=h.rise i hi j hj;omega
theorem zEc.idsWf{W:zB}(h:zEc W):zRC W.pn W.zeJ:=fun i hi=>by
 have h1:=h.range i hi;have h2:=h.next.2;exact WalkArith.wf_i64 (by omega)
theorem zEc.times{W:zB}(h:zEc W):zQA W:=fun x=>by
 by_cases hx:∃k,yV W x k
 ·obtain⟨k,hk⟩:=hx;rw[yQ hk];have h1:=h.range k hk.1;have h2:=h.time.2;exact⟨by omega,by omega⟩
 ·have:zE W x=zAV:=(by unfold zE;rw[dif_neg hx]);rw[this];exact⟨Int.le_refl _,by decide⟩
theorem zNh{W:zB}{i:Nat}(hp:zP0 W):zMG W i↔((zI W i).zeL=0\/zBU W (zI W i).zeL):=by
 unfold zMG;constructor
 ·intro h;by_cases hx:∃k,yV W (zI W i).zeL k
  ·obtain⟨k,hk⟩:=hx;exact Or.inr ⟨k,hk.1,hk.2.1⟩
  ·have e:zE W (zI W i).zeL=zAV:=(by unfold zE;rw[dif_neg hx]);rw[e]at h;exact Or.inl h.symm
 ·rintro(h | h)
  ·rw[h,zGq (fun k hk e=>by have:=hp k hk;omega)];rfl
  ·obtain⟨k,hk⟩:=h.no;rw[yQ hk];exact hk.2.1
theorem zEc.zeI{W:zB}(h:zEc W)(hp:∀i,i<memN W->zMG W i):zFM W where
 ids:=fun k hk=>by have h1:=h.range k hk;have h2:=h.next.2;omega
 zeL:=fun k hk=>by
  have:=(zNh (fun k hk=>(h.range k hk).1)).1 (hp k (by unfold memN;omega));rw[zx hk]at this;exact this
 less:=fun k hk=>(h.zeJ.2.1 k hk).2.2.1
 zeK:=fun k hk=>by
  have:=(zNh (fun k hk=>(h.range k hk).1)).1 (hp (W.pn+k) (by unfold memN;omega));rw[qN]at this;exact this
 zeM:=fun k hk=>zGD (h.zeK.2 k hk).1
theorem zSz{W:zB}(h:zFM W){name:ByteArray}{start:Int}(hs:start=0\/zBU W start):∀{n:Nat} {e:Int},Steps W name start n e->(e=0\/zBU W e)
 | 0,_,.zero=>hs
 | n+1,_,.next (k:=k) _ hk _=>h.zeL k hk.1
theorem zNl{f:Nat->qi}{i:Nat}(hn:zA0 (f i).name):zBm (zGR f i) (f i).name↔(0<i->zBm (f (i - 1)).name (f i).name):=by
 cases i with
 | zero=>
  refine⟨fun _ h=>absurd h (by omega),fun _=>?_⟩;have aA:=zGD hn;unfold zBm zGR;have h0:(⟨#[]⟩:ByteArray).toList = []:=(by rw[Go.ByteArray.toList_eq]);rw[h0];cases hl:(f 0).name.toList with
  | nil=>rw[hl]at aA;exact absurd aA (by decide)
  | cons a l=>simp[Op.bytesLess]
 | succ i=>exact⟨fun h _=>h,fun h=>h (by omega)⟩
theorem zGi(W:zB):zCa W↔qo W:=by
 constructor
 ·intro h;have hP:=h.zeM.zeI h.prevs;have hN:yj W:=by
   refine⟨h.zeM.time,h.zeM.next,h.zeM.zeK.1,h.zeM.zeJ.1,fun i hi=>?_,fun i hi=>?_⟩
   ·have hs:=h.zeM.zeK.2 i hi;refine⟨hs.1,(zNl hs.1).1 hs.2,fun hz=>(hP.zeK i hi).resolve_left hz,fun hz=>?_⟩;obtain⟨n,e,aA,_,_,rfl⟩:=h.lines i hi;exact(zSz hP (hP.zeK i hi) aA).resolve_left hz
   ·have hs:=h.zeM.zeJ.2.1 i hi;have hr:=h.zeM.range i hi;refine⟨⟨hr.1,hr.2.1,hr.2.2.1,hr.2.2.2,hs.2.1,hs.1⟩,⟨fun h0=>?_,fun hz=>⟨hs.2.2.1,(hP.zeL i hi).resolve_left hz⟩⟩,fun k hk=>h.zeM.zeJ.2.2 i hi k hk⟩;cases i with
    | zero=>omega
    | succ i=>exact⟨hs.2.2.2.1.1,hs.2.2.2.2.1⟩
  have hT:zFo W:=zKR h.right hN (fun i hi=>by have:=h.trees.1 i (by unfold memN;omega);rw[zx hi]at this;exact this) (fun i hi=>by have:=h.trees.1 (W.pn+i) (by unfold memN;omega);rw[qN]at this;exact this);have hM:∀i,i<memN W->zOh W (zI W i):=fun i hi=>(zNP hT hi).1 (h.trees.2 i hi)
  have hh:=(zPH hT (fun j hj=>by have:=hP.pos j hj;omega) hM).1 h.homes;exact⟨h.right,hN,h.lines,fun i hi=>hT.snap hi,fun i hi=>⟨hT.set hi,(hM (W.pn+i) (by unfold memN;omega)).1⟩,fun i hi=>(hM i (by unfold memN;omega)).1,hh.1,fun i hi=>(hM i hi).2,hh.2⟩
 ·intro h;have hP:=h.zeM.zeI;have hT:zFo W:=zKR h.right h.zeM h.zeJ (fun i hi=>(h.zeK i hi).1);have hM:∀i,i<memN W->zOh W (zI W i):=fun i hi=>by
   refine⟨?_,h.born i hi⟩;by_cases hp:i<W.pn
   ·exact h.dead i hp
   ·have:=(h.zeK (i - W.pn) (by unfold memN at hi;omega)).2;rw[show W.pn+(i - W.pn)=i by omega]at this;exact this
  have hh:=(zPH hT (fun j hj=>by have:=hP.pos j hj;omega) hM).2 ⟨h.reach,h.zeN⟩;refine⟨⟨h.zeM.1,h.zeM.2.1,⟨h.zeM.2.2.1,fun i hi=>?_⟩,⟨h.zeM.2.2.2.1,fun i hi=>?_,fun i hi k hk=>(h.zeM.2.2.2.2.2 i hi).2.2 k hk⟩⟩,h.right,fun i hi=>?_,h.lines,⟨hT.tree,fun i hi=>(zNP hT hi).2 (hM i hi)⟩,hh⟩
  ·have hs:=h.zeM.2.2.2.2.1 i hi;exact⟨hs.1,(zNl hs.1).2 hs.2.1⟩
  ·have hs:=h.zeM.2.2.2.2.2 i hi;refine⟨hs.1.2.2.2.2.2,hs.1.2.2.2.2.1,hP.less i hi,?_,?_⟩
   ·cases i with
    | zero=>exact⟨by have:=hs.1.1;show(0:Int)<_;omega,hs.1.2.1⟩
    | succ i=>exact⟨(hs.2.1.1 (by omega)).1,hs.1.2.1⟩
   ·cases i with
    | zero=>exact⟨by have:=hs.1.2.2.1;show(0:Int)<_;omega,hs.1.2.2.2.1⟩
    | succ i=>exact⟨(hs.2.1.1 (by omega)).2,hs.1.2.2.2.1⟩
  ·refine(zNh hP.pos).2 ?_;by_cases hp:i<W.pn
   ·rw[zx hp];exact hP.zeL i hp
   ·have e:=qN W (i - W.pn);rw[show W.pn+(i - W.pn)=i by omega]at e;rw[e];exact hP.zeK _ (by unfold memN at hi;omega)
def zWI(w:World)(b:Nat)(v0 v1 v2 v3 v4 v5 v6 v7:Value):Prop:=zY w b 0 v0/\zY w b 1 v1/\zY w b 2 v2/\zY w b 3 v3/\zY w b 4 v4/\zY w b 5 v5/\zY w b 6 v6/\zY w b 7 v7
theorem zWI.zeF{w w':World}{b:Nat}{v0 v1 v2 v3 v4 v5 v6 v7:Value}(h:zWI w b v0 v1 v2 v3 v4 v5 v6 v7)(t:Below w.heap.size w w'):zWI w' b v0 v1 v2 v3 v4 v5 v6 v7:=⟨h.1.zeF t,h.2.1.zeF t,h.2.2.1.zeF t,h.2.2.2.1.zeF t,h.2.2.2.2.1.zeF t,h.2.2.2.2.2.1.zeF t,h.2.2.2.2.2.2.1.zeF t,h.2.2.2.2.2.2.2.zeF t⟩
theorem zWI.new(w:World)(v0 v1 v2 v3 v4 v5 v6 v7:Value)(t:TypeId):zWI (w.alloc (.cells #[v0,v1,v2,v3,v4,v5,v6,v7] t)) w.heap.size v0 v1 v2 v3 v4 v5 v6 v7:=by
 have hb:(w.alloc (.cells #[v0,v1,v2,v3,v4,v5,v6,v7] t)).heap[w.heap.size]?=some (.cells #[v0,v1,v2,v3,v4,v5,v6,v7] t):=heap_alloc_new _ _;exact⟨zK hb rfl,zK hb rfl,zK hb rfl,zK hb rfl,zK hb rfl,zK hb rfl,zK hb rfl,zK hb rfl⟩
def zCj:qi:=⟨⟨#[]⟩,0,0,0,0,0,fun _=>0,fun _=>0⟩
open Classical in
noncomputable def zBy(W:zB)(x:ByteArray):qi:=if h:∃k,zDK W x k then W.zeK h.choose else zCj
theorem zKK{W:zB}{x:ByteArray}{k:Nat}(h:zDK W x k):zBy W x=W.zeK k:=by
 have hx:∃k,zDK W x k:=⟨k,h⟩;unfold zBy;rw[dif_pos hx,hx.choose_spec.uniq h]
theorem zSo{W:zB}{x:ByteArray}:∀{n:Nat},n<=W.sn->(∃i,i<n/\(W.zeK i).name=x)->∃k,zDK W x k
 | 0,_,⟨i,hi,_⟩=>absurd hi (Nat.not_lt_zero _)
 | n+1,hn,⟨i,hi,e⟩=>by
  by_cases hx:∃j,j<n/\(W.zeK j).name=x
  ·exact zSo (by omega) hx
  ·have:i=n:=by
    by_cases h:i=n
    ·exact h
    ·exact absurd ⟨i,by omega,e⟩ hx
   subst this;exact⟨i,by omega,e,fun j hj e2=>hx ⟨j,hj,e2⟩⟩
def zKX(W:zB):Prop:=∀i,i<W.sn->∀j,j<i->(W.zeK j).name≠(W.zeK i).name
theorem yj.rise{W:zB}(h:yj W):∀i,i<W.sn->∀j,j<i->zBm (W.zeK j).name (W.zeK i).name
 | 0,_,j,hj=>absurd hj (Nat.not_lt_zero _)
 | i+1,hi,j,hj=>by
  have h1:zBm (W.zeK i).name (W.zeK (i+1)).name:=(h.2.2.2.2.1 (i+1) hi).2.1 (by omega);by_cases e:j=i
  ·subst e;exact h1
  ·exact zMS _ _ _ (yj.rise h i (by omega) j (by omega)) h1
theorem yj.dist{W:zB}(h:yj W):zKX W:=fun i hi j hj e=>by
 have:=h.rise i hi j hj;unfold zBm at this;rw[e,zH8]at this;exact absurd this (by simp)
open Classical in
noncomputable def zJL(W:zB)(x:ByteArray):qi:=if qo W then zBy W x else zCj
theorem zJM{W:zB}{x:ByteArray}(h:qo W):zJL W x=zBy W x:=if_pos h
theorem zXW{W:zB}{x:ByteArray}(h:¬qo W):zJL W x=zCj:=if_neg h
theorem zaE{W:zB}(h:zGm W)(x:ByteArray):(zBy W x).dn<=1048576:=by
 by_cases hx:∃k,zDK W x k
 ·obtain⟨k,hk⟩:=hx;rw[zKK hk];exact h.1 k hk.1
 ·have:zBy W x=zCj:=(by unfold zBy;rw[dif_neg hx]);rw[this];exact Nat.zero_le _
def zXr(s:qi)(w:World)(e:Ending)(w':World):Prop:=∃v b,e = .returned (zHG v s)/\zAY w' b v s.dn s.ds s.db/\(0<s.dn->w.heap.size<=b/\b<w'.heap.size)/\Below w.heap.size w w'
theorem zSV{w w':World}(h:Below w.heap.size w w'):zXr zCj w (.returned (.agg #[.string ⟨#[]⟩,.int .i64 0,.int .i64 0,.int .i64 0,.int .i64 0,.slice none 0 0])) w':=
 ⟨.slice none 0 0,0,rfl,⟨Nat.zero_le _,none,0,rfl,Nat.le_refl _,fun h=>absurd h (Nat.lt_irrefl _)⟩,fun h=>absurd h (Nat.lt_irrefl _),h⟩
theorem zIn{W:zB}{w:World}{lo hi:Nat}{vd:Nat->Value}(hD:zKX W)(hd:zJc w lo hi W.sn W.zeK vd)(x:ByteArray):∃a c,(putD (fun i=>zEH (W.zeK i).name) (fun i=>zHG (vd i) (W.zeK i)) W.sn).atKey (zEH x) (.held (.agg #[.string ⟨#[]⟩,.int .i64 0,.int .i64 0,.int .i64 0,.int .i64 0,.slice none 0 0])) = .held (zHG (.slice a (zBy W x).dn c) (zBy W x))/\qn w lo hi (.slice a (zBy W x).dn c) (zBy W x).dn (zBy W x).ds (zBy W x).db:=by
 have hk:zF2 (fun i=>zEH (W.zeK i).name):=fun i=>zM4 _
 by_cases hx:∃k,zDK W x k
 ·obtain⟨k,aA⟩:=hx;rw[zKK aA];have hp:=hd k aA.1;obtain⟨_,a,c,hv,_⟩:=id hp;refine⟨a,c,?_,by rw[<-hv];exact hp⟩;have:=zL7 hk (fun i=>zHG (vd i) (W.zeK i)) (.held (.agg #[.string ⟨#[]⟩,.int .i64 0,.int .i64 0,.int .i64 0,.int .i64 0,.slice none 0 0])) W.sn k aA.1 (fun j h1 h2 e=>hD j h2 k h1 (zM3 e).symm);rw[aA.2.1]at this;rw[this,hv]
 ·have e:zBy W x=zCj:=(by unfold zBy;rw[dif_neg hx]);rw[e];refine⟨none,0,?_,⟨Nat.zero_le _,none,0,rfl,Nat.le_refl _,fun h=>absurd h (by simp[zCj])⟩⟩;refine zIM hk _ (fun i bA e2=>?_) _;exact hx (zSo (Nat.le_refl _) ⟨i,bA,zM3 e2⟩)
set_option linter.unusedSimpArgs false
set_option maxRecDepth 20000
set_option maxHeartbeats 3200000
attribute [local go_sem] qg List.map_cons List.map_nil Tr.cv yv qT yF yD yu yr yq yC zBD zBF zBE zBA zBC zBB zCc zCe zCd qY zt qZ zu qR qQ qf zAL zp zq yL qW tmpsOf zAy yK qV zA9 yz yx yw zAA yy stpP opds opd opdC kap zAS qS zo coreU bin zAl zCO get put dlO fgt zBP zBI zBM zBN tyT yp yo Op.operands Call.operands evLoad evLen evStore evAlloc zAn and_true true_and List.append_nil List.nil_append List.cons_append Ret resCv zCB yY cellM zBl zCI qh StW StR hpT hpO hpV hpA hpL hpC sg nin zCT bdO tmW obW AvE CsE CvE Av.tup Av.ids Cv.ids inD ObE Ob.ids TrE.refl qU yH yI qb qd qe zr zf zd zAC zBe zCH zBG evCall argL argOf qq outOb obO yU qK cvO tot Tr.own rid partsOf fillC zU zBj frz frz1 evBuildSlice zc trs Cv.tr evSlice Option.toArray_none Option.toArray_some evMakeSlice evAppend dstOf srcOf zA7 zBO zBL zBJ zBK ikT yB yA qz qy RetP RetN zBs qP evLd evSt evStoreH zAe evAppendM evAppendT tlOf mvOf rowE shp evTake oOf evC evCallP evCallN evCallO unlast zAX zA6 zAZ argsF zCS qu pmC varT vT evField evConv dB0 Option.bind_some Option.bind_none Option.map_some Option.map_none Option.isSome_some Option.isSome_none
attribute [local go_sem] yP zb zA5 yW qw zAs zAt zAu zAv zAw zAx zAD zAE zAF zAG zAH zAI zAJ zAK yR qt
attribute [-go_sem] zb
attribute [local go_sem] zAP zB7 zB8 zAU yb
def zHC(W:zB)(x:Int):Nat->Nat
 | 0=>0
 | k+1=>zHC W x k+(if (W.zeK k).zeL=x then 1 else 0)
def zHw(W:zB)(x:Int):Nat->Nat
 | 0=>0
 | k+1=>zHw W x k+(if (W.zeJ k).zeL=x then 1 else 0)
theorem zVm(W:zB)(x:Int):∀k,zHC W x k<=k
 | 0=>Nat.le_refl _
 | k+1=>by have:=zVm W x k;rw[zHC];split<;>omega
theorem zVk(W:zB)(x:Int):∀k,zHw W x k<=k
 | 0=>Nat.le_refl _
 | k+1=>by have:=zVk W x k;rw[zHw];split<;>omega
noncomputable def zY0:zX:=qk (fun q:zB×Int=>[woT q.1,iT q.2]) (fun q=>q.1.sn<=1000000/\q.1.pn<=1000000) (fun q=>[iT ((zHC q.1 q.2 q.1.sn+zHw q.1 q.2 q.1.pn:Nat):Int)])
theorem zPY(W:zB)(x:Int):zY0 [woT W,iT x]=some (W.sn<=1000000/\W.pn<=1000000,[iT ((zHC W x W.sn+zHw W x W.pn:Nat):Int)]):=zO (fun l=>(zCW (nth l 0),qM (nth l 1 0))) (fun _=>rfl) (W,x)
theorem zR9:zy Tryz.prog 174 zY0:=by
 refine zQ qA GOk.nil zz Tryz.func174 rfl Tryz.ntmps174 Tryz.results174 8 ?_;rintro⟨W,x⟩ ⟨hn,hm⟩;replace hn:W.sn<=1000000:=hn;replace hm:W.pn<=1000000:=hm;refine⟨by simp,?_⟩;simp[go_sem];refine yE (fun k:Nat=>⟨[(2,true,.m false [.p 2 0]),(1,true,.i x),(5,true,.i (zHC W x k)),(6,true,.i k)],[(2,.var ((woL W).map Tr.cv))]⟩) (fun k=>W.sn - k) (fun k=>k<=W.sn) 0 (by simp[go_sem,zHC]) (by simp) ?_;intro k hk;have hc:=zVm W x k;simp[go_sem,qB (show k<=1000000000 by omega),qB (show zHC W x k<=1000000000 by omega)];refine⟨fun hl=>⟨hl,fun h=>⟨k+1,by omega,by omega,by rw[zHC,if_pos h];rfl,rfl⟩,fun h=>⟨k+1,by omega,by omega,by rw[zHC,if_neg h];rfl,rfl⟩⟩,fun hl=>?_⟩;cases (show k=W.sn by omega);refine yE (fun k:Nat=>⟨[(2,true,.m false [.p 2 0]),(1,true,.i x),(5,true,.i (zHC W x W.sn+zHw W x k)),(7,true,.i k)],[(2,.var ((woL W).map Tr.cv))]⟩) (fun k=>W.pn - k) (fun k=>k<=W.pn) 0 (by simp[go_sem,zHw]) (by simp) ?_;intro k hk;have aA:=zVk W x k;have hw:=qB (show zHC W x W.sn+zHw W x k<=1000000000 by omega);simp only[Int.natCast_add]at hw;simp[go_sem,qB (show k<=1000000000 by omega),hw];refine⟨fun hl=>⟨hl,fun h=>⟨k+1,by omega,by omega,by rw[zHw,if_pos h];omega,rfl⟩,fun h=>⟨k+1,by omega,by omega,by rw[zHw,if_neg h];rfl,rfl⟩⟩,fun hl=>?_⟩;cases (show k=W.pn by omega);rfl
set_option maxRecDepth 20000
set_option maxHeartbeats 3200000
def zLs(s:Nat->qi)(k:Nat):Nat->Nat->Tr:=fun i=>if i<k then setsE .o s i else setsE .b s i
def zNR(s:Nat->zl)(k:Nat):Nat->Nat->Tr:=fun i=>if i<k then snapsE .z s i else snapsE .b s i
theorem qm{n:Nat}{s:Nat->qi}:(Tr.s .o 6 n (setsE .o s)).kept:=⟨by simp,fun i j _ hj=>by
 match j,hj with
 | 0,_ | 1,_ | 2,_ | 3,_ | 4,_=>trivial
 | 5,_=>exact zFE.2 trivial⟩
theorem qI{n:Nat}{s:Nat->zl}:(Tr.s .o 8 n (snapsE .z s)).kept:=⟨by simp,fun i j _ hj=>by
 match j,hj with
 | 0,_ | 1,_ | 2,_ | 3,_ | 4,_ | 5,_ | 6,_=>trivial
 | 7,_=>exact⟨by simp,fun p q _ _=>by unfold ptrsT;split<;>trivial⟩⟩
theorem zc9{s:Nat->qi}:zLs s 0=setsE .b s:=by funext i;simp[zLs]
theorem zc8{s:Nat->zl}:zNR s 0=snapsE .b s:=by funext i;simp[zNR]
theorem zbO{s:Nat->qi}{k i:Nat}(h:k<=i):zLs s k i=setsE .b s i:=if_neg (by omega)
theorem zbM{s:Nat->zl}{k i:Nat}(h:k<=i):zNR s k i=snapsE .b s i:=if_neg (by omega)
theorem zZV{fl:Fl}{s:Nat->qi}{n:Nat}:TrE (.s fl 6 n (zLs s n)) (.s fl 6 n (setsE .o s)):=zES fun i j hi hj=>by rw[zLs,if_pos hi]
theorem zZU{fl:Fl}{s:Nat->zl}{n:Nat}:TrE (.s fl 8 n (zNR s n)) (.s fl 8 n (snapsE .z s)):=zES fun i j hi hj=>by rw[zNR,if_pos hi]
theorem zZb{s:Nat->qi}:(fun p q=>(setsE .b s p q).nt)=setsE .b s:=by
 funext p q
 match q with
 | 0 | 1 | 2 | 3 | 4=>rfl
 | 5=>rfl
 | q+6=>rfl
theorem zPe{s:Nat->zl}:(fun p q=>(snapsE .b s p q).nt)=snapsE .b s:=by
 funext p q
 match q with
 | 0 | 1 | 2 | 3 | 4 | 5 | 6=>rfl
 | 7=>rfl
 | q+8=>rfl
theorem zbP{fl:Fl}{s:Nat->qi}{n k:Nat}{F:Nat->Nat->Tr}(hF:TrE (.s .o 2 (s k).dn F) (.s .o 2 (s k).dn (ptrsT (s k).ds (s k).db))):TrE (.s fl 6 n (yN (zLs s k) k 5 [.s .o 2 (s k).dn F])) (.s fl 6 n (zLs s (k+1))):=by
 refine⟨.inl rfl,rfl,rfl,fun i j hi hj=>?_⟩;by_cases h:i=k
 ·subst h
  match j,hj with
  | 0,_ | 1,_ | 2,_ | 3,_ | 4,_=>exact TrE.of_eq (by simp[yN,zLs,setsE])
  | 5,_=>simpa[yN,zLs,setsE]using hF
 ·refine TrE.of_eq ?_;have:(i<k+1)=(i<k):=propext (by omega);simp[yN,zLs,h,this]
theorem zbN{fl:Fl}{s:Nat->zl}{n k:Nat}{F:Nat->Nat->Tr}(hF:TrE (.s .o 2 (s k).dn F) (.s .z 2 (s k).dn (ptrsT (s k).ds (s k).db))):TrE (.s fl 8 n (yN (zNR s k) k 7 [.s .o 2 (s k).dn F])) (.s fl 8 n (zNR s (k+1))):=by
 refine⟨.inl rfl,rfl,rfl,fun i j hi hj=>?_⟩;by_cases h:i=k
 ·subst h
  match j,hj with
  | 0,_ | 1,_ | 2,_ | 3,_ | 4,_ | 5,_ | 6,_=>exact TrE.of_eq (by simp[yN,zNR,snapsE])
  | 7,_=>simpa[yN,zNR,snapsE]using hF
 ·refine TrE.of_eq ?_;have:(i<k+1)=(i<k):=propext (by omega);simp[yN,zNR,h,this]
attribute [local go_sem] qg List.map_cons List.map_nil Tr.cv yv qT yF yD yu yr yq yC zBD zBF zBE zBA zBC zBB zCc zCe zCd qY zt qZ zu qR qQ qf zAL zp zq yL qW tmpsOf zAy yK qV zA9 yz yx yw zAA yy stpP opds opd opdC kap zAS qS zo coreU bin zAl zCO get put dlO fgt zBP zBI zBM zBN tyT yp yo Op.operands Call.operands evLoad evLen evStore evAlloc zAn and_true true_and List.append_nil List.nil_append List.cons_append Ret resCv zCB yY cellM zBl zCI qh StW StR hpT hpO hpV hpA hpL hpC sg nin zCT bdO tmW obW AvE CsE CvE Av.tup Av.ids Cv.ids inD ObE Ob.ids TrE.refl qU yH yI qb qd qe zr zf zd zAC zBe zCH zBG evCall argL argOf qq outOb obO yU qK cvO tot Tr.own rid partsOf fillC zU zBj frz frz1 evBuildSlice zc trs Cv.tr evSlice Option.toArray_none Option.toArray_some evMakeSlice evAppend dstOf srcOf zA7 zBO zBL zBJ zBK ikT yB yA qz qy RetP RetN zBs qP evLd evSt evStoreH zAe evAppendM evAppendT tlOf mvOf rowE shp evTake oOf evC evCallP evCallN evCallO unlast zAX zA6 zAZ argsF zCS qu pmC varT vT evField evConv dB0 Option.bind_some Option.bind_none Option.map_some Option.map_none Option.isSome_some Option.isSome_none
attribute [local go_sem] yP zb zA5 yW qw zAs zAt zAu zAv zAw zAx zAD zAE zAF zAG zAH zAI zAJ zAK yR qt
structure ym (W:zB):Prop extends SmallW W where
 kn:∀i,i<W.pool.n->(W.pool.s i).kn<=1000000
noncomputable def zZK:zX:=qk (fun W:zB=>[woT W]) (fun W=>ym W) (fun W=>[woO W])
theorem zAQ(W:zB):zZK [woT W]=some (ym W,[woO W]):=zO (fun l=>zCW (nth l 0)) (fun _=>rfl) W
theorem zCY:zy Tryz.prog 28 zZK:=by
 refine zQ qA (GOk.cons zG1 (zG Tryz.func73 rfl rfl) GOk.nil) zz Tryz.func28 rfl Tryz.ntmps28 Tryz.results28 6 ?_;intro W hW;replace hW:ym W:=hW;have hn:=hW.n;have hm:=hW.hn;have hs:=hW.sn;have hp:=hW.pn;refine⟨by simp,?_⟩;simp[go_sem,zHp,hn,hm,zF5,zVi,zE6,zZb,zPe];refine⟨hW.kn,by omega,?_⟩;refine yE (fun k:Nat=>⟨[(4,true,.i k),(3,true,.m false [.p 3 0]),(2,true,.m false [.p 2 0]),(1,true,.m false [.p 1 0])],[(3,.var [.h 61,.h 62,.v (.int .i64 W.time),.v (.int .i64 W.next),.h 63,.s .b 8 W.pn (snapsE .b W.zeJ)]),(63,.row 6 W.sn (zLs W.zeK k)),(62,.row 1 W.pool.hn (yT W.pool.h)),(61,.row 3 W.pool.n (zk .z W.pool.s)),(2,.var [.v n0,.v n0,.v i0,.v i0,.v n0,.v n0]),(1,.var ((woL W).map Tr.cv))]⟩) (fun k=>W.sn - k) (fun k=>k<=W.sn) 0 (by rw[zc9];simp[go_sem]) (Nat.zero_le _) ?_;intro k hk;simp[go_sem,qB (show k<=1000000000 by omega),zF5,zE6,zPe,zbO (Nat.le_refl k)];refine⟨fun hl=>?_,fun hl=>?_⟩
 ·have hd:=hW.sd k hl;exact⟨hl,by omega,hl,by kernel_rfl,k+1,by omega,by omega,rfl,zbP (TrE.refl _)⟩
 cases (show k=W.sn by omega);refine⟨by omega,?_⟩;refine yE (fun k:Nat=>⟨[(5,true,.i k),(3,true,.m false [.p 3 0]),(2,true,.m false [.p 2 0]),(1,true,.m false [.p 1 0])],[(3,.var [.h 61,.h 62,.v (.int .i64 W.time),.v (.int .i64 W.next),.h 63,.h 64]),(64,.row 8 W.pn (zNR W.zeJ k)),(63,.row 6 W.sn (zLs W.zeK W.sn)),(62,.row 1 W.pool.hn (yT W.pool.h)),(61,.row 3 W.pool.n (zk .z W.pool.s)),(2,.var [.v n0,.v n0,.v i0,.v i0,.v n0,.v n0]),(1,.var ((woL W).map Tr.cv))]⟩) (fun k=>W.pn - k) (fun k=>k<=W.pn) 0 (by rw[zc8];simp[go_sem]) (Nat.zero_le _) ?_;intro k hk;simp[go_sem,qB (show k<=1000000000 by omega),zF5,zE6,zbM (Nat.le_refl k)];refine⟨fun hl=>?_,fun hl=>?_⟩
 ·have hd:=hW.pd k hl;exact⟨hl,by omega,hl,by kernel_rfl,k+1,by omega,by omega,rfl,zbN ⟨.inr ⟨rfl,rfl⟩,rfl,rfl,fun i j _ _=>TrE.refl _⟩⟩
 cases (show k=W.pn by omega);exact⟨zW,zm,⟨zZV,qm⟩,zZU,qI⟩
theorem zRs{p:zF}{xs y:Int}{j:Nat}(hj:j<=p.hn):Has j (zBw p xs).h y↔Has j p.h y:=by
 constructor
 ·rintro⟨k,hk,e⟩;exact⟨k,hk,by rw[<-e];exact(if_neg (by omega:¬k=p.hn)).symm⟩
 ·rintro⟨k,hk,e⟩;exact⟨k,hk,by rw[<-e];exact if_neg (by omega:¬k=p.hn)⟩
theorem zUQ{p:zF}{xs xb:Int}(hR:zg p)(hP:qp p xs xb)(hH:¬Has p.hn p.h xs):zg (zBw p xs):=by
 refine⟨hR.1,fun j hj=>hR.2.1 j hj,fun j hj=>?_⟩;by_cases e:j=p.hn
 ·subst e;have hx:(zBw p xs).h p.hn=xs:=if_pos rfl;refine⟨?_,?_,?_,?_⟩
  ·rw[hx];exact hP.2.1
  ·rw[hx];exact hP.2.2.1
  ·rw[hx];intro hf;have h4:=hP.2.2.2;have h5:(p.s xs.toNat).birth=0:=hf.1;have:=hP.1;omega
  ·rw[hx,zRs (Nat.le_refl _)];exact hH
 ·have aA:j<p.hn:=(by have:j<p.hn+1:=hj;omega);have hx:(zBw p xs).h j=p.h j:=if_neg e;obtain⟨h1,h2,h3,h4⟩:=hR.2.2 j aA;refine⟨?_,?_,?_,?_⟩
  ·rw[hx];exact h1
  ·rw[hx];exact h2
  ·rw[hx];exact h3
  ·rw[hx,zRs (by omega)];exact h4
def zT(p:zF):List (Int×Int)->zF
 | []=>p
 | x :: l=>zT (zBw p x.1) l
def zBa(p:zF)(l:List (Int×Int)):Prop:=zg p/\(∀x,x∈l->qp p x.1 x.2/\¬Has p.hn p.h x.1)/\(l.map Prod.fst).Nodup
theorem zPD{p:zF}{xs y:Int}(h:Has (p.hn+1) (zBw p xs).h y):Has p.hn p.h y\/y=xs:=by
 obtain⟨j,hj,e⟩:=h;by_cases ej:j=p.hn
 ·right;rw[<-e,ej];exact if_pos rfl
 ·left;exact⟨j,by omega,by rw[<-e];exact(if_neg ej).symm⟩
theorem zBa.head{p:zF}{x:Int×Int}{l:List (Int×Int)}(h:zBa p (x :: l)):zMu p x.1 x.2=⟨zBw p x.1,0,0,0⟩/\zBa (zBw p x.1) l:=by
 obtain⟨h1,h2,h3⟩:=h;obtain⟨g1,g2⟩:=h2 x List.mem_cons_self;rw[List.map_cons,List.nodup_cons]at h3;refine⟨zU4 h1 g1 g2,zUQ h1 g1 g2,fun y hy=>?_,h3.2⟩;obtain⟨k1,k2⟩:=h2 y (List.mem_cons_of_mem _ hy);refine⟨k1,fun hh=>?_⟩;rcases zPD hh with e | e
 ·exact k2 e
 ·exact h3.1 (e▸List.mem_map_of_mem hy)
theorem zBa.cut{l':List (Int×Int)}:∀{l:List (Int×Int)} {p:zF},zBa p (l ++ l')->zBa (zT p l) l'
 | [],_,h=>h
 | x :: l,p,h=>zBa.cut (l:=l) (p:=zBw p x.1) (zBa.head (p:=p) (x:=x) (l:=l ++ l') h).2
theorem zE5(x:Int×Int):∀(l:List (Int×Int)) (p:zF),zT p (l ++ [x])=zBw (zT p l) x.1
 | [],_=>rfl
 | y :: l,p=>zE5 x l (zBw p y.1)
theorem zAi:∀(l:List (Int×Int)) (p:zF),(zT p l).n=p.n/\(zT p l).s=p.s/\(zT p l).hn=p.hn+l.length
 | [],_=>⟨rfl,rfl,rfl⟩
 | y :: l,p=>by
  obtain⟨h1,h2,h3⟩:=zAi l (zBw p y.1);refine⟨h1,h2,?_⟩;show(zT (zBw p y.1) l).hn=_;rw[h3,List.length_cons];show p.hn+1+l.length=_;omega
theorem zBa.next{p:zF}{l:List (Int×Int)}(h:zBa p l){i:Nat}(hi:i<l.length):zMu (zT p (l.take i)) l[i].1 l[i].2=⟨zT p (l.take (i+1)),0,0,0⟩/\zg (zT p (l.take i)):=by
 have e:l=l.take i ++ l[i] :: l.drop (i+1):=by
  rw[List.getElem_cons_drop,List.take_append_drop]
 have h1:zBa (zT p (l.take i)) (l[i] :: l.drop (i+1)):=zBa.cut (l:=l.take i) (by rw[<-e];exact h);refine⟨?_,h1.1⟩;rw[h1.head.1,List.take_succ_eq_append_getElem hi,zE5]
theorem zBa.last{p:zF}{l:List (Int×Int)}(h:zBa p l):zg (zT p l):=(zBa.cut (l:=l) (l':=[]) (by rw[List.append_nil];exact h)).1
theorem zIV(f g:Nat->Int)(t:Int):∀k,(ye f g t k).Sublist ((List.range k).map fun i=>(f i,g i))
 | 0=>List.Sublist.refl _
 | k+1=>by
  rw[List.range_succ,List.map_append,List.map_singleton];unfold ye;split
  ·exact(zIV f g t k).append (List.Sublist.refl _)
  ·exact(zIV f g t k).trans (List.sublist_append_left _ _)
theorem zBa.sub{p:zF}{l l':List (Int×Int)}(h:zBa p l)(hs:l'.Sublist l):zBa p l':=⟨h.1,fun x hx=>h.2.1 x (hs.subset hx),List.Nodup.sublist (hs.map _) h.2.2⟩
theorem zBa.tree{p:zF}{rs rb:Int}(hR:zg p)(hT:za p rs rb):zBa p (zM p rs rb):=by
 refine⟨hR,fun x hx=>?_,?_⟩
 ·have:=zBc hR hT hx;exact⟨this.1,this.2.2⟩
 ·rcases hT with h | h
  ·rw[zM,if_pos h];exact List.nodup_nil
  ·exact h.2.2
def zFi(w:World)(e:TypeId)(s:Nat)(v:Value)(n:Nat):Prop:=
 (n=0/\∃a,v = .slice a 0 0)\/(0<n/\∃g cap cur,v = .slice (some ⟨g,0,none⟩) n cap/\w.heap[g]?=some (.cells cur e (0,0))/\n<=cap/\cap<=maxLen/\cur.size=cap*s)
theorem zCC{w:World}{base:Nat}{e:TypeId}{s:Nat}{v:Value}{n:Nat}{xs:List Value}(h:w.ownsRow base e s v n xs)(hz:n=0->∃a,v = .slice a 0 0):zFi w e s v n:=by
 rcases Nat.eq_zero_or_pos n with h0 | h0
 ·exact Or.inl ⟨h0,hz h0⟩
 ·rcases h.2 with h | ⟨g,cap,aA,hv,_,hg,h1,h2,h3,_⟩
  ·omega
  ·exact Or.inr ⟨h0,g,cap,aA,hv,hg,h1,h2,h3⟩
theorem zFi.zeF{w w':World}{e:TypeId}{s:Nat}{v:Value}{n:Nat}(h:zFi w e s v n)(t:Below w.heap.size w w'):zFi w' e s v n:=by
 rcases h with h | ⟨h0,g,cap,aA,hv,hg,h1⟩
 ·exact Or.inl h
 ·exact Or.inr ⟨h0,g,cap,aA,hv,(t.block g (Array.getElem?_eq_some_iff.1 hg).1).trans hg,h1⟩
theorem zOG{w:World}{g:Nat}{bA:Array Value}{e:TypeId}(h:w.heap[g]?=some (.cells bA e (0,0)))(a:Addr)(u:Value):∃aA,(w.setCell a u).heap[g]?=some (.cells aA e (0,0))/\aA.size=bA.size:=by
 by_cases hg:a.block=g
 ·subst hg;unfold World.setCell;simp only[Array.getElem?_modify,h,if_true,Option.map_some];refine⟨_,rfl,?_⟩;split<;>simp
 ·refine⟨bA,?_,rfl⟩;unfold World.setCell;simp only[Array.getElem?_modify,hg,if_false,h]
theorem zFi.set{w:World}{e:TypeId}{s:Nat}{v:Value}{n:Nat}(h:zFi w e s v n)(a:Addr)(u:Value):zFi (w.setCell a u) e s v n:=by
 rcases h with h | ⟨h0,g,cap,cA,hv,hg,h1,h2,h3⟩
 ·exact Or.inl h
 ·obtain⟨aA,bA,hs⟩:=zOG hg a u;exact Or.inr ⟨h0,g,cap,aA,hv,bA,h1,h2,by rw[hs];exact h3⟩
def zEV(w:World)(S:Nat->Prop)(v:Value)(n:Nat)(f:Nat->qi):Prop:=∃(bs:Nat) (kb:Nat->Nat) (kv:Nat->Value),zBZ w bs kb kv v n f/\zE9 kb n f/\(∀k,zJd bs kb n f k->S k)/\zFi w 44 6 v n/\∀i,i<n->zFi w 38 2 (kv i) (f i).dn
def zDO(w:World)(S:Nat->Prop)(v:Value)(n:Nat)(f:Nat->zl):Prop:=∃(bs:Nat) (kb:Nat->Nat) (kv:Nat->Value),zCw w bs kb kv v n f/\zIy kb n f/\(∀k,zKb bs kb n f k->S k)/\zFi w 41 8 v n/\∀i,i<n->zFi w 38 2 (kv i) (f i).dn
theorem zEV.isIn{w:World}{S:Nat->Prop}{v:Value}{n:Nat}{f:Nat->qi}(h:zEV w S v n f):zD9 w S v n f:=by
 obtain⟨bs,kb,kv,h1,h2,h3,_⟩:=h;exact⟨bs,kb,kv,h1,h2,h3⟩
theorem zDO.isIn{w:World}{S:Nat->Prop}{v:Value}{n:Nat}{f:Nat->zl}(h:zDO w S v n f):zDW w S v n f:=by
 obtain⟨bs,kb,kv,h1,h2,h3,_⟩:=h;exact⟨bs,kb,kv,h1,h2,h3⟩
theorem zEV.set{w:World}{S:Nat->Prop}{v:Value}{n:Nat}{f:Nat->qi}(h:zEV w S v n f)(b o:Nat)(u:Value)(hb:¬S b):zEV (w.setCell ⟨b,o,none⟩ u) S v n f:=by
 obtain⟨bs,kb,kv,h1,h2,h3,h4,h5⟩:=h;exact⟨bs,kb,kv,h1.zeG (zJ.put w b o u) (fun k hk e=>hb (e▸h3 k hk)),h2,h3,h4.set _ _,fun i hi=>(h5 i hi).set _ _⟩
theorem zDO.set{w:World}{S:Nat->Prop}{v:Value}{n:Nat}{f:Nat->zl}(h:zDO w S v n f)(b o:Nat)(u:Value)(hb:¬S b):zDO (w.setCell ⟨b,o,none⟩ u) S v n f:=by
 obtain⟨bs,kb,kv,h1,h2,h3,h4,h5⟩:=h;exact⟨bs,kb,kv,h1.zeG (zJ.put w b o u) (fun k hk e=>hb (e▸h3 k hk)),h2,h3,h4.set _ _,fun i hi=>(h5 i hi).set _ _⟩
theorem zEV.put6{w:World}{S:Nat->Prop}{v:Value}{n:Nat}{f:Nat->qi}(h:zEV w S v n f)(b:Nat)(u0 u1 u2 u3 u4 u5:Value)(hb:¬S b):zEV (put6 w b u0 u1 u2 u3 u4 u5) S v n f:=(((((h.set b 0 u0 hb).set b 1 u1 hb).set b 2 u2 hb).set b 3 u3 hb).set b 4 u4 hb).set b 5 u5 hb
theorem zDO.put6{w:World}{S:Nat->Prop}{v:Value}{n:Nat}{f:Nat->zl}(h:zDO w S v n f)(b:Nat)(u0 u1 u2 u3 u4 u5:Value)(hb:¬S b):zDO (put6 w b u0 u1 u2 u3 u4 u5) S v n f:=(((((h.set b 0 u0 hb).set b 1 u1 hb).set b 2 u2 hb).set b 3 u3 hb).set b 4 u4 hb).set b 5 u5 hb
structure zGL (w:World) (P Q R:Nat->Prop) (v0 v1 v2 v3:Value) (W:zB):Prop where
 pool:zB6 w P v0 v1 W.pool
 zeK:zEV w Q v2 W.sn W.zeK
 zeJ:zDO w R v3 W.pn W.zeJ
 pq:∀k,P k->¬Q k
 pr:∀k,P k->¬R k
 qr:∀k,Q k->¬R k
def yk(w:World)(lo hi:Nat)(v0 v1 v2 v3:Value)(W:zB):Prop:=∃P Q R,zGL w P Q R v0 v1 v2 v3 W/\∀k,P k\/Q k\/R k->lo<=k/\k<hi
theorem zGL.isIn{w:World}{P Q R:Nat->Prop}{v0 v1 v2 v3:Value}{W:zB}(h:zGL w P Q R v0 v1 v2 v3 W):zEW w P Q R v0 v1 v2 v3 W:=⟨h.pool,h.zeK.isIn,h.zeJ.isIn,h.pq,h.pr,h.qr⟩
theorem yk.own{w:World}{lo hi:Nat}{v0 v1 v2 v3:Value}{W:zB}(h:yk w lo hi v0 v1 v2 v3 W):zBn w lo hi v0 v1 v2 v3 W:=by
 obtain⟨P,Q,R,h,hl⟩:=h;exact⟨P,Q,R,h.isIn,hl⟩
theorem zGL.set{w:World}{P Q R:Nat->Prop}{v0 v1 v2 v3:Value}{W:zB}(h:zGL w P Q R v0 v1 v2 v3 W)(b o:Nat)(u:Value)(hb:¬(P b\/Q b\/R b)):zGL (w.setCell ⟨b,o,none⟩ u) P Q R v0 v1 v2 v3 W:=
 ⟨h.pool.zeG (zJ.put w b o u) (fun k hk e=>hb (Or.inl (e▸hk))),h.zeK.set b o u (fun h=>hb (Or.inr (Or.inl h))),h.zeJ.set b o u (fun h=>hb (Or.inr (Or.inr h))),h.pq,h.pr,h.qr⟩
theorem yk.set{w:World}{lo hi:Nat}{v0 v1 v2 v3:Value}{W:zB}(h:yk w lo hi v0 v1 v2 v3 W)(b o:Nat)(u:Value)(hb:b<lo\/hi<=b):yk (w.setCell ⟨b,o,none⟩ u) lo hi v0 v1 v2 v3 W:=by
 obtain⟨P,Q,R,h,hl⟩:=h;exact⟨P,Q,R,h.set b o u (fun hk=>by have:=hl b hk;omega),hl⟩
theorem yk.put6{w:World}{lo hi:Nat}{v0 v1 v2 v3:Value}{W:zB}(h:yk w lo hi v0 v1 v2 v3 W)(b:Nat)(u0 u1 u2 u3 u4 u5:Value)(hb:b<lo\/hi<=b):yk (put6 w b u0 u1 u2 u3 u4 u5) lo hi v0 v1 v2 v3 W:=(((((h.set b 0 u0 hb).set b 1 u1 hb).set b 2 u2 hb).set b 3 u3 hb).set b 4 u4 hb).set b 5 u5 hb
theorem yk.zeQ{w:World}{lo hi:Nat}{v0 v1 v2 v3:Value}{W:zB}(h:yk w lo hi v0 v1 v2 v3 W):∃a0 c0 a1 c1 a2 c2 a3 c3,v0 = .slice a0 W.pool.n c0/\v1 = .slice a1 W.pool.hn c1/\v2 = .slice a2 W.sn c2/\v3 = .slice a3 W.pn c3:=h.own.zeQ
theorem yk.wide{w:World}{lo hi bA aA:Nat}{v0 v1 v2 v3:Value}{W:zB}(h:yk w lo hi v0 v1 v2 v3 W)(h1:bA<=lo)(h2:hi<=aA):yk w bA aA v0 v1 v2 v3 W:=by
 obtain⟨P,Q,R,h,hl⟩:=h;exact⟨P,Q,R,h,fun k hk=>by have:=hl k hk;omega⟩
def zWH(W:zB)(w:World)(e:Ending)(w':World):Prop:=∃v0 v1 v2 v3,e = .returned (zA8 v0 v1 v2 v3 W)/\yk w' w.heap.size w'.heap.size v0 v1 v2 v3 W/\Below w.heap.size w w'
theorem zBZ.edit{w w':World}{bs off n c:Nat}{kb:Nat->Nat}{kv:Nat->Value}{f:Nat->qi}(ho:zBZ w bs kb kv (.slice (some ⟨bs,off,none⟩) n c) n f){k:Nat}(hk:k<n){s':qi}{nb:Nat}{nv:Value}
  (ht:zJ (fun j=>j=bs) w w') (hx:∀j,j<n->j≠k->∀r,r<6->∀u,zY w bs (off+j*6+r) u->zY w' bs (off+j*6+r) u) (hs:zDs w' bs (off+k*6) nb nv s') :
  zBZ w' bs (fun j=>if j=k then nb else kb j) (fun j=>if j=k then nv else kv j) (.slice (some ⟨bs,off,none⟩) n c) n (fun j=>if j=k then s' else f j):=by
 obtain⟨hm,a,cap,hv,hc,bA⟩:=ho;simp only[Value.slice.injEq,true_and]at hv;obtain⟨rfl,rfl⟩:=hv;refine⟨hm,_,_,rfl,hc,fun h0=>?_⟩;obtain⟨cA,e,aA⟩:=bA h0;simp only[Option.some.injEq,Addr.mk.injEq,true_and,and_true]at e;subst e;refine⟨off,rfl,fun j hj=>?_⟩;by_cases e:j=k
 ·subst e;simp only[if_true];exact hs
 ·simp only[if_neg e];have h:=aA j hj;exact⟨hx j hj e 0 (by omega) _ h.c0,hx j hj e 1 (by omega) _ h.c1,hx j hj e 2 (by omega) _ h.c2,hx j hj e 3 (by omega) _ h.c3,hx j hj e 4 (by omega) _ h.c4,hx j hj e 5 (by omega) _ h.c5,h.dead.zeG ht (fun h0 e=>h.zeN h0 e),h.zeP,h.zeN⟩
def zGe(W:zB)(k:Nat)(name set:ByteArray):zl:={id:=W.next,name:=name,set:=set,zeL:=(W.zeK k).zeL,time:=W.time,rs:=(W.zeK k).rs,rb:=(W.zeK k).rb,dn:=(W.zeK k).dn,ds:=(W.zeK k).ds,db:=(W.zeK k).db}
def zSu(W:zB)(k:Nat)(name set:ByteArray):zB:={W with time:=W.time+1,next:=W.next+1,zeK:=fun j=>if j=k then {W.zeK k with zeL:=W.next,dn:=0}else W.zeK j,pn:=W.pn+1,zeJ:=fun j=>if j=W.pn then zGe W k name set else W.zeJ j}
def ins{α : Type}(f:Nat->α)(k:Nat)(s:α):Nat->α:=fun j=>if j<k then f j else if j=k then s else f (j - 1)
theorem zYc{α : Type}{f:Nat->α}{k j:Nat}{s:α}(h:j<k):ins f k s j=f j:=if_pos h
theorem zYa{α : Type}{f:Nat->α}{k:Nat}{s:α}:ins f k s k=s:=by
 unfold ins;rw[if_neg (Nat.lt_irrefl _),if_pos rfl]
theorem zYb{α : Type}{f:Nat->α}{k j:Nat}{s:α}(h:k<j):ins f k s j=f (j - 1):=by
 unfold ins;rw[if_neg (by omega),if_neg (by omega)]
def zGp(W:zB)(k:Nat)(s:qi):zB:={W with sn:=W.sn+1,zeK:=ins W.zeK k s}
def noW:zB:={pool:=zEw 0,time:=0,next:=0,sn:=0,zeK:=fun _=>⟨⟨#[]⟩,0,0,0,0,0,fun _=>0,fun _=>0⟩,pn:=0,zeJ:=fun _=>⟨0,⟨#[]⟩,⟨#[]⟩,0,0,0,0,0,fun _=>0,fun _=>0⟩}
theorem zVg{w:World}{lo hi:Nat}:zBn w lo hi (.slice none 0 0) (.slice none 0 0) (.slice none 0 0) (.slice none 0 0) noW:=by
 refine⟨fun k=>lo<=k/\k<hi,fun _=>False,fun _=>False,⟨(zSZ (lo:=lo) (hi:=hi)).isIn (fun k h1 h2=>⟨h1,h2⟩),?_,?_,fun _ _ h=>h,fun _ _ h=>h,fun _ h=>h.elim⟩,fun k hk=>?_⟩
 ·exact⟨0,fun _=>0,fun _=>.slice none 0 0,⟨Nat.zero_le _,none,0,rfl,Nat.le_refl _,fun h=>absurd h (Nat.lt_irrefl _)⟩,fun i j hi=>absurd hi (Nat.not_lt_zero _),fun k hk=>by
   rcases hk with⟨h,_⟩ | ⟨i,h,_⟩
   ·exact absurd h (Nat.lt_irrefl _)
   ·exact absurd h (Nat.not_lt_zero _)⟩
 ·exact⟨0,fun _=>0,fun _=>.slice none 0 0,⟨Nat.zero_le _,none,0,rfl,Nat.le_refl _,fun h=>absurd h (Nat.lt_irrefl _)⟩,fun i j hi=>absurd hi (Nat.not_lt_zero _),fun k hk=>by
   rcases hk with⟨h,_⟩ | ⟨i,h,_⟩
   ·exact absurd h (Nat.lt_irrefl _)
   ·exact absurd h (Nat.not_lt_zero _)⟩
 ·rcases hk with h | h | h
  ·exact h
  ·exact h.elim
  ·exact h.elim
def zCE(w:World)(b:Nat)(v0 v1 v2 v3 v4 v5 v6 v7 v8:Value):Prop:=zY w b 0 v0/\zY w b 1 v1/\zY w b 2 v2/\zY w b 3 v3/\zY w b 4 v4/\zY w b 5 v5/\zY w b 6 v6/\zY w b 7 v7/\zY w b 8 v8
theorem zCE.c{w:World}{b:Nat}{v0 v1 v2 v3 v4 v5 v6 v7 v8:Value}(h:zCE w b v0 v1 v2 v3 v4 v5 v6 v7 v8):w.cell? ⟨b,0,none⟩=some v0/\w.cell? ⟨b,1,none⟩=some v1/\w.cell? ⟨b,2,none⟩=some v2/\w.cell? ⟨b,3,none⟩=some v3/\w.cell? ⟨b,4,none⟩=some v4/\w.cell? ⟨b,5,none⟩=some v5/\w.cell? ⟨b,6,none⟩=some v6/\w.cell? ⟨b,7,none⟩=some v7/\w.cell? ⟨b,8,none⟩=some v8:=
 ⟨h.1.1,h.2.1.1,h.2.2.1.1,h.2.2.2.1.1,h.2.2.2.2.1.1,h.2.2.2.2.2.1.1,h.2.2.2.2.2.2.1.1,h.2.2.2.2.2.2.2.1.1,h.2.2.2.2.2.2.2.2.1⟩
theorem zCE.zeF{w w':World}{b:Nat}{v0 v1 v2 v3 v4 v5 v6 v7 v8:Value}(h:zCE w b v0 v1 v2 v3 v4 v5 v6 v7 v8)(t:Below w.heap.size w w'):zCE w' b v0 v1 v2 v3 v4 v5 v6 v7 v8:=⟨h.1.zeF t,h.2.1.zeF t,h.2.2.1.zeF t,h.2.2.2.1.zeF t,h.2.2.2.2.1.zeF t,h.2.2.2.2.2.1.zeF t,h.2.2.2.2.2.2.1.zeF t,h.2.2.2.2.2.2.2.1.zeF t,h.2.2.2.2.2.2.2.2.zeF t⟩
theorem zCE.zeG{S:Nat->Prop}{w w':World}{b:Nat}{v0 v1 v2 v3 v4 v5 v6 v7 v8:Value}(h:zCE w b v0 v1 v2 v3 v4 v5 v6 v7 v8)(t:zJ S w w')(hs:¬S b):zCE w' b v0 v1 v2 v3 v4 v5 v6 v7 v8:=⟨h.1.zeG t hs,h.2.1.zeG t hs,h.2.2.1.zeG t hs,h.2.2.2.1.zeG t hs,h.2.2.2.2.1.zeG t hs,h.2.2.2.2.2.1.zeG t hs,h.2.2.2.2.2.2.1.zeG t hs,h.2.2.2.2.2.2.2.1.zeG t hs,h.2.2.2.2.2.2.2.2.zeG t hs⟩
theorem zCE.new(w:World)(v0 v1 v2 v3 v4 v5 v6 v7 v8:Value)(t:TypeId):zCE (w.alloc (.cells #[v0,v1,v2,v3,v4,v5,v6,v7,v8] t)) w.heap.size v0 v1 v2 v3 v4 v5 v6 v7 v8:=by
 have hb:(w.alloc (.cells #[v0,v1,v2,v3,v4,v5,v6,v7,v8] t)).heap[w.heap.size]?=some (.cells #[v0,v1,v2,v3,v4,v5,v6,v7,v8] t):=heap_alloc_new _ _;exact⟨zK hb rfl,zK hb rfl,zK hb rfl,zK hb rfl,zK hb rfl,zK hb rfl,zK hb rfl,zK hb rfl,zK hb rfl⟩
abbrev put9(w:World)(b:Nat)(u0 u1 u2 u3 u4 u5 u6 u7 u8:Value):World:=((((((((w.setCell ⟨b,0,none⟩ u0).setCell ⟨b,1,none⟩ u1).setCell ⟨b,2,none⟩ u2).setCell ⟨b,3,none⟩ u3).setCell ⟨b,4,none⟩ u4).setCell ⟨b,5,none⟩ u5).setCell ⟨b,6,none⟩ u6).setCell ⟨b,7,none⟩ u7).setCell ⟨b,8,none⟩ u8
theorem zCE.put{w:World}{b:Nat}{v0 v1 v2 v3 v4 v5 v6 v7 v8:Value}(h:zCE w b v0 v1 v2 v3 v4 v5 v6 v7 v8)(u0 u1 u2 u3 u4 u5 u6 u7 u8:Value):zCE (put9 w b u0 u1 u2 u3 u4 u5 u6 u7 u8) b u0 u1 u2 u3 u4 u5 u6 u7 u8:=
 have H (i:Nat) (u v:Value) (e:[u0,u1,u2,u3,u4,u5,u6,u7,u8][i]?=some u) (c:zY w b i v):zY (put9 w b u0 u1 u2 u3 u4 u5 u6 u7 u8) b i u:=zKG [u0,u1,u2,u3,u4,u5,u6,u7,u8] w 0 i i e (Nat.zero_add i) c
 ⟨H 0 _ _ rfl h.1,H 1 _ _ rfl h.2.1,H 2 _ _ rfl h.2.2.1,H 3 _ _ rfl h.2.2.2.1,H 4 _ _ rfl h.2.2.2.2.1,H 5 _ _ rfl h.2.2.2.2.2.1,H 6 _ _ rfl h.2.2.2.2.2.2.1,H 7 _ _ rfl h.2.2.2.2.2.2.2.1,H 8 _ _ rfl h.2.2.2.2.2.2.2.2⟩
theorem zJ.put9(w:World)(b:Nat)(u0 u1 u2 u3 u4 u5 u6 u7 u8:Value):zJ (fun k=>k=b) w (put9 w b u0 u1 u2 u3 u4 u5 u6 u7 u8):=((((((((zJ.put w b 0 u0).trans (zJ.put _ b 1 u1)).trans (zJ.put _ b 2 u2)).trans (zJ.put _ b 3 u3)).trans (zJ.put _ b 4 u4)).trans (zJ.put _ b 5 u5)).trans (zJ.put _ b 6 u6)).trans (zJ.put _ b 7 u7)).trans (zJ.put _ b 8 u8)
open Go.Extern.Stop Go.Stop Go.Extern
theorem zR{P:Prop}(h:P):Hid P:=h
abbrev yg(a:Addr):Value:=.iface 218 (.pointer (some a))
def zJs:Nat->Nat
 | 0=>3
 | 1=>2
 | 2=>0
 | 3=>4
 | 4=>5
 | 5=>1
 | _=>6
def zHf:Nat->Int
 | 0=>1
 | 1=>2
 | 2=>4
 | 3=>5
 | 4=>6
 | 5=>7
 | _=>8
structure zF1 (w:World) (p:Nat->Addr):Prop where
 cell:∀i,i<7->w.cell? ⟨zJs i,0,none⟩=some (yg (p i))
 row:∀i,i<7->∃cs t,w.heap[(p i).block]?=some (.cells cs t (0,0))
 ne:∀i j,i<7->j<7->i≠j->p i≠p j
theorem zF1.zeF{w w':World}{p:Nat->Addr}(h:zF1 w p)(t:Below w.heap.size w w'):zF1 w' p:=
 ⟨fun i hi=>(t.cell (zH (h.cell i hi))).trans (h.cell i hi),fun i hi=>by
  obtain⟨cs,ty,hc⟩:=h.row i hi;exact⟨cs,ty,(t.block _ (Array.getElem?_eq_some_iff.1 hc).1).trans hc⟩,h.ne⟩
theorem zRz(v:Value)(w:World):(Extern.ReflectliteType.typeOf #[.iface 218 v]).run Tryz.prog w = .ok (.iface 197 (.agg #[.pointer (some ⟨7,218,none⟩)])) w:=by kernel_rfl
def zcp:Array Value->Sem Value:=Extern.ReflectliteType.method fun t=>do Extern.Rtype.noPackHeld "Comparable" t;pure (.bool (<-typeInfo t).comparable)
theorem zJ1(w:World):(zcp #[.agg #[.pointer (some ⟨7,218,none⟩)]]).run Tryz.prog w = .ok (.bool true) w:=by kernel_rfl
theorem zFW(v:Value)(w:World):(Go.method 355 197 v "Comparable").run Tryz.prog w = .ok (212,v) w:=by kernel_rfl
theorem zYd:(Tryz.prog.info? 218).map (·.comparable)=some true:=by kernel_rfl
theorem zYe:(Tryz.prog.info? 243).map (·.size)=some 1:=by kernel_rfl
theorem zds(v:Value)(xT:TypeId)(w:World):(Instr.typeAssert (.iface 218 v) xT 199 true).run Tryz.prog w = .ok (.tuple #[.nilIface,.bool false]) w:=run_typeAssert_lacksB Tryz.underlying199 (by kernel_rfl) (by kernel_rfl) v xT w
theorem zW9(v:Value)(xT:TypeId)(w:World):(Instr.typeAssert (.iface 218 v) xT 202 true).run Tryz.prog w = .ok (.tuple #[.nilIface,.bool false]) w:=run_typeAssert_lacksB Tryz.underlying202 (by kernel_rfl) (by kernel_rfl) v xT w
theorem zUK(v:Value)(xT:TypeId)(w:World):(Instr.typeAssert (.iface 218 v) xT 204 true).run Tryz.prog w = .ok (.tuple #[.nilIface,.bool false]) w:=run_typeAssert_lacksB Tryz.underlying204 (by kernel_rfl) (by kernel_rfl) v xT w
theorem za8(a:Addr)(w:World):Calls Tryz.prog 103 #[yg a,yg a] w fun e w'=>e = .returned (.bool true)/\w'=w:=by
 obtain⟨i,hi,aA⟩:=Option.map_eq_some_iff.1 zYd;obtain⟨j,hj,dA⟩:=Option.map_eq_some_iff.1 zYe;have h8:=@run_callFunc_extern Tryz.prog 147 _ Extern.ReflectliteType.typeOf Tryz.func147 (by kernel_rfl) (by kernel_rfl) (by kernel_rfl) (by kernel_rfl);have bA:=@run_callFunc_extern Tryz.prog 212 _ zcp Tryz.func212 (by kernel_rfl) (by kernel_rfl) (by kernel_rfl) (by kernel_rfl);have tT:=zRz;have cT:=zJ1;have mR:=zFW;have cA:=run_eql_iface_ptr_same (P:=Tryz.prog) w a Tryz.underlying53 Tryz.underlying218 hi aA hj;go_enter Tryz.func103,Tryz.ntmps103;go_wp2;refine wp_loop_rounds 1 ?_;rw[rounds_succ];go_wp2;go_ret;exact⟨rfl,rfl⟩
theorem zYf(a b:Addr)(ca cb:Array Value)(ta tb:TypeId)(w:World)(cA:a≠b)(ha:w.heap[a.block]?=some (.cells ca ta (0,0)))(hb:w.heap[b.block]?=some (.cells cb tb (0,0))):Calls Tryz.prog 103 #[yg a,yg b] w fun e w'=>e = .returned (.bool false)/\w'=w:=by
 obtain⟨i,hi,aA⟩:=Option.map_eq_some_iff.1 zYd;obtain⟨j,hj,bA⟩:=Option.map_eq_some_iff.1 zYe;have h8:=@run_callFunc_extern Tryz.prog 147 _ Extern.ReflectliteType.typeOf Tryz.func147 (by kernel_rfl) (by kernel_rfl) (by kernel_rfl) (by kernel_rfl);have dA:=@run_callFunc_extern Tryz.prog 212 _ zcp Tryz.func212 (by kernel_rfl) (by kernel_rfl) (by kernel_rfl) (by kernel_rfl);have tT:=zRz;have cT:=zJ1;have mR:=zFW;have nE:=zds;have uE:=zW9;have vE:=zUK;have eA:=run_eql_iface_ptr_other (P:=Tryz.prog) w Tryz.underlying53 Tryz.underlying218 hi aA hj (by rw[bA];decide) cA ha hb;go_enter Tryz.func103,Tryz.ntmps103;go_wp2;refine wp_loop_rounds 1 ?_;rw[rounds_succ];go_wp2;go_ret;exact⟨rfl,rfl⟩
def zZy(p:Nat->Addr):Array Value:=#[yg (p 0),.int .i64 1,yg (p 1),.int .i64 2,yg (p 2),.int .i64 4,yg (p 3),.int .i64 5,yg (p 4),.int .i64 6,yg (p 5),.int .i64 7,yg (p 6),.int .i64 8]
theorem zVy(p:Nat->Addr){i:Nat}(hi:i<7):(zZy p)[i*2]?=some (yg (p i))/\(zZy p)[i*2+1]?=some (.int .i64 (zHf i)):=by
 match i,hi with
 | 0,_=>exact⟨rfl,rfl⟩
 | 1,_=>exact⟨rfl,rfl⟩
 | 2,_=>exact⟨rfl,rfl⟩
 | 3,_=>exact⟨rfl,rfl⟩
 | 4,_=>exact⟨rfl,rfl⟩
 | 5,_=>exact⟨rfl,rfl⟩
 | 6,_=>exact⟨rfl,rfl⟩
theorem zQt(p:Nat->Addr)(w:World)(h:zF1 w p):Calls Tryz.prog 102 #[] w fun e w'=>e = .returned (.slice (some ⟨w.heap.size,0,none⟩) 7 7)/\w'=w.alloc (.cells (zZy p) 132):=by
 have h0:w.cell? ⟨3,0,none⟩=some (yg (p 0)):=h.cell 0 (by omega);have h1:w.cell? ⟨2,0,none⟩=some (yg (p 1)):=h.cell 1 (by omega);have h2:w.cell? ⟨0,0,none⟩=some (yg (p 2)):=h.cell 2 (by omega);have h3:w.cell? ⟨4,0,none⟩=some (yg (p 3)):=h.cell 3 (by omega);have h4:w.cell? ⟨5,0,none⟩=some (yg (p 4)):=h.cell 4 (by omega);have h5:w.cell? ⟨1,0,none⟩=some (yg (p 5)):=h.cell 5 (by omega);have h6:w.cell? ⟨6,0,none⟩=some (yg (p 6)):=h.cell 6 (by omega);clear h;go_enter Tryz.func102,Tryz.ntmps102;go_wp2;go_ret;exact⟨rfl,rfl⟩
structure zAk where
 world:zB
 id:Int
 many:Int
 code:Int
abbrev zd5(v0 v1 v2 v3:Value)(o:zAk):Value:=.agg #[v0,v1,.int .i64 o.world.time,.int .i64 o.world.next,v2,v3,.int .i64 o.id,.int .i64 o.many,.int .i64 o.code]
def zFn(o:zAk)(w:World)(e:Ending)(w':World):Prop:=∃v0 v1 v2 v3,e = .returned (zd5 v0 v1 v2 v3 o)/\zBn w' w.heap.size w'.heap.size v0 v1 v2 v3 o.world/\Below w.heap.size w w'
theorem zCE.six{w:World}{b:Nat}{v0 v1 v2 v3 v4 v5 v6 v7 v8:Value}(h:zCE w b v0 v1 v2 v3 v4 v5 v6 v7 v8)(u0 u1 u2 u3 u4 u5:Value):zCE (put6 w b u0 u1 u2 u3 u4 u5) b u0 u1 u2 u3 u4 u5 v6 v7 v8:=
 have H (i j:Nat) (u v:Value) (e:[u0,u1,u2,u3,u4,u5][i]?=some u) (a:0+i=j) (c:zY w b j v):zY (zZv w b 0 [u0,u1,u2,u3,u4,u5]) b j u:=zKG [u0,u1,u2,u3,u4,u5] w 0 i j e a c;have K (j:Nat) (v:Value) (a:j<0\/6<=j) (c:zY w b j v):zY (zZv w b 0 [u0,u1,u2,u3,u4,u5]) b j v:=zNj [u0,u1,u2,u3,u4,u5] w 0 c a
 ⟨H 0 0 _ _ rfl rfl h.1,H 1 1 _ _ rfl rfl h.2.1,H 2 2 _ _ rfl rfl h.2.2.1,H 3 3 _ _ rfl rfl h.2.2.2.1,H 4 4 _ _ rfl rfl h.2.2.2.2.1,H 5 5 _ _ rfl rfl h.2.2.2.2.2.1,K 6 _ (by omega) h.2.2.2.2.2.2.1,K 7 _ (by omega) h.2.2.2.2.2.2.2.1,K 8 _ (by omega) h.2.2.2.2.2.2.2.2⟩
theorem zY.under{w w':World}{B b o:Nat}{v:Value}(h:zY w b o v)(t:Below B w w')(hb:b<B):zY w' b o v:=⟨(t.cell (p:=⟨b,o,none⟩) hb).trans h.1,(t.frozen (p:=⟨b,o,none⟩) hb).trans h.2⟩
def qD(c:Int):zAk:=⟨noW,0,0,c⟩
def zKy(r:Option Nat)(o:zAk):zAk:=match r with
 | some i=>qD (zHf i)
 | none=>o
end Go.Proofs.YtjganmlaooofoaaGreatDoor
