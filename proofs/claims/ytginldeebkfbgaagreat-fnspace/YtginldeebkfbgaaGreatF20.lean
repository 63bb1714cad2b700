/- A part of the proof. -/
import Derived.Test.YtginldeebkfbgaaGreatF19
import Derived.RangeFuncNested
import Derived.RangeFuncBound
import Derived.RangeFuncCalls
import Derived.RangeFuncLeaves
import Derived.Shelf.Abstract
import Derived.Shelf.RegionOpen
import Derived.OwnWalkIn
import Derived.TacticsInMore
import Derived.LoopNIn
import Derived.LoopIn
import Derived.Stop.RegionWithIn
set_option linter.unusedVariables false
set_option maxRecDepth 20000
set_option maxHeartbeats 4000000
namespace Go.Proofs.YtginldeebkfbgaaGreat
open Go.RowKit Go.Maps
theorem zLz(v0 v1 v2 v3:Value)(lo hi:Nat)(W:zB)(A:Nat)(w:World)(h:ye w lo hi v0 v1 v2 v3 W)(hp:W.pn<=20)(hs:W.sn<=8)(hA:zDK w lo hi W A)(hD:zEK W)(hP:zEc W) :
  Calls Tryz.prog 32 #[zAY v0 v1 v2 v3 W,zJM A] w fun e w'=>zJ (∀i,i<W.sn->zGh W (W.zbh i).name (W.zbh i).zbi (W.zbh i).origin) e/\Below w.heap.size w w':=by
 have Hp:=zC h;have HA:=zC hA;have HD:=zC hD;have HP:=zC hP;obtain⟨m2,a',c',rfl,oA,-⟩:=id h.zbh;unfold maxLen at m2;clear h hA hD hP;have ha:=zD w (.cells #[v0,v1,.int .i64 W.time,.int .i64 W.next,.slice a' W.sn c',v3] 30);have HB:=zC (zAb.new w v0 v1 (.int .i64 W.time) (.int .i64 W.next) (.slice a' W.sn c') v3 30);obtain⟨x0,x2,x4,x6,x8,jA⟩:=HB.out.c;go_enter Tryz.func32,Tryz.ntmps32;go_wp2;clear x0 x2 x4 x6 x8 jA
 go_loopw [10] (fun i wr=>∃k:Nat,k<=W.sn/\i = .int .i64 k/\(∀j,j<k->zGh W (W.zbh j).name (W.zbh j).zbi (W.zbh j).origin)/\zAb wr w.heap.size v0 v1 (.int .i64 W.time) (.int .i64 W.next) (.slice a' W.sn c') v3/\Below w.heap.size w wr) (fun i _=>W.sn - (intOf i).toNat)
 case atStart=>exact⟨0,Nat.zero_le _,rfl,fun j hj=>absurd hj (Nat.not_lt_zero _),HB.out,ha⟩
 case round=>
  clear HB ha;obtain⟨k,hk,rfl,cA,hX,hb⟩:=hrel;have bA:=zC cA;have HX:=zC hX;clear cA hX;by_cases dA:k<W.sn;rotate_left
  ·obtain rfl:k=W.sn:=(by omega);go_wp2;go_ret;exact⟨zJ.yes bA.out,hb⟩
  have nA:(k:Int)<(W.sn:Int):=(by omega);obtain⟨b,off,vd,rfl,aA⟩:=(Hp.out.zbh.zbd hb).cells dA;obtain⟨-,ad,cd,rfl,-,-⟩:=id aA.dead;have iA:=zD wr (.cells #[.string (W.zbh k).name,.int .i64 (W.zbh k).origin,.int .i64 (W.zbh k).zbi,.int .i64 (W.zbh k).rs,.int .i64 (W.zbh k).rb,.slice ad (W.zbh k).dn cd] 46);have HV:=zC (zAb.new wr (.string (W.zbh k).name) (.int .i64 (W.zbh k).origin) (.int .i64 (W.zbh k).zbi) (.int .i64 (W.zbh k).rs) (.int .i64 (W.zbh k).rb) (.slice ad (W.zbh k).dn cd) 46);have fA:=zC (HX.out.zbd iA);have eA:=zA hb iA;have q0:=aA.c0;have q1:=aA.c1;have q2:=aA.c2;have q3:=aA.c3;have q4:=aA.c4;have q5:=aA.c5;obtain⟨y0,y1,y2,y3,y4,y5⟩:=HV.out.c;obtain⟨x0,x2,x4,x6,x8,jA⟩:=fA.out.c;clear aA iA;go_wp2_with fail;clear q0 q1 q2 q3 q4 q5 y0 y1 y2 y3 y4 y5 x0 x2 x4 x6 x8 jA HX hb HV;refine(zM4 v0 v1 _ v3 lo hi W A ad cd (W.zbh k) _ (Hp.out.zbd eA) hp (HA.out.zbd eA) HD.out HP.out (HP.out.zbj k dA) (HP.out.zbh k dA)).mono ?_;rintro e w6 ⟨⟨t6,rfl,lA⟩,gA⟩;have mA:=zC (fA.out.zbd gA);have kA:=zA eA gA;have Ht:=zC lA;clear lA gA eA fA;cases t6
  ·have Hn:=zC (show ¬zGh W (W.zbh k).name (W.zbh k).zbi (W.zbh k).origin from fun hA=>absurd (Ht.out.2 hA) (by simp));clear Ht;go_wp2;go_ret;exact⟨zJ.no fun hA=>Hn.out (hA k dA),kA⟩
  ·have Hn:=zC (Ht.out.1 rfl);clear Ht;go_wp2;go_roundw
   case rel=>exact⟨k+1,by omega,by go_num,qi dA bA.out Hn.out,mA.out,kA⟩
   case measure=>simp[intOf];omega
structure zEx (W:zB):Prop where
 time:zHN W.time 1 900000
 next:zHN W.next 1 900000
 zbh:zZN W.sn W.zbh
 zbg:zVo W
structure zGg (W:zB):Prop where
 zbj:zEx W
 right:zf W.pool
 prevs:∀i,i<zj W->zK3 W i
 lines:∀i,i<W.sn->zGh W (W.zbh i).name (W.zbh i).zbi (W.zbh i).origin
 trees:zVq W
 homes:zIU W
theorem zEx.range{W:zB}(h:zEx W):∀i,i<W.pn->1<=(W.zbg i).id/\(W.zbg i).id<W.next/\1<=(W.zbg i).time/\(W.zbg i).time<W.time
 | 0,hi=>by
  have:=(h.zbg.2.1 0 hi).2.2.2;have h1:Mid 0 (W.zbg 0).id W.next:=this.1;have h2:Mid 0 (W.zbg 0).time W.time:=this.2;have a1:=h1.1;have a2:=h1.2;have a3:=h2.1;have a4:=h2.2;omega
 | i+1,hi=>by
  have ih:=h.range i (by omega);have:=(h.zbg.2.1 (i+1) hi).2.2.2;have h1:Mid (W.zbg i).id (W.zbg (i+1)).id W.next:=this.1;have h2:Mid (W.zbg i).time (W.zbg (i+1)).time W.time:=this.2;have a1:=h1.1;have a2:=h1.2;have a3:=h2.1;have a4:=h2.2;omega
theorem zEx.rise{W:zB}(h:zEx W):∀i,i<W.pn->∀j,j<i->(W.zbg j).id<(W.zbg i).id
 | 0,_,j,hj=>absurd hj (Nat.not_lt_zero _)
 | i+1,hi,j,hj=>by
  have h1:Mid (W.zbg i).id (W.zbg (i+1)).id W.next:=(h.zbg.2.1 (i+1) hi).2.2.2.1;have a1:=h1.1;by_cases e:j=i
  ·subst e;exact a1
  ·have:=h.rise i (by omega) j (by omega);omega
theorem zEx.dist{W:zB}(h:zEx W):zEK W:=fun i hi j hj e=>by have:=h.rise i hi j hj;omega
theorem zEx.idsWf{W:zB}(h:zEx W):zS3 W.pn W.zbg:=fun i hi=>by
 have h1:=h.range i hi;have h2:=h.next.2;exact WalkArith.wf_i64 (by omega)
theorem zEx.times{W:zB}(h:zEx W):zOh W:=fun x=>by
 by_cases hx:∃k,zAl W x k
 ·obtain⟨k,hk⟩:=hx;rw[zAc hk];have h1:=h.range k hk.1;have h2:=h.time.2;exact⟨by omega,by omega⟩
 ·have:zE W x=zAL:=(by unfold zE;rw[dif_neg hx]);rw[this];exact⟨Int.le_refl _,by decide⟩
theorem zMR{W:zB}{i:Nat}(hp:zOZ W):zK3 W i↔((zI W i).zbi=0\/zAC W (zI W i).zbi):=by
 unfold zK3;constructor
 ·intro h;by_cases hx:∃k,zAl W (zI W i).zbi k
  ·obtain⟨k,hk⟩:=hx;exact Or.inr ⟨k,hk.1,hk.2.1⟩
  ·have e:zE W (zI W i).zbi=zAL:=(by unfold zE;rw[dif_neg hx]);rw[e]at h;exact Or.inl h.symm
 ·rintro(h | h)
  ·rw[h,zFx (fun k hk e=>by have:=hp k hk;omega)];rfl
  ·obtain⟨k,hk⟩:=h.no;rw[zAc hk];exact hk.2.1
theorem zEx.zbf{W:zB}(h:zEx W)(hp:∀i,i<zj W->zK3 W i):zEc W where
 ids:=fun k hk=>by have h1:=h.range k hk;have h2:=h.next.2;omega
 zbi:=fun k hk=>by
  have:=(zMR (fun k hk=>(h.range k hk).1)).1 (hp k (by unfold zj;omega));rw[qq hk]at this;exact this
 less:=fun k hk=>(h.zbg.2.1 k hk).2.2.1
 zbh:=fun k hk=>by
  have:=(zMR (fun k hk=>(h.range k hk).1)).1 (hp (W.pn+k) (by unfold zj;omega));rw[zAi]at this;exact this
 zbj:=fun k hk=>zFH (h.zbh.2 k hk).1
theorem zRR{W:zB}(h:zEc W){name:ByteArray}{start:Int}(hs:start=0\/zAC W start):∀{n:Nat} {e:Int},Steps W name start n e->(e=0\/zAC W e)
 | 0,_,.zero=>hs
 | n+1,_,.next (k:=k) _ hk _=>h.zbi k hk.1
theorem zMT{f:Nat->zB9}{i:Nat}(hn:zDM (f i).name):zCW (zG0 f i) (f i).name↔(0<i->zCW (f (i - 1)).name (f i).name):=by
 cases i with
 | zero=>
  refine⟨fun _ h=>absurd h (by omega),fun _=>?_⟩;have aA:=zFH hn;unfold zCW zG0;have h0:(⟨#[]⟩:ByteArray).toList = []:=(by rw[Go.ByteArray.toList_eq]);rw[h0];cases hl:(f 0).name.toList with
  | nil=>rw[hl]at aA;exact absurd aA (by decide)
  | cons a l=>simp[Op.bytesLess]
 | succ i=>exact⟨fun h _=>h,fun h=>h (by omega)⟩
theorem zCv(W:zB):zGg W↔ql W:=by
 constructor
 ·intro h;have hP:=h.zbj.zbf h.prevs;have hN:zAU W:=by
   refine⟨h.zbj.time,h.zbj.next,h.zbj.zbh.1,h.zbj.zbg.1,fun i hi=>?_,fun i hi=>?_⟩
   ·have hs:=h.zbj.zbh.2 i hi;refine⟨hs.1,(zMT hs.1).1 hs.2,fun hz=>(hP.zbh i hi).resolve_left hz,fun hz=>?_⟩;obtain⟨n,e,aA,_,_,rfl⟩:=h.lines i hi;exact(zRR hP (hP.zbh i hi) aA).resolve_left hz
   ·have hs:=h.zbj.zbg.2.1 i hi;have hr:=h.zbj.range i hi;refine⟨⟨hr.1,hr.2.1,hr.2.2.1,hr.2.2.2,hs.2.1,hs.1⟩,⟨fun h0=>?_,fun hz=>⟨hs.2.2.1,(hP.zbi i hi).resolve_left hz⟩⟩,fun k hk=>h.zbj.zbg.2.2 i hi k hk⟩;cases i with
    | zero=>omega
    | succ i=>exact⟨hs.2.2.2.1.1,hs.2.2.2.2.1⟩
  have hT:zEz W:=zJB h.right hN (fun i hi=>by have:=h.trees.1 i (by unfold zj;omega);rw[qq hi]at this;exact this) (fun i hi=>by have:=h.trees.1 (W.pn+i) (by unfold zj;omega);rw[zAi]at this;exact this);have hM:∀i,i<zj W->zNH W (zI W i):=fun i hi=>(zL9 hT hi).1 (h.trees.2 i hi)
  have hh:=(zNp hT (fun j hj=>by have:=hP.pos j hj;omega) hM).1 h.homes;exact⟨h.right,hN,h.lines,fun i hi=>hT.snap hi,fun i hi=>⟨hT.set hi,(hM (W.pn+i) (by unfold zj;omega)).1⟩,fun i hi=>(hM i (by unfold zj;omega)).1,hh.1,fun i hi=>(hM i hi).2,hh.2⟩
 ·intro h;have hP:=h.zbj.zbf;have hT:zEz W:=zJB h.right h.zbj h.zbg (fun i hi=>(h.zbh i hi).1);have hM:∀i,i<zj W->zNH W (zI W i):=fun i hi=>by
   refine⟨?_,h.born i hi⟩;by_cases hp:i<W.pn
   ·exact h.dead i hp
   ·have:=(h.zbh (i - W.pn) (by unfold zj at hi;omega)).2;rw[show W.pn+(i - W.pn)=i by omega]at this;exact this
  have hh:=(zNp hT (fun j hj=>by have:=hP.pos j hj;omega) hM).2 ⟨h.reach,h.apart⟩;refine⟨⟨h.zbj.1,h.zbj.2.1,⟨h.zbj.2.2.1,fun i hi=>?_⟩,⟨h.zbj.2.2.2.1,fun i hi=>?_,fun i hi k hk=>(h.zbj.2.2.2.2.2 i hi).2.2 k hk⟩⟩,h.right,fun i hi=>?_,h.lines,⟨hT.tree,fun i hi=>(zL9 hT hi).2 (hM i hi)⟩,hh⟩
  ·have hs:=h.zbj.2.2.2.2.1 i hi;exact⟨hs.1,(zMT hs.1).2 hs.2.1⟩
  ·have hs:=h.zbj.2.2.2.2.2 i hi;refine⟨hs.1.2.2.2.2.2,hs.1.2.2.2.2.1,hP.less i hi,?_,?_⟩
   ·cases i with
    | zero=>exact⟨by have:=hs.1.1;show(0:Int)<_;omega,hs.1.2.1⟩
    | succ i=>exact⟨(hs.2.1.1 (by omega)).1,hs.1.2.1⟩
   ·cases i with
    | zero=>exact⟨by have:=hs.1.2.2.1;show(0:Int)<_;omega,hs.1.2.2.2.1⟩
    | succ i=>exact⟨(hs.2.1.1 (by omega)).2,hs.1.2.2.2.1⟩
  ·refine(zMR hP.pos).2 ?_;by_cases hp:i<W.pn
   ·rw[qq hp];exact hP.zbi i hp
   ·have e:=zAi W (i - W.pn);rw[show W.pn+(i - W.pn)=i by omega]at e;rw[e];exact hP.zbh _ (by unfold zj at hi;omega)
def zEs:zB9:=⟨⟨#[]⟩,0,0,0,0,0,fun _=>0,fun _=>0⟩
open Classical in
noncomputable def zBc(W:zB)(x:ByteArray):zB9:=if h:∃k,zIW W x k then W.zbh h.choose else zEs
theorem zMV{W:zB}{x:ByteArray}{k:Nat}(h:zIW W x k):zBc W x=W.zbh k:=by
 have hx:∃k,zIW W x k:=⟨k,h⟩;unfold zBc;rw[dif_pos hx,hx.choose_spec.uniq h]
theorem zRJ{W:zB}{x:ByteArray}:∀{n:Nat},n<=W.sn->(∃i,i<n/\(W.zbh i).name=x)->∃k,zIW W x k
 | 0,_,⟨i,hi,_⟩=>absurd hi (Nat.not_lt_zero _)
 | n+1,hn,⟨i,hi,e⟩=>by
  by_cases hx:∃j,j<n/\(W.zbh j).name=x
  ·exact zRJ (by omega) hx
  ·have:i=n:=by
    by_cases h:i=n
    ·exact h
    ·exact absurd ⟨i,by omega,e⟩ hx
   subst this;exact⟨i,by omega,e,fun j hj e2=>hx ⟨j,hj,e2⟩⟩
def zNF(W:zB):Prop:=∀i,i<W.sn->∀j,j<i->(W.zbh j).name≠(W.zbh i).name
theorem zAU.rise{W:zB}(h:zAU W):∀i,i<W.sn->∀j,j<i->zCW (W.zbh j).name (W.zbh i).name
 | 0,_,j,hj=>absurd hj (Nat.not_lt_zero _)
 | i+1,hi,j,hj=>by
  have h1:zCW (W.zbh i).name (W.zbh (i+1)).name:=(h.2.2.2.2.1 (i+1) hi).2.1 (by omega);by_cases e:j=i
  ·subst e;exact h1
  ·exact zP5 _ _ _ (zAU.rise h i (by omega) j (by omega)) h1
theorem zAU.dist{W:zB}(h:zAU W):zNF W:=fun i hi j hj e=>by
 have:=h.rise i hi j hj;unfold zCW at this;rw[e,zJQ]at this;exact absurd this (by simp)
theorem zHt{W:zB}{w:World}{lo hi:Nat}{vd:Nat->Value}(hD:zNF W)(hd:zK7 w lo hi W.sn W.zbh vd)(x:ByteArray):∃a c,(putD (fun i=>zEm (W.zbh i).name) (fun i=>zI6 (vd i) (W.zbh i)) W.sn).atKey (zEm x) (.held (.agg #[.string ⟨#[]⟩,.int .i64 0,.int .i64 0,.int .i64 0,.int .i64 0,.slice none 0 0])) = .held (zI6 (.slice a (zBc W x).dn c) (zBc W x))/\qk w lo hi (.slice a (zBc W x).dn c) (zBc W x).dn (zBc W x).ds (zBc W x).db:=by
 have hk:zFC (fun i=>zEm (W.zbh i).name):=fun i=>zLq _
 by_cases hx:∃k,zIW W x k
 ·obtain⟨k,aA⟩:=hx;rw[zMV aA];have hp:=hd k aA.1;obtain⟨_,a,c,hv,_⟩:=id hp;refine⟨a,c,?_,by rw[<-hv];exact hp⟩;have:=zKs hk (fun i=>zI6 (vd i) (W.zbh i)) (.held (.agg #[.string ⟨#[]⟩,.int .i64 0,.int .i64 0,.int .i64 0,.int .i64 0,.slice none 0 0])) W.sn k aA.1 (fun j h1 h2 e=>hD j h2 k h1 (zLp e).symm);rw[aA.2.1]at this;rw[this,hv]
 ·have e:zBc W x=zEs:=(by unfold zBc;rw[dif_neg hx]);rw[e];refine⟨none,0,?_,⟨Nat.zero_le _,none,0,rfl,Nat.le_refl _,fun h=>absurd h (by simp[zEs])⟩⟩;refine zHY hk _ (fun i bA e2=>?_) _;exact hx (zRJ (Nat.le_refl _) ⟨i,bA,zLp e2⟩)
set_option linter.unusedSimpArgs false
set_option maxRecDepth 20000
set_option maxHeartbeats 3200000
attribute [local go_sem] qX List.map_cons List.map_nil Tr.cv yq qK yA qz yp yo yn qy zBE zBG zBF zBB zBD zBC zCa zCc zCb qP zr qQ zt qI qH qU zAA zo zp yE qO tmpsOf zAo yD qN zBA yw yu yr yx yv stpP opds opd opdC kap zAB qJ zn coreU bin zAe zCK get put dlO fgt zBR zBK zBO zBP tyT yk yj Op.operands Call.operands evLoad evLen evStore evAlloc zAj and_true true_and List.append_nil List.nil_append List.cons_append Ret resCv zB3 yV cellM zBh zCE qV StW StR hpT hpO hpV hpA hpL hpC sg nin zCU bdO tmW obW AvE CsE CvE Av.tup Av.ids Cv.ids inD ObE Ob.ids TrE.refl qM yB yC qR qS qT zq zb zX yz zBa zCL zBH evCall argL argOf qZ outOb obO yM qA cvO tot Tr.own rid partsOf fillC zS zBf frz frz1 evBuildSlice zc trs Cv.tr evSlice Option.toArray_none Option.toArray_some evMakeSlice evAppend dstOf srcOf zA3 zBQ zBN zBL zBM ikT qx qw qv qu RetP RetN zBr qD evLd evSt evStoreH zAh evAppendM evAppendT tlOf mvOf rowE shp evTake oOf evC evCallP evCallN evCallO unlast zAO zA1 zAa argsF zCR qg pmC varT vT evField evConv dB0 Option.bind_some Option.bind_none Option.map_some Option.map_none Option.isSome_some Option.isSome_none
attribute [local go_sem] yL za zA7 yd qr zAv zAw zAx zAy zAz zA0 zAD zAE zAF zAG zAH zAI zAJ zAK yS qp
attribute [-go_sem] za
attribute [local go_sem] zAV zCF zCG zAf yy
def zGM(W:zB)(x:Int):Nat->Nat
 | 0=>0
 | k+1=>zGM W x k+(if (W.zbh k).zbi=x then 1 else 0)
def zG9(W:zB)(x:Int):Nat->Nat
 | 0=>0
 | k+1=>zG9 W x k+(if (W.zbg k).zbi=x then 1 else 0)
theorem zTv(W:zB)(x:Int):∀k,zGM W x k<=k
 | 0=>Nat.le_refl _
 | k+1=>by have:=zTv W x k;rw[zGM];split<;>omega
theorem zTt(W:zB)(x:Int):∀k,zG9 W x k<=k
 | 0=>Nat.le_refl _
 | k+1=>by have:=zTt W x k;rw[zG9];split<;>omega
noncomputable def zWm:zR:=qE (fun q:zB×Int=>[woT q.1,iT q.2]) (fun q=>q.1.sn<=1000000/\q.1.pn<=1000000) (fun q=>[iT ((zGM q.1 q.2 q.1.sn+zG9 q.1 q.2 q.1.pn:Nat):Int)])
theorem zN4(W:zB)(x:Int):zWm [woT W,iT x]=some (W.sn<=1000000/\W.pn<=1000000,[iT ((zGM W x W.sn+zG9 W x W.pn:Nat):Int)]):=zK (fun l=>(zB7 (nth l 0),qC (nth l 1 0))) (fun _=>rfl) (W,x)
theorem zQf:zd Tryz.prog 145 zWm:=by
 refine zP zl GOk.nil zk Tryz.func145 rfl Tryz.ntmps145 Tryz.results145 8 ?_;rintro⟨W,x⟩ ⟨hn,hm⟩;replace hn:W.sn<=1000000:=hn;replace hm:W.pn<=1000000:=hm;refine⟨by simp,?_⟩;simp[go_sem];refine qY (fun k:Nat=>⟨[(2,true,.m false [.p 2 0]),(1,true,.i x),(5,true,.i (zGM W x k)),(6,true,.i k)],[(2,.var ((woL W).map Tr.cv))]⟩) (fun k=>W.sn - k) (fun k=>k<=W.sn) 0 (by simp[go_sem,zGM]) (by simp) ?_;intro k hk;have hc:=zTv W x k;simp[go_sem,ze (show k<=1000000000 by omega),ze (show zGM W x k<=1000000000 by omega)];refine⟨fun hl=>⟨hl,fun h=>⟨k+1,by omega,by omega,by rw[zGM,if_pos h];rfl,rfl⟩,fun h=>⟨k+1,by omega,by omega,by rw[zGM,if_neg h];rfl,rfl⟩⟩,fun hl=>?_⟩;cases (show k=W.sn by omega);refine qY (fun k:Nat=>⟨[(2,true,.m false [.p 2 0]),(1,true,.i x),(5,true,.i (zGM W x W.sn+zG9 W x k)),(7,true,.i k)],[(2,.var ((woL W).map Tr.cv))]⟩) (fun k=>W.pn - k) (fun k=>k<=W.pn) 0 (by simp[go_sem,zG9]) (by simp) ?_;intro k hk;have aA:=zTt W x k;have hw:=ze (show zGM W x W.sn+zG9 W x k<=1000000000 by omega);simp only[Int.natCast_add]at hw;simp[go_sem,ze (show k<=1000000000 by omega),hw];refine⟨fun hl=>⟨hl,fun h=>⟨k+1,by omega,by omega,by rw[zG9,if_pos h];omega,rfl⟩,fun h=>⟨k+1,by omega,by omega,by rw[zG9,if_neg h];rfl,rfl⟩⟩,fun hl=>?_⟩;cases (show k=W.pn by omega);rfl
open Go.Shelf
abbrev zDe:=(Int×Int)×(Int×Int)
abbrev zJL:={x:zDe // (Lit.int .i64 x.2.1).wf=true/\(Lit.int .i64 x.2.2).wf=true/\(x.1.1=2->0<=x.1.2/\x.1.2<64)}
abbrev zRP(x:zJL):Array Value:=#[.agg #[.int .i64 x.1.1.1,.int .i64 x.1.1.2],.agg #[.int .i64 x.1.2.1,.int .i64 x.1.2.2]]
def zFy(f:Nat->List zDe):Nat->List zDe
 | 0=>[]
 | k+1=>zFy f k ++ f k
def zFo(p:zF)(L:Int)(G:Int->Int->Int->List zDe)(num xs xb:Int):List zDe:=if Nil xs xb then [] else((L,num),(xs,xb)) :: zFy (fun i=>G (num*8+i) (zy (p.s xs.toNat) i) (qm (p.s xs.toNat) i)) 8
def zOE(p:zF):Int->Int->Int->List zDe:=zFo p 2 (fun _ _ _=>[])
def zOB(p:zF):Int->Int->Int->List zDe:=zFo p 1 (zOE p)
def zBw(p:zF)(rs rb:Int):List zDe:=zFo p 0 (zOB p) 0 rs rb
theorem zQA:∀k,zFy (fun _=>[]) k = []
 | 0=>rfl
 | k+1=>by rw[zFy,zQA k];rfl
theorem zP9{f:Nat->List zDe}{m:Nat}(h:∀i,(f i).length<=m):∀k,(zFy f k).length<=m*k
 | 0=>Nat.le_refl _
 | k+1=>by
  have:=zP9 h k;have:=h k;rw[zFy,List.length_append];have:m*(k+1)=m*k+m:=Nat.mul_succ _ _;omega
theorem zMQ(p:zF)(num xs xb:Int):zOE p num xs xb=if Nil xs xb then [] else [((2,num),(xs,xb))]:=by
 unfold zOE zFo;rw[zQA]
theorem zQB{f:Nat->List zDe}{g:Nat->List (Int×Int)}(h:∀i,(f i).map (·.2)=g i):∀k,(zFy f k).map (·.2)=(List.range k).flatMap g
 | 0=>rfl
 | k+1=>by rw[zFy,List.map_append,zQB h k,h k,List.range_succ,List.flatMap_append];simp
theorem zLG(F:Int->Int->List (Int×Int))(s:zN):∀k,zCw F s k=(List.range k).flatMap (fun i=>F (zy s i) (qm s i))
 | 0=>rfl
 | k+1=>by rw[zCw,zLG F s k,List.range_succ,List.flatMap_append];simp
theorem zON{p:zF}{L:Int}{G:Int->Int->Int->List zDe}{F:Int->Int->List (Int×Int)}(h:∀num xs xb,(G num xs xb).map (·.2)=F xs xb)(num xs xb:Int):(zFo p L G num xs xb).map (·.2)=zGa p F xs xb:=by
 unfold zFo zGa;by_cases hn:Nil xs xb
 ·rw[if_pos hn,if_pos hn];rfl
 ·rw[if_neg hn,if_neg hn,List.map_cons,zQB (g:=fun i=>F (zy (p.s xs.toNat) i) (qm (p.s xs.toNat) i)) (fun i=>h _ _ _),zLG]
theorem zOQ(p:zF)(rs rb:Int):(zBw p rs rb).map (·.2)=zH p rs rb:=by
 have h2:∀num xs xb,(zOE p num xs xb).map (·.2)=one xs xb:=fun num xs xb=>by
  rw[zMQ];unfold one;by_cases hn:Nil xs xb
  ·rw[if_pos hn,if_pos hn];rfl
  ·rw[if_neg hn,if_neg hn];rfl
 have h1:∀num xs xb,(zOB p num xs xb).map (·.2)=zGK p xs xb:=fun num xs xb=>by
  unfold zOB;rw[zON h2];unfold zGa zGK zPA;rw[zJS]
 unfold zBw;rw[zON h1];unfold zGa zH;rw[zJR]
def yN(n₀ B:Nat)(W W':World):Prop:=Below n₀ W W'/\∀k o,B<=k->W.heap[k]?=some o->o.isCells=true->W'.heap[k]?=some o
theorem yN.refl(n₀ B:Nat)(W:World):yN n₀ B W W:=⟨Below.refl _ _,fun _ _ _ h _=>h⟩
theorem zCt{n₀ B:Nat}{X Y Z:World}(h:yN n₀ B X Y)(k:yN n₀ B Y Z):yN n₀ B X Z:=⟨h.1.trans k.1,fun i o hi ho hc=>k.2 i o hi (h.2 i o hi ho hc) hc⟩
theorem zJa{n₀ B:Nat}{w:World}(hn:n₀<=w.heap.size)(W:World)(l:Nat)(o o':Obj)(hl:w.heap.size<=l)(h:W.heap[l]?=some o)(hc:o.isCells=false)(hw:o.isWalk=false):yN n₀ B W (W.putObj l o'):=by
 refine⟨belowK_b hn W l o o' hl h hc hw,fun k ok hk aA bA=>?_⟩;by_cases e:k=l
 ·subst e;rw[h]at aA;cases aA;rw[hc]at bA;exact absurd bA (by simp)
 ·exact(World.putObj_heap_other e).trans aA
theorem yN.of_below{n₀ B:Nat}{W W':World}(h:Below W.heap.size W W')(hn:n₀<=W.heap.size):yN n₀ B W W':=
 ⟨h.mono hn,fun k o _ hk _=>(h.block k (Array.getElem?_eq_some_iff.1 hk).1).trans hk⟩
theorem zGY{W:World}{b o:Nat}{v:Value}(h:W.cell? ⟨b,o,none⟩=some v):∃ob:Obj,W.heap[b]?=some ob/\ob.isCells=true:=by
 simp only[World.cell?]at h;cases hb:W.heap[b]? with
 | none=>rw[hb]at h;simp at h
 | some ob=>
  refine⟨ob,rfl,?_⟩;rw[hb]at h;cases ob<;>first | rfl | (simp at h)
theorem yN.cell{n₀ B:Nat}{W W':World}(h:yN n₀ B W W'){b o:Nat}{v:Value}(hb:B<=b)(hc:yT W b o v):yT W' b o v:=by
 obtain⟨ob,h1,h2⟩:=zGY hc.1;have e:W'.heap[b]?=W.heap[b]?:=(h.2 b ob hb h1 h2).trans h1.symm;exact⟨(World.cell?_of_block (a:=⟨b,o,none⟩) e).trans hc.1,(World.frozen?_of_block (a:=⟨b,o,none⟩) e).trans hc.2⟩
theorem yN.size{n₀ B:Nat}{W W':World}(h:yN n₀ B W W'):W.heap.size<=W'.heap.size:=h.1.size
theorem zQy{f:Nat->List zDe}{x:zDe}:∀k,x∈zFy f k↔∃i,i<k/\x∈f i
 | 0=>by simp[zFy]
 | k+1=>by
  rw[zFy,List.mem_append,zQy k];constructor
  ·rintro(⟨i,hi,h⟩ | h)
   ·exact⟨i,by omega,h⟩
   ·exact⟨k,by omega,h⟩
  ·rintro⟨i,hi,h⟩;by_cases e:i=k
   ·subst e;exact Or.inr h
   ·exact Or.inl ⟨i,by omega,h⟩
theorem zHW{p:zF}{L:Int}{G:Int->Int->Int->List zDe}{num xs xb:Int}{x:zDe}:x∈zFo p L G num xs xb↔¬Nil xs xb/\(x=((L,num),(xs,xb))\/∃i,i<8/\x∈G (num*8+(i:Nat)) (zy (p.s xs.toNat) i) (qm (p.s xs.toNat) i)):=by
 unfold zFo;by_cases hz:Nil xs xb
 ·rw[if_pos hz];simp[hz]
 ·rw[if_neg hz,List.mem_cons,zQy];exact⟨fun h=>⟨hz,h⟩,fun h=>h.2⟩
theorem zN8{p:zF}{num xs xb:Int}{x:zDe}:x∈zOE p num xs xb↔¬Nil xs xb/\x=((2,num),(xs,xb)):=by
 rw[zMQ];by_cases hz:Nil xs xb
 ·rw[if_pos hz];simp[hz]
 ·rw[if_neg hz];simp[hz]
theorem zVV{p:zF}{rs rb a:Int}{y:Int×Int}(hx:((2,a),y)∈zBw p rs rb):∃n:Nat,n<64/\a=n/\y=(zCx p rs rb n,zCm p rs rb n):=by
 unfold zBw at hx;obtain⟨hz,h | ⟨i,hi,h⟩⟩:=zHW.1 hx
 ·injection h with h1 h2;injection h1 with h1 h3;exact absurd h1 (by decide)
 ·unfold zOB at h;obtain⟨aA,h | ⟨j,hj,h⟩⟩:=zHW.1 h
  ·injection h with h1 h2;injection h1 with h1 h3;exact absurd h1 (by decide)
  ·obtain⟨bA,h⟩:=zN8.1 h;injection h with h1 h2;injection h1 with _ h1;refine⟨i*8+j,by omega,by rw[h1];omega,?_⟩;have e1:(i*8+j) / 8=i:=(by omega);have e2:(i*8+j) % 8=j:=(by omega);unfold zCx zCm zDX zD7;rw[e1,e2];have n1:zDF p rs rb i=zy (p.s rs.toNat) i:=if_neg hz;have n2:zDE p rs rb i=qm (p.s rs.toNat) i:=if_neg hz;rw[n1,n2];rw[show zDF p (zy (p.s rs.toNat) i) (qm (p.s rs.toNat) i) j=_ from if_neg aA,show zDE p (zy (p.s rs.toNat) i) (qm (p.s rs.toNat) i) j=_ from if_neg aA];exact h2
theorem zSo{p:zF}{rs rb:Int}{n:Nat}(hn:n<64)(h:¬Nil (zCx p rs rb n) (zCm p rs rb n)):((2,(n:Int)),(zCx p rs rb n,zCm p rs rb n))∈zBw p rs rb:=by
 have aA:¬Nil (zDX p rs rb n) (zD7 p rs rb n):=fun hz=>h (by unfold zCx zCm zDF zDE;rw[if_pos hz,if_pos hz];exact⟨rfl,rfl⟩)
 have hz:¬Nil rs rb:=fun hz=>aA (by unfold zDX zD7 zDF zDE;rw[if_pos hz,if_pos hz];exact⟨rfl,rfl⟩)
 have n1:zDX p rs rb n=zy (p.s rs.toNat) (n / 8):=if_neg hz;have n2:zD7 p rs rb n=qm (p.s rs.toNat) (n / 8):=if_neg hz;unfold zBw;refine zHW.2 ⟨hz,Or.inr ⟨n / 8,by omega,?_⟩⟩;rw[<-n1,<-n2];unfold zOB;refine zHW.2 ⟨aA,Or.inr ⟨n % 8,by omega,?_⟩⟩;have p1:zCx p rs rb n=zy (p.s (zDX p rs rb n).toNat) (n % 8):=if_neg aA;have p2:zCm p rs rb n=qm (p.s (zDX p rs rb n).toNat) (n % 8):=if_neg aA;rw[<-p1,<-p2];refine zN8.2 ⟨h,?_⟩;rw[show(0*8+((n / 8:Nat):Int))*8+((n % 8:Nat):Int)=(n:Int)by omega]
def zC1(l:List zDe)(n:Nat):Int×Int:=l.foldl (fun acc x=>if x.1=(2,(n:Int))then x.2 else acc) (0,0)
theorem zLX(l:List zDe)(x:zDe)(n:Nat):zC1 (l ++ [x]) n=if x.1=(2,(n:Int))then x.2 else zC1 l n:=by
 unfold zC1;rw[List.foldl_append];rfl
theorem zNi{v:Int×Int}{n:Nat}:∀(l:List zDe) (acc:Int×Int),(∀x∈l,x.1=(2,(n:Int))->x.2=v)->(acc=v\/∃x∈l,x.1=(2,(n:Int)))->l.foldl (fun acc x=>if x.1=(2,(n:Int))then x.2 else acc) acc=v
 | [],acc,_,h=>by
  rcases h with h | ⟨x,hx,_⟩
  ·exact h
  ·exact absurd hx (by simp)
 | y :: l,acc,hall,h=>by
  rw[List.foldl_cons];refine zNi l _ (fun x hx=>hall x (List.mem_cons_of_mem _ hx)) ?_;by_cases e:y.1=(2,(n:Int))
  ·left;rw[if_pos e];exact hall y List.mem_cons_self e
  ·rw[if_neg e];rcases h with h | ⟨x,hx,aA⟩
   ·exact Or.inl h
   ·rcases List.mem_cons.1 hx with rfl | hx
    ·exact absurd aA e
    ·exact Or.inr ⟨x,hx,aA⟩
theorem zNj(p:zF)(rs rb:Int){n:Nat}(hn:n<64):zC1 (zBw p rs rb) n=(zCx p rs rb n,zCm p rs rb n):=by
 unfold zC1;refine zNi _ _ (fun x hx e=>?_) ?_
 ·obtain⟨⟨l,a⟩,y⟩:=x;simp only at e;injection e with e1 e2;subst e1 e2;obtain⟨m,hm,e3,e4⟩:=zVV hx;obtain rfl:n=m:=(by omega);exact e4
 ·by_cases hz:Nil (zCx p rs rb n) (zCm p rs rb n)
  ·left;obtain⟨h1,h2⟩:=hz;rw[h1,h2]
  ·exact Or.inr ⟨_,zSo hn hz,rfl⟩
def zQX(l:List Int):List Value:=l.map (fun x=>.int .i64 x)
theorem zQY(l m:List Int):zQX (l ++ m)=zQX l ++ zQX m:=by simp[zQX]
theorem zWG(l:List Int)(i:Nat)(h:i<l.length):(zQX l)[i]?=some (.int .i64 (l.getD i 0)):=by
 simp[zQX,h,List.getD]
theorem zWK:(Tryz.prog.info? 2).map (fun i=>(i.zero,i.size,i.bytes))=some (some (.int .i64 0),1,8):=by kernel_rfl
def zFP(w:World)(base:Nat)(v:Value)(l:List Int):Prop:=w.ownsRow base 2 1 v l.length (zQX l)/\(l = []->∃a,v = .slice a 0 0)
theorem zFP.zbd{w w1:World}{base:Nat}{v:Value}{l:List Int}(h:zFP w base v l)(hb:Below w.heap.size w w1):zFP w1 base v l:=
 ⟨h.1.kept (zCS hb none) (by cases v.ownBlock<;>simp),h.2⟩
theorem zFP.nil(w:World)(base:Nat):zFP w base (.slice none 0 0) []:=⟨World.ownsRow_nil _ _ _ _,fun _=>⟨none,rfl⟩⟩
theorem zFP.mono{w:World}{base aA:Nat}{v:Value}{l:List Int}(h:zFP w base v l)(hb:aA<=base):zFP w aA v l:=by
 refine⟨⟨h.1.1,h.1.2.imp id ?_⟩,h.2⟩;rintro⟨g,cap,bA,e,h1,h2⟩;exact⟨g,cap,bA,e,Nat.le_trans hb h1,h2⟩
theorem zFP.lt{w:World}{base:Nat}{v:Value}{l:List Int}(h:zFP w base v l){q:Nat}(hq:v.ownBlock=some q):base<=q/\q<w.heap.size:=by
 rcases h.1.2 with⟨rfl,_⟩ | ⟨g,cap,aA,rfl,hb,hg,_⟩
 ·simp[Value.ownBlock]at hq
 ·simp only[Value.ownBlock,Option.some.injEq]at hq;subst hq;exact⟨hb,(Array.getElem?_eq_some_iff.1 hg).1⟩
theorem zFP.next{w:World}{base g cap:Nat}{l:List Int}{x:Int}(h:w.ownsRow base 2 1 (.slice (some ⟨g,0,none⟩) (l.length+1) cap) (l.length+1) (zQX l ++ [.int .i64 x])):zFP w base (.slice (some ⟨g,0,none⟩) (l.length+1) cap) (l ++ [x]):=by
 refine⟨?_,fun e=>by simp at e⟩;rw[List.length_append,zQY];exact h
def zU3(l:List Int)(i:Nat):Int:=l.getD i 0
theorem zFP.own{w:World}{base:Nat}{v:Value}{l:List Int}(h:zFP w base v l)(hm:l.length<=maxLen):∃b,zS4 w b v l.length (zU3 l)/\(0<l.length->base<=b/\b<w.heap.size):=by
 obtain⟨h,hz⟩:=h;by_cases h0:0<l.length
 ·have h':=h;obtain⟨kA,⟨e,e0⟩ | ⟨g,cap,dA,rfl,hb,hg,jA,gA,lA,mA⟩⟩:=h
  ·omega
  ·obtain⟨g',cA,e,eA,iA,bA,aA⟩:=zFf h' h0;simp only[Value.slice.injEq,Option.some.injEq,Addr.mk.injEq,and_true,true_and]at e;obtain⟨rfl,rfl⟩:=e;refine⟨g,⟨hm,_,cap,rfl,eA,fun _=>⟨0,rfl,fun i hi=>?_⟩,fun fA=>⟨h0,rfl,gA,dA,hg,by omega⟩⟩,fun _=>⟨hb,bA⟩⟩;rw[Nat.zero_add];exact aA _ _ (zWG l i hi)
 ·obtain rfl:l = []:=List.length_eq_zero_iff.1 (by omega);obtain⟨a,rfl⟩:=hz rfl;exact⟨0,⟨hm,a,0,rfl,Nat.le_refl _,fun h=>absurd h h0,fun bA=>absurd bA (Nat.lt_irrefl _)⟩,fun h=>absurd h h0⟩
def zCd(p:zF)(a b c d:Int)(n:Nat):Prop:=¬(zCx p a b n=zCx p c d n/\zCm p a b n=zCm p c d n)
instance (p:zF) (a b c d:Int) (n:Nat):Decidable (zCd p a b c d n):=by unfold zCd;infer_instance
def zBk(p:zF)(a b c d:Int):Nat->List Int
 | 0=>[]
 | n+1=>if zCd p a b c d n then zBk p a b c d n ++ [(n:Int)] else zBk p a b c d n
theorem zC8{p:zF}{a b c d:Int}{n:Nat}(h:zCd p a b c d n):zBk p a b c d (n+1)=zBk p a b c d n ++ [(n:Int)]:=if_pos h
theorem zDD{p:zF}{a b c d:Int}{n:Nat}(h:¬zCd p a b c d n):zBk p a b c d (n+1)=zBk p a b c d n:=if_neg h
theorem zDj(p:zF)(a b c d:Int):∀n,(zBk p a b c d n).length<=n
 | 0=>Nat.le_refl _
 | n+1=>by
  have:=zDj p a b c d n;by_cases h:zCd p a b c d n
  ·rw[zC8 h,List.length_append];simp;omega
  ·rw[zDD h];omega
theorem zSn(p:zF)(n:Nat):zCx p 0 0 n=0:=by
 have h1:zDX p 0 0 n=0:=by unfold zDX zDF;exact if_pos ⟨rfl,rfl⟩
 have h2:zD7 p 0 0 n=0:=by unfold zD7 zDE;exact if_pos ⟨rfl,rfl⟩
 unfold zCx zDF;rw[h1,h2];exact if_pos ⟨rfl,rfl⟩
theorem zSm(p:zF)(n:Nat):zCm p 0 0 n=0:=by
 have h1:zDX p 0 0 n=0:=by unfold zDX zDF;exact if_pos ⟨rfl,rfl⟩
 have h2:zD7 p 0 0 n=0:=by unfold zD7 zDE;exact if_pos ⟨rfl,rfl⟩
 unfold zCm zDE;rw[h1,h2];exact if_pos ⟨rfl,rfl⟩
theorem zQ7{p:zF}{a b:Int}{n:Nat}:zCd p a b 0 0 n↔¬Nil (zCx p a b n) (zCm p a b n):=by
 unfold zCd;rw[zSn,zSm];rfl
theorem zGl(p:zF)(a b:Int):∀n,zBk p a b a b n = []
 | 0=>rfl
 | n+1=>by
  rw[zDD (by unfold zCd;exact fun h=>h ⟨rfl,rfl⟩),zGl p a b n]
def zDx(l:List Int)(w:World)(e:Ending)(w':World):Prop:=∃v,e = .returned v/\zFP w' w.heap.size v l/\Below w.heap.size w w'
theorem zVP{W:zB}{vd:Nat->Value}(x:Int):Maps.has (putD (fun i=>zH9 (W.zbg i).id) (fun i=>zCX (vd i) (W.zbg i)) W.pn) (zH9 x)=true↔zAC W x:=by
 rw[zFg (fun i=>zQa _)];constructor
 ·rintro⟨i,hi,e⟩;exact⟨i,hi,zLo e⟩
 ·rintro⟨i,hi,e⟩;exact⟨i,hi,by rw[e]⟩
theorem zNn(v0 v1 v2 v3:Value)(lo hi:Nat)(W:zB)(x:Int)(w:World)(h:ye w lo hi v0 v1 v2 v3 W)(hn:W.pn<=20)(jA:zS3 W.pn W.zbg)(hD:zEK W)(hx:(Lit.int .i64 x).wf=true) :
  Calls Tryz.prog 50 #[zAY v0 v1 v2 v3 W,.int .i64 x] w fun e w'=>zJ (zAC W x) e/\Below w.heap.size w w':=by
 have Hp:=zC h;have HD:=zC hD;have cA:=zC (zKj hx);clear h hD hx;have ha:=zD w (.cells #[v0,v1,.int .i64 W.time,.int .i64 W.next,v2,v3] 30);obtain⟨x0,x2,x4,x6,x8,kA⟩:=(zAb.new w v0 v1 (.int .i64 W.time) (.int .i64 W.next) v2 v3 30).c;go_enter Tryz.func50,Tryz.ntmps50;go_wp2_with fail;clear x0 x2 x4 x6 x8 kA;generalize w.alloc (.cells #[v0,v1,.int .i64 W.time,.int .i64 W.next,v2,v3] 30)=W0 at ha ⊢;refine(zD1 v0 v1 v2 v3 lo hi W W0 (Hp.out.zbd ha) hn jA).mono ?_;rintro e w1 ⟨vd,rfl,hm,hd,fA⟩;obtain⟨a,c,eA,-⟩:=zEr HD.out hd x;have HM:=zC hm;have dA:=zC eA;have gA:=zA ha fA;have aA:=zC (@zVP W vd x);clear hm hd eA ha fA;unfold zCX at dA;generalize zE W x=S at *;have bA:=zD w1 (.cells #[.int .i64 S.id,.string S.name,.string S.set,.int .i64 S.zbi,.int .i64 S.time,.int .i64 S.rs,.int .i64 S.rb,.slice a S.dn c] 50);have iA:=zA gA bA;clear bA;obtain⟨t,ht⟩:∃t,Maps.has (putD (fun i=>zH9 (W.zbg i).id) (fun i=>zCX (vd i) (W.zbg i)) W.pn) (zH9 x)=t:=⟨_,rfl⟩;have Ht:=zC ht;have HB:=zC (show t=true↔zAC W x by rw[<-ht];exact aA.out);clear ht aA;go_wp2_with (first
  | (at_lookup;refine zCp _ rfl _ _ 78 rfl 2 50 zYe zPV (zJs _) (W0.heap.size+1) W.pn _ rfl HM.out _ _ rfl cA.out _ dA.out t Ht.out ?_)
  | go_in)
 go_ret;exact⟨⟨t,rfl,HB.out⟩,iA⟩
open Classical in
noncomputable def zBJ(W:zB)(x:ByteArray):List Int:=if ql W then zBk W.pool (zBc W x).rs (zBc W x).rb 0 0 64 else []
theorem zE6{W:zB}{x:ByteArray}(h:¬ql W):zBJ W x = []:=if_neg h
theorem zDZ{W:zB}{x:ByteArray}(h:ql W):zBJ W x=zBk W.pool (zBc W x).rs (zBc W x).rb 0 0 64:=if_pos h
theorem zM6{W:zB}{x:ByteArray}(h:ql W->zBc W x=zEs):zBJ W x = []:=by
 by_cases hS:ql W
 ·rw[zDZ hS,h hS];exact zGl W.pool 0 0 64
 ·exact zE6 hS
open Classical in
noncomputable def ym(W:zB)(x y:Int):List Int:=if ql W/\zAC W x/\zAC W y then zBk W.pool (zE W x).rs (zE W x).rb (zE W y).rs (zE W y).rb 64 else []
theorem zBe{W:zB}{x y:Int}(h:¬(ql W/\zAC W x/\zAC W y)):ym W x y = []:=if_neg h
theorem zB2{W:zB}{x y:Int}(h:ql W/\zAC W x/\zAC W y):ym W x y=zBk W.pool (zE W x).rs (zE W x).rb (zE W y).rs (zE W y).rb 64:=if_pos h
theorem zI2(W:zB)(x:ByteArray):(zBJ W x).length<=64:=by
 by_cases hS:ql W
 ·rw[zDZ hS];exact zDj _ _ _ _ _ _
 ·rw[zE6 hS];exact Nat.zero_le _
theorem zGo(W:zB)(x y:Int):(ym W x y).length<=64:=by
 by_cases hS:ql W/\zAC W x/\zAC W y
 ·rw[zB2 hS];exact zDj _ _ _ _ _ _
 ·rw[zBe hS];exact Nat.zero_le _
attribute [local go_sem] Oper.semAt_some
theorem zR6{F:Fence}(hd:F.depth=none)(k:Nat):F.room k:=fun d h=>by rw[hd]at h;cases h
theorem zVa{m:Nat}(m':Nat){P:Program}{l:Nat}{args:Array Value}{W:World}{R:Ending->World->Prop}(h:YieldAt Fence.wide m P l args W R):YieldAt Fence.wide m' P l args W R:=by
 obtain⟨fn,tmps,assign,body,hy,hR⟩:=h;exact⟨fn,tmps,assign,body,hy,⟨hR.1,fun c cs _=>hR.2 c cs (zR6 rfl _)⟩⟩
theorem zM{P:Prop}(h:P):Hid P:=h
theorem zND(L num:Int)(i:Nat)(hL:0<=L/\L<=2)(hn:0<=num/\num<=1000)(hi:i<8)(w:World) :
  Calls Tryz.prog 140 #[.agg #[.int .i64 L,.int .i64 num],.int .i64 (i:Int)] w fun e w'=>e = .returned (.agg #[.int .i64 (L+1),.int .i64 (num*8+i)])/\Below w.heap.size w w':=by
 have ha:=zD w (.cells #[.int .i64 L,.int .i64 num] 111);have hb:=zD (w.alloc (.cells #[.int .i64 L,.int .i64 num] 111)) (.cells #[.int .i64 (L+1),.int .i64 (num*8+i)] 111);obtain⟨⟨x0,-⟩,⟨x1,-⟩⟩:=(yG.new w (.int .i64 L) (.int .i64 num) 111);go_enter Tryz.func140,Tryz.ntmps140;go_wp2;refine bodyPost_ret (v:=.agg #[.int .i64 (L+1),.int .i64 (num*8+i)]) (by simp[results,Tryz.results140,go_sem]) rfl ⟨rfl,?_⟩;exact zA ha hb
def zPf(p:zF)(C:Int->Int->Prop)(xs xb:Int):Prop:=Nil xs xb\/(yF p xs xb/\∀i,i<8->C (zy (p.s xs.toNat) i) (qm (p.s xs.toNat) i))
section
variable (n₀ B N l : Nat) (p : zF) (sv : Value) (lo hi : Nat) (J Jx : List zJL -> World -> Prop)
def zVp(pre:List zJL)(out:List zDe)(W:World)(e:Ending)(W':World):Prop:=
 ∃t:Bool,e = .returned (.bool t)/\(t=true->(∃ys:List zJL,ys.map (·.1)=out/\J (pre ++ ys) W')/\yN n₀ B W W')/\(t=false->∃q,Jx q W')
def zRm(L:Int)(G:Int->Int->Int->List zDe)(C:Int->Int->Prop)(M:Int):Prop:=
 ∀(n:Nat) (num xs xb:Int) (pre:List zJL) (W:World),C xs xb->0<=num->num<=M->B<=W.heap.size->J pre W->pre.length+(G num xs xb).length<=N->
  CallsIn Fence.wide n Tryz.prog 114 #[sv,.agg #[.int .i64 L,.int .i64 num],.agg #[.int .i64 xs,.int .i64 xb],.func (.yield l) #[] #[]] W (zVp n₀ B J Jx pre (G num xs xb) W)
end
theorem zVU(n₀ B N l:Nat)(p:zF)(sv:Value)(J Jx:List zJL->World->Prop)(hn:n₀<=B)(hJ:∀s W W',J s W->Below W.heap.size W W'->J s W')(L M:Int)(hs:∃a n c,sv = .slice a n c):zRm n₀ B N l sv J Jx L (fun _ _ _=>[]) Nil M:=by
 intro n num xs xb aA W hC h0 hM hB hj hN;obtain⟨rfl,rfl⟩:=hC;obtain⟨a,k,c,rfl⟩:=hs;have ha:=zD W (.cells #[.int .i64 L,.int .i64 num] 111);have hb:=zD (W.alloc (.cells #[.int .i64 L,.int .i64 num] 111)) (.cells #[.int .i64 0,.int .i64 0] 44);have hA:=zA ha hb;have HJ:=zM (hJ _ _ _ hj hA);have hy:=yG.new (W.alloc (.cells #[.int .i64 L,.int .i64 num] 111)) (.int .i64 0) (.int .i64 0) 44;rw[World.size_alloc]at hy;obtain⟨⟨y0,-⟩,⟨y1,-⟩⟩:=hy;refine callsIn_of_wp Tryz.func114 rfl trivial ?_ rfl;simp only[Tryz.ntmps114,List.size_toArray,List.length_cons,List.length_nil,Nat.reduceAdd,Nat.reduceSub,Array.replicate_succ,Array.replicate_zero,List.push_toArray,List.append_toArray,List.nil_append,List.cons_append]
 gi_wp2
 go_ret;exact⟨true,rfl,fun _=>⟨⟨[],rfl,by rw[List.append_nil];exact HJ.out⟩,yN.of_below hA (by omega)⟩,fun h=>(by cases h)⟩
attribute [local go_sem] Oper.semAt_some
theorem zXq{p:zF}{N k j:Nat}{L num xb:Int}{G:Int->Int->Int->List zDe}{aA ys:List zJL}(hN:aA.length+(((L,num),((k:Int),xb)) :: zFy (fun i=>G (num*8+i) (zy (p.s k) i) (qm (p.s k) i)) 8).length<=N)(bA:ys.map (·.1)=((L,num),((k:Int),xb)) :: zFy (fun i=>G (num*8+i) (zy (p.s k) i) (qm (p.s k) i)) j)(hj:j<8) :
    (aA ++ ys).length+(G (num*8+j) (zy (p.s k) j) (qm (p.s k) j)).length<=N:=by
  have hl:=congrArg List.length bA;rw[List.length_map]at hl;have hc:∀(f:Nat->List zDe) (a b:Nat),a<=b->(zFy f a).length<=(zFy f b).length:=fun f a b h=>by
    induction b with
    | zero=>
      obtain rfl:a=0:=(by omega);exact Nat.le_refl _
    | succ b ih=>
      by_cases e:a=b+1
      · subst e;exact Nat.le_refl _
      · have:=ih (by omega)
        rw[zFy,List.length_append];omega
  have h1:=hc (fun i=>G (num*8+i) (zy (p.s k) i) (qm (p.s k) i)) (j+1) 8 (by omega);rw[zFy,List.length_append]at h1;rw[List.length_append];rw[List.length_cons]at hl hN;omega
theorem zSN(s:zN){j:Nat}(h:j<8):∀w:World,(Instr.index 155 (.agg (yP s)) (.int .i64 (j:Int))).run Tryz.prog w = .ok (.agg #[.int .i64 (zy s j),.int .i64 (qm s j)]) w:=by
  intro w;obtain rfl | rfl | rfl | rfl | rfl | rfl | rfl | rfl:j=0\/j=1\/j=2\/j=3\/j=4\/j=5\/j=6\/j=7:=by omega
  all_goals kernel_rfl
theorem zJo(n₀ B N l:Nat)(p:zF)(sv:Value)(lo hi:Nat)(J Jx:List zJL->World->Prop)(hn:n₀<=B)(hR:zf p)(hJ:∀s W W',J s W->Below W.heap.size W W'->J s W')(hS:∀s W,J s W->yJ W lo hi sv p.n p.s)
    (hY:∀m fA x W,J fA W->fA.length<N->B<=W.heap.size->YieldAt Fence.wide m Tryz.prog l (zRP x) W fun e W'=>(e = .returned (.bool true)/\J (fA ++ [x]) W'/\yN n₀ B W W')\/(e = .returned (.bool false)/\Jx (fA ++ [x]) W'))
    (L M:Int) (hL:0<=L/\L<=2) (hM:0<=M/\M<=100) (jD:L=2->M<64) (G:Int->Int->Int->List zDe) (C:Int->Int->Prop) (lA:zRm n₀ B N l sv J Jx (L+1) G C (M*8+7)):zRm n₀ B N l sv J Jx L (zFo p L G) (zPf p C) M:=by
  intro n num xs xb fA W hC h0 oD hB hj hN;obtain⟨a,c,rfl⟩:∃a c,sv = .slice a p.n c:=(by obtain⟨_,a,c,h,_⟩:=hS _ _ hj;exact⟨a,c,h⟩);have ha:=zD W (.cells #[.int .i64 L,.int .i64 num] 111);have hb:=zD (W.alloc (.cells #[.int .i64 L,.int .i64 num] 111)) (.cells #[.int .i64 xs,.int .i64 xb] 44);have hA:=zA ha hb;have HX:=zM ((yG.new W (.int .i64 L) (.int .i64 num) 111).zbd hb);have hy:=yG.new (W.alloc (.cells #[.int .i64 L,.int .i64 num] 111)) (.int .i64 xs) (.int .i64 xb) 44;rw[World.size_alloc]at hy;have HY:=zM hy;have rA:=hJ _ _ _ hj hA;have mB:((W.alloc (.cells #[.int .i64 L,.int .i64 num] 111)).alloc (.cells #[.int .i64 xs,.int .i64 xb] 44)).heap.size=W.heap.size+1+1:=(by rw[World.size_alloc,World.size_alloc]);have HZ:=zM mB;clear ha hb hy hj;obtain⟨⟨x0,-⟩,⟨x1,-⟩⟩:=HX.out;obtain⟨⟨y0,-⟩,⟨y1,-⟩⟩:=HY.out;by_cases bA:Nil xs xb
  · have HN:=zM bA
    have aD:=zM rA;obtain⟨rfl,rfl⟩:=bA;clear rA mB;refine callsIn_of_wp Tryz.func114 rfl trivial ?_ rfl;simp only[Tryz.ntmps114,List.size_toArray,List.length_cons,List.length_nil,Nat.reduceAdd,Nat.reduceSub,Array.replicate_succ,Array.replicate_zero,List.push_toArray,List.append_toArray,List.nil_append,List.cons_append]
    gi_wp2
    go_ret;exact⟨true,rfl,fun _=>⟨⟨[],by rw[show zFo p L G num 0 0 = [] from if_pos HN.out];rfl,by rw[List.append_nil];exact aD.out⟩,yN.of_below hA (by omega)⟩,fun h=>(by cases h)⟩
  have eA:zFo p L G num xs xb=((L,num),(xs,xb)) :: zFy (fun i=>G (num*8+i) (zy (p.s xs.toNat) i) (qm (p.s xs.toNat) i)) 8:=if_neg bA;have e0:=zES bA;obtain⟨dA,iA⟩:=hC.resolve_left bA;have Hf:=zM (zAT hR dA);rw[eA]at hN ⊢;have rC:(Lit.int .i64 xs).wf=true/\(Lit.int .i64 xb).wf=true/\(L=2->0<=num/\num<64):=by
    have h1:=dA.2.2.1;have h2:=dA.2.1;have h3:=dA.1;have h4:=hR.1;have h5:=Hf.out.1.2;have h6:=dA.2.2.2;exact⟨WalkArith.wf_i64 (by omega),WalkArith.wf_i64 (by omega),fun e=>⟨h0,by have:=jD e;omega⟩⟩
  obtain⟨k,rfl⟩:=Int.eq_ofNat_of_zero_le dA.2.1;rw[Int.toNat_natCast]at Hf iA hN ⊢;have hk:k<p.n:=(by have:=dA.2.2.1;omega);have rD:(k:Int)<(p.n:Int):=(by omega);have eD:=zM hN;have gB:=zM iA;have iB:=zM lA;have nD:=zM hY;rw[List.length_cons]at hN;have kD:=hY (n - 1) fA ⟨((L,num),((k:Int),xb)),rC⟩ _ rA (by omega) (by rw[HZ.out];omega);clear bA hC dA eA rA mB lA iA hN hY;obtain⟨fn,tmps,assign,body,hy,lB⟩:=kD;unfold zRP at hy;dsimp only at hy;have pA:∀k:Nat,(Fence.wide.depth.isSome=true->1<=k):=fun k h=>by simp[Fence.wide]at h
  rcases e0 with e0 | ⟨e0,e1⟩
  all_goals
    refine callsIn_of_wp Tryz.func114 rfl trivial ?_ rfl;simp only[Tryz.ntmps114,List.size_toArray,List.length_cons,List.length_nil,Nat.reduceAdd,Nat.reduceSub,Array.replicate_succ,Array.replicate_zero,List.push_toArray,List.append_toArray,List.nil_append,List.cons_append]
    gi_wp2
    refine⟨pA _,lB.mono ?_⟩;rintro e W2 (⟨rfl,kB,gA⟩ | ⟨rfl,sC⟩);rotate_left
    · have gD:=zM sC
      clear sC lB hy x0 x1 y0 y1
      gi_wp2
      go_ret;exact⟨false,rfl,fun h=>(by cases h),fun _=>⟨_,gD.out⟩⟩
    have nB:=zM kB;have hz:=HZ.out;have rB:=zM (zCt (yN.of_below (n₀:=n₀) (B:=B) hA (by omega)) gA);have cB:=zM (show yG W2 W.heap.size (.int .i64 L) (.int .i64 num)from⟨gA.cell hB HX.out.1,gA.cell hB HX.out.2⟩);have cC:=zM (show yG W2 (W.heap.size+1) (.int .i64 (k:Int)) (.int .i64 xb)from⟨gA.cell (by omega) HY.out.1,gA.cell (by omega) HY.out.2⟩);have eB:=zM (show W.heap.size+1+1<=W2.heap.size by have:=gA.size;omega);obtain⟨b,off,ka,kc,rfl,nC⟩:=(hS _ _ kB).cells hk;have HC:=zM nC.slot;obtain⟨q0,q1,q2,-⟩:=nC;clear kB gA lB hy x0 x1 y0 y1 HX HY hA hz;obtain⟨⟨x0,-⟩,⟨x1,-⟩⟩:=cB.out;obtain⟨⟨y0,-⟩,⟨y1,-⟩⟩:=cC.out
    gi_wp2
    refine⟨trivial,pA _,(callsIn_wide.2 (zGA _ _ _ lo hi (p.s k) _ HC.out (zHP Hf.out))).mono ?_⟩;rintro e W3 ⟨rfl,kA⟩;have oB:=zM (hJ _ _ _ nB.out kA);have sB:=zM (zCt rB.out (yN.of_below kA (by have:=eB.out;omega)));have vB:=zM (cB.out.zbd kA);have dC:=zM (show W.heap.size+1+1<=W3.heap.size by have:=eB.out;have:=kA.size;omega);clear kA q0 q1 q2 x0 x1 y0 y1 nB rB cB cC eB HC
    gi_wp2
    gi_loopw [25] (fun i wr=>∃(j:Nat) (ys:List zJL),j<=8/\i = .int .i64 j/\ys.map (·.1)=((L,num),((k:Int),xb)) :: zFy (fun i=>G (num*8+i) (zy (p.s k) i) (qm (p.s k) i)) j/\J (fA ++ ys) wr/\yN n₀ B W wr/\yG wr W.heap.size (.int .i64 L) (.int .i64 num)/\W.heap.size+1+1<=wr.heap.size) (fun i _=>8 - (intOf i).toNat)
    case atStart=>exact⟨0,[⟨((L,num),((k:Int),xb)),rC⟩],by omega,rfl,rfl,oB.out,sB.out,vB.out,dC.out⟩
    case round=>
      obtain⟨j,ys,pD,rfl,tC,fC,jC,kC,lC⟩:=hrel;have jB:=zM tC;have tA:=zM fC;have vA:=zM jC;have bC:=zM kC;have fB:=zM lC;clear tC fC jC kC lC oB sB vB dC;by_cases sA:j<8
      · have mD:(j:Int)<8:=by omega
        have lD:=zSN (p.s k) sA;have oA:=zD wr (.cells #[.int .i64 (zy (p.s k) j),.int .i64 (qm (p.s k) j)] 44);have nA:=zM (yG.new wr (.int .i64 (zy (p.s k) j)) (.int .i64 (qm (p.s k) j)) 44);have mA:=zM (bC.out.zbd oA);have pB:=zM (hJ _ _ _ tA.out oA);have jA:=zM (show W.heap.size+1+1<=wr.heap.size/\(wr.alloc (.cells #[.int .i64 (zy (p.s k) j),.int .i64 (qm (p.s k) j)] 44)).heap.size=wr.heap.size+1 from⟨fB.out,World.size_alloc _ _⟩);have tB:=zM (zCt vA.out (yN.of_below oA (by have:=fB.out;omega)));have dD:=zM (zXq eD.out jB.out sA);clear oA tA vA bC fB
        gi_wp2
        clear lD;generalize wr.alloc (.cells #[.int .i64 (zy (p.s k) j),.int .i64 (qm (p.s k) j)] 44)=W4 at nA mA pB jA tB ⊢;generalize wr.heap.size=V at nA jA ⊢;obtain⟨⟨x0,-⟩,⟨x1,-⟩⟩:=mA.out;obtain⟨⟨y0,-⟩,⟨y1,-⟩⟩:=nA.out
        gi_region_with (first
          | (refine⟨trivial,pA _,?_⟩;gi_at_call 140;refine(callsIn_wide.2 (zND L num j hL ⟨h0,by omega⟩ sA _)).mono ?_;rintro e W5 ⟨rfl,mC⟩;have aA:=qW mC;obtain⟨⟨z0,-⟩,⟨z1,-⟩⟩:=nA.out.zbd aA;obtain⟨⟨m0,-⟩,⟨m1,-⟩⟩:=mA.out.zbd aA)
          | (refine⟨trivial,pA _,?_⟩;gi_at_call 114;refine(iB.out (n - 1) (num*8+j) _ _ (fA ++ ys) _ (gB.out j sA) (by omega) (by omega) (by have:=aA.size;have:=jA.out;omega) (hJ _ _ _ pB.out aA) dD.out).mono ?_;rintro e W6 ⟨t,rfl,oC,pC⟩))
        all_goals
          have aB:=zM oC;have bB:=zM pC;clear oC pC;cases t
        all_goals first
          | (have HQ:=zM (bB.out rfl)
             clear aB bB
             gi_wp2
             go_ret;exact⟨false,rfl,fun h=>(by cases h),fun _=>HQ.out⟩)
          | (obtain⟨⟨zs,vC,eC⟩,iC⟩:=aB.out rfl
             have iD:=zM vC;have bD:=zM eC;have cA:=zM iC;have aC:=zM (mA.out.zbd aA);have fD:=zM (show W.heap.size+1+1<=W5.heap.size by have:=jA.out;have:=aA.size;omega);have cD:=zM (zCt tB.out (yN.of_below aA (by have:=jA.out;omega)));clear aB bB vC eC iC mC aA x0 x1 y0 y1 z0 z1 m0 m1
             gi_wp2
             go_roundw
             case rel=>exact⟨j+1,ys ++ zs,by omega,by go_num,by rw[List.map_append,jB.out,iD.out];rfl,by rw[<-List.append_assoc];exact bD.out,zCt cD.out cA.out,⟨cA.out.cell hB aC.out.1,cA.out.cell hB aC.out.2⟩,by have:=cA.out.size;have:=fD.out;omega⟩
             case measure=>simp[intOf];omega)
      · obtain rfl:j=8:=by omega
        gi_wp2
        go_ret;exact⟨true,rfl,fun _=>⟨⟨ys,jB.out,tA.out⟩,vA.out⟩,fun h=>(by cases h)⟩
attribute [local go_sem] Oper.semAt_some
theorem zWZ{p:zF}{xs xb:Int}(h:Nil xs xb\/zK2 p xs xb):zPf p Nil xs xb:=by
 rcases h with h | h
 ·exact Or.inl h
 ·refine Or.inr ⟨h.1,fun i hi=>?_⟩;have hk:=h.2.1;exact⟨by unfold zy zU;rw[if_neg (by omega)],by unfold qm zU;rw[if_neg (by omega)]⟩
theorem zVW{p:zF}{rs rb:Int}(h:zW p rs rb):zPf p (zPf p (zPf p Nil)) rs rb:=by
 rcases h with h | ⟨h,ht,_⟩
 ·exact Or.inl h
 ·refine Or.inr ⟨h.1,fun i hi=>?_⟩;rcases ht.1 i hi with h | ⟨h,hl⟩
  ·exact Or.inl h
  ·exact Or.inr ⟨h.1,fun j hj=>zWZ (hl.1 j hj)⟩
theorem zOk{β : Type}{W0:Nat}{J:β->World->Prop}(h:AbidesFrom W0 J):∀s W W',J s W->Below W.heap.size W W'->J s W':=fun s W W' hs hb=>
 h s W W' none hs (yK hb none) (fun r e=>by cases e)
theorem yJ.keep{w w':World}{lo hi n₀:Nat}{v:Value}{n:Nat}{f:Nat->zN}(h:yJ w lo hi v n f)(hb:Below n₀ w w')(hh:hi<=n₀):yJ w' lo hi v n f:=
 h.same (fun k _ h2=>hb.block k (by omega))
theorem zVN(n₀ B n l Bw Bt lo hi:Nat)(p:zF)(sv v1 v4 v5:Value)(t1 t2:Int)(rs rb:Int)(J Jx:List zJL->World->Prop)(hn:n₀<=B)(hh:hi<=n₀)(hR:zf p)(hT:zW p rs rb)
  (hJ:∀s W W',J s W->Below W.heap.size W W'->J s W')
  (hY:∀aA x W,J aA W->aA.length<(zBw p rs rb).length->YieldAt Fence.wide (n - 1) Tryz.prog l (zRP x) W fun e W'=>(e = .returned (.bool true)/\J (aA ++ [x]) W'/\yN n₀ B W W')\/(e = .returned (.bool false)/\Jx (aA ++ [x]) W'))
  (W:World) (hB:B<=W.heap.size) (hw:zAb W Bw sv v1 (.int .i64 t1) (.int .i64 t2) v4 v5) (ht:yG W Bt (.int .i64 rs) (.int .i64 rb)) (hS:yJ W lo hi sv p.n p.s) (h0:J [] W) :
  CallsIn Fence.wide n Tryz.prog 113 #[.func (.yield l) #[] #[],.pointer (some ⟨Bw,0,none⟩),.pointer (some ⟨Bt,0,none⟩)] W fun e W'=>(∃v,e = .returned v)/\((∃ys:List zJL,ys.map (·.1)=zBw p rs rb/\J ys W')\/(∃q,True/\Jx q W')):=by
 have nA:∀k:Nat,(Fence.wide.depth.isSome=true->1<=k):=fun k h=>by simp[Fence.wide]at h
 obtain⟨a,c,rfl⟩:∃a c,sv = .slice a p.n c:=by obtain⟨_,a,c,h,_⟩:=hS;exact⟨a,c,h⟩
 have gA:=zVU n₀ B (zBw p rs rb).length l p (.slice a p.n c) (fun s W=>J s W/\yJ W lo hi (.slice a p.n c) p.n p.s) Jx hn (fun s W W' h hb=>⟨hJ s W W' h.1 hb,h.2.zbd hb⟩) 3 511 ⟨a,p.n,c,rfl⟩;have bA:∀s W W',(J s W/\yJ W lo hi (.slice a p.n c) p.n p.s)->Below W.heap.size W W'->(J s W'/\yJ W' lo hi (.slice a p.n c) p.n p.s):=fun s W W' h hb=>⟨hJ s W W' h.1 hb,h.2.zbd hb⟩
 have cA:∀m aA x W,(J aA W/\yJ W lo hi (.slice a p.n c) p.n p.s)->aA.length<(zBw p rs rb).length->B<=W.heap.size->YieldAt Fence.wide m Tryz.prog l (zRP x) W fun e W'=>(e = .returned (.bool true)/\(J (aA ++ [x]) W'/\yJ W' lo hi (.slice a p.n c) p.n p.s)/\yN n₀ B W W')\/(e = .returned (.bool false)/\Jx (aA ++ [x]) W'):=fun m aA x W hj hl _=>
  zVa m (YieldAt.mono (hY aA x W hj.1 hl) fun e W' h=>h.elim (fun ⟨he,h1,h2⟩=>.inl ⟨he,⟨h1,hj.2.keep h2.1 hh⟩,h2⟩) .inr)
 have fA:=zJo n₀ B (zBw p rs rb).length l p (.slice a p.n c) lo hi _ Jx hn hR bA (fun s W h=>h.2) cA 2 63 (by omega) (by omega) (by omega) _ _ gA;have eA:=zJo n₀ B (zBw p rs rb).length l p (.slice a p.n c) lo hi _ Jx hn hR bA (fun s W h=>h.2) cA 1 7 (by omega) (by omega) (by omega) _ _ fA;have dA:=zJo n₀ B (zBw p rs rb).length l p (.slice a p.n c) lo hi _ Jx hn hR bA (fun s W h=>h.2) cA 0 0 (by omega) (by omega) (by omega) _ _ eA;have iA:=dA (n - 1) 0 rs rb [] W (zVW hT) (by omega) (by omega) hB ⟨h0,hS⟩ (by rw[List.length_nil,Nat.zero_add];exact Nat.le_refl _);clear gA fA eA dA hY cA bA;obtain⟨x0,x1,x2,x3,x4,x5⟩:=hw.c;obtain⟨⟨y0,-⟩,⟨y1,-⟩⟩:=ht;refine callsIn_of_wp Tryz.func113 rfl trivial ?_ rfl;simp only[Tryz.ntmps113,List.size_toArray,List.length_cons,List.length_nil,Nat.reduceAdd,Nat.reduceSub,Array.replicate_succ,Array.replicate_zero,List.push_toArray,List.append_toArray,List.nil_append,List.cons_append]
 gi_wp2
 refine⟨trivial,nA _,iA.mono ?_⟩;rintro e W1 ⟨t,rfl,jA,kA⟩;have lA:=zM jA;have mA:=zM kA;clear jA kA iA
 gi_wp2
 go_end0;refine⟨⟨_,rfl⟩,?_⟩;cases t
 ·obtain⟨q,hq⟩:=mA.out rfl;exact .inr ⟨q,trivial,hq⟩
 ·obtain⟨⟨ys,oA,hj⟩,_⟩:=lA.out rfl;exact .inl ⟨ys,oA,by simpa using hj.1⟩
end Go.Proofs.YtginldeebkfbgaaGreat
