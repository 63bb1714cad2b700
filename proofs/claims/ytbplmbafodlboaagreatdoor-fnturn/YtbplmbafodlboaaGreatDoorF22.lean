/- A part of the proof. -/
import Derived.Test.YtbplmbafodlboaaGreatDoorF21
import Derived.LaidEql
import Derived.Stop.Asserts
import Derived.RowKitTokens
set_option linter.unusedVariables false
set_option maxRecDepth 20000
set_option maxHeartbeats 4000000
namespace Go.Proofs.YtbplmbafodlboaaGreatDoor
open Go.RowKit Go.Maps
theorem zMU(v0 v1 v2 v3:Value)(lo hi:Nat)(W:zC)(A:Nat)(w:World)(h:yQ w lo hi v0 v1 v2 v3 W)(hp:W.pn<=20)(hs:W.sn<=8)(hA:zDQ w lo hi W A)(hD:zFC W)(hP:zEm W) :
  Calls Tryz.prog 119 #[zBb v0 v1 v2 v3 W,zJr A] w fun e w'=>zK (∀i,i<W.sn->zGo W (W.zcC i).name (W.zcC i).zcD (W.zcC i).origin) e/\Below w.heap.size w w':=by
 have Hp:=zB h;have HA:=zB hA;have HD:=zB hD;have HP:=zB hP;obtain⟨m2,a',c',rfl,oA,-⟩:=id h.zcC;unfold maxLen at m2;clear h hA hD hP;have ha:=zD w (.cells #[v0,v1,.int .i64 W.time,.int .i64 W.next,.slice a' W.sn c',v3] 30);have HB:=zB (zAC.new w v0 v1 (.int .i64 W.time) (.int .i64 W.next) (.slice a' W.sn c') v3 30);obtain⟨x0,x2,x4,x6,x8,jA⟩:=HB.out.c;go_enter Tryz.func119,Tryz.ntmps119;go_wp2;clear x0 x2 x4 x6 x8 jA
 go_loopw [10] (fun i wr=>∃k:Nat,k<=W.sn/\i = .int .i64 k/\(∀j,j<k->zGo W (W.zcC j).name (W.zcC j).zcD (W.zcC j).origin)/\zAC wr w.heap.size v0 v1 (.int .i64 W.time) (.int .i64 W.next) (.slice a' W.sn c') v3/\Below w.heap.size w wr) (fun i _=>W.sn - (intOf i).toNat)
 case atStart=>exact⟨0,Nat.zero_le _,rfl,fun j hj=>absurd hj (Nat.not_lt_zero _),HB.out,ha⟩
 case round=>
  clear HB ha;obtain⟨k,hk,rfl,cA,hX,hb⟩:=hrel;have bA:=zB cA;have HX:=zB hX;clear cA hX;by_cases dA:k<W.sn;rotate_left
  ·obtain rfl:k=W.sn:=(by omega);go_wp2;go_ret;exact⟨zK.yes bA.out,hb⟩
  have nA:(k:Int)<(W.sn:Int):=(by omega);obtain⟨b,off,vd,rfl,aA⟩:=(Hp.out.zcC.zb7 hb).cells dA;obtain⟨-,ad,cd,rfl,-,-⟩:=id aA.dead;have iA:=zD wr (.cells #[.string (W.zcC k).name,.int .i64 (W.zcC k).origin,.int .i64 (W.zcC k).zcD,.int .i64 (W.zcC k).rs,.int .i64 (W.zcC k).rb,.slice ad (W.zcC k).dn cd] 72);have HV:=zB (zAC.new wr (.string (W.zcC k).name) (.int .i64 (W.zcC k).origin) (.int .i64 (W.zcC k).zcD) (.int .i64 (W.zcC k).rs) (.int .i64 (W.zcC k).rb) (.slice ad (W.zcC k).dn cd) 72);have fA:=zB (HX.out.zb7 iA);have eA:=zA hb iA;have q0:=aA.c0;have q1:=aA.c1;have q2:=aA.c2;have q3:=aA.c3;have q4:=aA.c4;have q5:=aA.c5;obtain⟨y0,y1,y2,y3,y4,y5⟩:=HV.out.c;obtain⟨x0,x2,x4,x6,x8,jA⟩:=fA.out.c;clear aA iA;go_wp2_with fail;clear q0 q1 q2 q3 q4 q5 y0 y1 y2 y3 y4 y5 x0 x2 x4 x6 x8 jA HX hb HV;refine(zNe v0 v1 _ v3 lo hi W A ad cd (W.zcC k) _ (Hp.out.zb7 eA) hp (HA.out.zb7 eA) HD.out HP.out (HP.out.zcE k dA) (HP.out.zcC k dA)).mono ?_;rintro e w6 ⟨⟨t6,rfl,lA⟩,gA⟩;have mA:=zB (fA.out.zb7 gA);have kA:=zA eA gA;have Ht:=zB lA;clear lA gA eA fA;cases t6
  ·have Hn:=zB (show ¬zGo W (W.zcC k).name (W.zcC k).zcD (W.zcC k).origin from fun hA=>absurd (Ht.out.2 hA) (by simp));clear Ht;go_wp2;go_ret;exact⟨zK.no fun hA=>Hn.out (hA k dA),kA⟩
  ·have Hn:=zB (Ht.out.1 rfl);clear Ht;go_wp2;go_roundw
   case rel=>exact⟨k+1,by omega,by go_num,qz dA bA.out Hn.out,mA.out,kA⟩
   case measure=>simp[intOf];omega
structure zFD (W:zC):Prop where
 time:zHQ W.time 1 900000
 next:zHQ W.next 1 900000
 zcC:zZj W.sn W.zcC
 zb9:zV0 W
structure zFE (W:zC):Prop where
 zcE:zFD W
 right:zz W.pool
 prevs:∀i,i<zt W->zLM W i
 lines:∀i,i<W.sn->zGo W (W.zcC i).name (W.zcC i).zcD (W.zcC i).origin
 trees:zV1 W
 homes:zIs W
theorem zFD.range{W:zC}(h:zFD W):∀i,i<W.pn->1<=(W.zb9 i).id/\(W.zb9 i).id<W.next/\1<=(W.zb9 i).time/\(W.zb9 i).time<W.time
 | 0,hi=>by
  have:=(h.zb9.2.1 0 hi).2.2.2;have h1:Mid 0 (W.zb9 0).id W.next:=this.1;have h2:Mid 0 (W.zb9 0).time W.time:=this.2;have a1:=h1.1;have a2:=h1.2;have a3:=h2.1;have a4:=h2.2;omega
 | i+1,hi=>by
  have ih:=h.range i (by omega);have:=(h.zb9.2.1 (i+1) hi).2.2.2;have h1:Mid (W.zb9 i).id (W.zb9 (i+1)).id W.next:=this.1;have h2:Mid (W.zb9 i).time (W.zb9 (i+1)).time W.time:=this.2;have a1:=h1.1;have a2:=h1.2;have a3:=h2.1;have a4:=h2.2;omega
theorem zFD.rise{W:zC}(h:zFD W):∀i,i<W.pn->∀j,j<i->(W.zb9 j).id<(W.zb9 i).id
 | 0,_,j,hj=>absurd hj (Nat.not_lt_zero _)
 | i+1,hi,j,hj=>by
  have h1:Mid (W.zb9 i).id (W.zb9 (i+1)).id W.next:=(h.zb9.2.1 (i+1) hi).2.2.2.1;have a1:=h1.1;by_cases e:j=i
  ·subst e;exact a1
  ·have:=h.rise i (by omega) j (by omega);omega
theorem zFD.dist{W:zC}(h:zFD W):zFC W:=fun i hi j hj e=>by have:=h.rise i hi j hj;omega
theorem zFD.idsWf{W:zC}(h:zFD W):zVt W.pn W.zb9:=fun i hi=>by
 have h1:=h.range i hi;have h2:=h.next.2;exact WalkArith.wf_i64 (by omega)
theorem zFD.times{W:zC}(h:zFD W):zOz W:=fun x=>by
 by_cases hx:∃k,zBQ W x k
 ·obtain⟨k,hk⟩:=hx;rw[zBr hk];have h1:=h.range k hk.1;have h2:=h.time.2;exact⟨by omega,by omega⟩
 ·have:zI W x=zBE:=(by unfold zI;rw[dif_neg hx]);rw[this];exact⟨Int.le_refl _,by decide⟩
theorem zMu{W:zC}{i:Nat}(hp:zOq W):zLM W i↔((zL W i).zcD=0\/zCO W (zL W i).zcD):=by
 unfold zLM;constructor
 ·intro h;by_cases hx:∃k,zBQ W (zL W i).zcD k
  ·obtain⟨k,hk⟩:=hx;exact Or.inr ⟨k,hk.1,hk.2.1⟩
  ·have e:zI W (zL W i).zcD=zBE:=(by unfold zI;rw[dif_neg hx]);rw[e]at h;exact Or.inl h.symm
 ·rintro(h | h)
  ·rw[h,zIH (fun k hk e=>by have:=hp k hk;omega)];rfl
  ·obtain⟨k,hk⟩:=h.no;rw[zBr hk];exact hk.2.1
theorem zFD.prevOk{W:zC}(h:zFD W)(hp:∀i,i<zt W->zLM W i):zEm W where
 ids:=fun k hk=>by have h1:=h.range k hk;have h2:=h.next.2;omega
 zcD:=fun k hk=>by
  have:=(zMu (fun k hk=>(h.range k hk).1)).1 (hp k (by unfold zt;omega));rw[yW hk]at this;exact this
 less:=fun k hk=>(h.zb9.2.1 k hk).2.2.1
 zcC:=fun k hk=>by
  have:=(zMu (fun k hk=>(h.range k hk).1)).1 (hp (W.pn+k) (by unfold zt;omega));rw[zBF]at this;exact this
 zcE:=fun k hk=>zFa (h.zcC.2 k hk).1
theorem zRa{W:zC}(h:zEm W){name:ByteArray}{start:Int}(hs:start=0\/zCO W start):∀{n:Nat} {e:Int},Steps W name start n e->(e=0\/zCO W e)
 | 0,_,.zero=>hs
 | n+1,_,.next (k:=k) _ hk _=>h.zcD k hk.1
theorem zMx{f:Nat->zAJ}{i:Nat}(hn:zDT (f i).name):zC8 (zG6 f i) (f i).name↔(0<i->zC8 (f (i - 1)).name (f i).name):=by
 cases i with
 | zero=>
  refine⟨fun _ h=>absurd h (by omega),fun _=>?_⟩;have aA:=zFa hn;unfold zC8 zG6;have h0:(⟨#[]⟩:ByteArray).toList = []:=(by rw[Go.ByteArray.toList_eq]);rw[h0];cases hl:(f 0).name.toList with
  | nil=>rw[hl]at aA;exact absurd aA (by decide)
  | cons a l=>simp[Op.bytesLess]
 | succ i=>exact⟨fun h _=>h,fun h=>h (by omega)⟩
theorem zHn(W:zC):zFE W↔zB9 W:=by
 constructor
 ·intro h;have hP:=h.zcE.prevOk h.prevs;have hN:zBk W:=by
   refine⟨h.zcE.time,h.zcE.next,h.zcE.zcC.1,h.zcE.zb9.1,fun i hi=>?_,fun i hi=>?_⟩
   ·have hs:=h.zcE.zcC.2 i hi;refine⟨hs.1,(zMx hs.1).1 hs.2,fun hz=>(hP.zcC i hi).resolve_left hz,fun hz=>?_⟩;obtain⟨n,e,aA,_,_,rfl⟩:=h.lines i hi;exact(zRa hP (hP.zcC i hi) aA).resolve_left hz
   ·have hs:=h.zcE.zb9.2.1 i hi;have hr:=h.zcE.range i hi;refine⟨⟨hr.1,hr.2.1,hr.2.2.1,hr.2.2.2,hs.2.1,hs.1⟩,⟨fun h0=>?_,fun hz=>⟨hs.2.2.1,(hP.zcD i hi).resolve_left hz⟩⟩,fun k hk=>h.zcE.zb9.2.2 i hi k hk⟩;cases i with
    | zero=>omega
    | succ i=>exact⟨hs.2.2.2.1.1,hs.2.2.2.2.1⟩
  have hT:zFF W:=zNF h.right hN (fun i hi=>by have:=h.trees.1 i (by unfold zt;omega);rw[yW hi]at this;exact this) (fun i hi=>by have:=h.trees.1 (W.pn+i) (by unfold zt;omega);rw[zBF]at this;exact this);have hM:∀i,i<zt W->zNq W (zL W i):=fun i hi=>(zMe hT hi).1 (h.trees.2 i hi)
  have hh:=(zOB hT (fun j hj=>by have:=hP.pos j hj;omega) hM).1 h.homes;exact⟨h.right,hN,h.lines,fun i hi=>hT.snap hi,fun i hi=>⟨hT.set hi,(hM (W.pn+i) (by unfold zt;omega)).1⟩,fun i hi=>(hM i (by unfold zt;omega)).1,hh.1,fun i hi=>(hM i hi).2,hh.2⟩
 ·intro h;have hP:=h.zcE.prevOk;have hT:zFF W:=zNF h.right h.zcE h.zb9 (fun i hi=>(h.zcC i hi).1);have hM:∀i,i<zt W->zNq W (zL W i):=fun i hi=>by
   refine⟨?_,h.born i hi⟩;by_cases hp:i<W.pn
   ·exact h.dead i hp
   ·have:=(h.zcC (i - W.pn) (by unfold zt at hi;omega)).2;rw[show W.pn+(i - W.pn)=i by omega]at this;exact this
  have hh:=(zOB hT (fun j hj=>by have:=hP.pos j hj;omega) hM).2 ⟨h.reach,h.zcI⟩;refine⟨⟨h.zcE.1,h.zcE.2.1,⟨h.zcE.2.2.1,fun i hi=>?_⟩,⟨h.zcE.2.2.2.1,fun i hi=>?_,fun i hi k hk=>(h.zcE.2.2.2.2.2 i hi).2.2 k hk⟩⟩,h.right,fun i hi=>?_,h.lines,⟨hT.tree,fun i hi=>(zMe hT hi).2 (hM i hi)⟩,hh⟩
  ·have hs:=h.zcE.2.2.2.2.1 i hi;exact⟨hs.1,(zMx hs.1).2 hs.2.1⟩
  ·have hs:=h.zcE.2.2.2.2.2 i hi;refine⟨hs.1.2.2.2.2.2,hs.1.2.2.2.2.1,hP.less i hi,?_,?_⟩
   ·cases i with
    | zero=>exact⟨by have:=hs.1.1;show(0:Int)<_;omega,hs.1.2.1⟩
    | succ i=>exact⟨(hs.2.1.1 (by omega)).1,hs.1.2.1⟩
   ·cases i with
    | zero=>exact⟨by have:=hs.1.2.2.1;show(0:Int)<_;omega,hs.1.2.2.2.1⟩
    | succ i=>exact⟨(hs.2.1.1 (by omega)).2,hs.1.2.2.2.1⟩
  ·refine(zMu hP.pos).2 ?_;by_cases hp:i<W.pn
   ·rw[yW hp];exact hP.zcD i hp
   ·have e:=zBF W (i - W.pn);rw[show W.pn+(i - W.pn)=i by omega]at e;rw[e];exact hP.zcC _ (by unfold zt at hi;omega)
def zUb(w:World)(b:Nat)(v0 v1 v2 v3 v4 v5 v6 v7:Value):Prop:=zg w b 0 v0/\zg w b 1 v1/\zg w b 2 v2/\zg w b 3 v3/\zg w b 4 v4/\zg w b 5 v5/\zg w b 6 v6/\zg w b 7 v7
theorem zUb.zb7{w w':World}{b:Nat}{v0 v1 v2 v3 v4 v5 v6 v7:Value}(h:zUb w b v0 v1 v2 v3 v4 v5 v6 v7)(t:Below w.heap.size w w'):zUb w' b v0 v1 v2 v3 v4 v5 v6 v7:=⟨h.1.zb7 t,h.2.1.zb7 t,h.2.2.1.zb7 t,h.2.2.2.1.zb7 t,h.2.2.2.2.1.zb7 t,h.2.2.2.2.2.1.zb7 t,h.2.2.2.2.2.2.1.zb7 t,h.2.2.2.2.2.2.2.zb7 t⟩
theorem zUb.new(w:World)(v0 v1 v2 v3 v4 v5 v6 v7:Value)(t:TypeId):zUb (w.alloc (.cells #[v0,v1,v2,v3,v4,v5,v6,v7] t)) w.heap.size v0 v1 v2 v3 v4 v5 v6 v7:=by
 have hb:(w.alloc (.cells #[v0,v1,v2,v3,v4,v5,v6,v7] t)).heap[w.heap.size]?=some (.cells #[v0,v1,v2,v3,v4,v5,v6,v7] t):=heap_alloc_new _ _;exact⟨zG hb rfl,zG hb rfl,zG hb rfl,zG hb rfl,zG hb rfl,zG hb rfl,zG hb rfl,zG hb rfl⟩
set_option linter.unusedSimpArgs false
set_option maxRecDepth 20000
set_option maxHeartbeats 3200000
attribute [local go_sem] qW List.map_cons List.map_nil Tr.cv yo qG qw qv yn ym yk qu zAv zAx zAw zAs zAu zAt zCK zCM zCL qK zn qL zo qE qD qP yx zk zl yB qJ tmpsOf zAf yA qI zAr yu yq yp yr stpP opds opd opdC kap zAE qF zj coreU bin zAY zB6 get put dlO fgt zA6 zAz zA3 zA4 tyT yj yi Op.operands Call.operands evLoad evLen evStore evAlloc zAZ and_true true_and List.append_nil List.nil_append List.cons_append Ret resCv zBx yP cellM zBT zB3 qX StW StR hpT hpO hpV hpA hpL hpC sg nin zCD bdO tmW obW AvE CsE CvE Av.tup Av.ids Cv.ids inD ObE Ob.ids TrE.refl qH qx qy qM qN qO zm zb za yw zBd zCB zAy evCall argL argOf qj outOb obO yM zy cvO tot Tr.own rid partsOf fillC zT zBS frz frz1 evBuildSlice zc trs Cv.tr evSlice Option.toArray_none Option.toArray_some evMakeSlice evAppend dstOf srcOf zAq zA5 zA2 zA0 zA1 ikT qt qs qq qp RetP RetN zBe qR evLd evSt evStoreH zAP evAppendM evAppendT tlOf mvOf rowE shp evTake oOf evC evCallP evCallN evCallO unlast zAK zAp zAO argsF zCA qn pmC varT vT evField evConv dB0 Option.bind_some Option.bind_none Option.map_some Option.map_none Option.isSome_some Option.isSome_none
attribute [local go_sem] yF zY zAk yN qk zAS zAT zAU zAV zAW zAX yX yY yZ yb yd ye yf yg yG qe
attribute [-go_sem] zY
attribute [local go_sem] yV zBi zBj zAA yO
def zGY(W:zC)(x:Int):Nat->Nat
 | 0=>0
 | k+1=>zGY W x k+(if (W.zcC k).zcD=x then 1 else 0)
def zHE(W:zC)(x:Int):Nat->Nat
 | 0=>0
 | k+1=>zHE W x k+(if (W.zb9 k).zcD=x then 1 else 0)
theorem zT9(W:zC)(x:Int):∀k,zGY W x k<=k
 | 0=>Nat.le_refl _
 | k+1=>by have:=zT9 W x k;rw[zGY];split<;>omega
theorem zT7(W:zC)(x:Int):∀k,zHE W x k<=k
 | 0=>Nat.le_refl _
 | k+1=>by have:=zT7 W x k;rw[zHE];split<;>omega
noncomputable def zW2:zW:=qZ (fun q:zC×Int=>[woT q.1,iT q.2]) (fun q=>q.1.sn<=1000000/\q.1.pn<=1000000) (fun q=>[iT ((zGY q.1 q.2 q.1.sn+zHE q.1 q.2 q.1.pn:Nat):Int)])
theorem zOS(W:zC)(x:Int):zW2 [woT W,iT x]=some (W.sn<=1000000/\W.pn<=1000000,[iT ((zGY W x W.sn+zHE W x W.pn:Nat):Int)]):=zO (fun l=>(zC1 (nth l 0),qg (nth l 1 0))) (fun _=>rfl) (W,x)
theorem zQo:zw Tryz.prog 105 zW2:=by
 refine zQ zs GOk.nil zr Tryz.func105 rfl Tryz.ntmps105 Tryz.results105 8 ?_;rintro⟨W,x⟩ ⟨hn,hm⟩;replace hn:W.sn<=1000000:=hn;replace hm:W.pn<=1000000:=hm;refine⟨by simp,?_⟩;simp[go_sem];refine yE (fun k:Nat=>⟨[(2,true,.m false [.p 2 0]),(1,true,.i x),(5,true,.i (zGY W x k)),(6,true,.i k)],[(2,.var ((woL W).map Tr.cv))]⟩) (fun k=>W.sn - k) (fun k=>k<=W.sn) 0 (by simp[go_sem,zGY]) (by simp) ?_;intro k hk;have hc:=zT9 W x k;simp[go_sem,qB (show k<=1000000000 by omega),qB (show zGY W x k<=1000000000 by omega)];refine⟨fun hl=>⟨hl,fun h=>⟨k+1,by omega,by omega,by rw[zGY,if_pos h];rfl,rfl⟩,fun h=>⟨k+1,by omega,by omega,by rw[zGY,if_neg h];rfl,rfl⟩⟩,fun hl=>?_⟩;cases (show k=W.sn by omega);refine yE (fun k:Nat=>⟨[(2,true,.m false [.p 2 0]),(1,true,.i x),(5,true,.i (zGY W x W.sn+zHE W x k)),(7,true,.i k)],[(2,.var ((woL W).map Tr.cv))]⟩) (fun k=>W.pn - k) (fun k=>k<=W.pn) 0 (by simp[go_sem,zHE]) (by simp) ?_;intro k hk;have aA:=zT7 W x k;have hw:=qB (show zGY W x W.sn+zHE W x k<=1000000000 by omega);simp only[Int.natCast_add]at hw;simp[go_sem,qB (show k<=1000000000 by omega),hw];refine⟨fun hl=>⟨hl,fun h=>⟨k+1,by omega,by omega,by rw[zHE,if_pos h];omega,rfl⟩,fun h=>⟨k+1,by omega,by omega,by rw[zHE,if_neg h];rfl,rfl⟩⟩,fun hl=>?_⟩;cases (show k=W.pn by omega);rfl
set_option maxRecDepth 20000
set_option maxHeartbeats 3200000
def zKz(s:Nat->zAJ)(k:Nat):Nat->Nat->Tr:=fun i=>if i<k then setsE .o s i else setsE .b s i
def zMg(s:Nat->zu)(k:Nat):Nat->Nat->Tr:=fun i=>if i<k then snapsE .z s i else snapsE .b s i
theorem zp{n:Nat}{s:Nat->zAJ}:(Tr.s .o 6 n (setsE .o s)).kept:=⟨by simp,fun i j _ hj=>by
 match j,hj with
 | 0,_ | 1,_ | 2,_ | 3,_ | 4,_=>trivial
 | 5,_=>exact zHb.2 trivial⟩
theorem zd{n:Nat}{s:Nat->zu}:(Tr.s .o 8 n (snapsE .z s)).kept:=⟨by simp,fun i j _ hj=>by
 match j,hj with
 | 0,_ | 1,_ | 2,_ | 3,_ | 4,_ | 5,_ | 6,_=>trivial
 | 7,_=>exact⟨by simp,fun p q _ _=>by unfold ptrsT;split<;>trivial⟩⟩
theorem zaz{s:Nat->zAJ}:zKz s 0=setsE .b s:=by funext i;simp[zKz]
theorem zay{s:Nat->zu}:zMg s 0=snapsE .b s:=by funext i;simp[zMg]
theorem zZE{s:Nat->zAJ}{k i:Nat}(h:k<=i):zKz s k i=setsE .b s i:=if_neg (by omega)
theorem zZC{s:Nat->zu}{k i:Nat}(h:k<=i):zMg s k i=snapsE .b s i:=if_neg (by omega)
theorem zXV{fl:Fl}{s:Nat->zAJ}{n:Nat}:TrE (.s fl 6 n (zKz s n)) (.s fl 6 n (setsE .o s)):=zD2 fun i j hi hj=>by rw[zKz,if_pos hi]
theorem zXU{fl:Fl}{s:Nat->zu}{n:Nat}:TrE (.s fl 8 n (zMg s n)) (.s fl 8 n (snapsE .z s)):=zD2 fun i j hi hj=>by rw[zMg,if_pos hi]
theorem zXY{s:Nat->zAJ}:(fun p q=>(setsE .b s p q).nt)=setsE .b s:=by
 funext p q
 match q with
 | 0 | 1 | 2 | 3 | 4=>rfl
 | 5=>rfl
 | q+6=>rfl
theorem zOW{s:Nat->zu}:(fun p q=>(snapsE .b s p q).nt)=snapsE .b s:=by
 funext p q
 match q with
 | 0 | 1 | 2 | 3 | 4 | 5 | 6=>rfl
 | 7=>rfl
 | q+8=>rfl
theorem zZF{fl:Fl}{s:Nat->zAJ}{n k:Nat}{F:Nat->Nat->Tr}(hF:TrE (.s .o 2 (s k).dn F) (.s .o 2 (s k).dn (ptrsT (s k).ds (s k).db))):TrE (.s fl 6 n (yK (zKz s k) k 5 [.s .o 2 (s k).dn F])) (.s fl 6 n (zKz s (k+1))):=by
 refine⟨.inl rfl,rfl,rfl,fun i j hi hj=>?_⟩;by_cases h:i=k
 ·subst h
  match j,hj with
  | 0,_ | 1,_ | 2,_ | 3,_ | 4,_=>exact TrE.of_eq (by simp[yK,zKz,setsE])
  | 5,_=>simpa[yK,zKz,setsE]using hF
 ·refine TrE.of_eq ?_;have:(i<k+1)=(i<k):=propext (by omega);simp[yK,zKz,h,this]
theorem zZD{fl:Fl}{s:Nat->zu}{n k:Nat}{F:Nat->Nat->Tr}(hF:TrE (.s .o 2 (s k).dn F) (.s .z 2 (s k).dn (ptrsT (s k).ds (s k).db))):TrE (.s fl 8 n (yK (zMg s k) k 7 [.s .o 2 (s k).dn F])) (.s fl 8 n (zMg s (k+1))):=by
 refine⟨.inl rfl,rfl,rfl,fun i j hi hj=>?_⟩;by_cases h:i=k
 ·subst h
  match j,hj with
  | 0,_ | 1,_ | 2,_ | 3,_ | 4,_ | 5,_ | 6,_=>exact TrE.of_eq (by simp[yK,zMg,snapsE])
  | 7,_=>simpa[yK,zMg,snapsE]using hF
 ·refine TrE.of_eq ?_;have:(i<k+1)=(i<k):=propext (by omega);simp[yK,zMg,h,this]
attribute [local go_sem] qW List.map_cons List.map_nil Tr.cv yo qG qw qv yn ym yk qu zAv zAx zAw zAs zAu zAt zCK zCM zCL qK zn qL zo qE qD qP yx zk zl yB qJ tmpsOf zAf yA qI zAr yu yq yp yr stpP opds opd opdC kap zAE qF zj coreU bin zAY zB6 get put dlO fgt zA6 zAz zA3 zA4 tyT yj yi Op.operands Call.operands evLoad evLen evStore evAlloc zAZ and_true true_and List.append_nil List.nil_append List.cons_append Ret resCv zBx yP cellM zBT zB3 qX StW StR hpT hpO hpV hpA hpL hpC sg nin zCD bdO tmW obW AvE CsE CvE Av.tup Av.ids Cv.ids inD ObE Ob.ids TrE.refl qH qx qy qM qN qO zm zb za yw zBd zCB zAy evCall argL argOf qj outOb obO yM zy cvO tot Tr.own rid partsOf fillC zT zBS frz frz1 evBuildSlice zc trs Cv.tr evSlice Option.toArray_none Option.toArray_some evMakeSlice evAppend dstOf srcOf zAq zA5 zA2 zA0 zA1 ikT qt qs qq qp RetP RetN zBe qR evLd evSt evStoreH zAP evAppendM evAppendT tlOf mvOf rowE shp evTake oOf evC evCallP evCallN evCallO unlast zAK zAp zAO argsF zCA qn pmC varT vT evField evConv dB0 Option.bind_some Option.bind_none Option.map_some Option.map_none Option.isSome_some Option.isSome_none
attribute [local go_sem] yF zY zAk yN qk zAS zAT zAU zAV zAW zAX yX yY yZ yb yd ye yf yg yG qe
structure qU (W:zC):Prop extends SmallW W where
 kn:∀i,i<W.pool.n->(W.pool.s i).kn<=1000000
noncomputable def zXL:zW:=qZ (fun W:zC=>[woT W]) (fun W=>qU W) (fun W=>[woO W])
theorem yL(W:zC):zXL [woT W]=some (qU W,[woO W]):=zO (fun l=>zC1 (nth l 0)) (fun _=>rfl) W
theorem zBs:zw Tryz.prog 27 zXL:=by
 refine zQ zs (GOk.cons zGP (zE Tryz.func51 rfl rfl) GOk.nil) zr Tryz.func27 rfl Tryz.ntmps27 Tryz.results27 6 ?_;intro W hW;replace hW:qU W:=hW;have hn:=hW.n;have hm:=hW.hn;have hs:=hW.sn;have hp:=hW.pn;refine⟨by simp,?_⟩;simp[go_sem,zG8,hn,hm,zGu,zT4,zGX,zXY,zOW];refine⟨hW.kn,by omega,?_⟩;refine yE (fun k:Nat=>⟨[(4,true,.i k),(3,true,.m false [.p 3 0]),(2,true,.m false [.p 2 0]),(1,true,.m false [.p 1 0])],[(3,.var [.h 61,.h 62,.v (.int .i64 W.time),.v (.int .i64 W.next),.h 63,.s .b 8 W.pn (snapsE .b W.zb9)]),(63,.row 6 W.sn (zKz W.zcC k)),(62,.row 1 W.pool.hn (qh W.pool.h)),(61,.row 3 W.pool.n (zU .z W.pool.s)),(2,.var [.v n0,.v n0,.v i0,.v i0,.v n0,.v n0]),(1,.var ((woL W).map Tr.cv))]⟩) (fun k=>W.sn - k) (fun k=>k<=W.sn) 0 (by rw[zaz];simp[go_sem]) (Nat.zero_le _) ?_;intro k hk;simp[go_sem,qB (show k<=1000000000 by omega),zGu,zGX,zOW,zZE (Nat.le_refl k)];refine⟨fun hl=>?_,fun hl=>?_⟩
 ·have hd:=hW.sd k hl;exact⟨hl,by omega,hl,by kernel_rfl,k+1,by omega,by omega,rfl,zZF (TrE.refl _)⟩
 cases (show k=W.sn by omega);refine⟨by omega,?_⟩;refine yE (fun k:Nat=>⟨[(5,true,.i k),(3,true,.m false [.p 3 0]),(2,true,.m false [.p 2 0]),(1,true,.m false [.p 1 0])],[(3,.var [.h 61,.h 62,.v (.int .i64 W.time),.v (.int .i64 W.next),.h 63,.h 64]),(64,.row 8 W.pn (zMg W.zb9 k)),(63,.row 6 W.sn (zKz W.zcC W.sn)),(62,.row 1 W.pool.hn (qh W.pool.h)),(61,.row 3 W.pool.n (zU .z W.pool.s)),(2,.var [.v n0,.v n0,.v i0,.v i0,.v n0,.v n0]),(1,.var ((woL W).map Tr.cv))]⟩) (fun k=>W.pn - k) (fun k=>k<=W.pn) 0 (by rw[zay];simp[go_sem]) (Nat.zero_le _) ?_;intro k hk;simp[go_sem,qB (show k<=1000000000 by omega),zGu,zGX,zZC (Nat.le_refl k)];refine⟨fun hl=>?_,fun hl=>?_⟩
 ·have hd:=hW.pd k hl;exact⟨hl,by omega,hl,by kernel_rfl,k+1,by omega,by omega,rfl,zZD ⟨.inr ⟨rfl,rfl⟩,rfl,rfl,fun i j _ _=>TrE.refl _⟩⟩
 cases (show k=W.pn by omega);exact⟨zR,zX,⟨zXV,zp⟩,zXU,zd⟩
def yH(p:zF):List (Int×Int)->zF
 | []=>p
 | x :: l=>yH (zG3 p x.1) l
def zLH(p:zF)(l:List (Int×Int)):Prop:=zz p/\(∀x,x∈l->yT p x.1 x.2/\¬Has p.hn p.h x.1)/\(l.map Prod.fst).Nodup
theorem zGM(x:Int×Int):∀(l:List (Int×Int)) (p:zF),yH p (l ++ [x])=zG3 (yH p l) x.1
 | [],_=>rfl
 | y :: l,p=>zGM x l (zG3 p y.1)
theorem zB0:∀(l:List (Int×Int)) (p:zF),(yH p l).n=p.n/\(yH p l).s=p.s/\(yH p l).hn=p.hn+l.length
 | [],_=>⟨rfl,rfl,rfl⟩
 | y :: l,p=>by
  obtain⟨h1,h2,h3⟩:=zB0 l (zG3 p y.1);refine⟨h1,h2,?_⟩;show(yH (zG3 p y.1) l).hn=_;rw[h3,List.length_cons];show p.hn+1+l.length=_;omega
theorem zKK(f g:Nat->Int)(t:Int):∀k,(zAc f g t k).Sublist ((List.range k).map fun i=>(f i,g i))
 | 0=>List.Sublist.refl _
 | k+1=>by
  rw[List.range_succ,List.map_append,List.map_singleton];unfold zAc;split
  ·exact(zKK f g t k).append (List.Sublist.refl _)
  ·exact(zKK f g t k).trans (List.sublist_append_left _ _)
theorem zLH.sub{p:zF}{l l':List (Int×Int)}(h:zLH p l)(hs:l'.Sublist l):zLH p l':=⟨h.1,fun x hx=>h.2.1 x (hs.subset hx),List.Nodup.sublist (hs.map _) h.2.2⟩
def zF2(W:zC)(k:Nat)(name set:ByteArray):zu:={id:=W.next,name:=name,set:=set,zcD:=(W.zcC k).zcD,time:=W.time,rs:=(W.zcC k).rs,rb:=(W.zcC k).rb,dn:=(W.zcC k).dn,ds:=(W.zcC k).ds,db:=(W.zcC k).db}
def zRV(W:zC)(k:Nat)(name set:ByteArray):zC:={W with time:=W.time+1,next:=W.next+1,zcC:=fun j=>if j=k then {W.zcC k with zcD:=W.next,dn:=0}else W.zcC j,pn:=W.pn+1,zb9:=fun j=>if j=W.pn then zF2 W k name set else W.zb9 j}
def ins{α : Type}(f:Nat->α)(k:Nat)(s:α):Nat->α:=fun j=>if j<k then f j else if j=k then s else f (j - 1)
theorem zWb{α : Type}{f:Nat->α}{k j:Nat}{s:α}(h:j<k):ins f k s j=f j:=if_pos h
theorem zWZ{α : Type}{f:Nat->α}{k:Nat}{s:α}:ins f k s k=s:=by
 unfold ins;rw[if_neg (Nat.lt_irrefl _),if_pos rfl]
theorem zWa{α : Type}{f:Nat->α}{k j:Nat}{s:α}(h:k<j):ins f k s j=f (j - 1):=by
 unfold ins;rw[if_neg (by omega),if_neg (by omega)]
def zGD(W:zC)(k:Nat)(s:zAJ):zC:={W with sn:=W.sn+1,zcC:=ins W.zcC k s}
def zDi(w:World)(b:Nat)(v0 v1 v2 v3 v4 v5 v6 v7 v8 v9 v10 v11 v12:Value):Prop:=zg w b 0 v0/\zg w b 1 v1/\zg w b 2 v2/\zg w b 3 v3/\zg w b 4 v4/\zg w b 5 v5/\zg w b 6 v6/\zg w b 7 v7/\zg w b 8 v8/\zg w b 9 v9/\zg w b 10 v10/\zg w b 11 v11/\zg w b 12 v12
theorem zDi.c{w:World}{b:Nat}{v0 v1 v2 v3 v4 v5 v6 v7 v8 v9 aA bA cA:Value}(h:zDi w b v0 v1 v2 v3 v4 v5 v6 v7 v8 v9 aA bA cA):w.cell? ⟨b,0,none⟩=some v0/\w.cell? ⟨b,1,none⟩=some v1/\w.cell? ⟨b,2,none⟩=some v2/\w.cell? ⟨b,3,none⟩=some v3/\w.cell? ⟨b,4,none⟩=some v4/\w.cell? ⟨b,5,none⟩=some v5/\w.cell? ⟨b,6,none⟩=some v6/\w.cell? ⟨b,7,none⟩=some v7/\w.cell? ⟨b,8,none⟩=some v8/\w.cell? ⟨b,9,none⟩=some v9/\w.cell? ⟨b,10,none⟩=some aA/\w.cell? ⟨b,11,none⟩=some bA/\w.cell? ⟨b,12,none⟩=some cA:=
 ⟨h.1.1,h.2.1.1,h.2.2.1.1,h.2.2.2.1.1,h.2.2.2.2.1.1,h.2.2.2.2.2.1.1,h.2.2.2.2.2.2.1.1,h.2.2.2.2.2.2.2.1.1,h.2.2.2.2.2.2.2.2.1.1,h.2.2.2.2.2.2.2.2.2.1.1,h.2.2.2.2.2.2.2.2.2.2.1.1,h.2.2.2.2.2.2.2.2.2.2.2.1.1,h.2.2.2.2.2.2.2.2.2.2.2.2.1⟩
theorem zDi.zb7{w w':World}{b:Nat}{v0 v1 v2 v3 v4 v5 v6 v7 v8 v9 aA bA cA:Value}(h:zDi w b v0 v1 v2 v3 v4 v5 v6 v7 v8 v9 aA bA cA)(t:Below w.heap.size w w'):zDi w' b v0 v1 v2 v3 v4 v5 v6 v7 v8 v9 aA bA cA:=⟨h.1.zb7 t,h.2.1.zb7 t,h.2.2.1.zb7 t,h.2.2.2.1.zb7 t,h.2.2.2.2.1.zb7 t,h.2.2.2.2.2.1.zb7 t,h.2.2.2.2.2.2.1.zb7 t,h.2.2.2.2.2.2.2.1.zb7 t,h.2.2.2.2.2.2.2.2.1.zb7 t,h.2.2.2.2.2.2.2.2.2.1.zb7 t,h.2.2.2.2.2.2.2.2.2.2.1.zb7 t,h.2.2.2.2.2.2.2.2.2.2.2.1.zb7 t,h.2.2.2.2.2.2.2.2.2.2.2.2.zb7 t⟩
theorem zDi.new(w:World)(v0 v1 v2 v3 v4 v5 v6 v7 v8 v9 aA bA cA:Value)(t:TypeId):zDi (w.alloc (.cells #[v0,v1,v2,v3,v4,v5,v6,v7,v8,v9,aA,bA,cA] t)) w.heap.size v0 v1 v2 v3 v4 v5 v6 v7 v8 v9 aA bA cA:=by
 have hb:(w.alloc (.cells #[v0,v1,v2,v3,v4,v5,v6,v7,v8,v9,aA,bA,cA] t)).heap[w.heap.size]?=some (.cells #[v0,v1,v2,v3,v4,v5,v6,v7,v8,v9,aA,bA,cA] t):=heap_alloc_new _ _;exact⟨zG hb rfl,zG hb rfl,zG hb rfl,zG hb rfl,zG hb rfl,zG hb rfl,zG hb rfl,zG hb rfl,zG hb rfl,zG hb rfl,zG hb rfl,zG hb rfl,zG hb rfl⟩
abbrev put13(w:World)(b:Nat)(u0 u1 u2 u3 u4 u5 u6 u7 u8 u9 u10 u11 u12:Value):World:=((((((((((((w.setCell ⟨b,0,none⟩ u0).setCell ⟨b,1,none⟩ u1).setCell ⟨b,2,none⟩ u2).setCell ⟨b,3,none⟩ u3).setCell ⟨b,4,none⟩ u4).setCell ⟨b,5,none⟩ u5).setCell ⟨b,6,none⟩ u6).setCell ⟨b,7,none⟩ u7).setCell ⟨b,8,none⟩ u8).setCell ⟨b,9,none⟩ u9).setCell ⟨b,10,none⟩ u10).setCell ⟨b,11,none⟩ u11).setCell ⟨b,12,none⟩ u12
theorem zDi.put{w:World}{b:Nat}{v0 v1 v2 v3 v4 v5 v6 v7 v8 v9 dA eA fA:Value}(h:zDi w b v0 v1 v2 v3 v4 v5 v6 v7 v8 v9 dA eA fA)(u0 u1 u2 u3 u4 u5 u6 u7 u8 u9 aA bA cA:Value):zDi (put13 w b u0 u1 u2 u3 u4 u5 u6 u7 u8 u9 aA bA cA) b u0 u1 u2 u3 u4 u5 u6 u7 u8 u9 aA bA cA:=
 have H (i:Nat) (u v:Value) (e:[u0,u1,u2,u3,u4,u5,u6,u7,u8,u9,aA,bA,cA][i]?=some u) (c:zg w b i v):zg (put13 w b u0 u1 u2 u3 u4 u5 u6 u7 u8 u9 aA bA cA) b i u:=zLB [u0,u1,u2,u3,u4,u5,u6,u7,u8,u9,aA,bA,cA] w 0 i i e (Nat.zero_add i) c
 ⟨H 0 _ _ rfl h.1,H 1 _ _ rfl h.2.1,H 2 _ _ rfl h.2.2.1,H 3 _ _ rfl h.2.2.2.1,H 4 _ _ rfl h.2.2.2.2.1,H 5 _ _ rfl h.2.2.2.2.2.1,H 6 _ _ rfl h.2.2.2.2.2.2.1,H 7 _ _ rfl h.2.2.2.2.2.2.2.1,H 8 _ _ rfl h.2.2.2.2.2.2.2.2.1,H 9 _ _ rfl h.2.2.2.2.2.2.2.2.2.1,H 10 _ _ rfl h.2.2.2.2.2.2.2.2.2.2.1,H 11 _ _ rfl h.2.2.2.2.2.2.2.2.2.2.2.1,H 12 _ _ rfl h.2.2.2.2.2.2.2.2.2.2.2.2⟩
theorem zJ.put13(w:World)(b:Nat)(u0 u1 u2 u3 u4 u5 u6 u7 u8 u9 aA bA cA:Value):zJ (fun k=>k=b) w (put13 w b u0 u1 u2 u3 u4 u5 u6 u7 u8 u9 aA bA cA):=((((((((((((zJ.put w b 0 u0).trans (zJ.put _ b 1 u1)).trans (zJ.put _ b 2 u2)).trans (zJ.put _ b 3 u3)).trans (zJ.put _ b 4 u4)).trans (zJ.put _ b 5 u5)).trans (zJ.put _ b 6 u6)).trans (zJ.put _ b 7 u7)).trans (zJ.put _ b 8 u8)).trans (zJ.put _ b 9 u9)).trans (zJ.put _ b 10 aA)).trans (zJ.put _ b 11 bA)).trans (zJ.put _ b 12 cA)
def zCN(w:World)(b:Nat)(v0 v1 v2 v3 v4 v5 v6 v7 v8 v9 v10 v11:Value):Prop:=zg w b 0 v0/\zg w b 1 v1/\zg w b 2 v2/\zg w b 3 v3/\zg w b 4 v4/\zg w b 5 v5/\zg w b 6 v6/\zg w b 7 v7/\zg w b 8 v8/\zg w b 9 v9/\zg w b 10 v10/\zg w b 11 v11
theorem zCN.c{w:World}{b:Nat}{v0 v1 v2 v3 v4 v5 v6 v7 v8 v9 aA bA:Value}(h:zCN w b v0 v1 v2 v3 v4 v5 v6 v7 v8 v9 aA bA):w.cell? ⟨b,0,none⟩=some v0/\w.cell? ⟨b,1,none⟩=some v1/\w.cell? ⟨b,2,none⟩=some v2/\w.cell? ⟨b,3,none⟩=some v3/\w.cell? ⟨b,4,none⟩=some v4/\w.cell? ⟨b,5,none⟩=some v5/\w.cell? ⟨b,6,none⟩=some v6/\w.cell? ⟨b,7,none⟩=some v7/\w.cell? ⟨b,8,none⟩=some v8/\w.cell? ⟨b,9,none⟩=some v9/\w.cell? ⟨b,10,none⟩=some aA/\w.cell? ⟨b,11,none⟩=some bA:=
 ⟨h.1.1,h.2.1.1,h.2.2.1.1,h.2.2.2.1.1,h.2.2.2.2.1.1,h.2.2.2.2.2.1.1,h.2.2.2.2.2.2.1.1,h.2.2.2.2.2.2.2.1.1,h.2.2.2.2.2.2.2.2.1.1,h.2.2.2.2.2.2.2.2.2.1.1,h.2.2.2.2.2.2.2.2.2.2.1.1,h.2.2.2.2.2.2.2.2.2.2.2.1⟩
theorem zCN.zb7{w w':World}{b:Nat}{v0 v1 v2 v3 v4 v5 v6 v7 v8 v9 aA bA:Value}(h:zCN w b v0 v1 v2 v3 v4 v5 v6 v7 v8 v9 aA bA)(t:Below w.heap.size w w'):zCN w' b v0 v1 v2 v3 v4 v5 v6 v7 v8 v9 aA bA:=⟨h.1.zb7 t,h.2.1.zb7 t,h.2.2.1.zb7 t,h.2.2.2.1.zb7 t,h.2.2.2.2.1.zb7 t,h.2.2.2.2.2.1.zb7 t,h.2.2.2.2.2.2.1.zb7 t,h.2.2.2.2.2.2.2.1.zb7 t,h.2.2.2.2.2.2.2.2.1.zb7 t,h.2.2.2.2.2.2.2.2.2.1.zb7 t,h.2.2.2.2.2.2.2.2.2.2.1.zb7 t,h.2.2.2.2.2.2.2.2.2.2.2.zb7 t⟩
theorem zCN.zb8{S:Nat->Prop}{w w':World}{b:Nat}{v0 v1 v2 v3 v4 v5 v6 v7 v8 v9 aA bA:Value}(h:zCN w b v0 v1 v2 v3 v4 v5 v6 v7 v8 v9 aA bA)(t:zJ S w w')(hs:¬S b):zCN w' b v0 v1 v2 v3 v4 v5 v6 v7 v8 v9 aA bA:=⟨h.1.zb8 t hs,h.2.1.zb8 t hs,h.2.2.1.zb8 t hs,h.2.2.2.1.zb8 t hs,h.2.2.2.2.1.zb8 t hs,h.2.2.2.2.2.1.zb8 t hs,h.2.2.2.2.2.2.1.zb8 t hs,h.2.2.2.2.2.2.2.1.zb8 t hs,h.2.2.2.2.2.2.2.2.1.zb8 t hs,h.2.2.2.2.2.2.2.2.2.1.zb8 t hs,h.2.2.2.2.2.2.2.2.2.2.1.zb8 t hs,h.2.2.2.2.2.2.2.2.2.2.2.zb8 t hs⟩
theorem zCN.new(w:World)(v0 v1 v2 v3 v4 v5 v6 v7 v8 v9 aA bA:Value)(t:TypeId):zCN (w.alloc (.cells #[v0,v1,v2,v3,v4,v5,v6,v7,v8,v9,aA,bA] t)) w.heap.size v0 v1 v2 v3 v4 v5 v6 v7 v8 v9 aA bA:=by
 have hb:(w.alloc (.cells #[v0,v1,v2,v3,v4,v5,v6,v7,v8,v9,aA,bA] t)).heap[w.heap.size]?=some (.cells #[v0,v1,v2,v3,v4,v5,v6,v7,v8,v9,aA,bA] t):=heap_alloc_new _ _;exact⟨zG hb rfl,zG hb rfl,zG hb rfl,zG hb rfl,zG hb rfl,zG hb rfl,zG hb rfl,zG hb rfl,zG hb rfl,zG hb rfl,zG hb rfl,zG hb rfl⟩
abbrev put12(w:World)(b:Nat)(u0 u1 u2 u3 u4 u5 u6 u7 u8 u9 u10 u11:Value):World:=(((((((((((w.setCell ⟨b,0,none⟩ u0).setCell ⟨b,1,none⟩ u1).setCell ⟨b,2,none⟩ u2).setCell ⟨b,3,none⟩ u3).setCell ⟨b,4,none⟩ u4).setCell ⟨b,5,none⟩ u5).setCell ⟨b,6,none⟩ u6).setCell ⟨b,7,none⟩ u7).setCell ⟨b,8,none⟩ u8).setCell ⟨b,9,none⟩ u9).setCell ⟨b,10,none⟩ u10).setCell ⟨b,11,none⟩ u11
theorem zCN.put{w:World}{b:Nat}{v0 v1 v2 v3 v4 v5 v6 v7 v8 v9 cA dA:Value}(h:zCN w b v0 v1 v2 v3 v4 v5 v6 v7 v8 v9 cA dA)(u0 u1 u2 u3 u4 u5 u6 u7 u8 u9 aA bA:Value):zCN (put12 w b u0 u1 u2 u3 u4 u5 u6 u7 u8 u9 aA bA) b u0 u1 u2 u3 u4 u5 u6 u7 u8 u9 aA bA:=
 have H (i:Nat) (u v:Value) (e:[u0,u1,u2,u3,u4,u5,u6,u7,u8,u9,aA,bA][i]?=some u) (c:zg w b i v):zg (put12 w b u0 u1 u2 u3 u4 u5 u6 u7 u8 u9 aA bA) b i u:=zLB [u0,u1,u2,u3,u4,u5,u6,u7,u8,u9,aA,bA] w 0 i i e (Nat.zero_add i) c
 ⟨H 0 _ _ rfl h.1,H 1 _ _ rfl h.2.1,H 2 _ _ rfl h.2.2.1,H 3 _ _ rfl h.2.2.2.1,H 4 _ _ rfl h.2.2.2.2.1,H 5 _ _ rfl h.2.2.2.2.2.1,H 6 _ _ rfl h.2.2.2.2.2.2.1,H 7 _ _ rfl h.2.2.2.2.2.2.2.1,H 8 _ _ rfl h.2.2.2.2.2.2.2.2.1,H 9 _ _ rfl h.2.2.2.2.2.2.2.2.2.1,H 10 _ _ rfl h.2.2.2.2.2.2.2.2.2.2.1,H 11 _ _ rfl h.2.2.2.2.2.2.2.2.2.2.2⟩
theorem zJ.put12(w:World)(b:Nat)(u0 u1 u2 u3 u4 u5 u6 u7 u8 u9 aA bA:Value):zJ (fun k=>k=b) w (put12 w b u0 u1 u2 u3 u4 u5 u6 u7 u8 u9 aA bA):=
 (((((((((((zJ.put w b 0 u0).trans (zJ.put _ b 1 u1)).trans (zJ.put _ b 2 u2)).trans (zJ.put _ b 3 u3)).trans (zJ.put _ b 4 u4)).trans (zJ.put _ b 5 u5)).trans (zJ.put _ b 6 u6)).trans (zJ.put _ b 7 u7)).trans (zJ.put _ b 8 u8)).trans (zJ.put _ b 9 u9)).trans (zJ.put _ b 10 aA)).trans (zJ.put _ b 11 bA)
structure zGq where
 store:qC
 code:Int
abbrev zbv(v0 v1 v2 v3 u0 u1 u2 u3:Value)(o:zGq):Value:=.agg #[v0,v1,.int .i64 o.store.zcB.time,.int .i64 o.store.zcB.next,v2,v3,u0,u1,.int .i64 o.store.zcA.time,.int .i64 o.store.zcA.next,u2,u3,.int .i64 o.code]
def zCx(o:zGq)(w:World)(e:Ending)(w':World):Prop:=∃v0 v1 v2 v3 u0 u1 u2 u3,e = .returned (zbv v0 v1 v2 v3 u0 u1 u2 u3 o)/\zDW w' w.heap.size w'.heap.size v0 v1 v2 v3 u0 u1 u2 u3 o.store/\Below w.heap.size w w'
def noW:zC:={pool:=zCC 0,time:=0,next:=0,sn:=0,zcC:=fun _=>⟨⟨#[]⟩,0,0,0,0,0,fun _=>0,fun _=>0⟩,pn:=0,zb9:=fun _=>⟨0,⟨#[]⟩,⟨#[]⟩,0,0,0,0,0,fun _=>0,fun _=>0⟩}
def zAI(c:Int):zGq:=⟨⟨noW,noW⟩,c⟩
theorem zT2{w:World}{lo hi:Nat}:zAm w lo hi (.slice none 0 0) (.slice none 0 0) (.slice none 0 0) (.slice none 0 0) noW:=by
 refine⟨fun k=>lo<=k/\k<hi,fun _=>False,fun _=>False,⟨(zXX (lo:=lo) (hi:=hi)).isIn (fun k h1 h2=>⟨h1,h2⟩),?_,?_,fun _ _ h=>h,fun _ _ h=>h,fun _ h=>h.elim⟩,fun k hk=>?_⟩
 ·exact⟨0,fun _=>0,fun _=>.slice none 0 0,⟨Nat.zero_le _,none,0,rfl,Nat.le_refl _,fun h=>absurd h (Nat.lt_irrefl _)⟩,fun i j hi=>absurd hi (Nat.not_lt_zero _),fun k hk=>by
   rcases hk with⟨h,_⟩ | ⟨i,h,_⟩
   ·exact absurd h (Nat.lt_irrefl _)
   ·exact absurd h (Nat.not_lt_zero _)⟩
 ·exact⟨0,fun _=>0,fun _=>.slice none 0 0,⟨Nat.zero_le _,none,0,rfl,Nat.le_refl _,fun h=>absurd h (Nat.lt_irrefl _)⟩,fun i j hi=>absurd hi (Nat.not_lt_zero _),fun k hk=>by
   rcases hk with⟨h,_⟩ | ⟨i,h,_⟩
   ·exact absurd h (Nat.lt_irrefl _)
   ·exact absurd h (Nat.not_lt_zero _)⟩
 ·rcases hk with h | h | h
  ·exact h
  ·exact h.elim
  ·exact h.elim
theorem zXW{w:World}{lo hi:Nat}(h:lo<=hi):zDW w lo hi (.slice none 0 0) (.slice none 0 0) (.slice none 0 0) (.slice none 0 0) (.slice none 0 0) (.slice none 0 0) (.slice none 0 0) (.slice none 0 0) ⟨noW,noW⟩:=
 ⟨lo,lo,lo,lo,zT2,zT2,Nat.le_refl _,h,Nat.le_refl _,h,Or.inl (Nat.le_refl _)⟩
theorem zS5{w:World}{lo mid hi:Nat}{v0 v1 v2 v3 u0 u1 u2 u3:Value}{S:qC}(h1:zAm w lo mid v0 v1 v2 v3 S.zcB)(h2:zAm w mid hi u0 u1 u2 u3 S.zcA)(hl:lo<=mid)(hh:mid<=hi):zDW w lo hi v0 v1 v2 v3 u0 u1 u2 u3 S:=
 ⟨lo,mid,mid,hi,h1,h2,Nat.le_refl _,hh,hl,Nat.le_refl _,Or.inl (Nat.le_refl _)⟩
open Go.Extern.Stop Go.Stop Go.Extern
theorem zTV{P:Prop}(h:P):Hid P:=h
abbrev zAn(a:Addr):Value:=.iface 222 (.pointer (some a))
def zBV:Nat->Nat
 | 0=>0
 | 1=>1
 | 2=>2
 | 3=>3
 | 4=>4
 | 5=>5
 | _=>6
def zKt:Nat->Int
 | 0=>1
 | 1=>2
 | 2=>4
 | 3=>5
 | 4=>6
 | 5=>7
 | _=>8
structure zGn (w:World) (p:Nat->Addr):Prop where
 cell:∀i,i<7->w.cell? ⟨zBV i,0,none⟩=some (zAn (p i))
 row:∀i,i<7->∃cs t,w.heap[(p i).block]?=some (.cells cs t (0,0))
 ne:∀i j,i<7->j<7->i≠j->p i≠p j
theorem zGn.zb7{w w':World}{p:Nat->Addr}(h:zGn w p)(t:Below w.heap.size w w'):zGn w' p:=
 ⟨fun i hi=>(t.cell (zH (h.cell i hi))).trans (h.cell i hi),fun i hi=>by
  obtain⟨cs,ty,hc⟩:=h.row i hi;exact⟨cs,ty,(t.block _ (Array.getElem?_eq_some_iff.1 hc).1).trans hc⟩,h.ne⟩
theorem zQi(v:Value)(w:World):(Extern.ReflectliteType.typeOf #[.iface 222 v]).run Tryz.prog w = .ok (.iface 171 (.agg #[.pointer (some ⟨7,222,none⟩)])) w:=by kernel_rfl
def zae:Array Value->Sem Value:=Extern.ReflectliteType.method fun t=>do Extern.Rtype.noPackHeld "Comparable" t;pure (.bool (<-typeInfo t).comparable)
theorem zJH(w:World):(zae #[.agg #[.pointer (some ⟨7,222,none⟩)]]).run Tryz.prog w = .ok (.bool true) w:=by kernel_rfl
theorem zEx(v:Value)(w:World):(Go.method 360 171 v "Comparable").run Tryz.prog w = .ok (211,v) w:=by kernel_rfl
theorem zWc:(Tryz.prog.info? 222).map (·.comparable)=some true:=by kernel_rfl
theorem zWd:(Tryz.prog.info? 248).map (·.size)=some 1:=by kernel_rfl
theorem zbl(v:Value)(xT:TypeId)(w:World):(Instr.typeAssert (.iface 222 v) xT 173 true).run Tryz.prog w = .ok (.tuple #[.nilIface,.bool false]) w:=run_typeAssert_lacksB Tryz.underlying173 (by kernel_rfl) (by kernel_rfl) v xT w
theorem zVL(v:Value)(xT:TypeId)(w:World):(Instr.typeAssert (.iface 222 v) xT 176 true).run Tryz.prog w = .ok (.tuple #[.nilIface,.bool false]) w:=run_typeAssert_lacksB Tryz.underlying176 (by kernel_rfl) (by kernel_rfl) v xT w
theorem zSo(v:Value)(xT:TypeId)(w:World):(Instr.typeAssert (.iface 222 v) xT 178 true).run Tryz.prog w = .ok (.tuple #[.nilIface,.bool false]) w:=run_typeAssert_lacksB Tryz.underlying178 (by kernel_rfl) (by kernel_rfl) v xT w
theorem zYw(a:Addr)(w:World):Calls Tryz.prog 89 #[zAn a,zAn a] w fun e w'=>e = .returned (.bool true)/\w'=w:=by
 obtain⟨i,hi,aA⟩:=Option.map_eq_some_iff.1 zWc;obtain⟨j,hj,dA⟩:=Option.map_eq_some_iff.1 zWd;have h8:=@run_callFunc_extern Tryz.prog 110 _ Extern.ReflectliteType.typeOf Tryz.func110 (by kernel_rfl) (by kernel_rfl) (by kernel_rfl) (by kernel_rfl);have bA:=@run_callFunc_extern Tryz.prog 211 _ zae Tryz.func211 (by kernel_rfl) (by kernel_rfl) (by kernel_rfl) (by kernel_rfl);have tT:=zQi;have cT:=zJH;have mR:=zEx;have cA:=run_eql_iface_ptr_same (P:=Tryz.prog) w a Tryz.underlying98 Tryz.underlying222 hi aA hj;go_enter Tryz.func89,Tryz.ntmps89;go_wp2;refine wp_loop_rounds 1 ?_;rw[rounds_succ];go_wp2;go_ret;exact⟨rfl,rfl⟩
theorem zWe(a b:Addr)(ca cb:Array Value)(ta tb:TypeId)(w:World)(cA:a≠b)(ha:w.heap[a.block]?=some (.cells ca ta (0,0)))(hb:w.heap[b.block]?=some (.cells cb tb (0,0))):Calls Tryz.prog 89 #[zAn a,zAn b] w fun e w'=>e = .returned (.bool false)/\w'=w:=by
 obtain⟨i,hi,aA⟩:=Option.map_eq_some_iff.1 zWc;obtain⟨j,hj,bA⟩:=Option.map_eq_some_iff.1 zWd;have h8:=@run_callFunc_extern Tryz.prog 110 _ Extern.ReflectliteType.typeOf Tryz.func110 (by kernel_rfl) (by kernel_rfl) (by kernel_rfl) (by kernel_rfl);have dA:=@run_callFunc_extern Tryz.prog 211 _ zae Tryz.func211 (by kernel_rfl) (by kernel_rfl) (by kernel_rfl) (by kernel_rfl);have tT:=zQi;have cT:=zJH;have mR:=zEx;have nE:=zbl;have uE:=zVL;have vE:=zSo;have eA:=run_eql_iface_ptr_other (P:=Tryz.prog) w Tryz.underlying98 Tryz.underlying222 hi aA hj (by rw[bA];decide) cA ha hb;go_enter Tryz.func89,Tryz.ntmps89;go_wp2;refine wp_loop_rounds 1 ?_;rw[rounds_succ];go_wp2;go_ret;exact⟨rfl,rfl⟩
def zXo(p:Nat->Addr):Array Value:=#[zAn (p 0),.int .i64 1,zAn (p 1),.int .i64 2,zAn (p 2),.int .i64 4,zAn (p 3),.int .i64 5,zAn (p 4),.int .i64 6,zAn (p 5),.int .i64 7,zAn (p 6),.int .i64 8]
theorem zUK(p:Nat->Addr){i:Nat}(hi:i<7):(zXo p)[i*2]?=some (zAn (p i))/\(zXo p)[i*2+1]?=some (.int .i64 (zKt i)):=by
 match i,hi with
 | 0,_=>exact⟨rfl,rfl⟩
 | 1,_=>exact⟨rfl,rfl⟩
 | 2,_=>exact⟨rfl,rfl⟩
 | 3,_=>exact⟨rfl,rfl⟩
 | 4,_=>exact⟨rfl,rfl⟩
 | 5,_=>exact⟨rfl,rfl⟩
 | 6,_=>exact⟨rfl,rfl⟩
theorem zPj(p:Nat->Addr)(w:World)(h:zGn w p):Calls Tryz.prog 88 #[] w fun e w'=>e = .returned (.slice (some ⟨w.heap.size,0,none⟩) 7 7)/\w'=w.alloc (.cells (zXo p) 135):=by
 have h0:w.cell? ⟨0,0,none⟩=some (zAn (p 0)):=h.cell 0 (by omega);have h1:w.cell? ⟨1,0,none⟩=some (zAn (p 1)):=h.cell 1 (by omega);have h2:w.cell? ⟨2,0,none⟩=some (zAn (p 2)):=h.cell 2 (by omega);have h3:w.cell? ⟨3,0,none⟩=some (zAn (p 3)):=h.cell 3 (by omega);have h4:w.cell? ⟨4,0,none⟩=some (zAn (p 4)):=h.cell 4 (by omega);have h5:w.cell? ⟨5,0,none⟩=some (zAn (p 5)):=h.cell 5 (by omega);have h6:w.cell? ⟨6,0,none⟩=some (zAn (p 6)):=h.cell 6 (by omega);clear h;go_enter Tryz.func88,Tryz.ntmps88;go_wp2;go_ret;exact⟨rfl,rfl⟩
structure zDX where
 world:zC
 id:Int
 many:Int
 code:Int
def yD(c:Int):zDX:=⟨noW,0,0,c⟩
end Go.Proofs.YtbplmbafodlboaaGreatDoor
