/- A part of the proof. -/
import Derived.Test.YtbplmbafodlboaaGreatDoorC21
import Derived.LaidEql
import Derived.Stop.Asserts
import Derived.RowKitTokens
set_option linter.unusedVariables false
set_option maxRecDepth 20000
set_option maxHeartbeats 4000000
namespace Go.Proofs.YtbplmbafodlboaaGreatDoor
open Go.RowKit Go.Maps
theorem zMd(v0 v1 v2 v3:Value)(lo hi:Nat)(W:zB)(A:Nat)(w:World)(h:zAF w lo hi v0 v1 v2 v3 W)(hp:W.pn<=20)(hs:W.sn<=8)(hA:zDY w lo hi W A)(hD:zFV W)(hP:zE7 W) :
  Calls Tryz.prog 119 #[zB8 v0 v1 v2 v3 W,zJw A] w fun e w'=>zL (∀i,i<W.sn->zG2 W (W.zc1 i).name (W.zc1 i).zc2 (W.zc1 i).origin) e/\Below w.heap.size w w':=by
 have Hp:=zC h;have HA:=zC hA;have HD:=zC hD;have HP:=zC hP;obtain⟨m2,a',c',rfl,oA,-⟩:=id h.zc1;unfold maxLen at m2;clear h hA hD hP;have ha:=zD w (.cells #[v0,v1,.int .i64 W.time,.int .i64 W.next,.slice a' W.sn c',v3] 30);have HB:=zC (zAM.new w v0 v1 (.int .i64 W.time) (.int .i64 W.next) (.slice a' W.sn c') v3 30);obtain⟨x0,x2,x4,x6,x8,jA⟩:=HB.out.c;go_enter Tryz.func119,Tryz.ntmps119;go_wp2;clear x0 x2 x4 x6 x8 jA
 go_loopw [10] (fun i wr=>∃k:Nat,k<=W.sn/\i = .int .i64 k/\(∀j,j<k->zG2 W (W.zc1 j).name (W.zc1 j).zc2 (W.zc1 j).origin)/\zAM wr w.heap.size v0 v1 (.int .i64 W.time) (.int .i64 W.next) (.slice a' W.sn c') v3/\Below w.heap.size w wr) (fun i _=>W.sn - (intOf i).toNat)
 case atStart=>exact⟨0,Nat.zero_le _,rfl,fun j hj=>absurd hj (Nat.not_lt_zero _),HB.out,ha⟩
 case round=>
  clear HB ha;obtain⟨k,hk,rfl,cA,hX,hb⟩:=hrel;have bA:=zC cA;have HX:=zC hX;clear cA hX;by_cases dA:k<W.sn;rotate_left
  ·obtain rfl:k=W.sn:=(by omega);go_wp2;go_ret;exact⟨zL.yes bA.out,hb⟩
  have nA:(k:Int)<(W.sn:Int):=(by omega);obtain⟨b,off,vd,rfl,aA⟩:=(Hp.out.zc1.zcw hb).cells dA;obtain⟨-,ad,cd,rfl,-,-⟩:=id aA.dead;have iA:=zD wr (.cells #[.string (W.zc1 k).name,.int .i64 (W.zc1 k).origin,.int .i64 (W.zc1 k).zc2,.int .i64 (W.zc1 k).rs,.int .i64 (W.zc1 k).rb,.slice ad (W.zc1 k).dn cd] 72);have HV:=zC (zAM.new wr (.string (W.zc1 k).name) (.int .i64 (W.zc1 k).origin) (.int .i64 (W.zc1 k).zc2) (.int .i64 (W.zc1 k).rs) (.int .i64 (W.zc1 k).rb) (.slice ad (W.zc1 k).dn cd) 72);have fA:=zC (HX.out.zcw iA);have eA:=zA hb iA;have q0:=aA.c0;have q1:=aA.c1;have q2:=aA.c2;have q3:=aA.c3;have q4:=aA.c4;have q5:=aA.c5;obtain⟨y0,y1,y2,y3,y4,y5⟩:=HV.out.c;obtain⟨x0,x2,x4,x6,x8,jA⟩:=fA.out.c;clear aA iA;go_wp2_with fail;clear q0 q1 q2 q3 q4 q5 y0 y1 y2 y3 y4 y5 x0 x2 x4 x6 x8 jA HX hb HV;refine(zNk v0 v1 _ v3 lo hi W A ad cd (W.zc1 k) _ (Hp.out.zcw eA) hp (HA.out.zcw eA) HD.out HP.out (HP.out.zc3 k dA) (HP.out.zc1 k dA)).mono ?_;rintro e w6 ⟨⟨t6,rfl,lA⟩,gA⟩;have mA:=zC (fA.out.zcw gA);have kA:=zA eA gA;have Ht:=zC lA;clear lA gA eA fA;cases t6
  ·have Hn:=zC (show ¬zG2 W (W.zc1 k).name (W.zc1 k).zc2 (W.zc1 k).origin from fun hA=>absurd (Ht.out.2 hA) (by simp));clear Ht;go_wp2;go_ret;exact⟨zL.no fun hA=>Hn.out (hA k dA),kA⟩
  ·have Hn:=zC (Ht.out.1 rfl);clear Ht;go_wp2;go_roundw
   case rel=>exact⟨k+1,by omega,by go_num,yE dA bA.out Hn.out,mA.out,kA⟩
   case measure=>simp[intOf];omega
structure zFW (W:zB):Prop where
 time:zHd W.time 1 900000
 next:zHd W.next 1 900000
 zc1:zaa W.sn W.zc1
 zcy:zWp W
structure zFX (W:zB):Prop where
 zc3:zFW W
 right:zq W.pool
 prevs:∀i,i<memN W->zLY W i
 lines:∀i,i<W.sn->zG2 W (W.zc1 i).name (W.zc1 i).zc2 (W.zc1 i).origin
 trees:zWq W
 homes:zI1 W
theorem zFW.range{W:zB}(h:zFW W):∀i,i<W.pn->1<=(W.zcy i).id/\(W.zcy i).id<W.next/\1<=(W.zcy i).time/\(W.zcy i).time<W.time
 | 0,hi=>by
  have:=(h.zcy.2.1 0 hi).2.2.2;have h1:Mid 0 (W.zcy 0).id W.next:=this.1;have h2:Mid 0 (W.zcy 0).time W.time:=this.2;have a1:=h1.1;have a2:=h1.2;have a3:=h2.1;have a4:=h2.2;omega
 | i+1,hi=>by
  have ih:=h.range i (by omega);have:=(h.zcy.2.1 (i+1) hi).2.2.2;have h1:Mid (W.zcy i).id (W.zcy (i+1)).id W.next:=this.1;have h2:Mid (W.zcy i).time (W.zcy (i+1)).time W.time:=this.2;have a1:=h1.1;have a2:=h1.2;have a3:=h2.1;have a4:=h2.2;omega
theorem zFW.rise{W:zB}(h:zFW W):∀i,i<W.pn->∀j,j<i->(W.zcy j).id<(W.zcy i).id
 | 0,_,j,hj=>absurd hj (Nat.not_lt_zero _)
 | i+1,hi,j,hj=>by
  have h1:Mid (W.zcy i).id (W.zcy (i+1)).id W.next:=(h.zcy.2.1 (i+1) hi).2.2.2.1;have a1:=h1.1;by_cases e:j=i
  ·subst e;exact a1
  ·have:=h.rise i (by omega) j (by omega);omega
theorem zFW.dist{W:zB}(h:zFW W):zFV W:=fun i hi j hj e=>by have:=h.rise i hi j hj;omega
theorem zFW.idsWf{W:zB}(h:zFW W):zWg W.pn W.zcy:=fun i hi=>by
 have h1:=h.range i hi;have h2:=h.next.2;exact WalkArith.wf_i64 (by omega)
theorem zFW.times{W:zB}(h:zFW W):zPC W:=fun x=>by
 by_cases hx:∃k,zBD W x k
 ·obtain⟨k,hk⟩:=hx;rw[zBO hk];have h1:=h.range k hk.1;have h2:=h.time.2;exact⟨by omega,by omega⟩
 ·have:zI W x=zA9:=(by unfold zI;rw[dif_neg hx]);rw[this];exact⟨Int.le_refl _,by decide⟩
theorem zM5{W:zB}{i:Nat}(hp:zO1 W):zLY W i↔((zK W i).zc2=0\/zB2 W (zK W i).zc2):=by
 unfold zLY;constructor
 ·intro h;by_cases hx:∃k,zBD W (zK W i).zc2 k
  ·obtain⟨k,hk⟩:=hx;exact Or.inr ⟨k,hk.1,hk.2.1⟩
  ·have e:zI W (zK W i).zc2=zA9:=(by unfold zI;rw[dif_neg hx]);rw[e]at h;exact Or.inl h.symm
 ·rintro(h | h)
  ·rw[h,zIS (fun k hk e=>by have:=hp k hk;omega)];rfl
  ·obtain⟨k,hk⟩:=h.no;rw[zBO hk];exact hk.2.1
theorem zFW.prevOk{W:zB}(h:zFW W)(hp:∀i,i<memN W->zLY W i):zE7 W where
 ids:=fun k hk=>by have h1:=h.range k hk;have h2:=h.next.2;omega
 zc2:=fun k hk=>by
  have:=(zM5 (fun k hk=>(h.range k hk).1)).1 (hp k (by unfold memN;omega));rw[yR hk]at this;exact this
 less:=fun k hk=>(h.zcy.2.1 k hk).2.2.1
 zc1:=fun k hk=>by
  have:=(zM5 (fun k hk=>(h.range k hk).1)).1 (hp (W.pn+k) (by unfold memN;omega));rw[zAo]at this;exact this
 zc3:=fun k hk=>zFw (h.zc1.2 k hk).1
theorem zR2{W:zB}(h:zE7 W){name:ByteArray}{start:Int}(hs:start=0\/zB2 W start):∀{n:Nat} {e:Int},Steps W name start n e->(e=0\/zB2 W e)
 | 0,_,.zero=>hs
 | n+1,_,.next (k:=k) _ hk _=>h.zc2 k hk.1
theorem zM8{f:Nat->zAV}{i:Nat}(hn:zDb (f i).name):zCN (zHK f i) (f i).name↔(0<i->zCN (f (i - 1)).name (f i).name):=by
 cases i with
 | zero=>
  refine⟨fun _ h=>absurd h (by omega),fun _=>?_⟩;have aA:=zFw hn;unfold zCN zHK;have h0:(⟨#[]⟩:ByteArray).toList = []:=(by rw[Go.ByteArray.toList_eq]);rw[h0];cases hl:(f 0).name.toList with
  | nil=>rw[hl]at aA;exact absurd aA (by decide)
  | cons a l=>simp[Op.bytesLess]
 | succ i=>exact⟨fun h _=>h,fun h=>h (by omega)⟩
theorem zH0(W:zB):zFX W↔zAL W:=by
 constructor
 ·intro h;have hP:=h.zc3.prevOk h.prevs;have hN:zBt W:=by
   refine⟨h.zc3.time,h.zc3.next,h.zc3.zc1.1,h.zc3.zcy.1,fun i hi=>?_,fun i hi=>?_⟩
   ·have hs:=h.zc3.zc1.2 i hi;refine⟨hs.1,(zM8 hs.1).1 hs.2,fun hz=>(hP.zc1 i hi).resolve_left hz,fun hz=>?_⟩;obtain⟨n,e,aA,_,_,rfl⟩:=h.lines i hi;exact(zR2 hP (hP.zc1 i hi) aA).resolve_left hz
   ·have hs:=h.zc3.zcy.2.1 i hi;have hr:=h.zc3.range i hi;refine⟨⟨hr.1,hr.2.1,hr.2.2.1,hr.2.2.2,hs.2.1,hs.1⟩,⟨fun h0=>?_,fun hz=>⟨hs.2.2.1,(hP.zc2 i hi).resolve_left hz⟩⟩,fun k hk=>h.zc3.zcy.2.2 i hi k hk⟩;cases i with
    | zero=>omega
    | succ i=>exact⟨hs.2.2.2.1.1,hs.2.2.2.2.1⟩
  have hT:zFY W:=zJl h.right hN (fun i hi=>by have:=h.trees.1 i (by unfold memN;omega);rw[yR hi]at this;exact this) (fun i hi=>by have:=h.trees.1 (W.pn+i) (by unfold memN;omega);rw[zAo]at this;exact this);have hM:∀i,i<memN W->zNw W (zK W i):=fun i hi=>(zMp hT hi).1 (h.trees.2 i hi)
  have hh:=(zOJ hT (fun j hj=>by have:=hP.pos j hj;omega) hM).1 h.homes;exact⟨h.right,hN,h.lines,fun i hi=>hT.snap hi,fun i hi=>⟨hT.set hi,(hM (W.pn+i) (by unfold memN;omega)).1⟩,fun i hi=>(hM i (by unfold memN;omega)).1,hh.1,fun i hi=>(hM i hi).2,hh.2⟩
 ·intro h;have hP:=h.zc3.prevOk;have hT:zFY W:=zJl h.right h.zc3 h.zcy (fun i hi=>(h.zc1 i hi).1);have hM:∀i,i<memN W->zNw W (zK W i):=fun i hi=>by
   refine⟨?_,h.born i hi⟩;by_cases hp:i<W.pn
   ·exact h.dead i hp
   ·have:=(h.zc1 (i - W.pn) (by unfold memN at hi;omega)).2;rw[show W.pn+(i - W.pn)=i by omega]at this;exact this
  have hh:=(zOJ hT (fun j hj=>by have:=hP.pos j hj;omega) hM).2 ⟨h.reach,h.zc7⟩;refine⟨⟨h.zc3.1,h.zc3.2.1,⟨h.zc3.2.2.1,fun i hi=>?_⟩,⟨h.zc3.2.2.2.1,fun i hi=>?_,fun i hi k hk=>(h.zc3.2.2.2.2.2 i hi).2.2 k hk⟩⟩,h.right,fun i hi=>?_,h.lines,⟨hT.tree,fun i hi=>(zMp hT hi).2 (hM i hi)⟩,hh⟩
  ·have hs:=h.zc3.2.2.2.2.1 i hi;exact⟨hs.1,(zM8 hs.1).2 hs.2.1⟩
  ·have hs:=h.zc3.2.2.2.2.2 i hi;refine⟨hs.1.2.2.2.2.2,hs.1.2.2.2.2.1,hP.less i hi,?_,?_⟩
   ·cases i with
    | zero=>exact⟨by have:=hs.1.1;show(0:Int)<_;omega,hs.1.2.1⟩
    | succ i=>exact⟨(hs.2.1.1 (by omega)).1,hs.1.2.1⟩
   ·cases i with
    | zero=>exact⟨by have:=hs.1.2.2.1;show(0:Int)<_;omega,hs.1.2.2.2.1⟩
    | succ i=>exact⟨(hs.2.1.1 (by omega)).2,hs.1.2.2.2.1⟩
  ·refine(zM5 hP.pos).2 ?_;by_cases hp:i<W.pn
   ·rw[yR hp];exact hP.zc2 i hp
   ·have e:=zAo W (i - W.pn);rw[show W.pn+(i - W.pn)=i by omega]at e;rw[e];exact hP.zc1 _ (by unfold memN at hi;omega)
def zVF(w:World)(b:Nat)(v0 v1 v2 v3 v4 v5 v6 v7:Value):Prop:=zo w b 0 v0/\zo w b 1 v1/\zo w b 2 v2/\zo w b 3 v3/\zo w b 4 v4/\zo w b 5 v5/\zo w b 6 v6/\zo w b 7 v7
theorem zVF.zcw{w w':World}{b:Nat}{v0 v1 v2 v3 v4 v5 v6 v7:Value}(h:zVF w b v0 v1 v2 v3 v4 v5 v6 v7)(t:Below w.heap.size w w'):zVF w' b v0 v1 v2 v3 v4 v5 v6 v7:=⟨h.1.zcw t,h.2.1.zcw t,h.2.2.1.zcw t,h.2.2.2.1.zcw t,h.2.2.2.2.1.zcw t,h.2.2.2.2.2.1.zcw t,h.2.2.2.2.2.2.1.zcw t,h.2.2.2.2.2.2.2.zcw t⟩
theorem zVF.new(w:World)(v0 v1 v2 v3 v4 v5 v6 v7:Value)(t:TypeId):zVF (w.alloc (.cells #[v0,v1,v2,v3,v4,v5,v6,v7] t)) w.heap.size v0 v1 v2 v3 v4 v5 v6 v7:=by
 have hb:(w.alloc (.cells #[v0,v1,v2,v3,v4,v5,v6,v7] t)).heap[w.heap.size]?=some (.cells #[v0,v1,v2,v3,v4,v5,v6,v7] t):=heap_alloc_new _ _;exact⟨zG hb rfl,zG hb rfl,zG hb rfl,zG hb rfl,zG hb rfl,zG hb rfl,zG hb rfl,zG hb rfl⟩
def zSB:zAV:=⟨⟨#[]⟩,0,0,0,0,0,fun _=>0,fun _=>0⟩
set_option linter.unusedSimpArgs false
set_option maxRecDepth 20000
set_option maxHeartbeats 3200000
attribute [local go_sem] qX List.map_cons List.map_nil Tr.cv yp qD qs qq yo yn ym qp zAu zAw zAv zAr zAt zAs zCF zCH zCG qH zl qI zm qB qA qM yx zi zj qw qG tmpsOf zAf qv qF zAp yv yr yq yu stpP opds opd opdC kap zAG qC zh coreU bin zAb zB0 get put dlO fgt zA8 zA1 zA5 zA6 tyT yj yi Op.operands Call.operands evLoad evLen evStore evAlloc zAa and_true true_and List.append_nil List.nil_append List.cons_append Ret resCv zBs yQ cellM zBV zBw qY StW StR hpT hpO hpV hpA hpL hpC sg nin zB6 bdO tmW obW AvE CsE CvE Av.tup Av.ids Cv.ids inD ObE Ob.ids TrE.refl qE qt qu qJ qK qL zk ze zb yw zBc zB1 zAy evCall argL argOf qh outOb obO yL zy cvO tot Tr.own rid partsOf fillC zW zBU frz frz1 evBuildSlice zc trs Cv.tr evSlice Option.toArray_none Option.toArray_some evMakeSlice evAppend dstOf srcOf zBC zA7 zA4 zA2 zA3 ikT qn qm ql qk RetP RetN zBd qQ evLd evSt evStoreH zAX evAppendM evAppendT tlOf mvOf rowE shp evTake oOf evC evCallP evCallN evCallO unlast zAW zBB zAU argsF zB5 qy pmC varT vT evField evConv dB0 Option.bind_some Option.bind_none Option.map_some Option.map_none Option.isSome_some Option.isSome_none
attribute [local go_sem] yC zX zAg yI qe zAO zAP zAQ zAR zAS zAT yV yW yX yY yZ yb yd ye qz qV
attribute [-go_sem] zX
attribute [local go_sem] yS zBX zBY yg yG
abbrev seO(s:zAV):Bool×List Tr:=(true,[.v (.string s.name),.v (.int .i64 s.origin),.v (.int .i64 s.zc2),.v (.int .i64 s.rs),.v (.int .i64 s.rb),.s .o 2 s.dn (ptrsT s.ds s.db)])
abbrev snO(s:zz):Bool×List Tr:=(true,[.v (.int .i64 s.id),.v (.string s.name),.v (.string s.set),.v (.int .i64 s.zc2),.v (.int .i64 s.time),.v (.int .i64 s.rs),.v (.int .i64 s.rb),.s .o 2 s.dn (ptrsT s.ds s.db)])
open Classical in
noncomputable def zKG(W:zB)(x:ByteArray):zAV:=if x.size<=8000/\zBW W x/\zAL W then W.zc1 (zBn W.sn fun k=>(W.zc1 k).name=x).toNat else zSB
open Classical in
noncomputable def zGI(W:zB)(x:Int):zz:=if zB2 W x/\zAL W then W.zcy (zBn W.pn fun k=>(W.zcy k).id=x).toNat else zA9
noncomputable def zXy:za:=qZ (fun q:zB×ByteArray=>[woT q.1,sT q.2]) (fun q=>SmallW q.1) (fun q=>[seO (zKG q.1 q.2)])
theorem zVz(W:zB)(x:ByteArray):zXy [woT W,sT x]=some (SmallW W,[seO (zKG W x)]):=zO (fun l=>(zCX (nth l 0),zDn (nth l 1 0))) (fun _=>rfl) (W,x)
theorem zWm:zp Tryz.prog 37 zXy:=by
 refine zR zs (GOk.cons zDD (zF Tryz.func66 rfl rfl) (GOk.cons zAh (zF Tryz.func32 rfl rfl) GOk.nil)) zr Tryz.func37 rfl Tryz.ntmps37 Tryz.results37 7 ?_;rintro⟨W,x⟩ hW;replace hW:SmallW W:=hW;refine⟨by simp,?_⟩;simp[go_sem,zAY,zBE,hW,hW.sn,zCn,zBZ,zEt,zFo,zE2];refine⟨fun h=>?_,fun h1 h2 h3=>?_⟩
 ·rw[show zKG W x=zSB from if_neg fun e=>h.elim (fun h=>h.elim (fun h=>by have:=e.1;omega) (fun h=>h e.2.1)) (fun h=>h e.2.2)];exact⟨rfl,rfl,rfl,rfl,rfl,rfl⟩
 ·rw[show zKG W x=_ from if_pos ⟨by omega,h2,h3⟩];obtain⟨k,g1,g2,g3,g4⟩ | ⟨-,g⟩:=zEq W.sn fun k=>(W.zc1 k).name=x
  ·have hd:=hW.sd k g1;rw[g4,Int.toNat_natCast];exact⟨⟨h2,by omega⟩,by omega,rfl,rfl,rfl,rfl,rfl,TrE.refl _⟩
  ·have:=zBZ.2 h2;omega
noncomputable def zUQ:za:=qZ (fun q:zB×Int=>[woT q.1,iT q.2]) (fun q=>SmallW q.1) (fun q=>[snO (zGI q.1 q.2)])
theorem zTA(W:zB)(x:Int):zUQ [woT W,iT x]=some (SmallW W,[snO (zGI W x)]):=zO (fun l=>(zCX (nth l 0),qd (nth l 1 0))) (fun _=>rfl) (W,x)
theorem zVG:zp Tryz.prog 39 zUQ:=by
 refine zR zs (GOk.cons zC1 (zF Tryz.func68 rfl rfl) (GOk.cons zAh (zF Tryz.func32 rfl rfl) GOk.nil)) zr Tryz.func39 rfl Tryz.ntmps39 Tryz.results39 7 ?_;rintro⟨W,x⟩ hW;replace hW:SmallW W:=hW;refine⟨by simp,?_⟩;simp[go_sem,zCB,zBE,hW,hW.pn,zML,zJP,zEt,zFo,zE2];refine⟨fun h=>?_,fun h2 h3=>?_⟩
 ·rw[show zGI W x=zA9 from if_neg fun e=>h.elim (fun h=>h e.1) (fun h=>h e.2)];exact⟨rfl,rfl,rfl,rfl,rfl,rfl,rfl,rfl⟩
 ·rw[show zGI W x=_ from if_pos ⟨h2,h3⟩];obtain⟨k,g1,g2,g3,g4⟩ | ⟨-,g⟩:=zEq W.pn fun k=>(W.zcy k).id=x
  ·have hd:=hW.pd k g1;rw[g4,Int.toNat_natCast];exact⟨⟨h2,by omega⟩,by omega,rfl,rfl,rfl,rfl,rfl,rfl,rfl,TrE.refl _⟩
  ·have:=zJP.2 h2;omega
def zGo(W:zB)(x:Int):Nat->Nat
 | 0=>0
 | k+1=>zGo W x k+(if (W.zc1 k).zc2=x then 1 else 0)
def zHR(W:zB)(x:Int):Nat->Nat
 | 0=>0
 | k+1=>zHR W x k+(if (W.zcy k).zc2=x then 1 else 0)
theorem zUj(W:zB)(x:Int):∀k,zGo W x k<=k
 | 0=>Nat.le_refl _
 | k+1=>by have:=zUj W x k;rw[zGo];split<;>omega
theorem zUh(W:zB)(x:Int):∀k,zHR W x k<=k
 | 0=>Nat.le_refl _
 | k+1=>by have:=zUh W x k;rw[zHR];split<;>omega
noncomputable def zXp:za:=qZ (fun q:zB×Int=>[woT q.1,iT q.2]) (fun q=>q.1.sn<=1000000/\q.1.pn<=1000000) (fun q=>[iT ((zGo q.1 q.2 q.1.sn+zHR q.1 q.2 q.1.pn:Nat):Int)])
theorem zOb(W:zB)(x:Int):zXp [woT W,iT x]=some (W.sn<=1000000/\W.pn<=1000000,[iT ((zGo W x W.sn+zHR W x W.pn:Nat):Int)]):=zO (fun l=>(zCX (nth l 0),qd (nth l 1 0))) (fun _=>rfl) (W,x)
theorem zQ6:zp Tryz.prog 105 zXp:=by
 refine zR zs GOk.nil zr Tryz.func105 rfl Tryz.ntmps105 Tryz.results105 8 ?_;rintro⟨W,x⟩ ⟨hn,hm⟩;replace hn:W.sn<=1000000:=hn;replace hm:W.pn<=1000000:=hm;refine⟨by simp,?_⟩;simp[go_sem];refine yF (fun k:Nat=>⟨[(2,true,.m false [.p 2 0]),(1,true,.i x),(5,true,.i (zGo W x k)),(6,true,.i k)],[(2,.var ((woL W).map Tr.cv))]⟩) (fun k=>W.sn - k) (fun k=>k<=W.sn) 0 (by simp[go_sem,zGo]) (by simp) ?_;intro k hk;have hc:=zUj W x k;simp[go_sem,qN (show k<=1000000000 by omega),qN (show zGo W x k<=1000000000 by omega)];refine⟨fun hl=>⟨hl,fun h=>⟨k+1,by omega,by omega,by rw[zGo,if_pos h];rfl,rfl⟩,fun h=>⟨k+1,by omega,by omega,by rw[zGo,if_neg h];rfl,rfl⟩⟩,fun hl=>?_⟩;cases (show k=W.sn by omega);refine yF (fun k:Nat=>⟨[(2,true,.m false [.p 2 0]),(1,true,.i x),(5,true,.i (zGo W x W.sn+zHR W x k)),(7,true,.i k)],[(2,.var ((woL W).map Tr.cv))]⟩) (fun k=>W.pn - k) (fun k=>k<=W.pn) 0 (by simp[go_sem,zHR]) (by simp) ?_;intro k hk;have aA:=zUh W x k;have hw:=qN (show zGo W x W.sn+zHR W x k<=1000000000 by omega);simp only[Int.natCast_add]at hw;simp[go_sem,qN (show k<=1000000000 by omega),hw];refine⟨fun hl=>⟨hl,fun h=>⟨k+1,by omega,by omega,by rw[zHR,if_pos h];omega,rfl⟩,fun h=>⟨k+1,by omega,by omega,by rw[zHR,if_neg h];rfl,rfl⟩⟩,fun hl=>?_⟩;cases (show k=W.pn by omega);rfl
set_option maxRecDepth 20000
set_option maxHeartbeats 3200000
def zLF(s:Nat->zAV)(k:Nat):Nat->Nat->Tr:=fun i=>if i<k then setsE .o s i else setsE .b s i
def zMr(s:Nat->zz)(k:Nat):Nat->Nat->Tr:=fun i=>if i<k then snapsE .z s i else snapsE .b s i
theorem zt{n:Nat}{s:Nat->zAV}:(Tr.s .o 6 n (setsE .o s)).kept:=⟨by simp,fun i j _ hj=>by
 match j,hj with
 | 0,_ | 1,_ | 2,_ | 3,_ | 4,_=>trivial
 | 5,_=>exact zE2.2 trivial⟩
theorem zf{n:Nat}{s:Nat->zz}:(Tr.s .o 8 n (snapsE .z s)).kept:=⟨by simp,fun i j _ hj=>by
 match j,hj with
 | 0,_ | 1,_ | 2,_ | 3,_ | 4,_ | 5,_ | 6,_=>trivial
 | 7,_=>exact⟨by simp,fun p q _ _=>by unfold ptrsT;split<;>trivial⟩⟩
theorem zbo{s:Nat->zAV}:zLF s 0=setsE .b s:=by funext i;simp[zLF]
theorem zbn{s:Nat->zz}:zMr s 0=snapsE .b s:=by funext i;simp[zMr]
theorem zZ5{s:Nat->zAV}{k i:Nat}(h:k<=i):zLF s k i=setsE .b s i:=if_neg (by omega)
theorem zZ3{s:Nat->zz}{k i:Nat}(h:k<=i):zMr s k i=snapsE .b s i:=if_neg (by omega)
theorem zYG{fl:Fl}{s:Nat->zAV}{n:Nat}:TrE (.s fl 6 n (zLF s n)) (.s fl 6 n (setsE .o s)):=zEF fun i j hi hj=>by rw[zLF,if_pos hi]
theorem zYF{fl:Fl}{s:Nat->zz}{n:Nat}:TrE (.s fl 8 n (zMr s n)) (.s fl 8 n (snapsE .z s)):=zEF fun i j hi hj=>by rw[zMr,if_pos hi]
theorem zYK{s:Nat->zAV}:(fun p q=>(setsE .b s p q).nt)=setsE .b s:=by
 funext p q
 match q with
 | 0 | 1 | 2 | 3 | 4=>rfl
 | 5=>rfl
 | q+6=>rfl
theorem zOh{s:Nat->zz}:(fun p q=>(snapsE .b s p q).nt)=snapsE .b s:=by
 funext p q
 match q with
 | 0 | 1 | 2 | 3 | 4 | 5 | 6=>rfl
 | 7=>rfl
 | q+8=>rfl
theorem zZ6{fl:Fl}{s:Nat->zAV}{n k:Nat}{F:Nat->Nat->Tr}(hF:TrE (.s .o 2 (s k).dn F) (.s .o 2 (s k).dn (ptrsT (s k).ds (s k).db))):TrE (.s fl 6 n (yK (zLF s k) k 5 [.s .o 2 (s k).dn F])) (.s fl 6 n (zLF s (k+1))):=by
 refine⟨.inl rfl,rfl,rfl,fun i j hi hj=>?_⟩;by_cases h:i=k
 ·subst h
  match j,hj with
  | 0,_ | 1,_ | 2,_ | 3,_ | 4,_=>exact TrE.of_eq (by simp[yK,zLF,setsE])
  | 5,_=>simpa[yK,zLF,setsE]using hF
 ·refine TrE.of_eq ?_;have:(i<k+1)=(i<k):=propext (by omega);simp[yK,zLF,h,this]
theorem zZ4{fl:Fl}{s:Nat->zz}{n k:Nat}{F:Nat->Nat->Tr}(hF:TrE (.s .o 2 (s k).dn F) (.s .z 2 (s k).dn (ptrsT (s k).ds (s k).db))):TrE (.s fl 8 n (yK (zMr s k) k 7 [.s .o 2 (s k).dn F])) (.s fl 8 n (zMr s (k+1))):=by
 refine⟨.inl rfl,rfl,rfl,fun i j hi hj=>?_⟩;by_cases h:i=k
 ·subst h
  match j,hj with
  | 0,_ | 1,_ | 2,_ | 3,_ | 4,_ | 5,_ | 6,_=>exact TrE.of_eq (by simp[yK,zMr,snapsE])
  | 7,_=>simpa[yK,zMr,snapsE]using hF
 ·refine TrE.of_eq ?_;have:(i<k+1)=(i<k):=propext (by omega);simp[yK,zMr,h,this]
attribute [local go_sem] qX List.map_cons List.map_nil Tr.cv yp qD qs qq yo yn ym qp zAu zAw zAv zAr zAt zAs zCF zCH zCG qH zl qI zm qB qA qM yx zi zj qw qG tmpsOf zAf qv qF zAp yv yr yq yu stpP opds opd opdC kap zAG qC zh coreU bin zAb zB0 get put dlO fgt zA8 zA1 zA5 zA6 tyT yj yi Op.operands Call.operands evLoad evLen evStore evAlloc zAa and_true true_and List.append_nil List.nil_append List.cons_append Ret resCv zBs yQ cellM zBV zBw qY StW StR hpT hpO hpV hpA hpL hpC sg nin zB6 bdO tmW obW AvE CsE CvE Av.tup Av.ids Cv.ids inD ObE Ob.ids TrE.refl qE qt qu qJ qK qL zk ze zb yw zBc zB1 zAy evCall argL argOf qh outOb obO yL zy cvO tot Tr.own rid partsOf fillC zW zBU frz frz1 evBuildSlice zc trs Cv.tr evSlice Option.toArray_none Option.toArray_some evMakeSlice evAppend dstOf srcOf zBC zA7 zA4 zA2 zA3 ikT qn qm ql qk RetP RetN zBd qQ evLd evSt evStoreH zAX evAppendM evAppendT tlOf mvOf rowE shp evTake oOf evC evCallP evCallN evCallO unlast zAW zBB zAU argsF zB5 qy pmC varT vT evField evConv dB0 Option.bind_some Option.bind_none Option.map_some Option.map_none Option.isSome_some Option.isSome_none
attribute [local go_sem] yC zX zAg yI qe zAO zAP zAQ zAR zAS zAT yV yW yX yY yZ yb yd ye qz qV
structure qO (W:zB):Prop extends SmallW W where
 kn:∀i,i<W.pool.n->(W.pool.s i).kn<=1000000
noncomputable def zX8:za:=qZ (fun W:zB=>[woT W]) (fun W=>qO W) (fun W=>[woO W])
theorem yJ(W:zB):zX8 [woT W]=some (qO W,[woO W]):=zO (fun l=>zCX (nth l 0)) (fun _=>rfl) W
theorem zBm:zp Tryz.prog 27 zX8:=by
 refine zR zs (GOk.cons zGg (zF Tryz.func51 rfl rfl) GOk.nil) zr Tryz.func27 rfl Tryz.ntmps27 Tryz.results27 6 ?_;intro W hW;replace hW:qO W:=hW;have hn:=hW.n;have hm:=hW.hn;have hs:=hW.sn;have hp:=hW.pn;refine⟨by simp,?_⟩;simp[go_sem,zHM,hn,hm,zFo,zUe,zEt,zYK,zOh];refine⟨hW.kn,by omega,?_⟩;refine yF (fun k:Nat=>⟨[(4,true,.i k),(3,true,.m false [.p 3 0]),(2,true,.m false [.p 2 0]),(1,true,.m false [.p 1 0])],[(3,.var [.h 61,.h 62,.v (.int .i64 W.time),.v (.int .i64 W.next),.h 63,.s .b 8 W.pn (snapsE .b W.zcy)]),(63,.row 6 W.sn (zLF W.zc1 k)),(62,.row 1 W.pool.hn (qx W.pool.h)),(61,.row 3 W.pool.n (zY .z W.pool.s)),(2,.var [.v n0,.v n0,.v i0,.v i0,.v n0,.v n0]),(1,.var ((woL W).map Tr.cv))]⟩) (fun k=>W.sn - k) (fun k=>k<=W.sn) 0 (by rw[zbo];simp[go_sem]) (Nat.zero_le _) ?_;intro k hk;simp[go_sem,qN (show k<=1000000000 by omega),zFo,zEt,zOh,zZ5 (Nat.le_refl k)];refine⟨fun hl=>?_,fun hl=>?_⟩
 ·have hd:=hW.sd k hl;exact⟨hl,by omega,hl,by kernel_rfl,k+1,by omega,by omega,rfl,zZ6 (TrE.refl _)⟩
 cases (show k=W.sn by omega);refine⟨by omega,?_⟩;refine yF (fun k:Nat=>⟨[(5,true,.i k),(3,true,.m false [.p 3 0]),(2,true,.m false [.p 2 0]),(1,true,.m false [.p 1 0])],[(3,.var [.h 61,.h 62,.v (.int .i64 W.time),.v (.int .i64 W.next),.h 63,.h 64]),(64,.row 8 W.pn (zMr W.zcy k)),(63,.row 6 W.sn (zLF W.zc1 W.sn)),(62,.row 1 W.pool.hn (qx W.pool.h)),(61,.row 3 W.pool.n (zY .z W.pool.s)),(2,.var [.v n0,.v n0,.v i0,.v i0,.v n0,.v n0]),(1,.var ((woL W).map Tr.cv))]⟩) (fun k=>W.pn - k) (fun k=>k<=W.pn) 0 (by rw[zbn];simp[go_sem]) (Nat.zero_le _) ?_;intro k hk;simp[go_sem,qN (show k<=1000000000 by omega),zFo,zEt,zZ3 (Nat.le_refl k)];refine⟨fun hl=>?_,fun hl=>?_⟩
 ·have hd:=hW.pd k hl;exact⟨hl,by omega,hl,by kernel_rfl,k+1,by omega,by omega,rfl,zZ4 ⟨.inr ⟨rfl,rfl⟩,rfl,rfl,fun i j _ _=>TrE.refl _⟩⟩
 cases (show k=W.pn by omega);exact⟨zU,zd,⟨zYG,zt⟩,zYF,zf⟩
def yN(p:zE):List (Int×Int)->zE
 | []=>p
 | x :: l=>yN (zHH p x.1) l
def zLU(p:zE)(l:List (Int×Int)):Prop:=zq p/\(∀x,x∈l->yT p x.1 x.2/\¬Has p.hn p.h x.1)/\(l.map Prod.fst).Nodup
theorem zGd(x:Int×Int):∀(l:List (Int×Int)) (p:zE),yN p (l ++ [x])=zHH (yN p l) x.1
 | [],_=>rfl
 | y :: l,p=>zGd x l (zHH p y.1)
theorem zB9:∀(l:List (Int×Int)) (p:zE),(yN p l).n=p.n/\(yN p l).s=p.s/\(yN p l).hn=p.hn+l.length
 | [],_=>⟨rfl,rfl,rfl⟩
 | y :: l,p=>by
  obtain⟨h1,h2,h3⟩:=zB9 l (zHH p y.1);refine⟨h1,h2,?_⟩;show(yN (zHH p y.1) l).hn=_;rw[h3,List.length_cons];show p.hn+1+l.length=_;omega
theorem zKO(f g:Nat->Int)(t:Int):∀k,(zAl f g t k).Sublist ((List.range k).map fun i=>(f i,g i))
 | 0=>List.Sublist.refl _
 | k+1=>by
  rw[List.range_succ,List.map_append,List.map_singleton];unfold zAl;split
  ·exact(zKO f g t k).append (List.Sublist.refl _)
  ·exact(zKO f g t k).trans (List.sublist_append_left _ _)
theorem zLU.sub{p:zE}{l l':List (Int×Int)}(h:zLU p l)(hs:l'.Sublist l):zLU p l':=⟨h.1,fun x hx=>h.2.1 x (hs.subset hx),List.Nodup.sublist (hs.map _) h.2.2⟩
def zGJ(W:zB)(k:Nat)(name set:ByteArray):zz:={id:=W.next,name:=name,set:=set,zc2:=(W.zc1 k).zc2,time:=W.time,rs:=(W.zc1 k).rs,rb:=(W.zc1 k).rb,dn:=(W.zc1 k).dn,ds:=(W.zc1 k).ds,db:=(W.zc1 k).db}
def zRx(W:zB)(k:Nat)(name set:ByteArray):zB:={W with time:=W.time+1,next:=W.next+1,zc1:=fun j=>if j=k then {W.zc1 k with zc2:=W.next,dn:=0}else W.zc1 j,pn:=W.pn+1,zcy:=fun j=>if j=W.pn then zGJ W k name set else W.zcy j}
def ins{α : Type}(f:Nat->α)(k:Nat)(s:α):Nat->α:=fun j=>if j<k then f j else if j=k then s else f (j - 1)
theorem zXM{α : Type}{f:Nat->α}{k j:Nat}{s:α}(h:j<k):ins f k s j=f j:=if_pos h
theorem zXK{α : Type}{f:Nat->α}{k:Nat}{s:α}:ins f k s k=s:=by
 unfold ins;rw[if_neg (Nat.lt_irrefl _),if_pos rfl]
theorem zXL{α : Type}{f:Nat->α}{k j:Nat}{s:α}(h:k<j):ins f k s j=f (j - 1):=by
 unfold ins;rw[if_neg (by omega),if_neg (by omega)]
def zGU(W:zB)(k:Nat)(s:zAV):zB:={W with sn:=W.sn+1,zc1:=ins W.zc1 k s}
def zDo(w:World)(b:Nat)(v0 v1 v2 v3 v4 v5 v6 v7 v8 v9 v10 v11 v12:Value):Prop:=zo w b 0 v0/\zo w b 1 v1/\zo w b 2 v2/\zo w b 3 v3/\zo w b 4 v4/\zo w b 5 v5/\zo w b 6 v6/\zo w b 7 v7/\zo w b 8 v8/\zo w b 9 v9/\zo w b 10 v10/\zo w b 11 v11/\zo w b 12 v12
theorem zDo.c{w:World}{b:Nat}{v0 v1 v2 v3 v4 v5 v6 v7 v8 v9 aA bA cA:Value}(h:zDo w b v0 v1 v2 v3 v4 v5 v6 v7 v8 v9 aA bA cA):w.cell? ⟨b,0,none⟩=some v0/\w.cell? ⟨b,1,none⟩=some v1/\w.cell? ⟨b,2,none⟩=some v2/\w.cell? ⟨b,3,none⟩=some v3/\w.cell? ⟨b,4,none⟩=some v4/\w.cell? ⟨b,5,none⟩=some v5/\w.cell? ⟨b,6,none⟩=some v6/\w.cell? ⟨b,7,none⟩=some v7/\w.cell? ⟨b,8,none⟩=some v8/\w.cell? ⟨b,9,none⟩=some v9/\w.cell? ⟨b,10,none⟩=some aA/\w.cell? ⟨b,11,none⟩=some bA/\w.cell? ⟨b,12,none⟩=some cA:=
 ⟨h.1.1,h.2.1.1,h.2.2.1.1,h.2.2.2.1.1,h.2.2.2.2.1.1,h.2.2.2.2.2.1.1,h.2.2.2.2.2.2.1.1,h.2.2.2.2.2.2.2.1.1,h.2.2.2.2.2.2.2.2.1.1,h.2.2.2.2.2.2.2.2.2.1.1,h.2.2.2.2.2.2.2.2.2.2.1.1,h.2.2.2.2.2.2.2.2.2.2.2.1.1,h.2.2.2.2.2.2.2.2.2.2.2.2.1⟩
theorem zDo.zcw{w w':World}{b:Nat}{v0 v1 v2 v3 v4 v5 v6 v7 v8 v9 aA bA cA:Value}(h:zDo w b v0 v1 v2 v3 v4 v5 v6 v7 v8 v9 aA bA cA)(t:Below w.heap.size w w'):zDo w' b v0 v1 v2 v3 v4 v5 v6 v7 v8 v9 aA bA cA:=⟨h.1.zcw t,h.2.1.zcw t,h.2.2.1.zcw t,h.2.2.2.1.zcw t,h.2.2.2.2.1.zcw t,h.2.2.2.2.2.1.zcw t,h.2.2.2.2.2.2.1.zcw t,h.2.2.2.2.2.2.2.1.zcw t,h.2.2.2.2.2.2.2.2.1.zcw t,h.2.2.2.2.2.2.2.2.2.1.zcw t,h.2.2.2.2.2.2.2.2.2.2.1.zcw t,h.2.2.2.2.2.2.2.2.2.2.2.1.zcw t,h.2.2.2.2.2.2.2.2.2.2.2.2.zcw t⟩
theorem zDo.new(w:World)(v0 v1 v2 v3 v4 v5 v6 v7 v8 v9 aA bA cA:Value)(t:TypeId):zDo (w.alloc (.cells #[v0,v1,v2,v3,v4,v5,v6,v7,v8,v9,aA,bA,cA] t)) w.heap.size v0 v1 v2 v3 v4 v5 v6 v7 v8 v9 aA bA cA:=by
 have hb:(w.alloc (.cells #[v0,v1,v2,v3,v4,v5,v6,v7,v8,v9,aA,bA,cA] t)).heap[w.heap.size]?=some (.cells #[v0,v1,v2,v3,v4,v5,v6,v7,v8,v9,aA,bA,cA] t):=heap_alloc_new _ _;exact⟨zG hb rfl,zG hb rfl,zG hb rfl,zG hb rfl,zG hb rfl,zG hb rfl,zG hb rfl,zG hb rfl,zG hb rfl,zG hb rfl,zG hb rfl,zG hb rfl,zG hb rfl⟩
abbrev put13(w:World)(b:Nat)(u0 u1 u2 u3 u4 u5 u6 u7 u8 u9 u10 u11 u12:Value):World:=((((((((((((w.setCell ⟨b,0,none⟩ u0).setCell ⟨b,1,none⟩ u1).setCell ⟨b,2,none⟩ u2).setCell ⟨b,3,none⟩ u3).setCell ⟨b,4,none⟩ u4).setCell ⟨b,5,none⟩ u5).setCell ⟨b,6,none⟩ u6).setCell ⟨b,7,none⟩ u7).setCell ⟨b,8,none⟩ u8).setCell ⟨b,9,none⟩ u9).setCell ⟨b,10,none⟩ u10).setCell ⟨b,11,none⟩ u11).setCell ⟨b,12,none⟩ u12
theorem zDo.put{w:World}{b:Nat}{v0 v1 v2 v3 v4 v5 v6 v7 v8 v9 dA eA fA:Value}(h:zDo w b v0 v1 v2 v3 v4 v5 v6 v7 v8 v9 dA eA fA)(u0 u1 u2 u3 u4 u5 u6 u7 u8 u9 aA bA cA:Value):zDo (put13 w b u0 u1 u2 u3 u4 u5 u6 u7 u8 u9 aA bA cA) b u0 u1 u2 u3 u4 u5 u6 u7 u8 u9 aA bA cA:=
 have H (i:Nat) (u v:Value) (e:[u0,u1,u2,u3,u4,u5,u6,u7,u8,u9,aA,bA,cA][i]?=some u) (c:zo w b i v):zo (put13 w b u0 u1 u2 u3 u4 u5 u6 u7 u8 u9 aA bA cA) b i u:=zP2 [u0,u1,u2,u3,u4,u5,u6,u7,u8,u9,aA,bA,cA] w 0 i i e (Nat.zero_add i) c
 ⟨H 0 _ _ rfl h.1,H 1 _ _ rfl h.2.1,H 2 _ _ rfl h.2.2.1,H 3 _ _ rfl h.2.2.2.1,H 4 _ _ rfl h.2.2.2.2.1,H 5 _ _ rfl h.2.2.2.2.2.1,H 6 _ _ rfl h.2.2.2.2.2.2.1,H 7 _ _ rfl h.2.2.2.2.2.2.2.1,H 8 _ _ rfl h.2.2.2.2.2.2.2.2.1,H 9 _ _ rfl h.2.2.2.2.2.2.2.2.2.1,H 10 _ _ rfl h.2.2.2.2.2.2.2.2.2.2.1,H 11 _ _ rfl h.2.2.2.2.2.2.2.2.2.2.2.1,H 12 _ _ rfl h.2.2.2.2.2.2.2.2.2.2.2.2⟩
theorem zJ.put13(w:World)(b:Nat)(u0 u1 u2 u3 u4 u5 u6 u7 u8 u9 aA bA cA:Value):zJ (fun k=>k=b) w (put13 w b u0 u1 u2 u3 u4 u5 u6 u7 u8 u9 aA bA cA):=((((((((((((zJ.put w b 0 u0).trans (zJ.put _ b 1 u1)).trans (zJ.put _ b 2 u2)).trans (zJ.put _ b 3 u3)).trans (zJ.put _ b 4 u4)).trans (zJ.put _ b 5 u5)).trans (zJ.put _ b 6 u6)).trans (zJ.put _ b 7 u7)).trans (zJ.put _ b 8 u8)).trans (zJ.put _ b 9 u9)).trans (zJ.put _ b 10 aA)).trans (zJ.put _ b 11 bA)).trans (zJ.put _ b 12 cA)
def zCb(w:World)(b:Nat)(v0 v1 v2 v3 v4 v5 v6 v7 v8 v9 v10 v11:Value):Prop:=zo w b 0 v0/\zo w b 1 v1/\zo w b 2 v2/\zo w b 3 v3/\zo w b 4 v4/\zo w b 5 v5/\zo w b 6 v6/\zo w b 7 v7/\zo w b 8 v8/\zo w b 9 v9/\zo w b 10 v10/\zo w b 11 v11
theorem zCb.c{w:World}{b:Nat}{v0 v1 v2 v3 v4 v5 v6 v7 v8 v9 aA bA:Value}(h:zCb w b v0 v1 v2 v3 v4 v5 v6 v7 v8 v9 aA bA):w.cell? ⟨b,0,none⟩=some v0/\w.cell? ⟨b,1,none⟩=some v1/\w.cell? ⟨b,2,none⟩=some v2/\w.cell? ⟨b,3,none⟩=some v3/\w.cell? ⟨b,4,none⟩=some v4/\w.cell? ⟨b,5,none⟩=some v5/\w.cell? ⟨b,6,none⟩=some v6/\w.cell? ⟨b,7,none⟩=some v7/\w.cell? ⟨b,8,none⟩=some v8/\w.cell? ⟨b,9,none⟩=some v9/\w.cell? ⟨b,10,none⟩=some aA/\w.cell? ⟨b,11,none⟩=some bA:=
 ⟨h.1.1,h.2.1.1,h.2.2.1.1,h.2.2.2.1.1,h.2.2.2.2.1.1,h.2.2.2.2.2.1.1,h.2.2.2.2.2.2.1.1,h.2.2.2.2.2.2.2.1.1,h.2.2.2.2.2.2.2.2.1.1,h.2.2.2.2.2.2.2.2.2.1.1,h.2.2.2.2.2.2.2.2.2.2.1.1,h.2.2.2.2.2.2.2.2.2.2.2.1⟩
theorem zCb.zcw{w w':World}{b:Nat}{v0 v1 v2 v3 v4 v5 v6 v7 v8 v9 aA bA:Value}(h:zCb w b v0 v1 v2 v3 v4 v5 v6 v7 v8 v9 aA bA)(t:Below w.heap.size w w'):zCb w' b v0 v1 v2 v3 v4 v5 v6 v7 v8 v9 aA bA:=⟨h.1.zcw t,h.2.1.zcw t,h.2.2.1.zcw t,h.2.2.2.1.zcw t,h.2.2.2.2.1.zcw t,h.2.2.2.2.2.1.zcw t,h.2.2.2.2.2.2.1.zcw t,h.2.2.2.2.2.2.2.1.zcw t,h.2.2.2.2.2.2.2.2.1.zcw t,h.2.2.2.2.2.2.2.2.2.1.zcw t,h.2.2.2.2.2.2.2.2.2.2.1.zcw t,h.2.2.2.2.2.2.2.2.2.2.2.zcw t⟩
theorem zCb.zcx{S:Nat->Prop}{w w':World}{b:Nat}{v0 v1 v2 v3 v4 v5 v6 v7 v8 v9 aA bA:Value}(h:zCb w b v0 v1 v2 v3 v4 v5 v6 v7 v8 v9 aA bA)(t:zJ S w w')(hs:¬S b):zCb w' b v0 v1 v2 v3 v4 v5 v6 v7 v8 v9 aA bA:=⟨h.1.zcx t hs,h.2.1.zcx t hs,h.2.2.1.zcx t hs,h.2.2.2.1.zcx t hs,h.2.2.2.2.1.zcx t hs,h.2.2.2.2.2.1.zcx t hs,h.2.2.2.2.2.2.1.zcx t hs,h.2.2.2.2.2.2.2.1.zcx t hs,h.2.2.2.2.2.2.2.2.1.zcx t hs,h.2.2.2.2.2.2.2.2.2.1.zcx t hs,h.2.2.2.2.2.2.2.2.2.2.1.zcx t hs,h.2.2.2.2.2.2.2.2.2.2.2.zcx t hs⟩
theorem zCb.new(w:World)(v0 v1 v2 v3 v4 v5 v6 v7 v8 v9 aA bA:Value)(t:TypeId):zCb (w.alloc (.cells #[v0,v1,v2,v3,v4,v5,v6,v7,v8,v9,aA,bA] t)) w.heap.size v0 v1 v2 v3 v4 v5 v6 v7 v8 v9 aA bA:=by
 have hb:(w.alloc (.cells #[v0,v1,v2,v3,v4,v5,v6,v7,v8,v9,aA,bA] t)).heap[w.heap.size]?=some (.cells #[v0,v1,v2,v3,v4,v5,v6,v7,v8,v9,aA,bA] t):=heap_alloc_new _ _;exact⟨zG hb rfl,zG hb rfl,zG hb rfl,zG hb rfl,zG hb rfl,zG hb rfl,zG hb rfl,zG hb rfl,zG hb rfl,zG hb rfl,zG hb rfl,zG hb rfl⟩
structure zE8 where
 store:zx
 code:Int
abbrev zcj(v0 v1 v2 v3 u0 u1 u2 u3:Value)(o:zE8):Value:=.agg #[v0,v1,.int .i64 o.store.zc0.time,.int .i64 o.store.zc0.next,v2,v3,u0,u1,.int .i64 o.store.zcz.time,.int .i64 o.store.zcz.next,u2,u3,.int .i64 o.code]
def zEl(o:zE8)(w:World)(e:Ending)(w':World):Prop:=∃v0 v1 v2 v3 u0 u1 u2 u3,e = .returned (zcj v0 v1 v2 v3 u0 u1 u2 u3 o)/\zEO w' w.heap.size w'.heap.size v0 v1 v2 v3 u0 u1 u2 u3 o.store/\Below w.heap.size w w'
def noW:zB:={pool:=zEi 0,time:=0,next:=0,sn:=0,zc1:=fun _=>⟨⟨#[]⟩,0,0,0,0,0,fun _=>0,fun _=>0⟩,pn:=0,zcy:=fun _=>⟨0,⟨#[]⟩,⟨#[]⟩,0,0,0,0,0,fun _=>0,fun _=>0⟩}
def zAj(c:Int):zE8:=⟨⟨noW,noW⟩,c⟩
theorem zUc{w:World}{lo hi:Nat}:zBN w lo hi (.slice none 0 0) (.slice none 0 0) (.slice none 0 0) (.slice none 0 0) noW:=by
 refine⟨fun k=>lo<=k/\k<hi,fun _=>False,fun _=>False,⟨(zYJ (lo:=lo) (hi:=hi)).isIn (fun k h1 h2=>⟨h1,h2⟩),?_,?_,fun _ _ h=>h,fun _ _ h=>h,fun _ h=>h.elim⟩,fun k hk=>?_⟩
 ·exact⟨0,fun _=>0,fun _=>.slice none 0 0,⟨Nat.zero_le _,none,0,rfl,Nat.le_refl _,fun h=>absurd h (Nat.lt_irrefl _)⟩,fun i j hi=>absurd hi (Nat.not_lt_zero _),fun k hk=>by
   rcases hk with⟨h,_⟩ | ⟨i,h,_⟩
   ·exact absurd h (Nat.lt_irrefl _)
   ·exact absurd h (Nat.not_lt_zero _)⟩
 ·exact⟨0,fun _=>0,fun _=>.slice none 0 0,⟨Nat.zero_le _,none,0,rfl,Nat.le_refl _,fun h=>absurd h (Nat.lt_irrefl _)⟩,fun i j hi=>absurd hi (Nat.not_lt_zero _),fun k hk=>by
   rcases hk with⟨h,_⟩ | ⟨i,h,_⟩
   ·exact absurd h (Nat.lt_irrefl _)
   ·exact absurd h (Nat.not_lt_zero _)⟩
 ·rcases hk with h | h | h
  ·exact h
  ·exact h.elim
  ·exact h.elim
theorem zYI{w:World}{lo hi:Nat}(h:lo<=hi):zEO w lo hi (.slice none 0 0) (.slice none 0 0) (.slice none 0 0) (.slice none 0 0) (.slice none 0 0) (.slice none 0 0) (.slice none 0 0) (.slice none 0 0) ⟨noW,noW⟩:=
 ⟨lo,lo,lo,lo,zUc,zUc,Nat.le_refl _,h,Nat.le_refl _,h,Or.inl (Nat.le_refl _)⟩
theorem zTY{w:World}{lo mid hi:Nat}{v0 v1 v2 v3 u0 u1 u2 u3:Value}{S:zx}(h1:zBN w lo mid v0 v1 v2 v3 S.zc0)(h2:zBN w mid hi u0 u1 u2 u3 S.zcz)(hl:lo<=mid)(hh:mid<=hi):zEO w lo hi v0 v1 v2 v3 u0 u1 u2 u3 S:=
 ⟨lo,mid,mid,hi,h1,h2,Nat.le_refl _,hh,hl,Nat.le_refl _,Or.inl (Nat.le_refl _)⟩
open Go.Extern.Stop Go.Stop Go.Extern
theorem zT1{P:Prop}(h:P):Hid P:=h
abbrev zBF(a:Addr):Value:=.iface 222 (.pointer (some a))
def zBf:Nat->Nat
 | 0=>0
 | 1=>1
 | 2=>2
 | 3=>3
 | 4=>4
 | 5=>5
 | _=>6
def zJK:Nat->Int
 | 0=>1
 | 1=>2
 | 2=>4
 | 3=>5
 | 4=>6
 | 5=>7
 | _=>8
structure zG1 (w:World) (p:Nat->Addr):Prop where
 cell:∀i,i<7->w.cell? ⟨zBf i,0,none⟩=some (zBF (p i))
 row:∀i,i<7->∃cs t,w.heap[(p i).block]?=some (.cells cs t (0,0))
 ne:∀i j,i<7->j<7->i≠j->p i≠p j
theorem zG1.zcw{w w':World}{p:Nat->Addr}(h:zG1 w p)(t:Below w.heap.size w w'):zG1 w' p:=
 ⟨fun i hi=>(t.cell (zH (h.cell i hi))).trans (h.cell i hi),fun i hi=>by
  obtain⟨cs,ty,hc⟩:=h.row i hi;exact⟨cs,ty,(t.block _ (Array.getElem?_eq_some_iff.1 hc).1).trans hc⟩,h.ne⟩
theorem zQz(v:Value)(w:World):(Extern.ReflectliteType.typeOf #[.iface 222 v]).run Tryz.prog w = .ok (.iface 171 (.agg #[.pointer (some ⟨7,222,none⟩)])) w:=by kernel_rfl
def zbT:Array Value->Sem Value:=Extern.ReflectliteType.method fun t=>do Extern.Rtype.noPackHeld "Comparable" t;pure (.bool (<-typeInfo t).comparable)
theorem zJS(w:World):(zbT #[.agg #[.pointer (some ⟨7,222,none⟩)]]).run Tryz.prog w = .ok (.bool true) w:=by kernel_rfl
theorem zFI(v:Value)(w:World):(Go.method 360 171 v "Comparable").run Tryz.prog w = .ok (211,v) w:=by kernel_rfl
theorem zXN:(Tryz.prog.info? 222).map (·.comparable)=some true:=by kernel_rfl
theorem zXO:(Tryz.prog.info? 248).map (·.size)=some 1:=by kernel_rfl
theorem zcZ(v:Value)(xT:TypeId)(w:World):(Instr.typeAssert (.iface 222 v) xT 173 true).run Tryz.prog w = .ok (.tuple #[.nilIface,.bool false]) w:=run_typeAssert_lacksB Tryz.underlying173 (by kernel_rfl) (by kernel_rfl) v xT w
theorem zV4(v:Value)(xT:TypeId)(w:World):(Instr.typeAssert (.iface 222 v) xT 176 true).run Tryz.prog w = .ok (.tuple #[.nilIface,.bool false]) w:=run_typeAssert_lacksB Tryz.underlying176 (by kernel_rfl) (by kernel_rfl) v xT w
theorem zTG(v:Value)(xT:TypeId)(w:World):(Instr.typeAssert (.iface 222 v) xT 178 true).run Tryz.prog w = .ok (.tuple #[.nilIface,.bool false]) w:=run_typeAssert_lacksB Tryz.underlying178 (by kernel_rfl) (by kernel_rfl) v xT w
theorem zZm(a:Addr)(w:World):Calls Tryz.prog 89 #[zBF a,zBF a] w fun e w'=>e = .returned (.bool true)/\w'=w:=by
 obtain⟨i,hi,aA⟩:=Option.map_eq_some_iff.1 zXN;obtain⟨j,hj,dA⟩:=Option.map_eq_some_iff.1 zXO;have h8:=@run_callFunc_extern Tryz.prog 110 _ Extern.ReflectliteType.typeOf Tryz.func110 (by kernel_rfl) (by kernel_rfl) (by kernel_rfl) (by kernel_rfl);have bA:=@run_callFunc_extern Tryz.prog 211 _ zbT Tryz.func211 (by kernel_rfl) (by kernel_rfl) (by kernel_rfl) (by kernel_rfl);have tT:=zQz;have cT:=zJS;have mR:=zFI;have cA:=run_eql_iface_ptr_same (P:=Tryz.prog) w a Tryz.underlying98 Tryz.underlying222 hi aA hj;go_enter Tryz.func89,Tryz.ntmps89;go_wp2;refine wp_loop_rounds 1 ?_;rw[rounds_succ];go_wp2;go_ret;exact⟨rfl,rfl⟩
theorem zXP(a b:Addr)(ca cb:Array Value)(ta tb:TypeId)(w:World)(cA:a≠b)(ha:w.heap[a.block]?=some (.cells ca ta (0,0)))(hb:w.heap[b.block]?=some (.cells cb tb (0,0))):Calls Tryz.prog 89 #[zBF a,zBF b] w fun e w'=>e = .returned (.bool false)/\w'=w:=by
 obtain⟨i,hi,aA⟩:=Option.map_eq_some_iff.1 zXN;obtain⟨j,hj,bA⟩:=Option.map_eq_some_iff.1 zXO;have h8:=@run_callFunc_extern Tryz.prog 110 _ Extern.ReflectliteType.typeOf Tryz.func110 (by kernel_rfl) (by kernel_rfl) (by kernel_rfl) (by kernel_rfl);have dA:=@run_callFunc_extern Tryz.prog 211 _ zbT Tryz.func211 (by kernel_rfl) (by kernel_rfl) (by kernel_rfl) (by kernel_rfl);have tT:=zQz;have cT:=zJS;have mR:=zFI;have nE:=zcZ;have uE:=zV4;have vE:=zTG;have eA:=run_eql_iface_ptr_other (P:=Tryz.prog) w Tryz.underlying98 Tryz.underlying222 hi aA hj (by rw[bA];decide) cA ha hb;go_enter Tryz.func89,Tryz.ntmps89;go_wp2;refine wp_loop_rounds 1 ?_;rw[rounds_succ];go_wp2;go_ret;exact⟨rfl,rfl⟩
def zYa(p:Nat->Addr):Array Value:=#[zBF (p 0),.int .i64 1,zBF (p 1),.int .i64 2,zBF (p 2),.int .i64 4,zBF (p 3),.int .i64 5,zBF (p 4),.int .i64 6,zBF (p 5),.int .i64 7,zBF (p 6),.int .i64 8]
theorem zUw(p:Nat->Addr){i:Nat}(hi:i<7):(zYa p)[i*2]?=some (zBF (p i))/\(zYa p)[i*2+1]?=some (.int .i64 (zJK i)):=by
 match i,hi with
 | 0,_=>exact⟨rfl,rfl⟩
 | 1,_=>exact⟨rfl,rfl⟩
 | 2,_=>exact⟨rfl,rfl⟩
 | 3,_=>exact⟨rfl,rfl⟩
 | 4,_=>exact⟨rfl,rfl⟩
 | 5,_=>exact⟨rfl,rfl⟩
 | 6,_=>exact⟨rfl,rfl⟩
theorem zP3(p:Nat->Addr)(w:World)(h:zG1 w p):Calls Tryz.prog 88 #[] w fun e w'=>e = .returned (.slice (some ⟨w.heap.size,0,none⟩) 7 7)/\w'=w.alloc (.cells (zYa p) 135):=by
 have h0:w.cell? ⟨0,0,none⟩=some (zBF (p 0)):=h.cell 0 (by omega);have h1:w.cell? ⟨1,0,none⟩=some (zBF (p 1)):=h.cell 1 (by omega);have h2:w.cell? ⟨2,0,none⟩=some (zBF (p 2)):=h.cell 2 (by omega);have h3:w.cell? ⟨3,0,none⟩=some (zBF (p 3)):=h.cell 3 (by omega);have h4:w.cell? ⟨4,0,none⟩=some (zBF (p 4)):=h.cell 4 (by omega);have h5:w.cell? ⟨5,0,none⟩=some (zBF (p 5)):=h.cell 5 (by omega);have h6:w.cell? ⟨6,0,none⟩=some (zBF (p 6)):=h.cell 6 (by omega);clear h;go_enter Tryz.func88,Tryz.ntmps88;go_wp2;go_ret;exact⟨rfl,rfl⟩
structure zDe where
 world:zB
 id:Int
 many:Int
 code:Int
def yM(c:Int):zDe:=⟨noW,0,0,c⟩
end Go.Proofs.YtbplmbafodlboaaGreatDoor
