/- A part of the proof. -/
import Derived.Test.YtbplmbafodlboaaGreatDoorC17
import Derived.WideKeyPair
import Derived.DeepKeys4
set_option linter.unusedVariables false
set_option maxRecDepth 20000
set_option maxHeartbeats 4000000
namespace Go.Proofs.YtbplmbafodlboaaGreatDoor
open Go.RowKit
set_option linter.unusedSimpArgs false
set_option maxRecDepth 20000
set_option maxHeartbeats 1600000
def zCP(h:Nat->Bool):Nat->Nat->Tr:=fun i _=>.v (.bool (h i))
theorem yg{h:Nat->Bool}{i j:Nat}:zCP h i j = .v (.bool (h i)):=rfl
theorem yG{fl:Fl}{k n:Nat}{h:Nat->Bool}:(Tr.s fl k n (zCP h)).lend = .s .b k n (zCP h):=rfl
theorem zSp{n:Nat}{h:Nat->Bool}:(Tr.s .o 1 n (zCP h)).kept:=⟨by simp,fun i j _ _=>trivial⟩
theorem zN2{fl:Fl}{n:Nat}{F:Nat->Nat->Tr}{h:Nat->Bool}(hF:∀i j,i<n->j<1->F i j = .v (.bool (h i))):TrE (.s fl 1 n F) (.s fl 1 n (zCP h)):=zEF fun i j hi hj=>hF i j hi hj
theorem zFB{fl:Fl}{n:Nat}{f h:Nat->Bool}(hF:∀i,i<n->f i=h i):TrE (.s fl 1 n (zCP f)) (.s fl 1 n (zCP h)):=zEF fun i j hi hj=>congrArg (fun b=>Tr.v (.bool b)) (hF i hi)
theorem zN3{fl:Fl}{n k:Nat}{f h:Nat->Bool}(hF:∀i,i<n->h i=if i=k then true else f i):TrE (.s fl 1 n (yK (zCP f) k 0 [.v (.bool true)])) (.s fl 1 n (zCP h)):=zEF fun i j hi hj=>by
 cases (show j=0 by omega);rw[show zCP h i 0 = .v (.bool (h i))from rfl,hF i hi];by_cases e:i=k
 ·subst e;simp[yK]
 ·simp[yK,e,zCP]
theorem zW1{p q:Prop}:dB p=dB q↔(p↔q):=by
 by_cases hp:p<;>by_cases hq:q<;>simp[dB,hp,hq]
attribute [local go_sem] qX List.map_cons List.map_nil Tr.cv yp qD qs qq yo yn ym qp zAu zAw zAv zAr zAt zAs zCF zCH zCG qH zl qI zm qB qA qM yx zi zj qw qG tmpsOf zAf qv qF zAp yv yr yq yu stpP opds opd opdC kap zAG qC zh coreU bin zAb zB0 get put dlO fgt zA8 zA1 zA5 zA6 tyT yj yi Op.operands Call.operands evLoad evLen evStore evAlloc zAa and_true true_and List.append_nil List.nil_append List.cons_append Ret resCv zBs yQ cellM zBV zBw qY StW StR hpT hpO hpV hpA hpL hpC sg nin zB6 bdO tmW obW AvE CsE CvE Av.tup Av.ids Cv.ids inD ObE Ob.ids TrE.refl qE qt qu qJ qK qL zk ze zb yw zBc zB1 zAy evCall argL argOf qh outOb obO yL zy cvO tot Tr.own rid partsOf fillC zW zBU frz frz1 evBuildSlice zc trs Cv.tr evSlice Option.toArray_none Option.toArray_some evMakeSlice evAppend dstOf srcOf zBC zA7 zA4 zA2 zA3 ikT qn qm ql qk RetP RetN zBd qQ evLd evSt evStoreH zAX evAppendM evAppendT tlOf mvOf rowE shp evTake oOf evC evCallP evCallN evCallO unlast zAW zBB zAU argsF zB5 qy pmC varT vT evField evConv dB0 Option.bind_some Option.bind_none Option.map_some Option.map_none Option.isSome_some Option.isSome_none
attribute [local go_sem] yC zX zAg yI qe zAO zAP zAQ zAR zAS zAT yV yW yX yY yZ yb yd ye qz qV
attribute [-go_sem] zX
attribute [local go_sem] yS zBX zBY yg yG
structure zI8 (W:zB):Prop extends zIR W where
 zc1:∀k,k<W.sn->qT W.pool (W.zc1 k).rs (W.zc1 k).rb
theorem zI8.trees{W:zB}(h:zI8 W):zFY W:=zJl h.right h.zc3 h.zcy h.zc1
noncomputable def zKC(W:zB)(s:Nat):Bool:=dB (zJq W s)
noncomputable def zXv:za:=qZ (fun W:zB=>[woT W]) (fun W=>zI8 W) (fun W=>[(false,[.s .o 1 W.pool.n (zCP (zKC W))])])
theorem zVy(W:zB):zXv [woT W]=some (zI8 W,[(false,[.s .o 1 W.pool.n (zCP (zKC W))])]):=zO (fun l=>zCX (nth l 0)) (fun _=>rfl) W
noncomputable def zMo(W:zB)(k:Nat)(l:List (Int×Int))(j s:Nat):Bool:=dB (zaY W k l j s)
theorem zQ7:zp Tryz.prog 60 zXv:=by
 refine zR zs (GOk.cons zDR (zF Tryz.func99 rfl rfl) GOk.nil) zr Tryz.func60 rfl Tryz.ntmps60 Tryz.results60 10 ?_;intro W hW;replace hW:zI8 W:=hW;have jA:W.sn<=8:=hW.zc3.2.2.1;have gA:W.pn<=20:=hW.zc3.2.2.2.1;have hn:W.pool.n<=200:=hW.right.1;refine⟨by simp,?_⟩;simp[go_sem];refine⟨by omega,?_⟩;refine yF (fun k:Nat=>⟨[(1,true,.m false [.p 1 0]),(3,true,.m false [.h 7]),(4,true,.m false [.h 8]),(5,true,.i k)],[(8,.row 2 (zEE W k).length (ptL (zEE W k))),(7,.row 1 W.pool.n (zCP fun _=>false)),(1,.var ((woL W).map Tr.cv))]⟩) (fun k=>W.sn - k) (fun k=>k<=W.sn) 0 ?_ (Nat.zero_le _) ?_
 ·simp[go_sem];refine⟨zJg rfl,zN2 fun i j _ hj=>?_⟩;cases (show j=0 by omega);rfl
 intro k hk;have eA:=zGr W k;simp[go_sem,qN (show k<=1000000000 by omega)];refine⟨fun hl=>?_,fun hl=>?_⟩
 ·refine⟨hl,by omega,k+1,by omega,by omega,rfl,zDL zEo ?_⟩;rw[zKz,zHw hl]
 cases (show k=W.sn by omega);refine yF (fun k:Nat=>⟨[(1,true,.m false [.p 1 0]),(3,true,.m false [.h 7]),(4,true,.m false [.h 8]),(6,true,.i k)],[(8,.row 2 (zEE W (W.sn+k)).length (ptL (zEE W (W.sn+k)))),(7,.row 1 W.pool.n (zCP fun _=>false)),(1,.var ((woL W).map Tr.cv))]⟩) (fun k=>W.pn - k) (fun k=>k<=W.pn) 0 (by simp[go_sem]) (Nat.zero_le _) ?_;intro k hk;have eA:=zGr W (W.sn+k);simp[go_sem,qN (show k<=1000000000 by omega)];refine⟨fun hl=>?_,fun hl=>?_⟩
 ·refine⟨hl,by omega,k+1,by omega,by omega,rfl,zDL zEo ?_⟩;rw[<-Nat.add_assoc,zKz,zGq]
 cases (show k=W.pn by omega);obtain⟨R,hR⟩:∃R,R=zEE W (W.sn+W.pn):=⟨_,rfl⟩;rw[<-hR];have fA:R.length=W.sn+W.pn:=by rw[hR];exact zGr _ _
 refine yF (fun k:Nat=>⟨[(1,true,.m false [.p 1 0]),(3,true,.m false [.h 7]),(4,true,.m false [.h 8]),(7,true,.i k)],[(8,.row 2 R.length (ptL R)),(7,.row 1 W.pool.n (zCP (zMo W k [] 0))),(1,.var ((woL W).map Tr.cv))]⟩) (fun k=>R.length - k) (fun k=>k<=R.length) 0 ?_ (Nat.zero_le _) ?_
 ·simp[go_sem];refine zFB fun i _=>?_
  symm;rw[zMo,zB1];rintro(⟨i,hi,_⟩ | ⟨q,hq,_⟩)
  ·omega
  ·omega
 intro k hk;simp[go_sem,qN (show k<=1000000000 by omega),zEU,hW.right];refine⟨fun dA=>?_,fun dA=>?_⟩
 ·have cA:k<W.sn+W.pn:=(by omega);have e1:qP R k=(zC3 W k).1:=(by rw[hR];exact(zOl cA).1);have e2:qb R k=(zC3 W k).2:=(by rw[hR];exact(zOl cA).2);have hT:qT W.pool (zC3 W k).1 (zC3 W k).2:=zYf hW.trees cA;rw[e1,e2];refine⟨dA,hT,by kernel_rfl,?_⟩;obtain⟨l,aA⟩:∃l,l=zN W.pool (zC3 W k).1 (zC3 W k).2:=⟨_,rfl⟩;have ll:l.length<=100:=(by have:=yz W.pool (zC3 W k).1 (zC3 W k).2;rw[aA];omega);rw[<-aA];refine yF (fun j:Nat=>⟨[(9,true,.i j),(8,true,.m false [.h 60]),(1,true,.m false [.p 1 0]),(3,true,.m false [.h 7]),(4,true,.m false [.h 8]),(7,true,.i k)],[(60,.row 2 l.length (ptL l)),(8,.row 2 R.length (ptL R)),(7,.row 1 W.pool.n (zCP (zMo W k l j))),(1,.var ((woL W).map Tr.cv))]⟩) (fun j=>l.length - j) (fun j=>j<=l.length) 0 ?_ (Nat.zero_le _) ?_
  ·simp[go_sem];refine zFB fun i _=>?_
   rw[zMo,zMo,zW1];exact⟨fun h=>h.elim Or.inl fun ⟨q,hq,_⟩=>by omega,fun h=>h.elim Or.inl fun ⟨q,hq,_⟩=>by omega⟩
  intro j hj;simp[go_sem,qN (show j<=1000000000 by omega),qN (show k<=1000000000 by omega)];have hm:zLV W k l j (zMo W k l j):=fun s=>zBc
  refine⟨fun bA=>?_,fun bA=>⟨k+1,dA,by omega,rfl,?_⟩⟩
  ·obtain⟨q,hq,iA⟩:=zRv hW.right hT (j:=j) (by rw[<-aA];exact bA);rw[<-aA]at hq;rw[hq];refine⟨bA,⟨by omega,by omega⟩,by simpa using iA,j+1,bA,by omega,rfl,zN3 fun i _=>?_⟩;exact Bool.eq_iff_iff.2 (zBc.trans (zTD hm hq i).symm)
  ·cases (show j=l.length by omega);refine zFB fun i _=>?_
   exact Bool.eq_iff_iff.2 ((zTE hm aA i).trans zBc.symm)
 ·cases (show k=R.length by omega);refine⟨zFB fun i _=>?_,zSp⟩;rw[zMo,zKC,zW1,zSm,fA];exact⟨fun h=>h.elim id fun ⟨q,hq,_⟩=>by omega,Or.inl⟩
set_option maxRecDepth 20000
set_option maxHeartbeats 1600000
theorem zZC{a b:Nat}(h:a+b<=1000000000):IntKind.i64.wrap ((a:Int)+(b:Int))=(a:Int)+(b:Int):=by
 unfold IntKind.wrap;simp[IntKind.signed,IntKind.bits];omega
theorem zcn{a b:Nat}(h:a<=1000000000)(h':b<=1000000000):IntKind.i64.wrap ((a:Int) - (b:Int))=(a:Int) - (b:Int):=by
 unfold IntKind.wrap;simp[IntKind.signed,IntKind.bits];omega
theorem tnS{a b:Nat}:((a:Int) - (b:Int)).toNat=a - b:=by omega
attribute [local go_sem] qX List.map_cons List.map_nil Tr.cv yp qD qs qq yo yn ym qp zAu zAw zAv zAr zAt zAs zCF zCH zCG qH zl qI zm qB qA qM yx zi zj qw qG tmpsOf zAf qv qF zAp yv yr yq yu stpP opds opd opdC kap zAG qC zh coreU bin zAb zB0 get put dlO fgt zA8 zA1 zA5 zA6 tyT yj yi Op.operands Call.operands evLoad evLen evStore evAlloc zAa and_true true_and List.append_nil List.nil_append List.cons_append Ret resCv zBs yQ cellM zBV zBw qY StW StR hpT hpO hpV hpA hpL hpC sg nin zB6 bdO tmW obW AvE CsE CvE Av.tup Av.ids Cv.ids inD ObE Ob.ids TrE.refl qE qt qu qJ qK qL zk ze zb yw zBc zB1 zAy evCall argL argOf qh outOb obO yL zy cvO tot Tr.own rid partsOf fillC zW zBU frz frz1 evBuildSlice zc trs Cv.tr evSlice Option.toArray_none Option.toArray_some evMakeSlice evAppend dstOf srcOf zBC zA7 zA4 zA2 zA3 ikT qn qm ql qk RetP RetN zBd qQ evLd evSt evStoreH zAX evAppendM evAppendT tlOf mvOf rowE shp evTake oOf evC evCallP evCallN evCallO unlast zAW zBB zAU argsF zB5 qy pmC varT vT evField evConv dB0 Option.bind_some Option.bind_none Option.map_some Option.map_none Option.isSome_some Option.isSome_none
attribute [local go_sem] yC zX zAg yI qe zAO zAP zAQ zAR zAS zAT yV yW yX yY yZ yb yd ye qz qV
attribute [-go_sem] zX
attribute [local go_sem] yS zBX zBY yg yG
noncomputable def zOn(W:zB)(k:Nat)(now old:List (Int×Int))(j s:Nat):Bool:=dB (zaZ W k now old j s)
noncomputable def zXe:za:=qZ (fun W:zB=>[woT W]) (fun W=>zI8 W) (fun W=>bR (zIL W))
theorem zVr(W:zB):zXe [woT W]=some (zI8 W,bR (zIL W)):=zO (fun l=>zCX (nth l 0)) (fun _=>rfl) W
theorem zQ4:zp Tryz.prog 63 zXe:=by
 refine zR zs (GOk.cons zDV (zF Tryz.func98 rfl rfl) (GOk.cons zDR (zF Tryz.func99 rfl rfl) (GOk.cons zJW (zF Tryz.func65 rfl rfl) GOk.nil))) zr Tryz.func63 rfl Tryz.ntmps63 Tryz.results63 12 ?_;intro W hW;replace hW:zI8 W:=hW;have sA:W.sn<=8:=hW.zc3.2.2.1;have pA:W.pn<=20:=hW.zc3.2.2.2.1;have hn:W.pool.n<=200:=hW.right.1;refine⟨by simp,?_⟩;simp[go_sem];refine⟨by omega,?_⟩;refine yF (fun k:Nat=>⟨[(1,true,.m false [.p 1 0]),(3,true,.m false [.h 61]),(4,true,.i k)],[(61,.row 1 W.pool.n (zCP (zOn W k [] [] 0))),(1,.var ((woL W).map Tr.cv))]⟩) (fun k=>memN W - k) (fun k=>k<=memN W/\zOy W k) 0 ?_ ⟨Nat.zero_le _,fun i hi=>by omega⟩ ?_
 ·simp[go_sem];refine zN2 fun i j _ hj=>?_
  cases (show j=0 by omega);have:zOn W 0 [] [] 0 i=false:=by
   rw[zOn,zB1];rintro(⟨i,hi,_⟩ | ⟨q,hq,_⟩)<;>omega
  simp[this]
 rintro k ⟨hk,hA⟩;have rA:memN W=W.pn+W.sn:=rfl;by_cases hl:k<memN W;rotate_left
 ·have h1:¬(k:Int)<(W.pn:Int)+(W.sn:Int):=(by omega);simp[go_sem,zZC (show W.pn+W.sn<=1000000000 by omega),h1];cases (show k=memN W by omega);exact hA
 have h1:(k:Int)<(W.pn:Int)+(W.sn:Int):=by omega
 have gA:qT W.pool (zK W k).rs (zK W k).rb:=hW.trees.tree k hl;have iA:=zPs hW.zcy (zK W k).zc2;have hz:=zEx hW.ids (zK W k).zc2;by_cases hs:k<W.pn
 case' pos=>
  have e:zK W k=zZy (W.zcy k):=yR hs;rw[e]at gA iA hz;replace gA:qT W.pool (W.zcy k).rs (W.zcy k).rb:=gA;replace iA:qT W.pool (zI W (W.zcy k).zc2).rs (zI W (W.zcy k).zc2).rb:=iA;replace hz:zDf W (W.zcy k).zc2=zI W (W.zcy k).zc2:=hz;obtain⟨bA,aA⟩:∃l,l=zN W.pool (W.zcy k).rs (W.zcy k).rb:=⟨_,rfl⟩;obtain⟨fA,cA⟩:∃l,l=zN W.pool (zI W (W.zcy k).zc2).rs (zI W (W.zcy k).zc2).rb:=⟨_,rfl⟩;have dA:bA=treeM W (zK W k):=(by rw[e];exact aA);have eA:fA=oldM W (zK W k):=(by rw[e];exact cA);simp[go_sem,zZC (show W.pn+W.sn<=1000000000 by omega),h1,hs,zD3,zEU,hW.pn,hW.right,hz,iA,gA,<-aA,<-cA]
 case' neg=>
  have e:zK W k=zZz W.time (W.zc1 (k - W.pn)):=by
   have:=zAo W (k - W.pn)
   rwa [show W.pn+(k - W.pn)=k by omega]at this
  rw[e]at gA iA hz;replace gA:qT W.pool (W.zc1 (k - W.pn)).rs (W.zc1 (k - W.pn)).rb:=gA;replace iA:qT W.pool (zI W (W.zc1 (k - W.pn)).zc2).rs (zI W (W.zc1 (k - W.pn)).zc2).rb:=iA;replace hz:zDf W (W.zc1 (k - W.pn)).zc2=zI W (W.zc1 (k - W.pn)).zc2:=hz;obtain⟨bA,aA⟩:∃l,l=zN W.pool (W.zc1 (k - W.pn)).rs (W.zc1 (k - W.pn)).rb:=⟨_,rfl⟩;obtain⟨fA,cA⟩:∃l,l=zN W.pool (zI W (W.zc1 (k - W.pn)).zc2).rs (zI W (W.zc1 (k - W.pn)).zc2).rb:=⟨_,rfl⟩;have dA:bA=treeM W (zK W k):=(by rw[e];exact aA);have eA:fA=oldM W (zK W k):=(by rw[e];exact cA);simp[go_sem,zZC (show W.pn+W.sn<=1000000000 by omega),zcn (show k<=1000000000 by omega) (show W.pn<=1000000000 by omega),tnS,h1,hs,zD3,zEU,hW.pn,hW.right,hz,iA,gA,<-aA,<-cA];refine⟨⟨by omega,by omega⟩,?_⟩
 all_goals
  have ln:bA.length<=100:=(by rw[aA];exact Nat.le_trans (yz ..) (by omega));have lo:fA.length<=100:=(by rw[cA];exact Nat.le_trans (yz ..) (by omega));have mA:∀j,j<bA.length->∃s:Nat,qP bA j=(s:Int)/\s<W.pool.n:=fun j hj=>by
   rw[aA];exact zRv hW.right gA (by rw[<-aA];exact hj)
  clear aA cA gA iA hz e h1 hs;refine yF (fun j:Nat=>⟨[(11,true,.i j),(10,true,.m false [.h 63]),(9,true,.m false [.h 62]),(1,true,.m false [.p 1 0]),(3,true,.m false [.h 61]),(4,true,.i k)],[(63,.row 2 bA.length (ptL bA)),(62,.row 2 fA.length (ptL fA)),(61,.row 1 W.pool.n (zCP (zOn W k bA fA j))),(1,.var ((woL W).map Tr.cv))]⟩) (fun j=>bA.length - j) (fun j=>j<=bA.length/\zFy W k bA fA j) 0 ?_ ⟨Nat.zero_le _,fun i hi=>absurd hi (Nat.not_lt_zero _)⟩ ?_
  ·simp[go_sem];have h0:zEc W k [] [] 0 (zOn W k [] [] 0):=fun s=>zBc
   exact zFB fun i _=>Bool.eq_iff_iff.2 ((zTL h0 bA fA i).trans zBc.symm)
  rintro j ⟨hj,kA⟩;have hS:zEc W k bA fA j (zOn W k bA fA j):=fun s=>zBc
  have oA:fA.length<=1000000:=(by omega);simp[go_sem,zPg,qN (show j<=1000000000 by omega),qN (show k<=1000000000 by omega),zYW,oA];refine⟨fun jA=>⟨jA,fun lA=>⟨j+1,⟨jA,zYm kA lA⟩,by omega,rfl,?_⟩,fun lA=>?_⟩,fun jA=>?_⟩
  ·exact zFB fun i _=>Bool.eq_iff_iff.2 ((zWJ hS lA i).trans zBc.symm)
  ·obtain⟨s,hs,nA⟩:=mA j jA;rw[hs];refine⟨jA,⟨by omega,by omega⟩,by simpa using nA,fun hf=>?_,fun hf=>⟨jA,⟨by omega,by omega⟩,by simpa using nA,j+1,⟨jA,?_⟩,by omega,rfl,?_⟩⟩
   ·rw[Int.toNat_natCast]at hf;exact zTM hW.trees hl dA eA hS jA hs lA hf
   ·rw[Int.toNat_natCast]at hf;exact zYi kA hS hs hf
   ·rw[Int.toNat_natCast];exact zN3 fun i _=>Bool.eq_iff_iff.2 (zBc.trans (zWI hS hs lA i).symm)
  ·cases (show j=bA.length by omega);refine⟨k+1,⟨hl,zSP hA dA eA kA⟩,by omega,rfl,zFB fun i _=>?_⟩;exact Bool.eq_iff_iff.2 ((zWL hS dA eA i).trans zBc.symm)
set_option maxRecDepth 20000
set_option maxHeartbeats 3200000
attribute [local go_sem] qX List.map_cons List.map_nil Tr.cv yp qD qs qq yo yn ym qp zAu zAw zAv zAr zAt zAs zCF zCH zCG qH zl qI zm qB qA qM yx zi zj qw qG tmpsOf zAf qv qF zAp yv yr yq yu stpP opds opd opdC kap zAG qC zh coreU bin zAb zB0 get put dlO fgt zA8 zA1 zA5 zA6 tyT yj yi Op.operands Call.operands evLoad evLen evStore evAlloc zAa and_true true_and List.append_nil List.nil_append List.cons_append Ret resCv zBs yQ cellM zBV zBw qY StW StR hpT hpO hpV hpA hpL hpC sg nin zB6 bdO tmW obW AvE CsE CvE Av.tup Av.ids Cv.ids inD ObE Ob.ids TrE.refl qE qt qu qJ qK qL zk ze zb yw zBc zB1 zAy evCall argL argOf qh outOb obO yL zy cvO tot Tr.own rid partsOf fillC zW zBU frz frz1 evBuildSlice zc trs Cv.tr evSlice Option.toArray_none Option.toArray_some evMakeSlice evAppend dstOf srcOf zBC zA7 zA4 zA2 zA3 ikT qn qm ql qk RetP RetN zBd qQ evLd evSt evStoreH zAX evAppendM evAppendT tlOf mvOf rowE shp evTake oOf evC evCallP evCallN evCallO unlast zAW zBB zAU argsF zB5 qy pmC varT vT evField evConv dB0 Option.bind_some Option.bind_none Option.map_some Option.map_none Option.isSome_some Option.isSome_none
attribute [local go_sem] yC zX zAg yI qe zAO zAP zAQ zAR zAS zAT yV yW yX yY yZ yb yd ye qz qV
attribute [-go_sem] zX
attribute [local go_sem] yS zBX zBY yg yG
structure SmallW (W:zB):Prop where
 n:W.pool.n<=1000000
 hn:W.pool.hn<=1000000
 sn:W.sn<=1000000
 pn:W.pn<=1000000
 sd:∀i,i<W.sn->(W.zc1 i).dn<=1000000
 pd:∀i,i<W.pn->(W.zcy i).dn<=1000000
theorem zbU{W:zB}{k:Nat}(h:k<W.pn):zEa W k↔zEb (W.zcy k).dn (W.zcy k).ds (W.zcy k).db (zCK (zN W.pool (zI W (W.zcy k).zc2).rs (zI W (W.zcy k).zc2).rb) (zN W.pool (W.zcy k).rs (W.zcy k).rb)):=by
 unfold zEa;rw[yR h];exact Iff.rfl
theorem zbV{W:zB}{k:Nat}:zEa W (W.pn+k)↔zEb (W.zc1 k).dn (W.zc1 k).ds (W.zc1 k).db (zCK (zN W.pool (zI W (W.zc1 k).zc2).rs (zI W (W.zc1 k).zc2).rb) (zN W.pool (W.zc1 k).rs (W.zc1 k).rb)):=by
 unfold zEa;rw[zAo];exact Iff.rfl
noncomputable def mWR:za:=qZ (fun W:zB=>[woT W]) (fun W=>SmallW W) (fun W=>bR (zAL W))
theorem zBE(W:zB):mWR [woT W]=some (SmallW W,bR (zAL W)):=zO (fun l=>zCX (nth l 0)) (fun _=>rfl) W
theorem zAh:zp Tryz.prog 32 mWR:=by
 refine zR zs (GOk.cons zD1 (zF Tryz.func28 rfl rfl) (GOk.cons zEm (zF Tryz.func55 rfl rfl) (GOk.cons zQ5 (zF Tryz.func56 rfl rfl) (GOk.cons zPc (zF Tryz.func57 rfl rfl) (GOk.cons zKs (zF Tryz.func58 rfl rfl) (GOk.cons zSy (zF Tryz.func59 rfl rfl) (GOk.cons zQ7 (zF Tryz.func60 rfl rfl) (GOk.cons zF6 (zF Tryz.func61 rfl rfl) (GOk.cons zSx (zF Tryz.func62 rfl rfl) (GOk.cons zQ4 (zF Tryz.func63 rfl rfl) GOk.nil)))))))))) zr Tryz.func32 rfl Tryz.ntmps32 Tryz.results32 8 ?_;intro W hW;replace hW:SmallW W:=hW;refine⟨by simp,?_⟩;simp[go_sem,zHr,zVv,zS3,hW.n,hW.hn,hW.sn,hW.pn];refine⟨fun h hS=>?_,fun hR hN hC=>?_⟩
 ·rcases h with(h | h) | ⟨x,hx,h⟩
  ·exact h hS.right
  ·exact h hS.zc3
  ·exact h (hS.lines x hx)
 have jA:W.sn<=8:=hN.2.2.1;have iA:W.pn<=20:=hN.2.2.2.1;refine yF (fun k:Nat=>⟨[(1,true,.m false [.p 1 0]),(3,true,.i k)],[(1,.var ((woL W).map Tr.cv))]⟩) (fun k=>W.pn - k) (fun k=>k<=W.pn/\∀i,i<k->qT W.pool (W.zcy i).rs (W.zcy i).rb) 0 (by simp[go_sem]) (by simp) ?_;rintro k ⟨hk,eA⟩;simp[go_sem,qN (show k<=1000000000 by omega),zTB,hR];refine⟨fun hl=>⟨hl,by kernel_rfl,fun h hS=>h (hS.zcy k hl),fun h=>⟨k+1,⟨by omega,yE hl eA h⟩,by omega,rfl⟩⟩,fun hl=>?_⟩;cases (show k=W.pn by omega);have dA:zIR W:=⟨hR,hN,eA⟩;refine yF (fun k:Nat=>⟨[(1,true,.m false [.p 1 0]),(4,true,.i k)],[(1,.var ((woL W).map Tr.cv))]⟩) (fun k=>W.sn - k) (fun k=>k<=W.sn/\∀i,i<k->qT W.pool (W.zc1 i).rs (W.zc1 i).rb/\zEa W (W.pn+i)) 0 (by simp[go_sem]) (by simp) ?_;rintro k ⟨hk,aA⟩;simp[go_sem,qN (show k<=1000000000 by omega),zTB,zRF,hR,dA,<-zbV];refine⟨fun hl=>⟨hl,fun _=>hl,fun h=>⟨h,hW.sd k hl⟩,by kernel_rfl,fun h hS=>?_,fun h1 h2=>⟨k+1,⟨by omega,yE hl aA ⟨h1,h2⟩⟩,by omega,rfl⟩⟩,fun hl=>?_⟩
 ·exact h.elim (fun h=>h (hS.zc1 k hl).1) (fun h=>h (hS.zc1 k hl).2)
 cases (show k=W.sn by omega);have fA:zI8 W:=⟨dA,fun i hi=>(aA i hi).1⟩;refine yF (fun k:Nat=>⟨[(1,true,.m false [.p 1 0]),(5,true,.i k)],[(1,.var ((woL W).map Tr.cv))]⟩) (fun k=>W.pn - k) (fun k=>k<=W.pn/\∀i,i<k->zEa W i) 0 (by simp[go_sem]) (by simp) ?_;rintro k ⟨hk,bA⟩;by_cases hl:k<W.pn
 ·have hT:=eA k hl;have hd:=hW.pd k hl;simp[go_sem,qN (show k<=1000000000 by omega),zRF,dA,hl,hT,hd,<-zbU hl];refine⟨by kernel_rfl,fun h hS=>h (hS.dead k hl),fun h=>⟨k+1,⟨by omega,yE hl bA h⟩,by omega,rfl⟩⟩
 simp[go_sem,qN (show k<=1000000000 by omega),hl,zVy,fA];cases (show k=W.pn by omega);refine yF (fun k:Nat=>⟨[(1,true,.m false [.p 1 0]),(6,true,.m false [.h 61]),(7,true,.i k)],[(61,.row 1 W.pool.n (zCP (zKC W))),(1,.var ((woL W).map Tr.cv))]⟩) (fun k=>W.pool.n - k) (fun k=>k<=W.pool.n/\∀i,i<k->(zJq W i↔(¬zAA (W.pool.s i)/\¬Has W.pool.hn W.pool.h i))) 0 (by simp[go_sem]) (by simp) ?_;rintro k ⟨hk,cA⟩;have gA:W.pool.n<=200:=hR.1;simp[go_sem,qN (show k<=1000000000 by omega),zFM,zHq,zVs,zVr,fA,dA,hW.hn];have hq:zKC W k=(!dB (zAA (W.pool.s k)) && !dB (Has W.pool.hn W.pool.h (k:Int)))↔(zJq W k↔(¬zAA (W.pool.s k)/\¬Has W.pool.hn W.pool.h k)):=by
  unfold zKC;by_cases h1:zJq W k<;>by_cases h2:zAA (W.pool.s k)<;>by_cases h3:Has W.pool.hn W.pool.h (k:Int)<;>simp[dB,h1,h2,h3]
 rw[hq];refine⟨fun hl=>⟨hl,by kernel_rfl,fun h hS=>h (hS.reach k hl),fun h=>⟨k+1,⟨by omega,yE hl cA h⟩,by omega,rfl⟩⟩,fun hl=>⟨fA.zc1,fun h=>?_,fun hS=>⟨hS.born,hS.zc7⟩⟩⟩;cases (show k=W.pool.n by omega);exact⟨hR,hN,hC,eA,aA,bA,cA,h.1,h.2⟩
def zTl(f:Nat->zAV)(cv:Nat->Value)(i r:Nat):Value:=
 match r with
 | 0=>.string (f i).name
 | 1=>.int .i64 (f i).origin
 | 2=>.int .i64 (f i).zc2
 | 3=>.int .i64 (f i).rs
 | 4=>.int .i64 (f i).rb
 | _=>cv i
def zG9(f:Nat->zAV)(cv:Nat->Value)(n:Nat):List Value:=(List.range (n*6)).map fun j=>zTl f cv (j / 6) (j % 6)
theorem zHh(f:Nat->zAV)(cv:Nat->Value)(n:Nat):(zG9 f cv n).length=n*6:=by simp[zG9]
theorem zFD(f:Nat->zAV)(cv:Nat->Value)(n:Nat){i r:Nat}(hi:i<n)(hr:r<6):(zG9 f cv n)[i*6+r]?=some (zTl f cv i r):=by
 have h:i*6+r<n*6:=by omega
 have h1:(i*6+r) / 6=i:=by omega
 have h2:(i*6+r) % 6=r:=by omega
 simp[zG9,h,h1,h2]
theorem zJy(f:Nat->zAV)(cv:Nat->Value)(n:Nat)(h:∀i,i<n->(cv i).oneCell'=true):∀u∈zG9 f cv n,u.oneCell'=true:=by
 intro u hu;unfold zG9 at hu;obtain⟨j,hj,rfl⟩:=List.mem_map.1 hu;have aA:=List.mem_range.1 hj;have hi:j / 6<n:=by omega
 have hr:j % 6<6:=by omega
 generalize j % 6=r at hr ⊢;rcases r with _ | _ | _ | _ | _ | _<;>first | rfl | exact h _ hi
def zC6(w:World)(b o:Nat)(s:zAV)(vd:Value):Prop:=zo w b o (.string s.name)/\zo w b (o+1) (.int .i64 s.origin)/\zo w b (o+2) (.int .i64 s.zc2)/\zo w b (o+3) (.int .i64 s.rs)/\zo w b (o+4) (.int .i64 s.rb)/\zo w b (o+5) vd
theorem zC6.zcx{S:Nat->Prop}{w w':World}{b o:Nat}{s:zAV}{vd:Value}(h:zC6 w b o s vd)(t:zJ S w w')(hs:¬S b):zC6 w' b o s vd:=by
 obtain⟨h0,h1,h2,h3,h4,h5⟩:=h;exact⟨h0.zcx t hs,h1.zcx t hs,h2.zcx t hs,h3.zcx t hs,h4.zcx t hs,h5.zcx t hs⟩
theorem zC6.zcw{w w':World}{b o:Nat}{s:zAV}{vd:Value}(h:zC6 w b o s vd)(t:Below w.heap.size w w'):zC6 w' b o s vd:=
 h.zcx (zJ.of_below (S:=fun _=>False) t) (fun h=>h)
theorem zC6.set{w:World}{b o:Nat}{s:zAV}{vd:Value}(h:zC6 w b o s vd)(u:Value):zC6 (w.setCell ⟨b,o+5,none⟩ u) b o s u:=by
 obtain⟨h0,h1,h2,h3,h4,h5⟩:=h;exact⟨h0.other _ (Or.inr (by omega)),h1.other _ (Or.inr (by omega)),h2.other _ (Or.inr (by omega)),h3.other _ (Or.inr (by omega)),h4.other _ (Or.inr (by omega)),h5.set _⟩
theorem zC6.other{w:World}{b o o':Nat}{s:zAV}{vd:Value}(h:zC6 w b o s vd)(u:Value)(aA:∀r,r<6->o'≠o+r):zC6 (w.setCell ⟨b,o',none⟩ u) b o s vd:=by
 obtain⟨h0,h1,h2,h3,h4,h5⟩:=h;exact⟨h0.other _ (Or.inr (aA 0 (by omega))),h1.other _ (Or.inr (aA 1 (by omega))),h2.other _ (Or.inr (aA 2 (by omega))),h3.other _ (Or.inr (aA 3 (by omega))),h4.other _ (Or.inr (aA 4 (by omega))),h5.other _ (Or.inr (aA 5 (by omega)))⟩
structure zBb (wr:World) (bs L n k:Nat) (f:Nat->zAV) (kb:Nat->Nat) (kv cv:Nat->Value):Prop where
 zc8:∀j,j<n->zC6 wr bs (j*6) (f j) (if j<k then kv j else cv j)
 dead:∀j,j<k->zAc wr (kb j) (kv j) (f j).dn (f j).ds (f j).db
 zc6:∀j,j<k->0<(f j).dn->L<=kb j/\kb j<wr.heap.size
 zc7:zNv kb k f
 lt:0<n->bs<L
theorem zBb.zcw{wr w':World}{bs L n k:Nat}{f:Nat->zAV}{kb:Nat->Nat}{kv cv:Nat->Value}(h:zBb wr bs L n k f kb kv cv)(t:Below wr.heap.size wr w'):zBb w' bs L n k f kb kv cv:=
 ⟨fun j hj=>(h.zc8 j hj).zcw t,fun j hj=>(h.dead j hj).zcw t,fun j hj h0=>by have:=h.zc6 j hj h0;have:=t.size;omega,h.zc7,h.lt⟩
theorem zBb.zcx{S:Nat->Prop}{wr w':World}{bs L n k:Nat}{f:Nat->zAV}{kb:Nat->Nat}{kv cv:Nat->Value}(h:zBb wr bs L n k f kb kv cv)(t:zJ S wr w')(hs:∀q,S q->(0<n->q≠bs)/\q<L)(hk:k<=n):zBb w' bs L n k f kb kv cv:=
 ⟨fun j hj=>(h.zc8 j hj).zcx t (fun e=>(hs _ e).1 (by omega) rfl),fun j hj=>(h.dead j hj).zcx t (fun h0 e=>by have:=h.zc6 j hj h0;have:=(hs _ e).2;omega),fun j hj h0=>by have:=h.zc6 j hj h0;have:=t.size;omega,h.zc7,h.lt⟩
theorem zBb.next{wr w1:World}{bs L n k b:Nat}{f:Nat->zAV}{kb:Nat->Nat}{kv cv:Nat->Value}{v:Value}(h:zBb wr bs L n k f kb kv cv)(hk:k<n)(hL:L<=wr.heap.size)(t:Below wr.heap.size wr w1)
  (hp:zAc w1 b v (f k).dn (f k).ds (f k).db) (hb:0<(f k).dn->wr.heap.size<=b/\b<w1.heap.size) :
  zBb (w1.setCell ⟨bs,k*6+5,none⟩ v) bs L n (k+1) f (fun j=>if j=k then b else kb j) (fun j=>if j=k then v else kv j) cv:=by
 have h':=h.zcw t;have bA:=h.lt (by omega);refine⟨fun j hj=>?_,fun j hj=>?_,fun j hj h0=>?_,fun i j hi hj aA h1 h2=>?_,h.lt⟩
 ·have hh:=h'.zc8 j hj;by_cases e:j=k
  ·subst e;rw[if_pos (by omega),if_pos rfl];exact hh.set v
  ·rw[if_neg e];have es:(if j<k+1 then kv j else cv j)=if j<k then kv j else cv j:=by
    by_cases e2:j<k
    ·rw[if_pos e2,if_pos (by omega)]
    ·rw[if_neg e2,if_neg (by omega)]
   rw[es];exact hh.other v (fun r hr=>by omega)
 ·by_cases e:j=k
  ·subst e;simp only[if_true];exact hp.zcx (zJ.put _ _ _ _) (fun h0 hx=>by have:=hb h0;omega)
  ·simp only[if_neg e];exact(h'.dead j (by omega)).zcx (zJ.put _ _ _ _) (fun h0 hx=>by have:=h'.zc6 j (by omega) h0;omega)
 ·simp only[World.size_setCell];by_cases e:j=k
  ·subst e;rw[if_pos rfl];have:=hb h0;omega
  ·rw[if_neg e];have:=h'.zc6 j (by omega) h0;omega
 ·show(if i=k then b else kb i)≠(if j=k then b else kb j);by_cases e1:i=k
  ·by_cases e2:j=k
   ·omega
   ·rw[if_pos e1,if_neg e2];subst e1;have:=hb h1;have:=h.zc6 j (by omega) h2;omega
  ·by_cases e2:j=k
   ·rw[if_neg e1,if_pos e2];subst e2;have:=hb h2;have:=h.zc6 i (by omega) h1;omega
   ·rw[if_neg e1,if_neg e2];exact h.zc7 i j (by omega) (by omega) aA h1 h2
theorem zBb.own{wr:World}{bs L n c:Nat}{f:Nat->zAV}{kb:Nat->Nat}{kv cv:Nat->Value}{a:Option Addr}(h:zBb wr bs L n n f kb kv cv)(hm:n<=maxLen)(ha:0<n->a=some ⟨bs,0,none⟩)(hc:n<=c)(hs:∀i,i<n->(f i).name.size<=maxLen):zEH wr bs kb kv (.slice a n c) n f:=
 ⟨hm,a,c,rfl,hc,fun h0=>⟨0,ha h0,fun i hi=>by
  obtain⟨h0,h1,h2,h3,h4,h5⟩:=h.zc8 i hi;rw[if_pos hi]at h5;rw[Nat.zero_add];exact⟨h0,h1,h2,h3,h4,h5,h.dead i hi,hs i hi,fun hk e=>by have:=h.zc6 i hi hk;have:=h.lt (by omega);omega⟩⟩⟩
theorem zBb.turned0{S:Nat->Prop}{wr w':World}{bs L n:Nat}{f:Nat->zAV}{kb:Nat->Nat}{kv cv:Nat->Value}(h:zBb wr bs L n 0 f kb kv cv)(t:zJ S wr w')(hs:∀q,S q->0<n->q≠bs):zBb w' bs L n 0 f kb kv cv:=
 ⟨fun j hj=>(h.zc8 j hj).zcx t (fun e=>hs _ e (by omega) rfl),fun j hj=>absurd hj (Nat.not_lt_zero _),fun j hj=>absurd hj (Nat.not_lt_zero _),h.zc7,h.lt⟩
theorem zBb.weak{wr:World}{bs L L' n:Nat}{f:Nat->zAV}{kb:Nat->Nat}{kv cv:Nat->Value}(h:zBb wr bs L n 0 f kb kv cv)(hL:L<=L'):zBb wr bs L' n 0 f kb kv cv:=
 ⟨h.zc8,h.dead,fun j hj=>absurd hj (Nat.not_lt_zero _),h.zc7,fun h0=>Nat.lt_of_lt_of_le (h.lt h0) hL⟩
theorem zCl.values{w:World}{lo hi:Nat}{a:Option Addr}{n c:Nat}{f:Nat->zAV}(h:zCl w lo hi (.slice a n c) n f) :
  ∃cv:Nat->Value,(∀i,i<n->qo w lo hi (cv i) (f i).dn (f i).ds (f i).db/\(f i).name.size<=maxLen)/\
   (0<n->∃b off,a=some ⟨b,off,none⟩/\∀j u,(zG9 f cv n)[j]?=some u->w.cell? ⟨b,off+j,none⟩=some u):=by
 obtain⟨_,a0,c0,h0,_,g⟩:=h;simp only[Value.slice.injEq,true_and]at h0;obtain⟨rfl,rfl⟩:=h0;by_cases hn:0<n
 ·obtain⟨b,off,ha,cA,dA,hc⟩:=g hn;have bA:∀i,∃x,i<n->zDd w b (off+i*6) lo hi x (f i):=fun i=>by
   by_cases hi:i<n
   ·obtain⟨vd,hs⟩:=hc i hi;exact⟨vd,fun _=>hs⟩
   ·exact⟨.slice none 0 0,fun h=>absurd h hi⟩
  obtain⟨cv,aA⟩:=Classical.axiomOfChoice bA;refine⟨cv,fun i hi=>⟨(aA i hi).dead,(aA i hi).zc5⟩,fun _=>⟨b,off,ha,fun j u hj=>?_⟩⟩;have eA:j<n*6:=by
   have:=(List.getElem?_eq_some_iff.1 hj).1
   rwa [zHh]at this
  have hs:=aA (j / 6) (by omega);have e:=zFD f cv n (i:=j / 6) (r:=j % 6) (by omega) (by omega);rw[show j / 6*6+j % 6=j by omega,hj]at e;have hr:j % 6<6:=(by omega);have ho:off+j=off+j / 6*6+j % 6:=(by omega);rw[ho];generalize j % 6=r at hr e ⊢;generalize j / 6=q at hs e ⊢;rcases r with _ | _ | _ | _ | _ | _ | r
  ·cases e;exact hs.c0
  ·cases e;exact hs.c1
  ·cases e;exact hs.c2
  ·cases e;exact hs.c3
  ·cases e;exact hs.c4
  ·cases e;exact hs.c5
  ·omega
 ·exact⟨fun _=>.slice none 0 0,fun i hi=>absurd hi (by omega),fun h=>absurd h hn⟩
theorem zFt{w1:World}{base n:Nat}{v:Value}{f:Nat->zAV}{cv:Nat->Value}(bA:w1.ownsRow base 72 6 v n (zG9 f cv n))(L:Nat)(hL:w1.heap.size<=L):∃bs a c,v = .slice a n c/\n<=c/\(0<n->a=some ⟨bs,0,none⟩/\base<=bs/\bs<w1.heap.size)/\zBb w1 bs L n 0 f (fun _=>0) cv cv:=by
 obtain⟨a1,c1,rfl,cA⟩:=qj bA;by_cases h0:0<n
 ·obtain⟨g,cap,hv,_,dA,eA,aA⟩:=zDE bA h0;simp only[Value.slice.injEq,true_and]at hv;obtain⟨rfl,rfl⟩:=hv;refine⟨g,_,_,rfl,cA,fun _=>⟨rfl,dA,eA⟩,fun j hj=>?_,fun j hj=>absurd hj (Nat.not_lt_zero _),fun j hj=>absurd hj (Nat.not_lt_zero _),fun i j hi=>absurd hi (Nat.not_lt_zero _),fun _=>by omega⟩;rw[if_neg (Nat.not_lt_zero _)];exact⟨aA _ _ (zFD f cv n hj (r:=0) (by omega)),aA _ _ (zFD f cv n hj (r:=1) (by omega)),aA _ _ (zFD f cv n hj (r:=2) (by omega)),aA _ _ (zFD f cv n hj (r:=3) (by omega)),aA _ _ (zFD f cv n hj (r:=4) (by omega)),aA _ _ (zFD f cv n hj (r:=5) (by omega))⟩
 ·exact⟨0,_,_,rfl,cA,fun h=>absurd h h0,fun j hj=>absurd hj (by omega),fun j hj=>absurd hj (Nat.not_lt_zero _),fun j hj=>absurd hj (Nat.not_lt_zero _),fun i j hi=>absurd hi (Nat.not_lt_zero _),fun h=>absurd h h0⟩
def zQb(f:Nat->zz)(cv:Nat->Value)(i r:Nat):Value:=
 match r with
 | 0=>.int .i64 (f i).id
 | 1=>.string (f i).name
 | 2=>.string (f i).set
 | 3=>.int .i64 (f i).zc2
 | 4=>.int .i64 (f i).time
 | 5=>.int .i64 (f i).rs
 | 6=>.int .i64 (f i).rb
 | _=>cv i
def zEf(f:Nat->zz)(cv:Nat->Value)(n:Nat):List Value:=(List.range (n*8)).map fun j=>zQb f cv (j / 8) (j % 8)
theorem zFE(f:Nat->zz)(cv:Nat->Value)(n:Nat):(zEf f cv n).length=n*8:=by simp[zEf]
theorem zC9(f:Nat->zz)(cv:Nat->Value)(n:Nat){i r:Nat}(hi:i<n)(hr:r<8):(zEf f cv n)[i*8+r]?=some (zQb f cv i r):=by
 have h:i*8+r<n*8:=by omega
 have h1:(i*8+r) / 8=i:=by omega
 have h2:(i*8+r) % 8=r:=by omega
 simp[zEf,h,h1,h2]
theorem zGW(f:Nat->zz)(cv:Nat->Value)(n:Nat)(h:∀i,i<n->(cv i).oneCell'=true):∀u∈zEf f cv n,u.oneCell'=true:=by
 intro u hu;unfold zEf at hu;obtain⟨j,hj,rfl⟩:=List.mem_map.1 hu;have aA:=List.mem_range.1 hj;have hi:j / 8<n:=by omega
 have hr:j % 8<8:=by omega
 generalize j % 8=r at hr ⊢;rcases r with _ | _ | _ | _ | _ | _ | _ | _<;>first | rfl | exact h _ hi
def zCO(w:World)(b o:Nat)(s:zz)(vd:Value):Prop:=zo w b o (.int .i64 s.id)/\zo w b (o+1) (.string s.name)/\zo w b (o+2) (.string s.set)/\zo w b (o+3) (.int .i64 s.zc2)/\zo w b (o+4) (.int .i64 s.time)/\zo w b (o+5) (.int .i64 s.rs)/\zo w b (o+6) (.int .i64 s.rb)/\zo w b (o+7) vd
theorem zCO.zcx{S:Nat->Prop}{w w':World}{b o:Nat}{s:zz}{vd:Value}(h:zCO w b o s vd)(t:zJ S w w')(hs:¬S b):zCO w' b o s vd:=by
 obtain⟨h0,h1,h2,h3,h4,h5,h6,h7⟩:=h;exact⟨h0.zcx t hs,h1.zcx t hs,h2.zcx t hs,h3.zcx t hs,h4.zcx t hs,h5.zcx t hs,h6.zcx t hs,h7.zcx t hs⟩
theorem zCO.zcw{w w':World}{b o:Nat}{s:zz}{vd:Value}(h:zCO w b o s vd)(t:Below w.heap.size w w'):zCO w' b o s vd:=
 h.zcx (zJ.of_below (S:=fun _=>False) t) (fun h=>h)
theorem zCO.set{w:World}{b o:Nat}{s:zz}{vd:Value}(h:zCO w b o s vd)(u:Value):zCO (w.setCell ⟨b,o+7,none⟩ u) b o s u:=by
 obtain⟨h0,h1,h2,h3,h4,h5,h6,h7⟩:=h;exact⟨h0.other _ (Or.inr (by omega)),h1.other _ (Or.inr (by omega)),h2.other _ (Or.inr (by omega)),h3.other _ (Or.inr (by omega)),h4.other _ (Or.inr (by omega)),h5.other _ (Or.inr (by omega)),h6.other _ (Or.inr (by omega)),h7.set _⟩
theorem zCO.other{w:World}{b o o':Nat}{s:zz}{vd:Value}(h:zCO w b o s vd)(u:Value)(aA:∀r,r<8->o'≠o+r):zCO (w.setCell ⟨b,o',none⟩ u) b o s vd:=by
 obtain⟨h0,h1,h2,h3,h4,h5,h6,h7⟩:=h;exact⟨h0.other _ (Or.inr (aA 0 (by omega))),h1.other _ (Or.inr (aA 1 (by omega))),h2.other _ (Or.inr (aA 2 (by omega))),h3.other _ (Or.inr (aA 3 (by omega))),h4.other _ (Or.inr (aA 4 (by omega))),h5.other _ (Or.inr (aA 5 (by omega))),h6.other _ (Or.inr (aA 6 (by omega))),h7.other _ (Or.inr (aA 7 (by omega)))⟩
structure zAq (wr:World) (bs L n k:Nat) (f:Nat->zz) (kb:Nat->Nat) (kv cv:Nat->Value):Prop where
 zc8:∀j,j<n->zCO wr bs (j*8) (f j) (if j<k then kv j else cv j)
 dead:∀j,j<k->zAc wr (kb j) (kv j) (f j).dn (f j).ds (f j).db
 zc6:∀j,j<k->0<(f j).dn->L<=kb j/\kb j<wr.heap.size
 zc7:zLe kb k f
 lt:0<n->bs<L
theorem zAq.zcw{wr w':World}{bs L n k:Nat}{f:Nat->zz}{kb:Nat->Nat}{kv cv:Nat->Value}(h:zAq wr bs L n k f kb kv cv)(t:Below wr.heap.size wr w'):zAq w' bs L n k f kb kv cv:=
 ⟨fun j hj=>(h.zc8 j hj).zcw t,fun j hj=>(h.dead j hj).zcw t,fun j hj h0=>by have:=h.zc6 j hj h0;have:=t.size;omega,h.zc7,h.lt⟩
theorem zAq.zcx{S:Nat->Prop}{wr w':World}{bs L n k:Nat}{f:Nat->zz}{kb:Nat->Nat}{kv cv:Nat->Value}(h:zAq wr bs L n k f kb kv cv)(t:zJ S wr w')(hs:∀q,S q->(0<n->q≠bs)/\q<L)(hk:k<=n):zAq w' bs L n k f kb kv cv:=
 ⟨fun j hj=>(h.zc8 j hj).zcx t (fun e=>(hs _ e).1 (by omega) rfl),fun j hj=>(h.dead j hj).zcx t (fun h0 e=>by have:=h.zc6 j hj h0;have:=(hs _ e).2;omega),fun j hj h0=>by have:=h.zc6 j hj h0;have:=t.size;omega,h.zc7,h.lt⟩
theorem zAq.next{wr w1:World}{bs L n k b:Nat}{f:Nat->zz}{kb:Nat->Nat}{kv cv:Nat->Value}{v:Value}(h:zAq wr bs L n k f kb kv cv)(hk:k<n)(hL:L<=wr.heap.size)(t:Below wr.heap.size wr w1)
  (hp:zAc w1 b v (f k).dn (f k).ds (f k).db) (hb:0<(f k).dn->wr.heap.size<=b/\b<w1.heap.size) :
  zAq (w1.setCell ⟨bs,k*8+7,none⟩ v) bs L n (k+1) f (fun j=>if j=k then b else kb j) (fun j=>if j=k then v else kv j) cv:=by
 have h':=h.zcw t;have bA:=h.lt (by omega);refine⟨fun j hj=>?_,fun j hj=>?_,fun j hj h0=>?_,fun i j hi hj aA h1 h2=>?_,h.lt⟩
 ·have hh:=h'.zc8 j hj;by_cases e:j=k
  ·subst e;rw[if_pos (by omega),if_pos rfl];exact hh.set v
  ·rw[if_neg e];have es:(if j<k+1 then kv j else cv j)=if j<k then kv j else cv j:=by
    by_cases e2:j<k
    ·rw[if_pos e2,if_pos (by omega)]
    ·rw[if_neg e2,if_neg (by omega)]
   rw[es];exact hh.other v (fun r hr=>by omega)
 ·by_cases e:j=k
  ·subst e;simp only[if_true];exact hp.zcx (zJ.put _ _ _ _) (fun h0 hx=>by have:=hb h0;omega)
  ·simp only[if_neg e];exact(h'.dead j (by omega)).zcx (zJ.put _ _ _ _) (fun h0 hx=>by have:=h'.zc6 j (by omega) h0;omega)
 ·simp only[World.size_setCell];by_cases e:j=k
  ·subst e;rw[if_pos rfl];have:=hb h0;omega
  ·rw[if_neg e];have:=h'.zc6 j (by omega) h0;omega
 ·show(if i=k then b else kb i)≠(if j=k then b else kb j);by_cases e1:i=k
  ·by_cases e2:j=k
   ·omega
   ·rw[if_pos e1,if_neg e2];subst e1;have:=hb h1;have:=h.zc6 j (by omega) h2;omega
  ·by_cases e2:j=k
   ·rw[if_neg e1,if_pos e2];subst e2;have:=hb h2;have:=h.zc6 i (by omega) h1;omega
   ·rw[if_neg e1,if_neg e2];exact h.zc7 i j (by omega) (by omega) aA h1 h2
theorem zAq.own{wr:World}{bs L n c:Nat}{f:Nat->zz}{kb:Nat->Nat}{kv cv:Nat->Value}{a:Option Addr}(h:zAq wr bs L n n f kb kv cv)(hm:n<=maxLen)(ha:0<n->a=some ⟨bs,0,none⟩)(hc:n<=c)(hs:∀i,i<n->((f i).name.size<=maxLen/\(f i).set.size<=maxLen)):zDI wr bs kb kv (.slice a n c) n f:=
 ⟨hm,a,c,rfl,hc,fun h0=>⟨0,ha h0,fun i hi=>by
  obtain⟨h0,h1,h2,h3,h4,h5,h6,h7⟩:=h.zc8 i hi;rw[if_pos hi]at h7;rw[Nat.zero_add];exact⟨h0,h1,h2,h3,h4,h5,h6,h7,h.dead i hi,hs i hi,fun hk e=>by have:=h.zc6 i hi hk;have:=h.lt (by omega);omega⟩⟩⟩
theorem zAq.turned0{S:Nat->Prop}{wr w':World}{bs L n:Nat}{f:Nat->zz}{kb:Nat->Nat}{kv cv:Nat->Value}(h:zAq wr bs L n 0 f kb kv cv)(t:zJ S wr w')(hs:∀q,S q->0<n->q≠bs):zAq w' bs L n 0 f kb kv cv:=
 ⟨fun j hj=>(h.zc8 j hj).zcx t (fun e=>hs _ e (by omega) rfl),fun j hj=>absurd hj (Nat.not_lt_zero _),fun j hj=>absurd hj (Nat.not_lt_zero _),h.zc7,h.lt⟩
theorem zAq.weak{wr:World}{bs L L' n:Nat}{f:Nat->zz}{kb:Nat->Nat}{kv cv:Nat->Value}(h:zAq wr bs L n 0 f kb kv cv)(hL:L<=L'):zAq wr bs L' n 0 f kb kv cv:=
 ⟨h.zc8,h.dead,fun j hj=>absurd hj (Nat.not_lt_zero _),h.zc7,fun h0=>Nat.lt_of_lt_of_le (h.lt h0) hL⟩
theorem zBq.values{w:World}{lo hi:Nat}{a:Option Addr}{n c:Nat}{f:Nat->zz}(h:zBq w lo hi (.slice a n c) n f) :
  ∃cv:Nat->Value,(∀i,i<n->qo w lo hi (cv i) (f i).dn (f i).ds (f i).db/\((f i).name.size<=maxLen/\(f i).set.size<=maxLen))/\
   (0<n->∃b off,a=some ⟨b,off,none⟩/\∀j u,(zEf f cv n)[j]?=some u->w.cell? ⟨b,off+j,none⟩=some u):=by
 obtain⟨_,a0,c0,h0,_,g⟩:=h;simp only[Value.slice.injEq,true_and]at h0;obtain⟨rfl,rfl⟩:=h0;by_cases hn:0<n
 ·obtain⟨b,off,ha,cA,dA,hc⟩:=g hn;have bA:∀i,∃x,i<n->zC7 w b (off+i*8) lo hi x (f i):=fun i=>by
   by_cases hi:i<n
   ·obtain⟨vd,hs⟩:=hc i hi;exact⟨vd,fun _=>hs⟩
   ·exact⟨.slice none 0 0,fun h=>absurd h hi⟩
  obtain⟨cv,aA⟩:=Classical.axiomOfChoice bA;refine⟨cv,fun i hi=>⟨(aA i hi).dead,(aA i hi).zc5⟩,fun _=>⟨b,off,ha,fun j u hj=>?_⟩⟩;have eA:j<n*8:=by
   have:=(List.getElem?_eq_some_iff.1 hj).1
   rwa [zFE]at this
  have hs:=aA (j / 8) (by omega);have e:=zC9 f cv n (i:=j / 8) (r:=j % 8) (by omega) (by omega);rw[show j / 8*8+j % 8=j by omega,hj]at e;have hr:j % 8<8:=(by omega);have ho:off+j=off+j / 8*8+j % 8:=(by omega);rw[ho];generalize j % 8=r at hr e ⊢;generalize j / 8=q at hs e ⊢;rcases r with _ | _ | _ | _ | _ | _ | _ | _ | r
  ·cases e;exact hs.c0
  ·cases e;exact hs.c1
  ·cases e;exact hs.c2
  ·cases e;exact hs.c3
  ·cases e;exact hs.c4
  ·cases e;exact hs.c5
  ·cases e;exact hs.c6
  ·cases e;exact hs.c7
  ·omega
 ·exact⟨fun _=>.slice none 0 0,fun i hi=>absurd hi (by omega),fun h=>absurd h hn⟩
theorem zDh{w1:World}{base n:Nat}{v:Value}{f:Nat->zz}{cv:Nat->Value}(bA:w1.ownsRow base 75 8 v n (zEf f cv n))(L:Nat)(hL:w1.heap.size<=L):∃bs a c,v = .slice a n c/\n<=c/\(0<n->a=some ⟨bs,0,none⟩/\base<=bs/\bs<w1.heap.size)/\zAq w1 bs L n 0 f (fun _=>0) cv cv:=by
 obtain⟨a1,c1,rfl,cA⟩:=qj bA;by_cases h0:0<n
 ·obtain⟨g,cap,hv,_,dA,eA,aA⟩:=zDE bA h0;simp only[Value.slice.injEq,true_and]at hv;obtain⟨rfl,rfl⟩:=hv;refine⟨g,_,_,rfl,cA,fun _=>⟨rfl,dA,eA⟩,fun j hj=>?_,fun j hj=>absurd hj (Nat.not_lt_zero _),fun j hj=>absurd hj (Nat.not_lt_zero _),fun i j hi=>absurd hi (Nat.not_lt_zero _),fun _=>by omega⟩;rw[if_neg (Nat.not_lt_zero _)];exact⟨aA _ _ (zC9 f cv n hj (r:=0) (by omega)),aA _ _ (zC9 f cv n hj (r:=1) (by omega)),aA _ _ (zC9 f cv n hj (r:=2) (by omega)),aA _ _ (zC9 f cv n hj (r:=3) (by omega)),aA _ _ (zC9 f cv n hj (r:=4) (by omega)),aA _ _ (zC9 f cv n hj (r:=5) (by omega)),aA _ _ (zC9 f cv n hj (r:=6) (by omega)),aA _ _ (zC9 f cv n hj (r:=7) (by omega))⟩
 ·exact⟨0,_,_,rfl,cA,fun h=>absurd h h0,fun j hj=>absurd hj (by omega),fun j hj=>absurd hj (Nat.not_lt_zero _),fun j hj=>absurd hj (Nat.not_lt_zero _),fun i j hi=>absurd hi (Nat.not_lt_zero _),fun h=>absurd h h0⟩
def zGQ(W:zB):Prop:=(∀i,i<W.sn->(W.zc1 i).dn<=1048576)/\∀i,i<W.pn->(W.zcy i).dn<=1048576
open Go.Maps
def zEu(v:Value):Option (DataW Value×List MemPlace):=some (.held v,[])
theorem zHV{v:Value}{d:DataW Value}{ps:List MemPlace}(h:zEu v=some (d,ps)):d = .held v:=by
 unfold zEu at h;simp only[Option.some.injEq,Prod.mk.injEq]at h;exact h.1.symm
theorem zEL(v:Value):zEu v=some (.held v,[]):=rfl
theorem zJn{P:Program}(w:World){dA:Array Oper}{rest:List Oper}{o:Oper}{a:Act}{Q:Exit->Act->World->Prop}
  (hg:o.guard=none) (m x:Operand) (t:TypeId) (hop:o.op=Op.lookup t m x false)
  (k e:TypeId) (K:Keyed P k) (ht:P.underlying t=some (.map k e)) {z:Value} (hz:(zeroValue e).run P w = .ok z w) (b n:Nat) (D:DataW Value)
  (hm:a.eval m = .map (some b)) (bA:w.ownsMap P k zEu b n D) (key:Value) (kl:Lit) (hx:a.eval x=key) (aA:keyOf P k key=some kl)
  (v:Value) (fA:D.atKey kl (.held z) = .held v) (hK:wpList P dA Q rest (a.put o.dst v) w) :
  wpList P dA Q (o :: rest) a w:=by
 refine wpList_plain hg fun K' eA=>?_
 obtain⟨v',ps,cA,hv⟩:=bA.lookup K ht hz (zEL z) aA;have e1:=zHV hv;rw[fA]at e1;injection e1 with e1;subst e1;unfold Oper.wp;simp[execOp,hop,hm,hx,cA,Result.andThen];exact eA _ _ hK
theorem zEY{P:Program}(w:World){cA:Array Oper}{rest:List Oper}{o:Oper}{a:Act}{Q:Exit->Act->World->Prop}
  (hg:o.guard=none) (m x:Operand) (t:TypeId) (hop:o.op=Op.lookup t m x true)
  (k e:TypeId) (K:Keyed P k) (ht:P.underlying t=some (.map k e)) {z:Value} (hz:(zeroValue e).run P w = .ok z w) (b n:Nat) (D:DataW Value)
  (hm:a.eval m = .map (some b)) (bA:w.ownsMap P k zEu b n D) (key:Value) (kl:Lit) (hx:a.eval x=key) (aA:keyOf P k key=some kl)
  (v:Value) (dA:D.atKey kl (.held z) = .held v) (c:Bool) (hc:Maps.has D kl=c) (hK:wpList P cA Q rest (a.put o.dst (.tuple #[v,.bool c])) w) :
  wpList P cA Q (o :: rest) a w:=by
 refine wpList_lookup_own_ok w hg m x t hop k e K ht zEu hz (.held z) [] (zEL z) b n D hm bA key kl hx aA (fun v' ps hv=>?_);have e1:=zHV hv;rw[dA]at e1;injection e1 with e1;subst e1;rw[hc];exact hK
def putD(key:Nat->Lit)(val:Nat->Value):Nat->DataW Value
 | 0=>.map []
 | k+1=>(putD key val k).put (key k) (.held (val k))
def zGR(key:Nat->Lit):Prop:=∀i,WideAt.IsKeyLit (key i)
theorem zE3{key:Nat->Lit}(hk:zGR key)(val:Nat->Value):∀k,Tidy (putD key val k)
 | 0=>tidy_empty
 | k+1=>(zE3 hk val k).put (hk k) _
theorem zHU{key:Nat->Lit}(hk:zGR key)(val:Nat->Value)(l:Lit):∀k,Maps.has (putD key val k) l=true↔∃i,i<k/\key i=l
 | 0=>by
  constructor
  ·intro h;exact absurd h (by simp[putD,Maps.has])
  ·rintro⟨i,hi,_⟩;omega
 | k+1=>by
  by_cases hx:key k=l
  ·subst hx;exact⟨fun _=>⟨k,by omega,rfl⟩,fun _=>has_put_same (zE3 hk val k).isMap (hk k) _⟩
  ·rw[show Maps.has (putD key val (k+1)) l=Maps.has (putD key val k) l from has_put_other (Ne.symm hx) _,zHU hk val l k];constructor
   ·rintro⟨i,hi,e⟩;exact⟨i,by omega,e⟩
   ·rintro⟨i,hi,e⟩;by_cases h:i=k
    ·subst h;exact absurd e hx
    ·exact⟨i,by omega,e⟩
theorem zKA{key:Nat->Lit}(hk:zGR key)(val:Nat->Value){l:Lit}{k:Nat}(h:∀i,i<k->key i≠l)(z:DataW Value):(putD key val k).atKey l z=z:=by
 refine atKey_of_not_has ?_ _;rw[Bool.eq_false_iff];intro hh;obtain⟨i,hi,e⟩:=(zHU hk val l k).1 hh;exact h i hi e
theorem zP1{key:Nat->Lit}(hk:zGR key)(val:Nat->Value)(z:DataW Value):∀k i,i<k->(∀j,i<j->j<k->key j≠key i)->(putD key val k).atKey (key i) z = .held (val i)
 | 0,i,hi,_=>absurd hi (Nat.not_lt_zero _)
 | k+1,i,hi,hd=>by
  by_cases e:i=k
  ·subst e;exact atKey_put_same (zE3 hk val i).isMap (hk i) _ _
  ·exact(atKey_put_other (Ne.symm (hd k (by omega) (by omega))) _ _).trans (zP1 hk val z k i (by omega) (fun j h1 h2=>hd j h1 (by omega)))
def zIy(n:Nat)(key:Nat->Lit):Prop:=∀i,i<n->∀k,k<i->key k≠key i
theorem zIX{k:Nat}{f:Nat->Lit}:zIy (k+1) f↔zIy k f/\∀i,i<k->f i≠f k:=by
 constructor
 ·exact fun h=>⟨fun i hi=>h i (by omega),fun i hi=>h k (by omega) i hi⟩
 ·rintro⟨h1,h2⟩ i hi j hj;by_cases e:i=k
  ·subst e;exact h2 j hj
  ·exact h1 i (by omega) j hj
theorem zKB{key:Nat->Lit}(hk:zGR key)(val:Nat->Value):∀k,Maps.size (putD key val k)<=k/\(Maps.size (putD key val k)=k↔zIy k key)
 | 0=>⟨Nat.le_refl _,fun _ i hi=>by omega,fun _=>rfl⟩
 | k+1=>by
  obtain⟨h1,h2⟩:=zKB hk val k;have e:Maps.size (putD key val (k+1))=if Maps.has (putD key val k) (key k)then Maps.size (putD key val k)else Maps.size (putD key val k)+1:=size_put (zE3 hk val k) _
  by_cases hh:Maps.has (putD key val k) (key k)=true
  ·rw[if_pos hh]at e;rw[e,zIX];refine⟨by omega,fun h=>by omega,fun h=>?_⟩;obtain⟨i,hi,he⟩:=(zHU hk val (key k) k).1 hh;exact absurd he (h.2 i hi)
  ·rw[if_neg hh]at e;rw[e,zIX,<-h2];refine⟨by omega,fun h=>⟨by omega,fun i hi he=>hh ((zHU hk val (key k) k).2 ⟨i,hi,he⟩)⟩,fun h=>by omega⟩
theorem zHA(n:Int)(w:World):Calls Tryz.prog 113 #[.int .i64 n] w fun e w'=>zL (zHd n 1 900000) e/\w'=w:=by
 by_cases h1:1<=n
 ·by_cases h2:n<=900000
  ·go_enter Tryz.func113,Tryz.ntmps113;go_wp2;go_ret;exact⟨zL.yes ⟨h1,h2⟩,rfl⟩
  ·go_enter Tryz.func113,Tryz.ntmps113;go_wp2;go_ret;exact⟨zL.no fun h=>by have:=h.2;omega,rfl⟩
 ·go_enter Tryz.func113,Tryz.ntmps113;go_wp2;go_ret;exact⟨zL.no fun h=>by have:=h.1;omega,rfl⟩
def Mid(a x b:Int):Prop:=a<x/\x<b
theorem zKg(a x b:Int)(w:World):Calls Tryz.prog 139 #[.int .i64 a,.int .i64 x,.int .i64 b] w fun e w'=>zL (Mid a x b) e/\w'=w:=by
 by_cases h1:a<x
 ·by_cases h2:x<b
  ·go_enter Tryz.func139,Tryz.ntmps139;go_wp2;go_ret;exact⟨zL.yes ⟨h1,h2⟩,rfl⟩
  ·go_enter Tryz.func139,Tryz.ntmps139;go_wp2;go_ret;exact⟨zL.no fun h=>by have:=h.2;omega,rfl⟩
 ·go_enter Tryz.func139,Tryz.ntmps139;go_wp2;go_ret;exact⟨zL.no fun h=>by have:=h.1;omega,rfl⟩
def zHK(f:Nat->zAV):Nat->ByteArray
 | 0=>⟨#[]⟩
 | k+1=>(f k).name
def zaa(n:Nat)(f:Nat->zAV):Prop:=n<=8/\∀i,i<n->zDb (f i).name/\zCN (zHK f i) (f i).name
theorem zNp(v:Value)(n lo hi:Nat)(f:Nat->zAV)(w:World)(h:zCl w lo hi v n f) :
  Calls Tryz.prog 114 #[v] w fun e w'=>zL (zaa n f) e/\Below w.heap.size w w':=by
 have Hp:=zC h;obtain⟨m1,a,c,rfl,mc,-⟩:=id h;unfold maxLen at m1;clear h;by_cases hn:n<=8;rotate_left
 ·have kA:(8:Int)<(n:Int):=(by omega);go_enter Tryz.func114,Tryz.ntmps114;go_wp2;go_ret;exact⟨zL.no fun h=>hn h.1,Below.refl _ _⟩
 have kA:¬(8:Int)<(n:Int):=by omega
 go_enter Tryz.func114,Tryz.ntmps114;go_wp2
 go_loopw [3,11] (fun l i wr=>∃k:Nat,k<=n/\i = .int .i64 k/\l = .string (zHK f k)/\(∀j,j<k->zDb (f j).name/\zCN (zHK f j) (f j).name)/\Below w.heap.size w wr) (fun _ i _=>n - (intOf i).toNat)
 case atStart=>exact⟨0,Nat.zero_le _,rfl,rfl,fun j hj=>absurd hj (Nat.not_lt_zero _),Below.refl _ _⟩
 case round=>
  obtain⟨k,hk,rfl,rfl,cA,hb⟩:=hrel;have bA:=zC cA;clear cA;by_cases dA:k<n;rotate_left
  ·obtain rfl:k=n:=(by omega);go_wp2;go_ret;exact⟨zL.yes ⟨hn,bA.out⟩,hb⟩
  have jA:(k:Int)<(n:Int):=(by omega);obtain⟨b,off,vd,rfl,aA⟩:=(Hp.out.zcw hb).cells dA;obtain⟨-,ad,cd,rfl,-,-⟩:=id aA.dead;have gA:=zD wr (.cells #[.string (f k).name,.int .i64 (f k).origin,.int .i64 (f k).zc2,.int .i64 (f k).rs,.int .i64 (f k).rb,.slice ad (f k).dn cd] 72);have iA:=zC (zAM.new wr (.string (f k).name) (.int .i64 (f k).origin) (.int .i64 (f k).zc2) (.int .i64 (f k).rs) (.int .i64 (f k).rb) (.slice ad (f k).dn cd) 72);have fA:=zA hb gA;have q0:=aA.c0;have q1:=aA.c1;have q2:=aA.c2;have q3:=aA.c3;have q4:=aA.c4;have q5:=aA.c5;have lA:=aA.zc5;obtain⟨⟨y0,y1⟩,-⟩:=iA.out;clear aA gA;go_wp2_with fail;clear q0 q1 q2 q3 q4 q5;refine(zJQ (f k).name _ lA).mono ?_;rintro e wn ⟨⟨tn,rfl,eA⟩,rfl⟩;by_cases hA:zDb (f k).name;rotate_left
  ·have Hn:=zC hA;obtain rfl:tn=false:=yy eA hA;clear eA hA;go_wp2;go_ret;exact⟨zL.no fun h=>Hn.out (h.2 k dA).1,fA⟩
  have HA:=zC hA;obtain rfl:tn=true:=eA.2 hA;clear eA hA;by_cases hR:zCN (zHK f k) (f k).name
  ·have f1:=(zT8 (f k).name (zHK f k)).2 hR;have HR:=zC hR;clear hR;go_wp2;go_roundw
   case rel=>exact⟨k+1,by omega,by go_num,rfl,yE dA bA.out ⟨HA.out,HR.out⟩,fA⟩
   case measure=>simp[intOf];omega
  ·have f1:(Op.bytesLess (f k).name.toList (zHK f k).toList || (f k).name.toList == (zHK f k).toList)=true:=by
    cases hc:(Op.bytesLess (f k).name.toList (zHK f k).toList || (f k).name.toList == (zHK f k).toList)
    ·exact absurd ((zT8 _ _).1 hc) hR
    ·rfl
   have HR:=zC hR;clear hR;go_wp2;go_ret;exact⟨zL.no fun h=>HR.out (h.2 k dA).2,fA⟩
theorem zXZ:laidOutB Tryz.prog=true:=by kernel_rfl
theorem zbI:300<=Tryz.prog.types.size+300 - 1/\1<=Tryz.prog.types.size:=by
 have h:decide (1<=Tryz.prog.types.size)=true:=by kernel_rfl
 have:=of_decide_eq_true h;omega
theorem zXb{k:Nat}(h:decide (k<Tryz.prog.types.size)=true):k<Tryz.prog.types.size:=of_decide_eq_true h
theorem zcv:Tryz.prog.underlying 9=some .string:=by kernel_rfl
theorem zcB:Tryz.prog.underlying 2=some (.int .i64):=by kernel_rfl
theorem zbf:Keyed Tryz.prog 9:=string_keyed zcv
theorem zcC:Keyed Tryz.prog 2:=int_keyed zcB
def zGz(s:ByteArray):Lit:=.string s.data.toList
theorem zT4{s:ByteArray}(h:s.size<=maxLen):keyOf Tryz.prog 9 (.string s)=some (zGz s):=by simp[keyOf,mapKey,zGz,h]
theorem zXY{s t:ByteArray}(h:zGz s=zGz t):s=t:=by
 unfold zGz at h;injection h with h;cases s;cases t;simp only[ByteArray.mk.injEq];exact Array.toList_inj.1 h
theorem zQ1(s:ByteArray):WideAt.IsKeyLit (zGz s):=trivial
def zPX(x:Int):Lit:=.int .i64 x
theorem zT3{x:Int}(h:(Lit.int .i64 x).wf=true):keyOf Tryz.prog 2 (.int .i64 x)=some (zPX x):=keyOf_int_mk zcB h
theorem zQ0{x y:Int}(h:zPX x=zPX y):x=y:=by unfold zPX at h;injection h
theorem zXX(x:Int):WideAt.IsKeyLit (zPX x):=trivial
theorem zcl:Tryz.prog.underlying 205=some (.array 2 9):=by kernel_rfl
theorem zbg:Keyed Tryz.prog 205:=Keyed.of_law (deep_law_laid zXZ (m:=5) (by decide) (zXb (by kernel_rfl)) (by kernel_rfl) (by kernel_rfl))
theorem zZp{s t:ByteArray}(hs:s.size<=maxLen)(ht:t.size<=maxLen):∃l,keyOf Tryz.prog 205 (.agg #[.string s,.string t])=some l:=by
 obtain⟨m,hm⟩:∃m,Tryz.prog.types.size+1=m+2:=⟨Tryz.prog.types.size - 1,by have:=zbI;omega⟩;have hk:Tryz.prog.keyType 205=true:=by kernel_rfl
 have hc:Tryz.prog.cellsOf 205=2:=by kernel_rfl
 have h1:Tryz.prog.cellsOf 9=1:=by kernel_rfl
 unfold keyOf;simp only[zcl];rw[if_pos (by simp[hk,Value.formed,hc]),hm];unfold Program.keyLits;simp only[zcl,Value.cells];rw[if_pos (by rw[hc];rfl),show List.range 2 = [0,1] from rfl,List.mapM_cons,List.mapM_cons,List.mapM_nil];simp[h1,Program.keyLits,hs,ht]
theorem zcd:Tryz.prog.underlying 70=some (.struct #[⟨"Slot",2,0,false, "", "",0⟩,⟨"Birth",2,1,false, "", "",8⟩]):=by kernel_rfl
theorem zbe:Keyed Tryz.prog 70:=Keyed.of_law (deep_law_laid zXZ (m:=5) (by decide) (zXb (by kernel_rfl)) (by kernel_rfl) (by kernel_rfl))
theorem zZo{x y:Int}(hx:(Lit.int .i64 x).wf=true)(hy:(Lit.int .i64 y).wf=true):∃l,keyOf Tryz.prog 70 (.agg #[.int .i64 x,.int .i64 y])=some l:=by
 obtain⟨m,hm⟩:∃m,Tryz.prog.types.size+1=m+2:=⟨Tryz.prog.types.size - 1,by have:=zbI;omega⟩;have hk:Tryz.prog.keyType 70=true:=by kernel_rfl
 have hc:Tryz.prog.cellsOf 70=2:=by kernel_rfl
 have h1:Tryz.prog.cellsOf 2=1:=by kernel_rfl
 unfold keyOf;simp only[zcd];rw[if_pos (by simp[hk,Value.formed,hc]),hm];unfold Program.keyLits;simp only[zcd,Value.cells];rw[if_pos ⟨by rw[hc];rfl,by kernel_rfl⟩];simp[h1,Program.keyLits,hx,hy]
end Go.Proofs.YtbplmbafodlboaaGreatDoor
