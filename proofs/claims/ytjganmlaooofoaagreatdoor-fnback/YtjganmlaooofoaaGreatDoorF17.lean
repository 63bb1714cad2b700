/- A part of the proof. -/
import Derived.Test.YtjganmlaooofoaaGreatDoorF16
set_option linter.unusedVariables false
set_option maxRecDepth 20000
set_option maxHeartbeats 4000000
namespace Go.Proofs.YtjganmlaooofoaaGreatDoor
open Go.RowKit
set_option linter.unusedSimpArgs false
set_option maxRecDepth 20000
set_option maxHeartbeats 1600000
def zCP(h:Nat->Bool):Nat->Nat->Tr:=fun i _=>.v (.bool (h i))
theorem zAU{h:Nat->Bool}{i j:Nat}:zCP h i j = .v (.bool (h i)):=rfl
theorem yb{fl:Fl}{k n:Nat}{h:Nat->Bool}:(Tr.s fl k n (zCP h)).lend = .s .b k n (zCP h):=rfl
theorem zTu{n:Nat}{h:Nat->Bool}:(Tr.s .o 1 n (zCP h)).kept:=⟨by simp,fun i j _ _=>trivial⟩
theorem zOu{fl:Fl}{n:Nat}{F:Nat->Nat->Tr}{h:Nat->Bool}(hF:∀i j,i<n->j<1->F i j = .v (.bool (h i))):TrE (.s fl 1 n F) (.s fl 1 n (zCP h)):=zES fun i j hi hj=>hF i j hi hj
theorem zFQ{fl:Fl}{n:Nat}{f h:Nat->Bool}(hF:∀i,i<n->f i=h i):TrE (.s fl 1 n (zCP f)) (.s fl 1 n (zCP h)):=zES fun i j hi hj=>congrArg (fun b=>Tr.v (.bool b)) (hF i hi)
theorem zOv{fl:Fl}{n k:Nat}{f h:Nat->Bool}(hF:∀i,i<n->h i=if i=k then true else f i):TrE (.s fl 1 n (yN (zCP f) k 0 [.v (.bool true)])) (.s fl 1 n (zCP h)):=zES fun i j hi hj=>by
 cases (show j=0 by omega);rw[show zCP h i 0 = .v (.bool (h i))from rfl,hF i hi];by_cases e:i=k
 ·subst e;simp[yN]
 ·simp[yN,e,zCP]
theorem zYB{p q:Prop}:dB p=dB q↔(p↔q):=by
 by_cases hp:p<;>by_cases hq:q<;>simp[dB,hp,hq]
attribute [local go_sem] qg List.map_cons List.map_nil Tr.cv yv qT yF yD yu yr yq yC zBD zBF zBE zBA zBC zBB zCc zCe zCd qY zt qZ zu qR qQ qf zAL zp zq yL qW tmpsOf zAy yK qV zA9 yz yx yw zAA yy stpP opds opd opdC kap zAS qS zo coreU bin zAl zCO get put dlO fgt zBP zBI zBM zBN tyT yp yo Op.operands Call.operands evLoad evLen evStore evAlloc zAn and_true true_and List.append_nil List.nil_append List.cons_append Ret resCv zCB yY cellM zBl zCI qh StW StR hpT hpO hpV hpA hpL hpC sg nin zCT bdO tmW obW AvE CsE CvE Av.tup Av.ids Cv.ids inD ObE Ob.ids TrE.refl qU yH yI qb qd qe zr zf zd zAC zBe zCH zBG evCall argL argOf qq outOb obO yU qK cvO tot Tr.own rid partsOf fillC zU zBj frz frz1 evBuildSlice zc trs Cv.tr evSlice Option.toArray_none Option.toArray_some evMakeSlice evAppend dstOf srcOf zA7 zBO zBL zBJ zBK ikT yB yA qz qy RetP RetN zBs qP evLd evSt evStoreH zAe evAppendM evAppendT tlOf mvOf rowE shp evTake oOf evC evCallP evCallN evCallO unlast zAX zA6 zAZ argsF zCS qu pmC varT vT evField evConv dB0 Option.bind_some Option.bind_none Option.map_some Option.map_none Option.isSome_some Option.isSome_none
attribute [local go_sem] yP zb zA5 yW qw zAs zAt zAu zAv zAw zAx zAD zAE zAF zAG zAH zAI zAJ zAK yR qt
attribute [-go_sem] zb
attribute [local go_sem] zAP zB7 zB8 zAU yb
structure zJh (W:zB):Prop extends zIz W where
 zeK:∀k,k<W.sn->za W.pool (W.zeK k).rs (W.zeK k).rb
theorem zJh.trees{W:zB}(h:zJh W):zFo W:=zKR h.right h.zeM h.zeJ h.zeK
noncomputable def zK2(W:zB)(s:Nat):Bool:=dB (zKV W s)
noncomputable def zY6:zX:=qk (fun W:zB=>[woT W]) (fun W=>zJh W) (fun W=>[(false,[.s .o 1 W.pool.n (zCP (zK2 W))])])
theorem zW4(W:zB):zY6 [woT W]=some (zJh W,[(false,[.s .o 1 W.pool.n (zCP (zK2 W))])]):=zO (fun l=>zCW (nth l 0)) (fun _=>rfl) W
noncomputable def zNO(W:zB)(k:Nat)(l:List (Int×Int))(j s:Nat):Bool:=dB (zbq W k l j s)
theorem zSA:zy Tryz.prog 60 zY6:=by
 refine zQ qA (GOk.cons zC4 (zG Tryz.func30 rfl rfl) GOk.nil) zz Tryz.func60 rfl Tryz.ntmps60 Tryz.results60 10 ?_;intro W hW;replace hW:zJh W:=hW;have jA:W.sn<=8:=hW.zeM.2.2.1;have gA:W.pn<=20:=hW.zeM.2.2.2.1;have hn:W.pool.n<=200:=hW.right.1;refine⟨by simp,?_⟩;simp[go_sem];refine⟨by omega,?_⟩;refine yE (fun k:Nat=>⟨[(1,true,.m false [.p 1 0]),(3,true,.m false [.h 7]),(4,true,.m false [.h 8]),(5,true,.i k)],[(8,.row 2 (zER W k).length (ptL (zER W k))),(7,.row 1 W.pool.n (zCP fun _=>false)),(1,.var ((woL W).map Tr.cv))]⟩) (fun k=>W.sn - k) (fun k=>k<=W.sn) 0 ?_ (Nat.zero_le _) ?_
 ·simp[go_sem];refine⟨zKJ rfl,zOu fun i j _ hj=>?_⟩;cases (show j=0 by omega);rfl
 intro k hk;have eA:=zHF W k;simp[go_sem,qB (show k<=1000000000 by omega)];refine⟨fun hl=>?_,fun hl=>?_⟩
 ·refine⟨hl,by omega,k+1,by omega,by omega,rfl,zDR zE2 ?_⟩;rw[zLa,zIO hl]
 cases (show k=W.sn by omega);refine yE (fun k:Nat=>⟨[(1,true,.m false [.p 1 0]),(3,true,.m false [.h 7]),(4,true,.m false [.h 8]),(6,true,.i k)],[(8,.row 2 (zER W (W.sn+k)).length (ptL (zER W (W.sn+k)))),(7,.row 1 W.pool.n (zCP fun _=>false)),(1,.var ((woL W).map Tr.cv))]⟩) (fun k=>W.pn - k) (fun k=>k<=W.pn) 0 (by simp[go_sem]) (Nat.zero_le _) ?_;intro k hk;have eA:=zHF W (W.sn+k);simp[go_sem,qB (show k<=1000000000 by omega)];refine⟨fun hl=>?_,fun hl=>?_⟩
 ·refine⟨hl,by omega,k+1,by omega,by omega,rfl,zDR zE2 ?_⟩;rw[<-Nat.add_assoc,zLa,zHE]
 cases (show k=W.pn by omega);obtain⟨R,hR⟩:∃R,R=zER W (W.sn+W.pn):=⟨_,rfl⟩;rw[<-hR];have fA:R.length=W.sn+W.pn:=by rw[hR];exact zHF _ _
 refine yE (fun k:Nat=>⟨[(1,true,.m false [.p 1 0]),(3,true,.m false [.h 7]),(4,true,.m false [.h 8]),(7,true,.i k)],[(8,.row 2 R.length (ptL R)),(7,.row 1 W.pool.n (zCP (zNO W k [] 0))),(1,.var ((woL W).map Tr.cv))]⟩) (fun k=>R.length - k) (fun k=>k<=R.length) 0 ?_ (Nat.zero_le _) ?_
 ·simp[go_sem];refine zFQ fun i _=>?_
  symm;rw[zNO,zCH];rintro(⟨i,hi,_⟩ | ⟨q,hq,_⟩)
  ·omega
  ·omega
 intro k hk;simp[go_sem,qB (show k<=1000000000 by omega),zBx,hW.right];refine⟨fun dA=>?_,fun dA=>?_⟩
 ·have cA:k<W.sn+W.pn:=(by omega);have e1:zh R k=(zC8 W k).1:=(by rw[hR];exact(zPj cA).1);have e2:zn R k=(zC8 W k).2:=(by rw[hR];exact(zPj cA).2);have hT:za W.pool (zC8 W k).1 (zC8 W k).2:=zZ3 hW.trees cA;rw[e1,e2];refine⟨dA,hT,by kernel_rfl,?_⟩;obtain⟨l,aA⟩:∃l,l=zM W.pool (zC8 W k).1 (zC8 W k).2:=⟨_,rfl⟩;have ll:l.length<=100:=(by have:=qx W.pool (zC8 W k).1 (zC8 W k).2;rw[aA];omega);rw[<-aA];refine yE (fun j:Nat=>⟨[(9,true,.i j),(8,true,.m false [.h 60]),(1,true,.m false [.p 1 0]),(3,true,.m false [.h 7]),(4,true,.m false [.h 8]),(7,true,.i k)],[(60,.row 2 l.length (ptL l)),(8,.row 2 R.length (ptL R)),(7,.row 1 W.pool.n (zCP (zNO W k l j))),(1,.var ((woL W).map Tr.cv))]⟩) (fun j=>l.length - j) (fun j=>j<=l.length) 0 ?_ (Nat.zero_le _) ?_
  ·simp[go_sem];refine zFQ fun i _=>?_
   rw[zNO,zNO,zYB];exact⟨fun h=>h.elim Or.inl fun ⟨q,hq,_⟩=>by omega,fun h=>h.elim Or.inl fun ⟨q,hq,_⟩=>by omega⟩
  intro j hj;simp[go_sem,qB (show j<=1000000000 by omega),qB (show k<=1000000000 by omega)];have hm:zME W k l j (zNO W k l j):=fun s=>zBe
  refine⟨fun bA=>?_,fun bA=>⟨k+1,dA,by omega,rfl,?_⟩⟩
  ·obtain⟨q,hq,iA⟩:=zSs hW.right hT (j:=j) (by rw[<-aA];exact bA);rw[<-aA]at hq;rw[hq];refine⟨bA,⟨by omega,by omega⟩,by simpa using iA,j+1,bA,by omega,rfl,zOv fun i _=>?_⟩;exact Bool.eq_iff_iff.2 (zBe.trans (zUG hm hq i).symm)
  ·cases (show j=l.length by omega);refine zFQ fun i _=>?_
   exact Bool.eq_iff_iff.2 ((zUH hm aA i).trans zBe.symm)
 ·cases (show k=R.length by omega);refine⟨zFQ fun i _=>?_,zTu⟩;rw[zNO,zK2,zYB,zTp,fA];exact⟨fun h=>h.elim id fun ⟨q,hq,_⟩=>by omega,Or.inl⟩
set_option maxRecDepth 20000
set_option maxHeartbeats 1600000
theorem zaW{a b:Nat}(h:a+b<=1000000000):IntKind.i64.wrap ((a:Int)+(b:Int))=(a:Int)+(b:Int):=by
 unfold IntKind.wrap;simp[IntKind.signed,IntKind.bits];omega
theorem zd6{a b:Nat}(h:a<=1000000000)(h':b<=1000000000):IntKind.i64.wrap ((a:Int) - (b:Int))=(a:Int) - (b:Int):=by
 unfold IntKind.wrap;simp[IntKind.signed,IntKind.bits];omega
theorem tnS{a b:Nat}:((a:Int) - (b:Int)).toNat=a - b:=by omega
attribute [local go_sem] qg List.map_cons List.map_nil Tr.cv yv qT yF yD yu yr yq yC zBD zBF zBE zBA zBC zBB zCc zCe zCd qY zt qZ zu qR qQ qf zAL zp zq yL qW tmpsOf zAy yK qV zA9 yz yx yw zAA yy stpP opds opd opdC kap zAS qS zo coreU bin zAl zCO get put dlO fgt zBP zBI zBM zBN tyT yp yo Op.operands Call.operands evLoad evLen evStore evAlloc zAn and_true true_and List.append_nil List.nil_append List.cons_append Ret resCv zCB yY cellM zBl zCI qh StW StR hpT hpO hpV hpA hpL hpC sg nin zCT bdO tmW obW AvE CsE CvE Av.tup Av.ids Cv.ids inD ObE Ob.ids TrE.refl qU yH yI qb qd qe zr zf zd zAC zBe zCH zBG evCall argL argOf qq outOb obO yU qK cvO tot Tr.own rid partsOf fillC zU zBj frz frz1 evBuildSlice zc trs Cv.tr evSlice Option.toArray_none Option.toArray_some evMakeSlice evAppend dstOf srcOf zA7 zBO zBL zBJ zBK ikT yB yA qz qy RetP RetN zBs qP evLd evSt evStoreH zAe evAppendM evAppendT tlOf mvOf rowE shp evTake oOf evC evCallP evCallN evCallO unlast zAX zA6 zAZ argsF zCS qu pmC varT vT evField evConv dB0 Option.bind_some Option.bind_none Option.map_some Option.map_none Option.isSome_some Option.isSome_none
attribute [local go_sem] yP zb zA5 yW qw zAs zAt zAu zAv zAw zAx zAD zAE zAF zAG zAH zAI zAJ zAK yR qt
attribute [-go_sem] zb
attribute [local go_sem] zAP zB7 zB8 zAU yb
noncomputable def zPl(W:zB)(k:Nat)(now old:List (Int×Int))(j s:Nat):Bool:=dB (zbr W k now old j s)
noncomputable def zYp:zX:=qk (fun W:zB=>[woT W]) (fun W=>zJh W) (fun W=>bR (zHS W))
theorem zWy(W:zB):zYp [woT W]=some (zJh W,bR (zHS W)):=zO (fun l=>zCW (nth l 0)) (fun _=>rfl) W
theorem zR7:zy Tryz.prog 64 zYp:=by
 refine zQ qA (GOk.cons zDj (zG Tryz.func39 rfl rfl) (GOk.cons zC4 (zG Tryz.func30 rfl rfl) (GOk.cons zJ4 (zG Tryz.func109 rfl rfl) GOk.nil))) zz Tryz.func64 rfl Tryz.ntmps64 Tryz.results64 12 ?_;intro W hW;replace hW:zJh W:=hW;have sA:W.sn<=8:=hW.zeM.2.2.1;have pA:W.pn<=20:=hW.zeM.2.2.2.1;have hn:W.pool.n<=200:=hW.right.1;refine⟨by simp,?_⟩;simp[go_sem];refine⟨by omega,?_⟩;refine yE (fun k:Nat=>⟨[(1,true,.m false [.p 1 0]),(3,true,.m false [.h 61]),(4,true,.i k)],[(61,.row 1 W.pool.n (zCP (zPl W k [] [] 0))),(1,.var ((woL W).map Tr.cv))]⟩) (fun k=>memN W - k) (fun k=>k<=memN W/\zPx W k) 0 ?_ ⟨Nat.zero_le _,fun i hi=>by omega⟩ ?_
 ·simp[go_sem];refine zOu fun i j _ hj=>?_
  cases (show j=0 by omega);have:zPl W 0 [] [] 0 i=false:=by
   rw[zPl,zCH];rintro(⟨i,hi,_⟩ | ⟨q,hq,_⟩)<;>omega
  simp[this]
 rintro k ⟨hk,hA⟩;have rA:memN W=W.pn+W.sn:=rfl;by_cases hl:k<memN W;rotate_left
 ·have h1:¬(k:Int)<(W.pn:Int)+(W.sn:Int):=(by omega);simp[go_sem,zaW (show W.pn+W.sn<=1000000000 by omega),h1];cases (show k=memN W by omega);exact hA
 have h1:(k:Int)<(W.pn:Int)+(W.sn:Int):=by omega
 have gA:za W.pool (zI W k).rs (zI W k).rb:=hW.trees.tree k hl;have iA:=zNa hW.zeJ (zI W k).zeL;have hz:=zFA hW.ids (zI W k).zeL;by_cases hs:k<W.pn
 case' pos=>
  have e:zI W k=zZP (W.zeJ k):=zx hs;rw[e]at gA iA hz;replace gA:za W.pool (W.zeJ k).rs (W.zeJ k).rb:=gA;replace iA:za W.pool (zE W (W.zeJ k).zeL).rs (zE W (W.zeJ k).zeL).rb:=iA;replace hz:zDt W (W.zeJ k).zeL=zE W (W.zeJ k).zeL:=hz;obtain⟨bA,aA⟩:∃l,l=zM W.pool (W.zeJ k).rs (W.zeJ k).rb:=⟨_,rfl⟩;obtain⟨fA,cA⟩:∃l,l=zM W.pool (zE W (W.zeJ k).zeL).rs (zE W (W.zeJ k).zeL).rb:=⟨_,rfl⟩;have dA:bA=treeM W (zI W k):=(by rw[e];exact aA);have eA:fA=oldM W (zI W k):=(by rw[e];exact cA);simp[go_sem,zaW (show W.pn+W.sn<=1000000000 by omega),h1,hs,zEJ,zBx,hW.pn,hW.right,hz,iA,gA,<-aA,<-cA]
 case' neg=>
  have e:zI W k=zUI W.time (W.zeK (k - W.pn)):=by
   have:=qN W (k - W.pn)
   rwa [show W.pn+(k - W.pn)=k by omega]at this
  rw[e]at gA iA hz;replace gA:za W.pool (W.zeK (k - W.pn)).rs (W.zeK (k - W.pn)).rb:=gA;replace iA:za W.pool (zE W (W.zeK (k - W.pn)).zeL).rs (zE W (W.zeK (k - W.pn)).zeL).rb:=iA;replace hz:zDt W (W.zeK (k - W.pn)).zeL=zE W (W.zeK (k - W.pn)).zeL:=hz;obtain⟨bA,aA⟩:∃l,l=zM W.pool (W.zeK (k - W.pn)).rs (W.zeK (k - W.pn)).rb:=⟨_,rfl⟩;obtain⟨fA,cA⟩:∃l,l=zM W.pool (zE W (W.zeK (k - W.pn)).zeL).rs (zE W (W.zeK (k - W.pn)).zeL).rb:=⟨_,rfl⟩;have dA:bA=treeM W (zI W k):=(by rw[e];exact aA);have eA:fA=oldM W (zI W k):=(by rw[e];exact cA);simp[go_sem,zaW (show W.pn+W.sn<=1000000000 by omega),zd6 (show k<=1000000000 by omega) (show W.pn<=1000000000 by omega),tnS,h1,hs,zEJ,zBx,hW.pn,hW.right,hz,iA,gA,<-aA,<-cA];refine⟨⟨by omega,by omega⟩,?_⟩
 all_goals
  have ln:bA.length<=100:=(by rw[aA];exact Nat.le_trans (qx ..) (by omega));have lo:fA.length<=100:=(by rw[cA];exact Nat.le_trans (qx ..) (by omega));have mA:∀j,j<bA.length->∃s:Nat,zh bA j=(s:Int)/\s<W.pool.n:=fun j hj=>by
   rw[aA];exact zSs hW.right gA (by rw[<-aA];exact hj)
  clear aA cA gA iA hz e h1 hs;refine yE (fun j:Nat=>⟨[(11,true,.i j),(10,true,.m false [.h 63]),(9,true,.m false [.h 62]),(1,true,.m false [.p 1 0]),(3,true,.m false [.h 61]),(4,true,.i k)],[(63,.row 2 bA.length (ptL bA)),(62,.row 2 fA.length (ptL fA)),(61,.row 1 W.pool.n (zCP (zPl W k bA fA j))),(1,.var ((woL W).map Tr.cv))]⟩) (fun j=>bA.length - j) (fun j=>j<=bA.length/\zGF W k bA fA j) 0 ?_ ⟨Nat.zero_le _,fun i hi=>absurd hi (Nat.not_lt_zero _)⟩ ?_
  ·simp[go_sem];have h0:zEr W k [] [] 0 (zPl W k [] [] 0):=fun s=>zBe
   exact zFQ fun i _=>Bool.eq_iff_iff.2 ((zUV h0 bA fA i).trans zBe.symm)
  rintro j ⟨hj,kA⟩;have hS:zEr W k bA fA j (zPl W k bA fA j):=fun s=>zBe
  have oA:fA.length<=1000000:=(by omega);simp[go_sem,zG5,qB (show j<=1000000000 by omega),qB (show k<=1000000000 by omega),zSc,oA];refine⟨fun jA=>⟨jA,fun lA=>⟨j+1,⟨jA,zaA kA lA⟩,by omega,rfl,?_⟩,fun lA=>?_⟩,fun jA=>?_⟩
  ·exact zFQ fun i _=>Bool.eq_iff_iff.2 ((zXT hS lA i).trans zBe.symm)
  ·obtain⟨s,hs,nA⟩:=mA j jA;rw[hs];refine⟨jA,⟨by omega,by omega⟩,by simpa using nA,fun hf=>?_,fun hf=>⟨jA,⟨by omega,by omega⟩,by simpa using nA,j+1,⟨jA,?_⟩,by omega,rfl,?_⟩⟩
   ·rw[Int.toNat_natCast]at hf;exact zUW hW.trees hl dA eA hS jA hs lA hf
   ·rw[Int.toNat_natCast]at hf;exact zZ7 kA hS hs hf
   ·rw[Int.toNat_natCast];exact zOv fun i _=>Bool.eq_iff_iff.2 (zBe.trans (zXS hS hs lA i).symm)
  ·cases (show j=bA.length by omega);refine⟨k+1,⟨hl,zTK hA dA eA kA⟩,by omega,rfl,zFQ fun i _=>?_⟩;exact Bool.eq_iff_iff.2 ((zXV hS dA eA i).trans zBe.symm)
set_option maxRecDepth 20000
set_option maxHeartbeats 3200000
attribute [local go_sem] qg List.map_cons List.map_nil Tr.cv yv qT yF yD yu yr yq yC zBD zBF zBE zBA zBC zBB zCc zCe zCd qY zt qZ zu qR qQ qf zAL zp zq yL qW tmpsOf zAy yK qV zA9 yz yx yw zAA yy stpP opds opd opdC kap zAS qS zo coreU bin zAl zCO get put dlO fgt zBP zBI zBM zBN tyT yp yo Op.operands Call.operands evLoad evLen evStore evAlloc zAn and_true true_and List.append_nil List.nil_append List.cons_append Ret resCv zCB yY cellM zBl zCI qh StW StR hpT hpO hpV hpA hpL hpC sg nin zCT bdO tmW obW AvE CsE CvE Av.tup Av.ids Cv.ids inD ObE Ob.ids TrE.refl qU yH yI qb qd qe zr zf zd zAC zBe zCH zBG evCall argL argOf qq outOb obO yU qK cvO tot Tr.own rid partsOf fillC zU zBj frz frz1 evBuildSlice zc trs Cv.tr evSlice Option.toArray_none Option.toArray_some evMakeSlice evAppend dstOf srcOf zA7 zBO zBL zBJ zBK ikT yB yA qz qy RetP RetN zBs qP evLd evSt evStoreH zAe evAppendM evAppendT tlOf mvOf rowE shp evTake oOf evC evCallP evCallN evCallO unlast zAX zA6 zAZ argsF zCS qu pmC varT vT evField evConv dB0 Option.bind_some Option.bind_none Option.map_some Option.map_none Option.isSome_some Option.isSome_none
attribute [local go_sem] yP zb zA5 yW qw zAs zAt zAu zAv zAw zAx zAD zAE zAF zAG zAH zAI zAJ zAK yR qt
attribute [-go_sem] zb
attribute [local go_sem] zAP zB7 zB8 zAU yb
structure SmallW (W:zB):Prop where
 n:W.pool.n<=1000000
 hn:W.pool.hn<=1000000
 sn:W.sn<=1000000
 pn:W.pn<=1000000
 sd:∀i,i<W.sn->(W.zeK i).dn<=1000000
 pd:∀i,i<W.pn->(W.zeJ i).dn<=1000000
theorem zcq{W:zB}{k:Nat}(h:k<W.pn):zCF W k↔zD8 (W.zeJ k).dn (W.zeJ k).ds (W.zeJ k).db (zB3 (zM W.pool (zE W (W.zeJ k).zeL).rs (zE W (W.zeJ k).zeL).rb) (zM W.pool (W.zeJ k).rs (W.zeJ k).rb)):=by
 unfold zCF;rw[zx h];exact Iff.rfl
theorem zcr{W:zB}{k:Nat}:zCF W (W.pn+k)↔zD8 (W.zeK k).dn (W.zeK k).ds (W.zeK k).db (zB3 (zM W.pool (zE W (W.zeK k).zeL).rs (zE W (W.zeK k).zeL).rb) (zM W.pool (W.zeK k).rs (W.zeK k).rb)):=by
 unfold zCF;rw[qN];exact Iff.rfl
noncomputable def mWR:zX:=qk (fun W:zB=>[woT W]) (fun W=>SmallW W) (fun W=>bR (qo W))
theorem zAp(W:zB):mWR [woT W]=some (SmallW W,bR (qo W)):=zO (fun l=>zCW (nth l 0)) (fun _=>rfl) W
theorem zAW:zy Tryz.prog 23 mWR:=by
 refine zQ qA (GOk.cons zG2 (zG Tryz.func61 rfl rfl) (GOk.cons zEz (zG Tryz.func55 rfl rfl) (GOk.cons zR8 (zG Tryz.func56 rfl rfl) (GOk.cons zQc (zG Tryz.func57 rfl rfl) (GOk.cons zLS (zG Tryz.func58 rfl rfl) (GOk.cons zT6 (zG Tryz.func59 rfl rfl) (GOk.cons zSA (zG Tryz.func60 rfl rfl) (GOk.cons zGQ (zG Tryz.func62 rfl rfl) (GOk.cons zT5 (zG Tryz.func63 rfl rfl) (GOk.cons zR7 (zG Tryz.func64 rfl rfl) GOk.nil)))))))))) zz Tryz.func23 rfl Tryz.ntmps23 Tryz.results23 8 ?_;intro W hW;replace hW:SmallW W:=hW;refine⟨by simp,?_⟩;simp[go_sem,zII,zW1,zT9,hW.n,hW.hn,hW.sn,hW.pn];refine⟨fun h hS=>?_,fun hR hN hC=>?_⟩
 ·rcases h with(h | h) | ⟨x,hx,h⟩
  ·exact h hS.right
  ·exact h hS.zeM
  ·exact h (hS.lines x hx)
 have jA:W.sn<=8:=hN.2.2.1;have iA:W.pn<=20:=hN.2.2.2.1;refine yE (fun k:Nat=>⟨[(1,true,.m false [.p 1 0]),(3,true,.i k)],[(1,.var ((woL W).map Tr.cv))]⟩) (fun k=>W.pn - k) (fun k=>k<=W.pn/\∀i,i<k->za W.pool (W.zeJ i).rs (W.zeJ i).rb) 0 (by simp[go_sem]) (by simp) ?_;rintro k ⟨hk,eA⟩;simp[go_sem,qB (show k<=1000000000 by omega),zUE,hR];refine⟨fun hl=>⟨hl,by kernel_rfl,fun h hS=>h (hS.zeJ k hl),fun h=>⟨k+1,⟨by omega,yJ hl eA h⟩,by omega,rfl⟩⟩,fun hl=>?_⟩;cases (show k=W.pn by omega);have dA:zIz W:=⟨hR,hN,eA⟩;refine yE (fun k:Nat=>⟨[(1,true,.m false [.p 1 0]),(4,true,.i k)],[(1,.var ((woL W).map Tr.cv))]⟩) (fun k=>W.sn - k) (fun k=>k<=W.sn/\∀i,i<k->za W.pool (W.zeK i).rs (W.zeK i).rb/\zCF W (W.pn+i)) 0 (by simp[go_sem]) (by simp) ?_;rintro k ⟨hk,aA⟩;simp[go_sem,qB (show k<=1000000000 by omega),zUE,zSH,hR,dA,<-zcr];refine⟨fun hl=>⟨hl,fun _=>hl,fun h=>⟨h,hW.sd k hl⟩,by kernel_rfl,fun h hS=>?_,fun h1 h2=>⟨k+1,⟨by omega,yJ hl aA ⟨h1,h2⟩⟩,by omega,rfl⟩⟩,fun hl=>?_⟩
 ·exact h.elim (fun h=>h (hS.zeK k hl).1) (fun h=>h (hS.zeK k hl).2)
 cases (show k=W.sn by omega);have fA:zJh W:=⟨dA,fun i hi=>(aA i hi).1⟩;refine yE (fun k:Nat=>⟨[(1,true,.m false [.p 1 0]),(5,true,.i k)],[(1,.var ((woL W).map Tr.cv))]⟩) (fun k=>W.pn - k) (fun k=>k<=W.pn/\∀i,i<k->zCF W i) 0 (by simp[go_sem]) (by simp) ?_;rintro k ⟨hk,bA⟩;by_cases hl:k<W.pn
 ·have hT:=eA k hl;have hd:=hW.pd k hl;simp[go_sem,qB (show k<=1000000000 by omega),zSH,dA,hl,hT,hd,<-zcq hl];refine⟨by kernel_rfl,fun h hS=>h (hS.dead k hl),fun h=>⟨k+1,⟨by omega,yJ hl bA h⟩,by omega,rfl⟩⟩
 simp[go_sem,qB (show k<=1000000000 by omega),hl,zW4,fA];cases (show k=W.pn by omega);refine yE (fun k:Nat=>⟨[(1,true,.m false [.p 1 0]),(6,true,.m false [.h 61]),(7,true,.i k)],[(61,.row 1 W.pool.n (zCP (zK2 W))),(1,.var ((woL W).map Tr.cv))]⟩) (fun k=>W.pool.n - k) (fun k=>k<=W.pool.n/\∀i,i<k->(zKV W i↔(¬zAO (W.pool.s i)/\¬Has W.pool.hn W.pool.h i))) 0 (by simp[go_sem]) (by simp) ?_;rintro k ⟨hk,cA⟩;have gA:W.pool.n<=200:=hR.1;simp[go_sem,qB (show k<=1000000000 by omega),zHs,zIH,zWz,zWy,fA,dA,hW.hn];have hq:zK2 W k=(!dB (zAO (W.pool.s k)) && !dB (Has W.pool.hn W.pool.h (k:Int)))↔(zKV W k↔(¬zAO (W.pool.s k)/\¬Has W.pool.hn W.pool.h k)):=by
  unfold zK2;by_cases h1:zKV W k<;>by_cases h2:zAO (W.pool.s k)<;>by_cases h3:Has W.pool.hn W.pool.h (k:Int)<;>simp[dB,h1,h2,h3]
 rw[hq];refine⟨fun hl=>⟨hl,by kernel_rfl,fun h hS=>h (hS.reach k hl),fun h=>⟨k+1,⟨by omega,yJ hl cA h⟩,by omega,rfl⟩⟩,fun hl=>⟨fA.zeK,fun h=>?_,fun hS=>⟨hS.born,hS.zeN⟩⟩⟩;cases (show k=W.pool.n by omega);exact⟨hR,hN,hC,eA,aA,bA,cA,h.1,h.2⟩
structure zDs (w:World) (bs o kb:Nat) (kv:Value) (s:qi):Prop where
 c0:zY w bs o (.string s.name)
 c1:zY w bs (o+1) (.int .i64 s.origin)
 c2:zY w bs (o+2) (.int .i64 s.zeL)
 c3:zY w bs (o+3) (.int .i64 s.rs)
 c4:zY w bs (o+4) (.int .i64 s.rb)
 c5:zY w bs (o+5) kv
 dead:zAY w kb kv s.dn s.ds s.db
 zeP:s.name.size<=maxLen
 zeN:0<s.dn->kb≠bs
theorem zDs.zeG{S:Nat->Prop}{w w':World}{bs o kb:Nat}{kv:Value}{s:qi}(h:zDs w bs o kb kv s)(t:zJ S w w')(h1:¬S bs)(h2:0<s.dn->¬S kb):zDs w' bs o kb kv s:=
 ⟨h.c0.zeG t h1,h.c1.zeG t h1,h.c2.zeG t h1,h.c3.zeG t h1,h.c4.zeG t h1,h.c5.zeG t h1,h.dead.zeG t h2,h.zeP,h.zeN⟩
theorem zDs.zeF{w w':World}{bs o kb:Nat}{kv:Value}{s:qi}(h:zDs w bs o kb kv s)(t:Below w.heap.size w w'):zDs w' bs o kb kv s:=
 h.zeG (zJ.zeH (S:=fun _=>False) t) (fun h=>h) (fun _ h=>h)
theorem zDs.cells{w:World}{bs o kb:Nat}{kv:Value}{s:qi}(h:zDs w bs o kb kv s){lo hi:Nat}(hb:0<s.dn->lo<=kb/\kb<hi):zDr w bs o lo hi kv s:=
 ⟨h.c0.1,h.c1.1,h.c2.1,h.c3.1,h.c4.1,h.c5.1,h.dead.at hb,h.zeP⟩
def zBZ(w:World)(bs:Nat)(kb:Nat->Nat)(kv:Nat->Value)(v:Value)(n:Nat)(f:Nat->qi):Prop:=
 n<=maxLen/\∃a cap,v = .slice a n cap/\n<=cap/\(0<n->∃off,a=some ⟨bs,off,none⟩/\∀i,i<n->zDs w bs (off+i*6) (kb i) (kv i) (f i))
def zJd(bs:Nat)(kb:Nat->Nat)(n:Nat)(f:Nat->qi)(k:Nat):Prop:=(0<n/\k=bs)\/∃i,i<n/\0<(f i).dn/\k=kb i
def zE9(kb:Nat->Nat)(n:Nat)(f:Nat->qi):Prop:=∀i j,i<n->j<n->i≠j->0<(f i).dn->0<(f j).dn->kb i≠kb j
theorem zBZ.zeG{S:Nat->Prop}{w w':World}{bs:Nat}{kb:Nat->Nat}{kv:Nat->Value}{v:Value}{n:Nat}{f:Nat->qi}(h:zBZ w bs kb kv v n f)(t:zJ S w w')(hs:∀k,zJd bs kb n f k->¬S k):zBZ w' bs kb kv v n f:=by
 obtain⟨h0,a,cap,hv,aA,hc⟩:=h;refine⟨h0,a,cap,hv,aA,fun hn=>?_⟩;obtain⟨off,ha,h3⟩:=hc hn;exact⟨off,ha,fun i hi=>(h3 i hi).zeG t (hs _ (Or.inl ⟨hn,rfl⟩)) (fun h=>hs _ (Or.inr ⟨i,hi,h,rfl⟩))⟩
theorem zBZ.zeF{w w':World}{bs:Nat}{kb:Nat->Nat}{kv:Nat->Value}{v:Value}{n:Nat}{f:Nat->qi}(h:zBZ w bs kb kv v n f)(t:Below w.heap.size w w'):zBZ w' bs kb kv v n f:=
 h.zeG (zJ.zeH (S:=fun _=>False) t) (fun _ _ h=>h)
theorem zBZ.at{w:World}{bs:Nat}{kb:Nat->Nat}{kv:Nat->Value}{v:Value}{n:Nat}{f:Nat->qi}(h:zBZ w bs kb kv v n f){lo hi:Nat}(hb:∀k,zJd bs kb n f k->lo<=k/\k<hi):zCo w lo hi v n f:=by
 obtain⟨h0,a,cap,hv,aA,hc⟩:=h;refine⟨h0,a,cap,hv,aA,fun hn=>?_⟩;obtain⟨off,ha,h3⟩:=hc hn;have hx:=hb _ (Or.inl ⟨hn,rfl⟩);exact⟨bs,off,ha,hx.1,hx.2,fun i hi=>⟨_,(h3 i hi).cells (fun h=>hb _ (Or.inr ⟨i,hi,h,rfl⟩))⟩⟩
theorem zYX:(Tryz.prog.info? 44).map (fun i=>(i.zero,i.size,i.bytes))=some (some (.agg #[.string ⟨#[]⟩,.int .i64 0,.int .i64 0,.int .i64 0,.int .i64 0,.slice none 0 0]),6,72):=by kernel_rfl
structure zH7 (w:World) (bs o kb:Nat) (kv:Value) (s:zl):Prop where
 c0:zY w bs o (.int .i64 s.id)
 c1:zY w bs (o+1) (.string s.name)
 c2:zY w bs (o+2) (.string s.set)
 c3:zY w bs (o+3) (.int .i64 s.zeL)
 c4:zY w bs (o+4) (.int .i64 s.time)
 c5:zY w bs (o+5) (.int .i64 s.rs)
 c6:zY w bs (o+6) (.int .i64 s.rb)
 c7:zY w bs (o+7) kv
 dead:zAY w kb kv s.dn s.ds s.db
 zeP:s.name.size<=maxLen/\s.set.size<=maxLen
 zeN:0<s.dn->kb≠bs
theorem zH7.zeG{S:Nat->Prop}{w w':World}{bs o kb:Nat}{kv:Value}{s:zl}(h:zH7 w bs o kb kv s)(t:zJ S w w')(h1:¬S bs)(h2:0<s.dn->¬S kb):zH7 w' bs o kb kv s:=
 ⟨h.c0.zeG t h1,h.c1.zeG t h1,h.c2.zeG t h1,h.c3.zeG t h1,h.c4.zeG t h1,h.c5.zeG t h1,h.c6.zeG t h1,h.c7.zeG t h1,h.dead.zeG t h2,h.zeP,h.zeN⟩
theorem zH7.cells{w:World}{bs o kb:Nat}{kv:Value}{s:zl}(h:zH7 w bs o kb kv s){lo hi:Nat}(hb:0<s.dn->lo<=kb/\kb<hi):zDD w bs o lo hi kv s:=
 ⟨h.c0.1,h.c1.1,h.c2.1,h.c3.1,h.c4.1,h.c5.1,h.c6.1,h.c7.1,h.dead.at hb,h.zeP⟩
def zCw(w:World)(bs:Nat)(kb:Nat->Nat)(kv:Nat->Value)(v:Value)(n:Nat)(f:Nat->zl):Prop:=
 n<=maxLen/\∃a cap,v = .slice a n cap/\n<=cap/\(0<n->∃off,a=some ⟨bs,off,none⟩/\∀i,i<n->zH7 w bs (off+i*8) (kb i) (kv i) (f i))
def zKb(bs:Nat)(kb:Nat->Nat)(n:Nat)(f:Nat->zl)(k:Nat):Prop:=(0<n/\k=bs)\/∃i,i<n/\0<(f i).dn/\k=kb i
def zIy(kb:Nat->Nat)(n:Nat)(f:Nat->zl):Prop:=∀i j,i<n->j<n->i≠j->0<(f i).dn->0<(f j).dn->kb i≠kb j
theorem zCw.zeG{S:Nat->Prop}{w w':World}{bs:Nat}{kb:Nat->Nat}{kv:Nat->Value}{v:Value}{n:Nat}{f:Nat->zl}(h:zCw w bs kb kv v n f)(t:zJ S w w')(hs:∀k,zKb bs kb n f k->¬S k):zCw w' bs kb kv v n f:=by
 obtain⟨h0,a,cap,hv,aA,hc⟩:=h;refine⟨h0,a,cap,hv,aA,fun hn=>?_⟩;obtain⟨off,ha,h3⟩:=hc hn;exact⟨off,ha,fun i hi=>(h3 i hi).zeG t (hs _ (Or.inl ⟨hn,rfl⟩)) (fun h=>hs _ (Or.inr ⟨i,hi,h,rfl⟩))⟩
theorem zCw.zeF{w w':World}{bs:Nat}{kb:Nat->Nat}{kv:Nat->Value}{v:Value}{n:Nat}{f:Nat->zl}(h:zCw w bs kb kv v n f)(t:Below w.heap.size w w'):zCw w' bs kb kv v n f:=
 h.zeG (zJ.zeH (S:=fun _=>False) t) (fun _ _ h=>h)
theorem zCw.at{w:World}{bs:Nat}{kb:Nat->Nat}{kv:Nat->Value}{v:Value}{n:Nat}{f:Nat->zl}(h:zCw w bs kb kv v n f){lo hi:Nat}(hb:∀k,zKb bs kb n f k->lo<=k/\k<hi):zB1 w lo hi v n f:=by
 obtain⟨h0,a,cap,hv,aA,hc⟩:=h;refine⟨h0,a,cap,hv,aA,fun hn=>?_⟩;obtain⟨off,ha,h3⟩:=hc hn;have hx:=hb _ (Or.inl ⟨hn,rfl⟩);exact⟨bs,off,ha,hx.1,hx.2,fun i hi=>⟨_,(h3 i hi).cells (fun h=>hb _ (Or.inr ⟨i,hi,h,rfl⟩))⟩⟩
theorem zWm:(Tryz.prog.info? 41).map (fun i=>(i.zero,i.size,i.bytes))=some (some (.agg #[.int .i64 0,.string ⟨#[]⟩,.string ⟨#[]⟩,.int .i64 0,.int .i64 0,.int .i64 0,.int .i64 0,.slice none 0 0]),8,96):=by kernel_rfl
def zD9(w:World)(S:Nat->Prop)(v:Value)(n:Nat)(f:Nat->qi):Prop:=∃(bs:Nat) (kb:Nat->Nat) (kv:Nat->Value),zBZ w bs kb kv v n f/\zE9 kb n f/\∀k,zJd bs kb n f k->S k
def zDW(w:World)(S:Nat->Prop)(v:Value)(n:Nat)(f:Nat->zl):Prop:=∃(bs:Nat) (kb:Nat->Nat) (kv:Nat->Value),zCw w bs kb kv v n f/\zIy kb n f/\∀k,zKb bs kb n f k->S k
theorem zD9.zeG{S T:Nat->Prop}{w w':World}{v:Value}{n:Nat}{f:Nat->qi}(h:zD9 w S v n f)(t:zJ T w w')(hs:∀k,S k->¬T k):zD9 w' S v n f:=by
 obtain⟨bs,kb,kv,h1,h2,h3⟩:=h;exact⟨bs,kb,kv,h1.zeG t (fun k hk=>hs k (h3 k hk)),h2,h3⟩
theorem zDW.zeG{S T:Nat->Prop}{w w':World}{v:Value}{n:Nat}{f:Nat->zl}(h:zDW w S v n f)(t:zJ T w w')(hs:∀k,S k->¬T k):zDW w' S v n f:=by
 obtain⟨bs,kb,kv,h1,h2,h3⟩:=h;exact⟨bs,kb,kv,h1.zeG t (fun k hk=>hs k (h3 k hk)),h2,h3⟩
theorem zD9.zeF{S:Nat->Prop}{w w':World}{v:Value}{n:Nat}{f:Nat->qi}(h:zD9 w S v n f)(t:Below w.heap.size w w'):zD9 w' S v n f:=by
 obtain⟨bs,kb,kv,h1,h2,h3⟩:=h;exact⟨bs,kb,kv,h1.zeF t,h2,h3⟩
theorem zDW.zeF{S:Nat->Prop}{w w':World}{v:Value}{n:Nat}{f:Nat->zl}(h:zDW w S v n f)(t:Below w.heap.size w w'):zDW w' S v n f:=by
 obtain⟨bs,kb,kv,h1,h2,h3⟩:=h;exact⟨bs,kb,kv,h1.zeF t,h2,h3⟩
theorem zD9.at{S:Nat->Prop}{w:World}{v:Value}{n:Nat}{f:Nat->qi}(h:zD9 w S v n f){lo hi:Nat}(hs:∀k,S k->lo<=k/\k<hi):zCo w lo hi v n f:=by
 obtain⟨bs,kb,kv,h1,h2,h3⟩:=h;exact h1.at (fun k hk=>hs k (h3 k hk))
theorem zDW.at{S:Nat->Prop}{w:World}{v:Value}{n:Nat}{f:Nat->zl}(h:zDW w S v n f){lo hi:Nat}(hs:∀k,S k->lo<=k/\k<hi):zB1 w lo hi v n f:=by
 obtain⟨bs,kb,kv,h1,h2,h3⟩:=h;exact h1.at (fun k hk=>hs k (h3 k hk))
theorem zD9.zeQ{S:Nat->Prop}{w:World}{v:Value}{n:Nat}{f:Nat->qi}(h:zD9 w S v n f):∃a c,v = .slice a n c/\n<=c:=by
 obtain⟨bs,kb,kv,⟨_,a,c,hv,hc,_⟩,h2,h3⟩:=h;exact⟨a,c,hv,hc⟩
theorem zDW.zeQ{S:Nat->Prop}{w:World}{v:Value}{n:Nat}{f:Nat->zl}(h:zDW w S v n f):∃a c,v = .slice a n c/\n<=c:=by
 obtain⟨bs,kb,kv,⟨_,a,c,hv,hc,_⟩,h2,h3⟩:=h;exact⟨a,c,hv,hc⟩
theorem zB6.zeQ{w:World}{S:Nat->Prop}{v0 v1:Value}{p:zF}(h:zB6 w S v0 v1 p):∃a c a' c',v0 = .slice a p.n c/\v1 = .slice a' p.hn c':=by
 obtain⟨bs,hb,kb,kv,⟨_,a,c,h1,_⟩,h2,⟨_,a',c',h3,_,_⟩,h4,h5⟩:=h;exact⟨a,c,a',c',h1,h3⟩
structure zEW (w:World) (P Q R:Nat->Prop) (v0 v1 v2 v3:Value) (W:zB):Prop where
 pool:zB6 w P v0 v1 W.pool
 zeK:zD9 w Q v2 W.sn W.zeK
 zeJ:zDW w R v3 W.pn W.zeJ
 pq:∀k,P k->¬Q k
 pr:∀k,P k->¬R k
 qr:∀k,Q k->¬R k
def zBn(w:World)(lo hi:Nat)(v0 v1 v2 v3:Value)(W:zB):Prop:=∃P Q R,zEW w P Q R v0 v1 v2 v3 W/\∀k,P k\/Q k\/R k->lo<=k/\k<hi
theorem zBn.at{w:World}{lo hi:Nat}{v0 v1 v2 v3:Value}{W:zB}(h:zBn w lo hi v0 v1 v2 v3 W):yO w lo hi v0 v1 v2 v3 W:=by
 obtain⟨P,Q,R,h,hl⟩:=h;exact⟨h.pool.at (fun k hk=>hl k (Or.inl hk)),h.zeK.at (fun k hk=>hl k (Or.inr (Or.inl hk))),h.zeJ.at (fun k hk=>hl k (Or.inr (Or.inr hk)))⟩
theorem zEW.zeF{P Q R:Nat->Prop}{w w':World}{v0 v1 v2 v3:Value}{W:zB}(h:zEW w P Q R v0 v1 v2 v3 W)(t:Below w.heap.size w w'):zEW w' P Q R v0 v1 v2 v3 W:=
 ⟨h.pool.zeF t,h.zeK.zeF t,h.zeJ.zeF t,h.pq,h.pr,h.qr⟩
theorem zEW.zeG{P Q R T:Nat->Prop}{w w':World}{v0 v1 v2 v3:Value}{W:zB}(h:zEW w P Q R v0 v1 v2 v3 W)(t:zJ T w w')(hs:∀k,P k\/Q k\/R k->¬T k):zEW w' P Q R v0 v1 v2 v3 W:=
 ⟨h.pool.zeG t (fun k hk=>hs k (Or.inl hk)),h.zeK.zeG t (fun k hk=>hs k (Or.inr (Or.inl hk))),h.zeJ.zeG t (fun k hk=>hs k (Or.inr (Or.inr hk))),h.pq,h.pr,h.qr⟩
theorem zBn.zeG{S:Nat->Prop}{w w':World}{lo hi:Nat}{v0 v1 v2 v3:Value}{W:zB}(h:zBn w lo hi v0 v1 v2 v3 W)(t:zJ S w w')(hs:∀k,S k->k<lo\/hi<=k):zBn w' lo hi v0 v1 v2 v3 W:=by
 obtain⟨P,Q,R,h,hl⟩:=h;exact⟨P,Q,R,h.zeG t (fun k hk hx=>by have:=hl k hk;have:=hs k hx;omega),hl⟩
theorem zBn.wide{w:World}{lo hi bA aA:Nat}{v0 v1 v2 v3:Value}{W:zB}(h:zBn w lo hi v0 v1 v2 v3 W)(h1:bA<=lo)(h2:hi<=aA):zBn w bA aA v0 v1 v2 v3 W:=by
 obtain⟨P,Q,R,h,hl⟩:=h;exact⟨P,Q,R,h,fun k hk=>by have:=hl k hk;omega⟩
theorem zBn.zeQ{w:World}{lo hi:Nat}{v0 v1 v2 v3:Value}{W:zB}(h:zBn w lo hi v0 v1 v2 v3 W):∃a0 c0 a1 c1 a2 c2 a3 c3,v0 = .slice a0 W.pool.n c0/\v1 = .slice a1 W.pool.hn c1/\v2 = .slice a2 W.sn c2/\v3 = .slice a3 W.pn c3:=by
 obtain⟨P,Q,R,h,hl⟩:=h;obtain⟨a0,c0,a1,c1,e0,e1⟩:=h.pool.zeQ;obtain⟨a2,c2,e2,-⟩:=h.zeK.zeQ;obtain⟨a3,c3,e3,-⟩:=h.zeJ.zeQ;exact⟨a0,c0,a1,c1,a2,c2,a3,c3,e0,e1,e2,e3⟩
theorem yO.zeQ{w:World}{lo hi:Nat}{v0 v1 v2 v3:Value}{W:zB}(h:yO w lo hi v0 v1 v2 v3 W):∃a0 c0 a1 c1 a2 c2 a3 c3,v0 = .slice a0 W.pool.n c0/\v1 = .slice a1 W.pool.hn c1/\v2 = .slice a2 W.sn c2/\v3 = .slice a3 W.pn c3:=by
 obtain⟨a0,c0,a1,c1,e0,e1⟩:=h.pool.zeQ;obtain⟨-,a2,c2,e2,-⟩:=h.zeK;obtain⟨-,a3,c3,e3,-⟩:=h.zeJ;exact⟨a0,c0,a1,c1,a2,c2,a3,c3,e0,e1,e2,e3⟩
def zCV(f:Nat->qi)(cv:Nat->Value)(i r:Nat):Value:=
 match r with
 | 0=>.string (f i).name
 | 1=>.int .i64 (f i).origin
 | 2=>.int .i64 (f i).zeL
 | 3=>.int .i64 (f i).rs
 | 4=>.int .i64 (f i).rb
 | _=>cv i
def zHa(f:Nat->qi)(cv:Nat->Value)(n:Nat):List Value:=(List.range (n*6)).map fun j=>zCV f cv (j / 6) (j % 6)
theorem zH9(f:Nat->qi)(cv:Nat->Value)(n:Nat):(zHa f cv n).length=n*6:=by simp[zHa]
theorem zFR(f:Nat->qi)(cv:Nat->Value)(n:Nat){i r:Nat}(hi:i<n)(hr:r<6):(zHa f cv n)[i*6+r]?=some (zCV f cv i r):=by
 have h:i*6+r<n*6:=by omega
 have h1:(i*6+r) / 6=i:=by omega
 have h2:(i*6+r) % 6=r:=by omega
 simp[zHa,h,h1,h2]
theorem zKg(f:Nat->qi)(cv:Nat->Value)(n:Nat)(h:∀i,i<n->(cv i).oneCell'=true):∀u∈zHa f cv n,u.oneCell'=true:=by
 intro u hu;unfold zHa at hu;obtain⟨j,hj,rfl⟩:=List.mem_map.1 hu;have aA:=List.mem_range.1 hj;have hi:j / 6<n:=by omega
 have hr:j % 6<6:=by omega
 generalize j % 6=r at hr ⊢;rcases r with _ | _ | _ | _ | _ | _<;>first | rfl | exact h _ hi
def zDC(w:World)(b o:Nat)(s:qi)(vd:Value):Prop:=zY w b o (.string s.name)/\zY w b (o+1) (.int .i64 s.origin)/\zY w b (o+2) (.int .i64 s.zeL)/\zY w b (o+3) (.int .i64 s.rs)/\zY w b (o+4) (.int .i64 s.rb)/\zY w b (o+5) vd
theorem zDC.zeG{S:Nat->Prop}{w w':World}{b o:Nat}{s:qi}{vd:Value}(h:zDC w b o s vd)(t:zJ S w w')(hs:¬S b):zDC w' b o s vd:=by
 obtain⟨h0,h1,h2,h3,h4,h5⟩:=h;exact⟨h0.zeG t hs,h1.zeG t hs,h2.zeG t hs,h3.zeG t hs,h4.zeG t hs,h5.zeG t hs⟩
theorem zDC.zeF{w w':World}{b o:Nat}{s:qi}{vd:Value}(h:zDC w b o s vd)(t:Below w.heap.size w w'):zDC w' b o s vd:=
 h.zeG (zJ.zeH (S:=fun _=>False) t) (fun h=>h)
theorem zDC.set{w:World}{b o:Nat}{s:qi}{vd:Value}(h:zDC w b o s vd)(u:Value):zDC (w.setCell ⟨b,o+5,none⟩ u) b o s u:=by
 obtain⟨h0,h1,h2,h3,h4,h5⟩:=h;exact⟨h0.other _ (Or.inr (by omega)),h1.other _ (Or.inr (by omega)),h2.other _ (Or.inr (by omega)),h3.other _ (Or.inr (by omega)),h4.other _ (Or.inr (by omega)),h5.set _⟩
theorem zDC.other{w:World}{b o o':Nat}{s:qi}{vd:Value}(h:zDC w b o s vd)(u:Value)(aA:∀r,r<6->o'≠o+r):zDC (w.setCell ⟨b,o',none⟩ u) b o s vd:=by
 obtain⟨h0,h1,h2,h3,h4,h5⟩:=h;exact⟨h0.other _ (Or.inr (aA 0 (by omega))),h1.other _ (Or.inr (aA 1 (by omega))),h2.other _ (Or.inr (aA 2 (by omega))),h3.other _ (Or.inr (aA 3 (by omega))),h4.other _ (Or.inr (aA 4 (by omega))),h5.other _ (Or.inr (aA 5 (by omega)))⟩
structure zBY (wr:World) (bs L n k:Nat) (f:Nat->qi) (kb:Nat->Nat) (kv cv:Nat->Value):Prop where
 zeR:∀j,j<n->zDC wr bs (j*6) (f j) (if j<k then kv j else cv j)
 dead:∀j,j<k->zAY wr (kb j) (kv j) (f j).dn (f j).ds (f j).db
 zeO:∀j,j<k->0<(f j).dn->L<=kb j/\kb j<wr.heap.size
 zeN:zE9 kb k f
 lt:0<n->bs<L
theorem zBY.zeF{wr w':World}{bs L n k:Nat}{f:Nat->qi}{kb:Nat->Nat}{kv cv:Nat->Value}(h:zBY wr bs L n k f kb kv cv)(t:Below wr.heap.size wr w'):zBY w' bs L n k f kb kv cv:=
 ⟨fun j hj=>(h.zeR j hj).zeF t,fun j hj=>(h.dead j hj).zeF t,fun j hj h0=>by have:=h.zeO j hj h0;have:=t.size;omega,h.zeN,h.lt⟩
theorem zBY.zeG{S:Nat->Prop}{wr w':World}{bs L n k:Nat}{f:Nat->qi}{kb:Nat->Nat}{kv cv:Nat->Value}(h:zBY wr bs L n k f kb kv cv)(t:zJ S wr w')(hs:∀q,S q->(0<n->q≠bs)/\q<L)(hk:k<=n):zBY w' bs L n k f kb kv cv:=
 ⟨fun j hj=>(h.zeR j hj).zeG t (fun e=>(hs _ e).1 (by omega) rfl),fun j hj=>(h.dead j hj).zeG t (fun h0 e=>by have:=h.zeO j hj h0;have:=(hs _ e).2;omega),fun j hj h0=>by have:=h.zeO j hj h0;have:=t.size;omega,h.zeN,h.lt⟩
theorem zBY.next{wr w1:World}{bs L n k b:Nat}{f:Nat->qi}{kb:Nat->Nat}{kv cv:Nat->Value}{v:Value}(h:zBY wr bs L n k f kb kv cv)(hk:k<n)(hL:L<=wr.heap.size)(t:Below wr.heap.size wr w1)
  (hp:zAY w1 b v (f k).dn (f k).ds (f k).db) (hb:0<(f k).dn->wr.heap.size<=b/\b<w1.heap.size) :
  zBY (w1.setCell ⟨bs,k*6+5,none⟩ v) bs L n (k+1) f (fun j=>if j=k then b else kb j) (fun j=>if j=k then v else kv j) cv:=by
 have h':=h.zeF t;have bA:=h.lt (by omega);refine⟨fun j hj=>?_,fun j hj=>?_,fun j hj h0=>?_,fun i j hi hj aA h1 h2=>?_,h.lt⟩
 ·have hh:=h'.zeR j hj;by_cases e:j=k
  ·subst e;rw[if_pos (by omega),if_pos rfl];exact hh.set v
  ·rw[if_neg e];have es:(if j<k+1 then kv j else cv j)=if j<k then kv j else cv j:=by
    by_cases e2:j<k
    ·rw[if_pos e2,if_pos (by omega)]
    ·rw[if_neg e2,if_neg (by omega)]
   rw[es];exact hh.other v (fun r hr=>by omega)
 ·by_cases e:j=k
  ·subst e;simp only[if_true];exact hp.zeG (zJ.put _ _ _ _) (fun h0 hx=>by have:=hb h0;omega)
  ·simp only[if_neg e];exact(h'.dead j (by omega)).zeG (zJ.put _ _ _ _) (fun h0 hx=>by have:=h'.zeO j (by omega) h0;omega)
 ·simp only[World.size_setCell];by_cases e:j=k
  ·subst e;rw[if_pos rfl];have:=hb h0;omega
  ·rw[if_neg e];have:=h'.zeO j (by omega) h0;omega
 ·show(if i=k then b else kb i)≠(if j=k then b else kb j);by_cases e1:i=k
  ·by_cases e2:j=k
   ·omega
   ·rw[if_pos e1,if_neg e2];subst e1;have:=hb h1;have:=h.zeO j (by omega) h2;omega
  ·by_cases e2:j=k
   ·rw[if_neg e1,if_pos e2];subst e2;have:=hb h2;have:=h.zeO i (by omega) h1;omega
   ·rw[if_neg e1,if_neg e2];exact h.zeN i j (by omega) (by omega) aA h1 h2
theorem zBY.own{wr:World}{bs L n c:Nat}{f:Nat->qi}{kb:Nat->Nat}{kv cv:Nat->Value}{a:Option Addr}(h:zBY wr bs L n n f kb kv cv)(hm:n<=maxLen)(ha:0<n->a=some ⟨bs,0,none⟩)(hc:n<=c)(hs:∀i,i<n->(f i).name.size<=maxLen):zBZ wr bs kb kv (.slice a n c) n f:=
 ⟨hm,a,c,rfl,hc,fun h0=>⟨0,ha h0,fun i hi=>by
  obtain⟨h0,h1,h2,h3,h4,h5⟩:=h.zeR i hi;rw[if_pos hi]at h5;rw[Nat.zero_add];exact⟨h0,h1,h2,h3,h4,h5,h.dead i hi,hs i hi,fun hk e=>by have:=h.zeO i hi hk;have:=h.lt (by omega);omega⟩⟩⟩
theorem zBY.turned0{S:Nat->Prop}{wr w':World}{bs L n:Nat}{f:Nat->qi}{kb:Nat->Nat}{kv cv:Nat->Value}(h:zBY wr bs L n 0 f kb kv cv)(t:zJ S wr w')(hs:∀q,S q->0<n->q≠bs):zBY w' bs L n 0 f kb kv cv:=
 ⟨fun j hj=>(h.zeR j hj).zeG t (fun e=>hs _ e (by omega) rfl),fun j hj=>absurd hj (Nat.not_lt_zero _),fun j hj=>absurd hj (Nat.not_lt_zero _),h.zeN,h.lt⟩
theorem zBY.weak{wr:World}{bs L L' n:Nat}{f:Nat->qi}{kb:Nat->Nat}{kv cv:Nat->Value}(h:zBY wr bs L n 0 f kb kv cv)(hL:L<=L'):zBY wr bs L' n 0 f kb kv cv:=
 ⟨h.zeR,h.dead,fun j hj=>absurd hj (Nat.not_lt_zero _),h.zeN,fun h0=>Nat.lt_of_lt_of_le (h.lt h0) hL⟩
theorem zCo.values{w:World}{lo hi:Nat}{a:Option Addr}{n c:Nat}{f:Nat->qi}(h:zCo w lo hi (.slice a n c) n f) :
  ∃cv:Nat->Value,(∀i,i<n->qn w lo hi (cv i) (f i).dn (f i).ds (f i).db/\(f i).name.size<=maxLen)/\
   (0<n->∃b off,a=some ⟨b,off,none⟩/\∀j u,(zHa f cv n)[j]?=some u->w.cell? ⟨b,off+j,none⟩=some u):=by
 obtain⟨_,a0,c0,h0,_,g⟩:=h;simp only[Value.slice.injEq,true_and]at h0;obtain⟨rfl,rfl⟩:=h0;by_cases hn:0<n
 ·obtain⟨b,off,ha,cA,dA,hc⟩:=g hn;have bA:∀i,∃x,i<n->zDr w b (off+i*6) lo hi x (f i):=fun i=>by
   by_cases hi:i<n
   ·obtain⟨vd,hs⟩:=hc i hi;exact⟨vd,fun _=>hs⟩
   ·exact⟨.slice none 0 0,fun h=>absurd h hi⟩
  obtain⟨cv,aA⟩:=Classical.axiomOfChoice bA;refine⟨cv,fun i hi=>⟨(aA i hi).dead,(aA i hi).zeP⟩,fun _=>⟨b,off,ha,fun j u hj=>?_⟩⟩;have eA:j<n*6:=by
   have:=(List.getElem?_eq_some_iff.1 hj).1
   rwa [zH9]at this
  have hs:=aA (j / 6) (by omega);have e:=zFR f cv n (i:=j / 6) (r:=j % 6) (by omega) (by omega);rw[show j / 6*6+j % 6=j by omega,hj]at e;have hr:j % 6<6:=(by omega);have ho:off+j=off+j / 6*6+j % 6:=(by omega);rw[ho];generalize j % 6=r at hr e ⊢;generalize j / 6=q at hs e ⊢;rcases r with _ | _ | _ | _ | _ | _ | r
  ·cases e;exact hs.c0
  ·cases e;exact hs.c1
  ·cases e;exact hs.c2
  ·cases e;exact hs.c3
  ·cases e;exact hs.c4
  ·cases e;exact hs.c5
  ·omega
 ·exact⟨fun _=>.slice none 0 0,fun i hi=>absurd hi (by omega),fun h=>absurd h hn⟩
theorem zGA{w1:World}{base n:Nat}{v:Value}{f:Nat->qi}{cv:Nat->Value}(bA:w1.ownsRow base 44 6 v n (zHa f cv n))(L:Nat)(hL:w1.heap.size<=L):∃bs a c,v = .slice a n c/\n<=c/\(0<n->a=some ⟨bs,0,none⟩/\base<=bs/\bs<w1.heap.size)/\zBY w1 bs L n 0 f (fun _=>0) cv cv:=by
 obtain⟨a1,c1,rfl,cA⟩:=zs bA;by_cases h0:0<n
 ·obtain⟨g,cap,hv,_,dA,eA,aA⟩:=zCm bA h0;simp only[Value.slice.injEq,true_and]at hv;obtain⟨rfl,rfl⟩:=hv;refine⟨g,_,_,rfl,cA,fun _=>⟨rfl,dA,eA⟩,fun j hj=>?_,fun j hj=>absurd hj (Nat.not_lt_zero _),fun j hj=>absurd hj (Nat.not_lt_zero _),fun i j hi=>absurd hi (Nat.not_lt_zero _),fun _=>by omega⟩;rw[if_neg (Nat.not_lt_zero _)];exact⟨aA _ _ (zFR f cv n hj (r:=0) (by omega)),aA _ _ (zFR f cv n hj (r:=1) (by omega)),aA _ _ (zFR f cv n hj (r:=2) (by omega)),aA _ _ (zFR f cv n hj (r:=3) (by omega)),aA _ _ (zFR f cv n hj (r:=4) (by omega)),aA _ _ (zFR f cv n hj (r:=5) (by omega))⟩
 ·exact⟨0,_,_,rfl,cA,fun h=>absurd h h0,fun j hj=>absurd hj (by omega),fun j hj=>absurd hj (Nat.not_lt_zero _),fun j hj=>absurd hj (Nat.not_lt_zero _),fun i j hi=>absurd hi (Nat.not_lt_zero _),fun h=>absurd h h0⟩
def zRY(f:Nat->zl)(cv:Nat->Value)(i r:Nat):Value:=
 match r with
 | 0=>.int .i64 (f i).id
 | 1=>.string (f i).name
 | 2=>.string (f i).set
 | 3=>.int .i64 (f i).zeL
 | 4=>.int .i64 (f i).time
 | 5=>.int .i64 (f i).rs
 | 6=>.int .i64 (f i).rb
 | _=>cv i
def zEt(f:Nat->zl)(cv:Nat->Value)(n:Nat):List Value:=(List.range (n*8)).map fun j=>zRY f cv (j / 8) (j % 8)
theorem zFS(f:Nat->zl)(cv:Nat->Value)(n:Nat):(zEt f cv n).length=n*8:=by simp[zEt]
theorem zDE(f:Nat->zl)(cv:Nat->Value)(n:Nat){i r:Nat}(hi:i<n)(hr:r<8):(zEt f cv n)[i*8+r]?=some (zRY f cv i r):=by
 have h:i*8+r<n*8:=by omega
 have h1:(i*8+r) / 8=i:=by omega
 have h2:(i*8+r) % 8=r:=by omega
 simp[zEt,h,h1,h2]
theorem zGs(f:Nat->zl)(cv:Nat->Value)(n:Nat)(h:∀i,i<n->(cv i).oneCell'=true):∀u∈zEt f cv n,u.oneCell'=true:=by
 intro u hu;unfold zEt at hu;obtain⟨j,hj,rfl⟩:=List.mem_map.1 hu;have aA:=List.mem_range.1 hj;have hi:j / 8<n:=by omega
 have hr:j % 8<8:=by omega
 generalize j % 8=r at hr ⊢;rcases r with _ | _ | _ | _ | _ | _ | _ | _<;>first | rfl | exact h _ hi
def zCM(w:World)(b o:Nat)(s:zl)(vd:Value):Prop:=zY w b o (.int .i64 s.id)/\zY w b (o+1) (.string s.name)/\zY w b (o+2) (.string s.set)/\zY w b (o+3) (.int .i64 s.zeL)/\zY w b (o+4) (.int .i64 s.time)/\zY w b (o+5) (.int .i64 s.rs)/\zY w b (o+6) (.int .i64 s.rb)/\zY w b (o+7) vd
theorem zCM.zeG{S:Nat->Prop}{w w':World}{b o:Nat}{s:zl}{vd:Value}(h:zCM w b o s vd)(t:zJ S w w')(hs:¬S b):zCM w' b o s vd:=by
 obtain⟨h0,h1,h2,h3,h4,h5,h6,h7⟩:=h;exact⟨h0.zeG t hs,h1.zeG t hs,h2.zeG t hs,h3.zeG t hs,h4.zeG t hs,h5.zeG t hs,h6.zeG t hs,h7.zeG t hs⟩
theorem zCM.zeF{w w':World}{b o:Nat}{s:zl}{vd:Value}(h:zCM w b o s vd)(t:Below w.heap.size w w'):zCM w' b o s vd:=
 h.zeG (zJ.zeH (S:=fun _=>False) t) (fun h=>h)
theorem zCM.set{w:World}{b o:Nat}{s:zl}{vd:Value}(h:zCM w b o s vd)(u:Value):zCM (w.setCell ⟨b,o+7,none⟩ u) b o s u:=by
 obtain⟨h0,h1,h2,h3,h4,h5,h6,h7⟩:=h;exact⟨h0.other _ (Or.inr (by omega)),h1.other _ (Or.inr (by omega)),h2.other _ (Or.inr (by omega)),h3.other _ (Or.inr (by omega)),h4.other _ (Or.inr (by omega)),h5.other _ (Or.inr (by omega)),h6.other _ (Or.inr (by omega)),h7.set _⟩
theorem zCM.other{w:World}{b o o':Nat}{s:zl}{vd:Value}(h:zCM w b o s vd)(u:Value)(aA:∀r,r<8->o'≠o+r):zCM (w.setCell ⟨b,o',none⟩ u) b o s vd:=by
 obtain⟨h0,h1,h2,h3,h4,h5,h6,h7⟩:=h;exact⟨h0.other _ (Or.inr (aA 0 (by omega))),h1.other _ (Or.inr (aA 1 (by omega))),h2.other _ (Or.inr (aA 2 (by omega))),h3.other _ (Or.inr (aA 3 (by omega))),h4.other _ (Or.inr (aA 4 (by omega))),h5.other _ (Or.inr (aA 5 (by omega))),h6.other _ (Or.inr (aA 6 (by omega))),h7.other _ (Or.inr (aA 7 (by omega)))⟩
structure zAj (wr:World) (bs L n k:Nat) (f:Nat->zl) (kb:Nat->Nat) (kv cv:Nat->Value):Prop where
 zeR:∀j,j<n->zCM wr bs (j*8) (f j) (if j<k then kv j else cv j)
 dead:∀j,j<k->zAY wr (kb j) (kv j) (f j).dn (f j).ds (f j).db
 zeO:∀j,j<k->0<(f j).dn->L<=kb j/\kb j<wr.heap.size
 zeN:zIy kb k f
 lt:0<n->bs<L
theorem zAj.zeF{wr w':World}{bs L n k:Nat}{f:Nat->zl}{kb:Nat->Nat}{kv cv:Nat->Value}(h:zAj wr bs L n k f kb kv cv)(t:Below wr.heap.size wr w'):zAj w' bs L n k f kb kv cv:=
 ⟨fun j hj=>(h.zeR j hj).zeF t,fun j hj=>(h.dead j hj).zeF t,fun j hj h0=>by have:=h.zeO j hj h0;have:=t.size;omega,h.zeN,h.lt⟩
theorem zAj.zeG{S:Nat->Prop}{wr w':World}{bs L n k:Nat}{f:Nat->zl}{kb:Nat->Nat}{kv cv:Nat->Value}(h:zAj wr bs L n k f kb kv cv)(t:zJ S wr w')(hs:∀q,S q->(0<n->q≠bs)/\q<L)(hk:k<=n):zAj w' bs L n k f kb kv cv:=
 ⟨fun j hj=>(h.zeR j hj).zeG t (fun e=>(hs _ e).1 (by omega) rfl),fun j hj=>(h.dead j hj).zeG t (fun h0 e=>by have:=h.zeO j hj h0;have:=(hs _ e).2;omega),fun j hj h0=>by have:=h.zeO j hj h0;have:=t.size;omega,h.zeN,h.lt⟩
theorem zAj.next{wr w1:World}{bs L n k b:Nat}{f:Nat->zl}{kb:Nat->Nat}{kv cv:Nat->Value}{v:Value}(h:zAj wr bs L n k f kb kv cv)(hk:k<n)(hL:L<=wr.heap.size)(t:Below wr.heap.size wr w1)
  (hp:zAY w1 b v (f k).dn (f k).ds (f k).db) (hb:0<(f k).dn->wr.heap.size<=b/\b<w1.heap.size) :
  zAj (w1.setCell ⟨bs,k*8+7,none⟩ v) bs L n (k+1) f (fun j=>if j=k then b else kb j) (fun j=>if j=k then v else kv j) cv:=by
 have h':=h.zeF t;have bA:=h.lt (by omega);refine⟨fun j hj=>?_,fun j hj=>?_,fun j hj h0=>?_,fun i j hi hj aA h1 h2=>?_,h.lt⟩
 ·have hh:=h'.zeR j hj;by_cases e:j=k
  ·subst e;rw[if_pos (by omega),if_pos rfl];exact hh.set v
  ·rw[if_neg e];have es:(if j<k+1 then kv j else cv j)=if j<k then kv j else cv j:=by
    by_cases e2:j<k
    ·rw[if_pos e2,if_pos (by omega)]
    ·rw[if_neg e2,if_neg (by omega)]
   rw[es];exact hh.other v (fun r hr=>by omega)
 ·by_cases e:j=k
  ·subst e;simp only[if_true];exact hp.zeG (zJ.put _ _ _ _) (fun h0 hx=>by have:=hb h0;omega)
  ·simp only[if_neg e];exact(h'.dead j (by omega)).zeG (zJ.put _ _ _ _) (fun h0 hx=>by have:=h'.zeO j (by omega) h0;omega)
 ·simp only[World.size_setCell];by_cases e:j=k
  ·subst e;rw[if_pos rfl];have:=hb h0;omega
  ·rw[if_neg e];have:=h'.zeO j (by omega) h0;omega
 ·show(if i=k then b else kb i)≠(if j=k then b else kb j);by_cases e1:i=k
  ·by_cases e2:j=k
   ·omega
   ·rw[if_pos e1,if_neg e2];subst e1;have:=hb h1;have:=h.zeO j (by omega) h2;omega
  ·by_cases e2:j=k
   ·rw[if_neg e1,if_pos e2];subst e2;have:=hb h2;have:=h.zeO i (by omega) h1;omega
   ·rw[if_neg e1,if_neg e2];exact h.zeN i j (by omega) (by omega) aA h1 h2
theorem zAj.own{wr:World}{bs L n c:Nat}{f:Nat->zl}{kb:Nat->Nat}{kv cv:Nat->Value}{a:Option Addr}(h:zAj wr bs L n n f kb kv cv)(hm:n<=maxLen)(ha:0<n->a=some ⟨bs,0,none⟩)(hc:n<=c)(hs:∀i,i<n->((f i).name.size<=maxLen/\(f i).set.size<=maxLen)):zCw wr bs kb kv (.slice a n c) n f:=
 ⟨hm,a,c,rfl,hc,fun h0=>⟨0,ha h0,fun i hi=>by
  obtain⟨h0,h1,h2,h3,h4,h5,h6,h7⟩:=h.zeR i hi;rw[if_pos hi]at h7;rw[Nat.zero_add];exact⟨h0,h1,h2,h3,h4,h5,h6,h7,h.dead i hi,hs i hi,fun hk e=>by have:=h.zeO i hi hk;have:=h.lt (by omega);omega⟩⟩⟩
theorem zAj.turned0{S:Nat->Prop}{wr w':World}{bs L n:Nat}{f:Nat->zl}{kb:Nat->Nat}{kv cv:Nat->Value}(h:zAj wr bs L n 0 f kb kv cv)(t:zJ S wr w')(hs:∀q,S q->0<n->q≠bs):zAj w' bs L n 0 f kb kv cv:=
 ⟨fun j hj=>(h.zeR j hj).zeG t (fun e=>hs _ e (by omega) rfl),fun j hj=>absurd hj (Nat.not_lt_zero _),fun j hj=>absurd hj (Nat.not_lt_zero _),h.zeN,h.lt⟩
theorem zAj.weak{wr:World}{bs L L' n:Nat}{f:Nat->zl}{kb:Nat->Nat}{kv cv:Nat->Value}(h:zAj wr bs L n 0 f kb kv cv)(hL:L<=L'):zAj wr bs L' n 0 f kb kv cv:=
 ⟨h.zeR,h.dead,fun j hj=>absurd hj (Nat.not_lt_zero _),h.zeN,fun h0=>Nat.lt_of_lt_of_le (h.lt h0) hL⟩
theorem zB1.values{w:World}{lo hi:Nat}{a:Option Addr}{n c:Nat}{f:Nat->zl}(h:zB1 w lo hi (.slice a n c) n f) :
  ∃cv:Nat->Value,(∀i,i<n->qn w lo hi (cv i) (f i).dn (f i).ds (f i).db/\((f i).name.size<=maxLen/\(f i).set.size<=maxLen))/\
   (0<n->∃b off,a=some ⟨b,off,none⟩/\∀j u,(zEt f cv n)[j]?=some u->w.cell? ⟨b,off+j,none⟩=some u):=by
 obtain⟨_,a0,c0,h0,_,g⟩:=h;simp only[Value.slice.injEq,true_and]at h0;obtain⟨rfl,rfl⟩:=h0;by_cases hn:0<n
 ·obtain⟨b,off,ha,cA,dA,hc⟩:=g hn;have bA:∀i,∃x,i<n->zDD w b (off+i*8) lo hi x (f i):=fun i=>by
   by_cases hi:i<n
   ·obtain⟨vd,hs⟩:=hc i hi;exact⟨vd,fun _=>hs⟩
   ·exact⟨.slice none 0 0,fun h=>absurd h hi⟩
  obtain⟨cv,aA⟩:=Classical.axiomOfChoice bA;refine⟨cv,fun i hi=>⟨(aA i hi).dead,(aA i hi).zeP⟩,fun _=>⟨b,off,ha,fun j u hj=>?_⟩⟩;have eA:j<n*8:=by
   have:=(List.getElem?_eq_some_iff.1 hj).1
   rwa [zFS]at this
  have hs:=aA (j / 8) (by omega);have e:=zDE f cv n (i:=j / 8) (r:=j % 8) (by omega) (by omega);rw[show j / 8*8+j % 8=j by omega,hj]at e;have hr:j % 8<8:=(by omega);have ho:off+j=off+j / 8*8+j % 8:=(by omega);rw[ho];generalize j % 8=r at hr e ⊢;generalize j / 8=q at hs e ⊢;rcases r with _ | _ | _ | _ | _ | _ | _ | _ | r
  ·cases e;exact hs.c0
  ·cases e;exact hs.c1
  ·cases e;exact hs.c2
  ·cases e;exact hs.c3
  ·cases e;exact hs.c4
  ·cases e;exact hs.c5
  ·cases e;exact hs.c6
  ·cases e;exact hs.c7
  ·omega
 ·exact⟨fun _=>.slice none 0 0,fun i hi=>absurd hi (by omega),fun h=>absurd h hn⟩
theorem zDz{w1:World}{base n:Nat}{v:Value}{f:Nat->zl}{cv:Nat->Value}(bA:w1.ownsRow base 41 8 v n (zEt f cv n))(L:Nat)(hL:w1.heap.size<=L):∃bs a c,v = .slice a n c/\n<=c/\(0<n->a=some ⟨bs,0,none⟩/\base<=bs/\bs<w1.heap.size)/\zAj w1 bs L n 0 f (fun _=>0) cv cv:=by
 obtain⟨a1,c1,rfl,cA⟩:=zs bA;by_cases h0:0<n
 ·obtain⟨g,cap,hv,_,dA,eA,aA⟩:=zCm bA h0;simp only[Value.slice.injEq,true_and]at hv;obtain⟨rfl,rfl⟩:=hv;refine⟨g,_,_,rfl,cA,fun _=>⟨rfl,dA,eA⟩,fun j hj=>?_,fun j hj=>absurd hj (Nat.not_lt_zero _),fun j hj=>absurd hj (Nat.not_lt_zero _),fun i j hi=>absurd hi (Nat.not_lt_zero _),fun _=>by omega⟩;rw[if_neg (Nat.not_lt_zero _)];exact⟨aA _ _ (zDE f cv n hj (r:=0) (by omega)),aA _ _ (zDE f cv n hj (r:=1) (by omega)),aA _ _ (zDE f cv n hj (r:=2) (by omega)),aA _ _ (zDE f cv n hj (r:=3) (by omega)),aA _ _ (zDE f cv n hj (r:=4) (by omega)),aA _ _ (zDE f cv n hj (r:=5) (by omega)),aA _ _ (zDE f cv n hj (r:=6) (by omega)),aA _ _ (zDE f cv n hj (r:=7) (by omega))⟩
 ·exact⟨0,_,_,rfl,cA,fun h=>absurd h h0,fun j hj=>absurd hj (by omega),fun j hj=>absurd hj (Nat.not_lt_zero _),fun j hj=>absurd hj (Nat.not_lt_zero _),fun i j hi=>absurd hi (Nat.not_lt_zero _),fun h=>absurd h h0⟩
def zGm(W:zB):Prop:=(∀i,i<W.sn->(W.zeK i).dn<=1048576)/\∀i,i<W.pn->(W.zeJ i).dn<=1048576
end Go.Proofs.YtjganmlaooofoaaGreatDoor
