/- A part of the proof. -/
import Derived.Test.YtjganmlaooofoaaGreatDoorF29
set_option linter.unusedVariables false
set_option maxRecDepth 20000
set_option maxHeartbeats 4000000
namespace Go.Proofs.YtjganmlaooofoaaGreatDoor
open Go.RowKit
set_option linter.unusedSimpArgs false
set_option maxRecDepth 20000
set_option maxHeartbeats 3200000
attribute [local go_sem] qg List.map_cons List.map_nil Tr.cv yv qT yF yD yu yr yq yC zBD zBF zBE zBA zBC zBB zCc zCe zCd qY zt qZ zu qR qQ qf zAL zp zq yL qW tmpsOf zAy yK qV zA9 yz yx yw zAA yy stpP opds opd opdC kap zAS qS zo coreU bin zAl zCO get put dlO fgt zBP zBI zBM zBN tyT yp yo Op.operands Call.operands evLoad evLen evStore evAlloc zAn and_true true_and List.append_nil List.nil_append List.cons_append Ret resCv zCB yY cellM zBl zCI qh StW StR hpT hpO hpV hpA hpL hpC sg nin zCT bdO tmW obW AvE CsE CvE Av.tup Av.ids Cv.ids inD ObE Ob.ids TrE.refl qU yH yI qb qd qe zr zf zd zAC zBe zCH zBG evCall argL argOf qq outOb obO yU qK cvO tot Tr.own rid partsOf fillC zU zBj frz frz1 evBuildSlice zc trs Cv.tr evSlice Option.toArray_none Option.toArray_some evMakeSlice evAppend dstOf srcOf zA7 zBO zBL zBJ zBK ikT yB yA qz qy RetP RetN zBs qP evLd evSt evStoreH zAe evAppendM evAppendT tlOf mvOf rowE shp evTake oOf evC evCallP evCallN evCallO unlast zAX zA6 zAZ argsF zCS qu pmC varT vT evField evConv dB0 Option.bind_some Option.bind_none Option.map_some Option.map_none Option.isSome_some Option.isSome_none
attribute [local go_sem] yP zb zA5 yW qw zAs zAt zAu zAv zAw zAx zAD zAE zAF zAG zAH zAI zAJ zAK yR qt
attribute [-go_sem] zb
attribute [local go_sem] zAP zB7 zB8 zAU yb
abbrev seO(s:qi):Bool×List Tr:=(true,[.v (.string s.name),.v (.int .i64 s.origin),.v (.int .i64 s.zeL),.v (.int .i64 s.rs),.v (.int .i64 s.rb),.s .o 2 s.dn (ptrsT s.ds s.db)])
abbrev snO(s:zl):Bool×List Tr:=(true,[.v (.int .i64 s.id),.v (.string s.name),.v (.string s.set),.v (.int .i64 s.zeL),.v (.int .i64 s.time),.v (.int .i64 s.rs),.v (.int .i64 s.rb),.s .o 2 s.dn (ptrsT s.ds s.db)])
open Classical in
noncomputable def zEn(W:zB)(x:ByteArray):qi:=if x.size<=8000/\qG W x/\qo W then W.zeK (zBb W.sn fun k=>(W.zeK k).name=x).toNat else zCj
open Classical in
noncomputable def zD7(W:zB)(x:Int):zl:=if zBU W x/\qo W then W.zeJ (zBb W.pn fun k=>(W.zeJ k).id=x).toNat else zAV
noncomputable def zZA:zX:=qk (fun q:zB×ByteArray=>[woT q.1,sT q.2]) (fun q=>SmallW q.1) (fun q=>[seO (zEn q.1 q.2)])
theorem zFF(W:zB)(x:ByteArray):zZA [woT W,sT x]=some (SmallW W,[seO (zEn W x)]):=zO (fun l=>(zCW (nth l 0),zDP (nth l 1 0))) (fun _=>rfl) (W,x)
theorem zMK:zy Tryz.prog 9 zZA:=by
 refine zQ qA (GOk.cons zDH (zG Tryz.func26 rfl rfl) (GOk.cons zAW (zG Tryz.func23 rfl rfl) GOk.nil)) zz Tryz.func9 rfl Tryz.ntmps9 Tryz.results9 7 ?_;rintro⟨W,x⟩ hW;replace hW:SmallW W:=hW;refine⟨by simp,?_⟩;simp[go_sem,zAR,zAp,hW,hW.sn,zCq,zBT,zE6,zF5,zFE];refine⟨fun h=>?_,fun h1 h2 h3=>?_⟩
 ·rw[show zEn W x=zCj from if_neg fun e=>h.elim (fun h=>h.elim (fun h=>by have:=e.1;omega) (fun h=>h e.2.1)) (fun h=>h e.2.2)];exact⟨rfl,rfl,rfl,rfl,rfl,rfl⟩
 ·rw[show zEn W x=_ from if_pos ⟨by omega,h2,h3⟩];obtain⟨k,g1,g2,g3,g4⟩ | ⟨-,g⟩:=zEY W.sn fun k=>(W.zeK k).name=x
  ·have hd:=hW.sd k g1;rw[g4,Int.toNat_natCast];exact⟨⟨h2,by omega⟩,by omega,rfl,rfl,rfl,rfl,rfl,TrE.refl _⟩
  ·have:=zBT.2 h2;omega
noncomputable def zVT:zX:=qk (fun q:zB×Int=>[woT q.1,iT q.2]) (fun q=>SmallW q.1) (fun q=>[snO (zD7 q.1 q.2)])
theorem zJF(W:zB)(x:Int):zVT [woT W,iT x]=some (SmallW W,[snO (zD7 W x)]):=zO (fun l=>(zCW (nth l 0),qM (nth l 1 0))) (fun _=>rfl) (W,x)
theorem zOg:zy Tryz.prog 8 zVT:=by
 refine zQ qA (GOk.cons zC5 (zG Tryz.func27 rfl rfl) (GOk.cons zAW (zG Tryz.func23 rfl rfl) GOk.nil)) zz Tryz.func8 rfl Tryz.ntmps8 Tryz.results8 7 ?_;rintro⟨W,x⟩ hW;replace hW:SmallW W:=hW;refine⟨by simp,?_⟩;simp[go_sem,zCA,zAp,hW,hW.pn,zMx,zJx,zE6,zF5,zFE];refine⟨fun h=>?_,fun h2 h3=>?_⟩
 ·rw[show zD7 W x=zAV from if_neg fun e=>h.elim (fun h=>h e.1) (fun h=>h e.2)];exact⟨rfl,rfl,rfl,rfl,rfl,rfl,rfl,rfl⟩
 ·rw[show zD7 W x=_ from if_pos ⟨h2,h3⟩];obtain⟨k,g1,g2,g3,g4⟩ | ⟨-,g⟩:=zEY W.pn fun k=>(W.zeJ k).id=x
  ·have hd:=hW.pd k g1;rw[g4,Int.toNat_natCast];exact⟨⟨h2,by omega⟩,by omega,rfl,rfl,rfl,rfl,rfl,rfl,rfl,TrE.refl _⟩
  ·have:=zJx.2 h2;omega
def lwD(p:zF)(xs xb:Int)(k:Nat):ByteArray:=if Nil (zFc p xs xb k) (zFu p xs xb k)then⟨#[]⟩else(p.s (zFc p xs xb k).toNat).data
theorem zNG{p:zF}{xs xb:Int}{k:Nat}(h:Nil xs xb):lwD p xs xb k=⟨#[]⟩:=by
 have hn:Nil (zDm p xs xb k) (zD5 p xs xb k):=⟨if_pos h,if_pos h⟩;exact if_pos ⟨if_pos hn,if_pos hn⟩
theorem zNF{p:zF}{xs xb:Int}{k:Nat}(hn:Nil (zDm p xs xb k) (zD5 p xs xb k)):lwD p xs xb k=⟨#[]⟩:=if_pos ⟨if_pos hn,if_pos hn⟩
set_option linter.unusedSimpArgs false
set_option maxRecDepth 20000
set_option maxHeartbeats 3200000
attribute [local go_sem] qg List.map_cons List.map_nil Tr.cv yv qT yF yD yu yr yq yC zBD zBF zBE zBA zBC zBB zCc zCe zCd qY zt qZ zu qR qQ qf zAL zp zq yL qW tmpsOf zAy yK qV zA9 yz yx yw zAA yy stpP opds opd opdC kap zAS qS zo coreU bin zAl zCO get put dlO fgt zBP zBI zBM zBN tyT yp yo Op.operands Call.operands evLoad evLen evStore evAlloc zAn and_true true_and List.append_nil List.nil_append List.cons_append Ret resCv zCB yY cellM zBl zCI qh StW StR hpT hpO hpV hpA hpL hpC sg nin zCT bdO tmW obW AvE CsE CvE Av.tup Av.ids Cv.ids inD ObE Ob.ids TrE.refl qU yH yI qb qd qe zr zf zd zAC zBe zCH zBG evCall argL argOf qq outOb obO yU qK cvO tot Tr.own rid partsOf fillC zU zBj frz frz1 evBuildSlice zc trs Cv.tr evSlice Option.toArray_none Option.toArray_some evMakeSlice evAppend dstOf srcOf zA7 zBO zBL zBJ zBK ikT yB yA qz qy RetP RetN zBs qP evLd evSt evStoreH zAe evAppendM evAppendT tlOf mvOf rowE shp evTake oOf evC evCallP evCallN evCallO unlast zAX zA6 zAZ argsF zCS qu pmC varT vT evField evConv dB0 Option.bind_some Option.bind_none Option.map_some Option.map_none Option.isSome_some Option.isSome_none
attribute [local go_sem] yP zb zA5 yW qw zAs zAt zAu zAv zAw zAx zAD zAE zAF zAG zAH zAI zAJ zAK yR qt
attribute [-go_sem] zb
attribute [local go_sem] zAP zB7 zB8 zAU yb
noncomputable def zVJ:zX:=qk (fun q:zF×Int×Int×Nat=>[poT q.1.n q.1.s q.1.hn q.1.h,pT q.2.1 q.2.2.1,iT (q.2.2.2:Int)]) (fun q=>yf q.1 q.2.1 q.2.2.1/\q.2.2.2<64) (fun q=>[(false,[.v (.string (lwD q.1 q.2.1 q.2.2.1 q.2.2.2))])])
theorem zUA(p:zF)(a b:Int)(k:Nat):zVJ [poT p.n p.s p.hn p.h,pT a b,iT (k:Int)]=some (yf p a b/\k<64,[(false,[.v (.string (lwD p a b k))])]):=zO (fun l=>(zEu (nth l 0 0) (nth l 0 1),qM (nth l 1 0),qM (nth l 1 1),(qM (nth l 2 0)).toNat)) (fun _=>rfl) (p,a,b,k)
theorem zdD{p:zF}{a b:Int}(h:qp p a b):b≠0/\0<=a/\a<p.n:=⟨by have:=h.1;omega,h.2.1,h.2.2.1⟩
theorem zWw:zy Tryz.prog 32 zVJ:=by
 refine zQ qA GOk.nil zz Tryz.func32 rfl Tryz.ntmps32 Tryz.results32 9 ?_;rintro⟨p,a,b,k⟩ ⟨hT,hk⟩;replace hT:yf p a b:=hT;replace hk:k<64:=hk;refine⟨by simp,?_⟩;by_cases hN:Nil a b
 ·obtain⟨rfl,rfl⟩:=id hN;simp[go_sem,zNG hN]
 obtain⟨cA,bA,-⟩:=hT.2.resolve_left hN;have h8:=zIK hT.1 cA;obtain⟨e1,e2,e3⟩:=zdD cA.1;have e4:(k / 8:Nat)<8:=by omega
 have q1:zDm p a b k=(p.s a.toNat).ks (k / 8):=(if_neg hN).trans (zDZ h8 e4);have q2:zD5 p a b k=(p.s a.toNat).kb (k / 8):=(if_neg hN).trans (zDY h8 e4);have hM:=bA.1 (k / 8) e4;unfold zOe at hM;rw[zDZ h8 e4,zDY h8 e4]at hM;simp[go_sem,zQ5 hk,zWC,e1,e2,e3,h8];rw[show((k:Int) / 8).toNat=k / 8 by omega,show((k:Int) % 8).toNat=k % 8 by omega];refine⟨by omega,fun h=>?_,fun h=>?_⟩
 ·have hz:=hM.resolve_right fun g=>by have:=g.1.1.1;omega
  exact(zNF (by rw[q1,q2];exact hz)).symm
 obtain⟨g1,g2⟩:=hM.resolve_left fun e=>h e.2
 have aA:=zIK hT.1 g1;have e5:k % 8<8:=by omega
 have hP:=g2.1 (k % 8) e5;rw[zDZ aA e5,zDY aA e5]at hP;have hn:¬Nil (zDm p a b k) (zD5 p a b k):=by rw[q1,q2];exact fun e=>h e.2
 have d1:zFc p a b k=(p.s ((p.s a.toNat).ks (k / 8)).toNat).ks (k % 8):=(if_neg hn).trans (by rw[q1];exact zDZ aA e5);have d2:zFu p a b k=(p.s ((p.s a.toNat).ks (k / 8)).toNat).kb (k % 8):=(if_neg hn).trans (by rw[q1];exact zDY aA e5);refine⟨⟨g1.1.2.1,g1.1.2.2.1⟩,⟨by omega,by rw[aA];omega⟩,fun h0=>?_,fun h0=>?_⟩
 ·have hz:=hP.resolve_right fun g=>by have:=g.1.1;omega
  exact(if_pos (by rw[d1,d2];exact hz)).symm
 ·have g:=hP.resolve_left fun e=>h0 e.2
  exact⟨⟨g.1.2.1,g.1.2.2.1⟩,((if_neg (by rw[d1,d2];exact fun e=>h0 e.2)).trans (by rw[d1])).symm⟩
noncomputable def zVK:zX:=qk (fun q:zF×Int×Int×zF×Int×Int×Int=>[poT q.1.n q.1.s q.1.hn q.1.h,pT q.2.1 q.2.2.1,poT q.2.2.2.1.n q.2.2.2.1.s q.2.2.2.1.hn q.2.2.2.1.h,pT q.2.2.2.2.1 q.2.2.2.2.2.1,iT q.2.2.2.2.2.2]) (fun q=>yf q.1 q.2.1 q.2.2.1/\yf q.2.2.2.1 q.2.2.2.2.1 q.2.2.2.2.2.1/\∀k:Nat,k<64->(k:Int)≠q.2.2.2.2.2.2->lwD q.1 q.2.1 q.2.2.1 k=lwD q.2.2.2.1 q.2.2.2.2.1 q.2.2.2.2.2.1 k) (fun _=>tT)
theorem zG7(p:zF)(a b:Int)(q:zF)(c d x:Int):zVK [poT p.n p.s p.hn p.h,pT a b,poT q.n q.s q.hn q.h,pT c d,iT x]=some (yf p a b/\yf q c d/\∀k:Nat,k<64->(k:Int)≠x->lwD p a b k=lwD q c d k,tT):=zO (fun l=>(zEu (nth l 0 0) (nth l 0 1),qM (nth l 1 0),qM (nth l 1 1),zEu (nth l 2 0) (nth l 2 1),qM (nth l 3 0),qM (nth l 3 1),qM (nth l 4 0))) (fun _=>rfl) (p,a,b,q,c,d,x)
theorem zPV:zy Tryz.prog 11 zVK:=by
 refine zQ qA (GOk.cons zWw (zG Tryz.func32 rfl rfl) GOk.nil) zz Tryz.func11 rfl Tryz.ntmps11 Tryz.results11 12 ?_;rintro⟨p,a,b,q,c,d,x⟩ ⟨h1,h2,h3⟩;replace h1:yf p a b:=h1;replace h2:yf q c d:=h2;replace h3:∀k:Nat,k<64->(k:Int)≠x->lwD p a b k=lwD q c d k:=h3;refine⟨by simp,?_⟩;simp[go_sem];refine yE (fun k:Nat=>⟨[(5,true,.m false [.p 5 0]),(6,true,.m false [.p 6 0]),(7,true,.m false [.p 7 0]),(8,true,.m false [.p 8 0]),(4,true,.i x),(11,true,.i k)],[(8,.var [.v (.int .i64 c),.v (.int .i64 d)]),(7,.var [.s .b 3 q.n (zk .b q.s),.s .b 1 q.hn (yT q.h)]),(6,.var [.v (.int .i64 a),.v (.int .i64 b)]),(5,.var [.s .b 3 p.n (zk .b p.s),.s .b 1 p.hn (yT p.h)])]⟩) (fun k=>64 - k) (fun k=>k<=64) 0 (by simp[go_sem]) (by simp) ?_;rintro k hk;simp[go_sem,zUA,qB (show k<=1000000000 by omega),h1,h2];exact fun hl=>⟨fun _=>by omega,by kernel_rfl,fun hx=>by rw[h3 k (by omega) hx],fun _=>⟨k+1,by omega,by omega,rfl⟩⟩
structure zOd (W V:zB) (x:ByteArray) (y:Int):Prop where
 zeK:∀i,i<W.sn->(W.zeK i).name≠x->(zEn V (W.zeK i).name).name=(W.zeK i).name/\∀k,k<64->lwD W.pool (W.zeK i).rs (W.zeK i).rb k=lwD V.pool (zEn V (W.zeK i).name).rs (zEn V (W.zeK i).name).rb k
 zeJ:∀i,i<W.pn->(W.zeJ i).id≠y->(zD7 V (W.zeJ i).id).id=(W.zeJ i).id/\∀k,k<64->lwD W.pool (W.zeJ i).rs (W.zeJ i).rb k=lwD V.pool (zD7 V (W.zeJ i).id).rs (zD7 V (W.zeJ i).id).rb k
theorem zK9{V:zB}(h:qo V)(x:ByteArray):za V.pool (zEn V x).rs (zEn V x).rb:=by
 unfold zEn;split
 ·rename_i g
  obtain⟨k,g1,-,-,g4⟩ | ⟨g1,-⟩:=zEY V.sn fun k=>(V.zeK k).name=x
  ·rw[g4];exact(h.zeK k g1).1
  ·obtain⟨k,h1,h2⟩:=g.2.1;exact absurd h2 (g1 k h1)
 ·exact .inl ⟨rfl,rfl⟩
theorem zJO{V:zB}(h:qo V)(x:Int):za V.pool (zD7 V x).rs (zD7 V x).rb:=by
 unfold zD7;split
 ·rename_i g
  obtain⟨k,g1,-,-,g4⟩ | ⟨g1,-⟩:=zEY V.pn fun k=>(V.zeJ k).id=x
  ·rw[g4];exact h.zeJ k g1
  ·obtain⟨k,h1,h2⟩:=g.1;exact absurd h2 (g1 k h1)
 ·exact .inl ⟨rfl,rfl⟩
noncomputable def zVI:zX:=qk (fun q:zB×zB×ByteArray×Int=>[woT q.1,woT q.2.1,sT q.2.2.1,iT q.2.2.2]) (fun q=>(SmallW q.1/\SmallW q.2.1)/\(qo q.1/\qo q.2.1)/\zOd q.1 q.2.1 q.2.2.1 q.2.2.2) (fun _=>tT)
theorem zG6(W V:zB)(x:ByteArray)(y:Int):zVI [woT W,woT V,sT x,iT y]=some ((SmallW W/\SmallW V)/\(qo W/\qo V)/\zOd W V x y,tT):=zO (fun l=>(zCW (nth l 0),zCW (nth l 1),zDP (nth l 2 0),qM (nth l 3 0))) (fun _=>rfl) (W,V,x,y)
theorem zWu:zy Tryz.prog 10 zVI:=by
 refine zQ qA (GOk.cons zMK (zG Tryz.func9 rfl rfl) (GOk.cons zOg (zG Tryz.func8 rfl rfl) (GOk.cons zPV (zG Tryz.func11 rfl rfl) GOk.nil))) zz Tryz.func10 rfl Tryz.ntmps10 Tryz.results10 15 ?_;rintro⟨W,V,x,y⟩ ⟨⟨sW,sV⟩,⟨hW,hV⟩,hK⟩;replace sW:SmallW W:=sW;replace sV:SmallW V:=sV;replace hW:qo W:=hW;replace hV:qo V:=hV;replace hK:zOd W V x y:=hK;have h8:W.sn<=8:=hW.zeM.2.2.1;have aA:W.pn<=20:=hW.zeM.2.2.2.1;refine⟨by simp,?_⟩;simp[go_sem];refine yE (fun k:Nat=>⟨[(4,true,.m false [.p 4 0]),(5,true,.m false [.p 5 0]),(2,true,.m false [.v (.string x)]),(3,true,.i y),(9,true,.i k)],[(5,.var ((woL V).map Tr.cv)),(4,.var ((woL W).map Tr.cv))]⟩) (fun k=>W.sn - k) (fun k=>k<=W.sn) 0 (by simp[go_sem]) (by simp) ?_;intro k hk;obtain⟨D,hD⟩:∃D,zEn V (W.zeK k).name=D:=⟨_,rfl⟩;simp[go_sem,zFF,zG7,qB (show k<=1000000000 by omega),sV,hD];refine⟨fun hl=>?_,fun hl=>?_⟩
 ·have hN:¬(W.zeK k).name.toList=x.toList->D.name=(W.zeK k).name/\∀j,j<64->lwD W.pool (W.zeK k).rs (W.zeK k).rb j=lwD V.pool D.rs D.rb j:=fun h=>hD▸hK.zeK k hl fun e=>h (congrArg ByteArray.toList e)
  exact⟨hl,fun h _=>⟨⟨hW.right,(hW.zeK k hl).1⟩,⟨hV.right,hD▸zK9 hV _⟩,(hN h).2⟩,fun h e=>⟨h,e⟩,fun h=>congrArg ByteArray.toList (hN h).1,fun _=>⟨k+1,by omega,by omega,rfl⟩⟩
 refine yE (fun k:Nat=>⟨[(4,true,.m false [.p 4 0]),(5,true,.m false [.p 5 0]),(3,true,.i y),(12,true,.i k)],[(5,.var ((woL V).map Tr.cv)),(4,.var ((woL W).map Tr.cv))]⟩) (fun k=>W.pn - k) (fun k=>k<=W.pn) 0 (by simp[go_sem]) (by simp) ?_;intro k hk;obtain⟨D,hD⟩:∃D,zD7 V (W.zeJ k).id=D:=⟨_,rfl⟩;simp[go_sem,zJF,zG7,qB (show k<=1000000000 by omega),sV,hD];intro hl;have hN:¬(W.zeJ k).id=y->D.id=(W.zeJ k).id/\∀j,j<64->lwD W.pool (W.zeJ k).rs (W.zeJ k).rb j=lwD V.pool D.rs D.rb j:=fun h=>hD▸hK.zeJ k hl h
 exact⟨hl,fun h _=>⟨⟨hW.right,hW.zeJ k hl⟩,⟨hV.right,hD▸zJO hV _⟩,(hN h).2⟩,fun h e=>⟨h,e⟩,fun h=>(hN h).1,fun _=>⟨k+1,by omega,by omega,rfl⟩⟩
open Go.Maps
theorem zNU{V:zB}(h:yj V):∀{k i:Nat},i<k->k<V.sn->zBm (V.zeK i).name (V.zeK k).name
 | k+1,i,hi,hk=>by
  have g:=(h.2.2.2.2.1 (k+1) hk).2.1 (by omega);rw[Nat.add_sub_cancel]at g;by_cases e:i=k
  ·rw[e];exact g
  ·exact zLZ (zNU h (by omega) (by omega)) g
theorem zYU{V:zB}(h:yj V):∀{k i:Nat},i<k->k<V.pn->(V.zeJ i).id<(V.zeJ k).id
 | k+1,i,hi,hk=>by
  have g:=((h.2.2.2.2.2 (k+1) hk).2.1.1 (by omega)).1;rw[Nat.add_sub_cancel]at g;by_cases e:i=k
  ·rw[e];exact g
  ·exact Int.lt_trans (zYU h (by omega) (by omega)) g
def zFN(p q:zF)(rs rb:Int):Prop:=q.n=p.n/\∀z,z∈zM p rs rb->q.s z.1.toNat=p.s z.1.toNat/\¬Has q.hn q.h z.1
section
variable {p q : zF} {rs rb : Int}
theorem zKA(h:¬Nil rs rb):(rs,rb)∈zM p rs rb:=by
 unfold zM;rw[if_neg h];exact List.mem_cons_self ..
theorem zVY(h:¬Nil rs rb){x:Int×Int}{i:Nat}(hi:i<8)(hx:x∈zHA p (qJ (p.s rs.toNat) i) (yZ (p.s rs.toNat) i)):x∈zM p rs rb:=by
 unfold zM;rw[if_neg h];exact List.mem_cons_of_mem _ (zFG.2 ⟨i,hi,hx⟩)
theorem zQh(h:¬Nil rs rb){i:Nat}(hi:i<8)(hk:¬Nil (qJ (p.s rs.toNat) i) (yZ (p.s rs.toNat) i)):(qJ (p.s rs.toNat) i,yZ (p.s rs.toNat) i)∈zM p rs rb:=zVY h hi (zGU.2 ⟨hk,.inl rfl⟩)
theorem zVX(h:¬Nil rs rb){i j:Nat}(hi:i<8)(hj:j<8)(hk:¬Nil (qJ (p.s rs.toNat) i) (yZ (p.s rs.toNat) i))(hl:¬Nil (qJ (p.s (qJ (p.s rs.toNat) i).toNat) j) (yZ (p.s (qJ (p.s rs.toNat) i).toNat) j)):(qJ (p.s (qJ (p.s rs.toNat) i).toNat) j,yZ (p.s (qJ (p.s rs.toNat) i).toNat) j)∈zM p rs rb:=zVY h hi (zGU.2 ⟨hk,.inr (zFa.2 ⟨j,hj,rfl,hl⟩)⟩)
theorem zS1{s:zN}:∀{k:Nat},(∀i,i<k->¬Nil (qJ s i) (yZ s i)->q.s (qJ s i).toNat=p.s (qJ s i).toNat)->zCR q s k=zCR p s k
 | 0,_=>rfl
 | k+1,h=>by
  unfold zCR;rw[zS1 (fun i hi=>h i (by omega))];congr 1;unfold zHA;by_cases hz:Nil (qJ s k) (yZ s k)
  ·rw[if_pos hz,if_pos hz]
  ·rw[if_neg hz,if_neg hz,h k (Nat.lt_succ_self k) hz]
theorem zFN.tree(h:zFN p q rs rb):zM q rs rb=zM p rs rb:=by
 by_cases hz:Nil rs rb
 ·unfold zM;rw[if_pos hz,if_pos hz]
 ·have e:=(h.2 _ (zKA hz)).1;have:=zS1 (p:=p) (q:=q) (s:=p.s rs.toNat) (k:=8) fun i hi hk=>(h.2 _ (zQh hz hi hk)).1
  unfold zM;rw[if_neg hz,if_neg hz,e,this]
theorem zFN.ok(h:zFN p q rs rb)(ht:za p rs rb):za q rs rb:=by
 refine ht.imp id fun ⟨hN,hT,hD⟩=>?_
 have hz:¬Nil rs rb:=fun e=>by have:=hN.1.1;have:=e.2;omega
 have pt:∀a b,(a,b)∈zM p rs rb->qp p a b->qp q a b:=fun a b hm hp=>⟨hp.1,hp.2.1,by rw[h.1];exact hp.2.2.1,by rw[(h.2 _ hm).1];exact hp.2.2.2⟩
 have nd:∀a b,(a,b)∈zM p rs rb->zIw p a b->zIw q a b:=fun a b hm hp=>⟨pt a b hm hp.1,by rw[(h.2 _ hm).1];exact hp.2.1,(h.2 _ hm).2⟩
 refine⟨nd _ _ (zKA hz) hN,?_,by rw[h.tree];exact hD⟩;rw[(h.2 _ (zKA hz)).1];refine⟨fun i hi=>?_,hT.2⟩;by_cases hk:Nil (qJ (p.s rs.toNat) i) (yZ (p.s rs.toNat) i)
 ·exact .inl hk
 obtain⟨g1,g2⟩:=(hT.1 i hi).resolve_left hk;have hm:=zQh hz hi hk;refine .inr ⟨nd _ _ hm g1,?_⟩;rw[(h.2 _ hm).1];refine⟨fun j hj=>?_,g2.2⟩;by_cases hl:Nil (qJ (p.s (qJ (p.s rs.toNat) i).toNat) j) (yZ (p.s (qJ (p.s rs.toNat) i).toNat) j)
 ·exact .inl hl
 have hp:=(g2.1 j hj).resolve_left hl;have aA:=zVX hz hi hj hk hl;exact .inr ⟨pt _ _ aA hp.1,by rw[(h.2 _ aA).1];exact hp.2.1,(h.2 _ aA).2⟩
theorem zFN.page(h:zFN p q rs rb){k:Nat}(hk:k<64):lwD q rs rb k=lwD p rs rb k:=by
 by_cases hz:Nil rs rb
 ·rw[zNG hz,zNG hz]
 have e:=(h.2 _ (zKA hz)).1;have a1:zDm q rs rb k=zDm p rs rb k/\zD5 q rs rb k=zD5 p rs rb k:=by
  unfold zDm zD5 zFY zFX;rw[if_neg hz,if_neg hz,if_neg hz,if_neg hz,e];exact⟨rfl,rfl⟩
 by_cases hn:Nil (zDm p rs rb k) (zD5 p rs rb k)
 ·rw[zNF hn,zNF (by rw[a1.1,a1.2];exact hn)]
 have c1:zDm p rs rb k=qJ (p.s rs.toNat) (k / 8):=if_neg hz;have c2:zD5 p rs rb k=yZ (p.s rs.toNat) (k / 8):=if_neg hz;have aA:¬Nil (qJ (p.s rs.toNat) (k / 8)) (yZ (p.s rs.toNat) (k / 8)):=by rw[<-c1,<-c2];exact hn
 have e2:q.s (zDm p rs rb k).toNat=p.s (zDm p rs rb k).toNat:=by rw[c1];exact(h.2 _ (zQh hz (by omega) aA)).1
 have a2:zFc q rs rb k=zFc p rs rb k/\zFu q rs rb k=zFu p rs rb k:=by
  unfold zFc zFu;rw[a1.1,a1.2];unfold zFY zFX;rw[if_neg hn,if_neg hn,if_neg hn,if_neg hn,e2];exact⟨rfl,rfl⟩
 unfold lwD;rw[a2.1,a2.2];by_cases hp:Nil (zFc p rs rb k) (zFu p rs rb k)
 ·rw[if_pos hp,if_pos hp]
 ·rw[if_neg hp,if_neg hp];have d1:zFc p rs rb k=qJ (p.s (qJ (p.s rs.toNat) (k / 8)).toNat) (k % 8):=(by rw[<-c1];exact if_neg hn);have d2:zFu p rs rb k=yZ (p.s (qJ (p.s rs.toNat) (k / 8)).toNat) (k % 8):=(by rw[<-c1];exact if_neg hn);rw[d1,d2]at hp;rw[d1,(h.2 _ (zVX hz (by omega) (by omega) aA hp)).1]
end
structure zDL (W:zB):Prop where
 right:zg W.pool
 zeM:yj W
 lines:∀i,i<W.sn->zDc W (W.zeK i).name (W.zeK i).zeL (W.zeK i).origin
 zeJ:∀i,i<W.pn->za W.pool (W.zeJ i).rs (W.zeJ i).rb
 zeK:∀i,i<W.sn->za W.pool (W.zeK i).rs (W.zeK i).rb/\zCF W (W.pn+i)
 dead:∀i,i<W.pn->zCF W i
 born:∀i,i<memN W->zDa W i
 zeN:zHS W
theorem qo.toU{W:zB}(h:qo W):zDL W:=⟨h.right,h.zeM,h.lines,h.zeJ,h.zeK,h.dead,h.born,h.zeN⟩
theorem zDL.spec{W:zB}(h:zDL W)(hE:zP4 W):qo W:=⟨h.right,h.zeM,h.lines,h.zeJ,h.zeK,h.dead,hE,h.born,h.zeN⟩
theorem zDL.mem{W:zB}(h:zDL W){i:Nat}(hi:i<memN W):za W.pool (zI W i).rs (zI W i).rb:=(zKR h.right h.zeM h.zeJ fun j hj=>(h.zeK j hj).1).tree i hi
theorem zZQ{W:zB}(h:qo W){i:Nat}(hi:i<memN W):za W.pool (zI W i).rs (zI W i).rb:=h.toU.mem hi
theorem Steps.same{W V:zB}(hp:V.pn=W.pn)(hs:V.zeJ=W.zeJ){nm:ByteArray}{st:Int}{n:Nat}{x:Int}(g:Steps W nm st n x):Steps V nm st n x:=by
 induction g with
 | zero=>exact .zero
 | next _ hk hn ih=>
  have:=Steps.next ih (show yV V _ _ by unfold yV at hk ⊢;rw[hp,hs];exact hk) (by rw[hs];exact hn)
  rwa [hs]at this
theorem zDc.same{W V:zB}(hp:V.pn=W.pn)(hs:V.zeJ=W.zeJ){nm:ByteArray}{st o:Int}(h:zDc W nm st o):zDc V nm st o:=by
 obtain⟨n,e,g1,g2,g3,g4⟩:=h;have aA:∀k,ownN V nm k=ownN W nm k:=fun k=>by
  induction k with
  | zero=>rfl
  | succ k ih=>unfold ownN;rw[ih,hs]
 exact⟨n,e,g1.same hp hs,fun ⟨k,hk,hn⟩=>g2 ⟨k,by unfold yV at hk ⊢;rw[<-hp,<-hs];exact hk,by rw[<-hs];exact hn⟩,by rw[aA,hp];exact g3,g4⟩
structure OnW (W V:zB):Prop where
 sn:V.sn=W.sn
 zeK:V.zeK=W.zeK
 pn:V.pn=W.pn
 zeJ:V.zeJ=W.zeJ
 next:V.next=W.next
 time:W.time<=V.time/\V.time<=900000
 tree:∀i,i<memN W->zFN W.pool V.pool (zI W i).rs (zI W i).rb
section
variable {W V : zB}
theorem OnW.snapNo(h:OnW W V)(x:Int)(k:Nat):yV V x k↔yV W x k:=by unfold yV;rw[h.pn,h.zeJ]
theorem OnW.ahead(h:OnW W V)(x:Int):zE V x=zE W x:=by
 by_cases hx:∃k,yV W x k
 ·obtain⟨k,hk⟩:=hx;rw[yQ hk,yQ ((h.snapNo x k).2 hk),h.zeJ]
 ·unfold zE;rw[dif_neg hx,dif_neg (fun ⟨k,hk⟩=>hx ⟨k,(h.snapNo x k).1 hk⟩)]
theorem OnW.memN(h:OnW W V):memN V=memN W:=by unfold Go.Proofs.YtjganmlaooofoaaGreatDoor.memN;rw[h.sn,h.pn]
theorem OnW.mem(h:OnW W V)(i:Nat):∃t,zI V i = {zI W i with time:=t}/\(zI W i).time<=t:=by
 unfold zI;rw[h.pn,h.zeJ,h.zeK];by_cases hi:i<W.pn
 ·rw[if_pos hi,if_pos hi];exact⟨_,rfl,Int.le_refl _⟩
 ·rw[if_neg hi,if_neg hi];exact⟨V.time,rfl,h.time.1⟩
theorem OnW.treeM(h:OnW W V){i:Nat}(hi:i<Go.Proofs.YtjganmlaooofoaaGreatDoor.memN W):treeM V (zI V i)=Go.Proofs.YtjganmlaooofoaaGreatDoor.treeM W (zI W i):=by
 obtain⟨t,e,-⟩:=h.mem i;rw[e];exact(h.tree i hi).tree
theorem OnW.root(h:OnW W V)(x:Int):zM V.pool (zE W x).rs (zE W x).rb=zM W.pool (zE W x).rs (zE W x).rb:=by
 by_cases hx:∃k,yV W x k
 ·obtain⟨k,hk⟩:=hx;rw[yQ hk];have:=(h.tree k (by unfold Go.Proofs.YtjganmlaooofoaaGreatDoor.memN;have:=hk.1;omega)).tree
  rwa [zx hk.1]at this
 ·unfold zE;rw[dif_neg hx];rfl
theorem OnW.oldM(h:OnW W V)(i:Nat):oldM V (zI V i)=Go.Proofs.YtjganmlaooofoaaGreatDoor.oldM W (zI W i):=by
 obtain⟨t,e,-⟩:=h.mem i;rw[e];show zM V.pool (zE V (zI W i).zeL).rs (zE V (zI W i).zeL).rb=_;rw[h.ahead,h.root];rfl
theorem OnW.specU(h:OnW W V)(hs:zDL W)(hR:zg V.pool):zDL V:=by
 have cA:∀x,zBU V x↔zBU W x:=fun x=>by unfold zBU;rw[h.pn,h.zeJ]
 have dA:∀x,qG V x↔qG W x:=fun x=>by unfold qG;rw[h.sn,h.zeK]
 have eA:∀i,(zI V i).rs=(zI W i).rs/\(zI V i).rb=(zI W i).rb:=fun i=>by obtain⟨t,e,-⟩:=h.mem i;rw[e];exact⟨rfl,rfl⟩
 have aA:∀i,i<Go.Proofs.YtjganmlaooofoaaGreatDoor.memN W->zCF W i->zCF V i:=fun i hi g=>by
  unfold zCF at g ⊢;rw[h.treeM hi,h.oldM i];obtain⟨t,e,-⟩:=h.mem i;rw[e];exact g
 have fA:∀i,i<V.pn->i<Go.Proofs.YtjganmlaooofoaaGreatDoor.memN W:=fun i hi=>by unfold Go.Proofs.YtjganmlaooofoaaGreatDoor.memN;rw[h.pn]at hi;omega
 have bA:∀i,i<Go.Proofs.YtjganmlaooofoaaGreatDoor.memN W->za V.pool (zI V i).rs (zI V i).rb:=fun i hi=>by
  rw[(eA i).1,(eA i).2];exact(h.tree i hi).ok (hs.mem hi)
 refine⟨hR,?_,?_,fun i hi=>?_,fun i hi=>?_,fun i hi=>aA i (fA i hi) (hs.dead i (by rw[<-h.pn];exact hi)),fun i hi=>?_,?_⟩
 ·obtain⟨⟨a1,a2⟩,a3,a4,a5,a6,a7⟩:=hs.zeM;have ht:=h.time;refine⟨⟨by omega,ht.2⟩,by rw[h.next];exact a3,by rw[h.sn];exact a4,by rw[h.pn];exact a5,fun i hi=>?_,fun i hi=>?_⟩
  ·have g:=a6 i (by rw[<-h.sn];exact hi);unfold zIa at g ⊢;rw[h.zeK];exact⟨g.1,g.2.1,fun e=>(cA _).2 (g.2.2.1 e),fun e=>(cA _).2 (g.2.2.2 e)⟩
  ·have g:=a7 i (by rw[<-h.pn];exact hi);unfold zP7 zbt zXu zXv at g ⊢;rw[h.zeJ,h.next];obtain⟨⟨b1,b2,b3,b4,b5,b6⟩,⟨c1,c2⟩,d⟩:=g;exact⟨⟨b1,b2,b3,by omega,b5,(dA _).2 b6⟩,⟨c1,fun e=>⟨(c2 e).1,(cA _).2 (c2 e).2⟩⟩,d⟩
 ·intro i hi;rw[h.zeK];exact(hs.lines i (by rw[<-h.sn];exact hi)).same h.pn h.zeJ
 ·have:=bA i (fA i hi)
  rwa [zx hi]at this
 ·have hm:V.pn+i<Go.Proofs.YtjganmlaooofoaaGreatDoor.memN W:=(by rw[<-h.memN];unfold Go.Proofs.YtjganmlaooofoaaGreatDoor.memN;omega);have:=bA _ hm;rw[qN]at this;exact⟨this,aA _ hm (by rw[h.pn];exact(hs.zeK i (by rw[<-h.sn];exact hi)).2)⟩
 ·have hm:i<Go.Proofs.YtjganmlaooofoaaGreatDoor.memN W:=(by rw[<-h.memN];exact hi);have g:=hs.born i hm;unfold zDa at g ⊢;rw[h.treeM hm,h.oldM i];obtain⟨t,e,ht⟩:=h.mem i;rw[e];dsimp only;rw[h.ahead];exact fun x hx=>⟨Int.le_trans (g x hx).1 ht,(g x hx).2⟩
 ·intro i hi j hj;have hm:i<Go.Proofs.YtjganmlaooofoaaGreatDoor.memN W:=(by rw[<-h.memN];exact hi);unfold zDI;rw[h.treeM hm,h.oldM i,h.treeM (show j<Go.Proofs.YtjganmlaooofoaaGreatDoor.memN W by omega),h.oldM j];exact hs.zeN i hm j hj
end
theorem zUX{V:zB}(h:qo V){k i:Nat}(hi:i<k)(hk:k<V.sn):zBm (V.zeK i).name (V.zeK k).name:=zNU h.zeM hi hk
theorem zV7{V:zB}(h:qo V){k i:Nat}(hi:i<k)(hk:k<V.pn):(V.zeJ i).id<(V.zeJ k).id:=zYU h.zeM hi hk
theorem zMA{V:zB}(h:qo V){i:Nat}(hi:i<V.sn):zEn V (V.zeK i).name=V.zeK i:=by
 have hs:=(h.zeM.2.2.2.2.1 i hi).1;unfold zEn;rw[if_pos ⟨by have:=hs.2.1;omega,⟨i,hi,rfl⟩,h⟩,zDy (P:=fun k=>(V.zeK k).name=(V.zeK i).name) hi rfl (fun j hj e=>zKH (zUX h hj hi) e),Int.toNat_natCast]
theorem zSv{V:zB}(h:qo V){i:Nat}(hi:i<V.pn):zD7 V (V.zeJ i).id=V.zeJ i:=by
 unfold zD7;rw[if_pos ⟨⟨i,hi,rfl⟩,h⟩,zDy (P:=fun k=>(V.zeJ k).id=(V.zeJ i).id) hi rfl (fun j hj e=>by have:=zV7 h hj hi;omega),Int.toNat_natCast]
theorem zLy{z:Int}:∀{l:List (Int×Int)} {p:zF},Has (zT p l).hn (zT p l).h z↔Has p.hn p.h z\/∃x,x∈l/\x.1=z
 | [],p=>⟨.inl,fun h=>h.resolve_right fun ⟨_,hx,_⟩=>by cases hx⟩
 | a :: l,p=>by
  have e:Has (zBw p a.1).hn (zBw p a.1).h z↔Has p.hn p.h z\/z=a.1:=by
   refine⟨zPD,fun h=>?_⟩;rcases h with⟨j,hj,e⟩ | rfl
   ·exact⟨j,Nat.lt_succ_of_lt hj,(if_neg (by omega)).trans e⟩
   ·exact⟨p.hn,Nat.lt_succ_self _,if_pos rfl⟩
  show Has (zT (zBw p a.1) l).hn (zT (zBw p a.1) l).h z↔_;rw[zLy,e];constructor
  ·rintro((h | rfl) | ⟨x,hx,h⟩)
   ·exact .inl h
   ·exact .inr ⟨a,List.mem_cons_self ..,rfl⟩
   ·exact .inr ⟨x,List.mem_cons_of_mem _ hx,h⟩
  ·rintro(h | ⟨x,hx,h⟩)
   ·exact .inl (.inl h)
   ·rcases List.mem_cons.1 hx with rfl | hx
    ·exact .inl (.inr h.symm)
    ·exact .inr ⟨x,hx,h⟩
theorem zKm{p:zF}{l:List (Int×Int)}{rs rb:Int}(h:∀z,z∈zM p rs rb->¬Has p.hn p.h z.1/\∀x,x∈l->x.1≠z.1):zFN p (zT p l) rs rb:=
 ⟨(zAi l p).1,fun z hz=>⟨by rw[(zAi l p).2.1],fun g=>(zLy.1 g).elim (h z hz).1 fun ⟨x,hx,e⟩=>(h z hz).2 x hx e⟩⟩
section
variable {W : zB}
theorem zKw{m:zF3}{x:Int×Int}(h:x∈oldM W m):∃j,yV W m.zeL j/\x∈treeM W (zI W j):=by
 by_cases aA:∃j,yV W m.zeL j
 ·obtain⟨j,hj⟩:=aA;unfold oldM at h;rw[yQ hj]at h;exact⟨j,hj,by rw[zx hj.1];exact h⟩
 ·have:zE W m.zeL=zAV:=(by unfold zE;rw[dif_neg aA]);unfold oldM at h;rw[this,zM,if_pos ⟨rfl,rfl⟩]at h;cases h
theorem zG9{m:zF3}{x:Int×Int}:x∈zDI W m↔x∈treeM W m/\x∉oldM W m:=by
 unfold zDI zB3;rw[List.mem_filter,decide_eq_true_iff]
theorem zPG(hU:zDL W){x:Int×Int}:∀(N:Nat) (k:Nat),k<W.pn->(W.zeJ k).id<N->x∈treeM W (zI W k)->∃i,i<W.pn/\x∈zDI W (zI W i)
 | 0,k,hk,h1,_=>by have:=hU.zeM.zeI.pos k hk;omega
 | N+1,k,hk,h1,hx=>by
  by_cases ho:x∈oldM W (zI W k)
  ·obtain⟨j,hj,aA⟩:=zKw ho;have h2:=hU.zeM.zeI.less k hk;have h3:=hj.2.1;rw[zx hk]at h3;have h4:(zZP (W.zeJ k)).zeL=(W.zeJ k).zeL:=rfl;exact zPG hU N j hj.1 (by omega) aA
  ·exact⟨k,hk,zG9.2 ⟨hx,ho⟩⟩
theorem zZg(hU:zDL W){m:zF3}{x:Int×Int}(h:x∈oldM W m):∃i,i<W.pn/\x∈zDI W (zI W i):=by
 obtain⟨j,hj,hx⟩:=zKw h;have:=hU.zeM.zeI.pos j hj.1;exact zPG hU ((W.zeJ j).id.toNat+1) j hj.1 (by omega) hx
theorem zDL.apart'(hU:zDL W){i j:Nat}(hi:i<memN W)(hj:j<memN W)(aA:i≠j){x y:Int×Int}(hx:x∈zDI W (zI W i))(hy:y∈zDI W (zI W j)):x.1≠y.1:=by
 rcases Nat.lt_or_gt_of_ne aA with h | h
 ·exact fun e=>hU.zeN j hj i h y hy x hx e.symm
 ·exact hU.zeN i hi j h x hx y hy
theorem zEN(hU:zDL W){k:Nat}(hk:k<W.sn){x:Int×Int}(hx:x∈zDI W (zI W (W.pn+k))){m:Nat}(hm:m<memN W)(bA:m≠W.pn+k){y:Int×Int}(hy:y∈treeM W (zI W m)):x.1≠y.1:=by
 have aA:W.pn+k<memN W:=by unfold memN;omega
 by_cases ho:y∈oldM W (zI W m)
 ·obtain⟨i,hi,h⟩:=zZg hU ho;exact hU.apart' aA (by unfold memN;omega) (by omega) hx h
 ·exact hU.apart' aA hm (Ne.symm bA) hx (zG9.2 ⟨hy,ho⟩)
theorem zPa(hU:zDL W){k:Nat}(hk:k<W.sn){x:Int×Int}:x∈zBq (treeM W (zI W (W.pn+k))) (zE W (W.zeK k).zeL).time↔x∈zDI W (zI W (W.pn+k)):=by
 have hb:=hU.born (W.pn+k) (by unfold memN;omega);unfold zBq;rw[zG9,List.mem_filter,decide_eq_true_iff];refine and_congr_right fun hx=>?_
 have:=(hb x hx).2;rw[qN]at this ⊢;rw[this];show _↔¬x.2<=(zE W (W.zeK k).zeL).time;omega
end
theorem zWr(l:List (Int×Int)):zB3 l l = []:=List.filter_eq_nil_iff.2 fun x hx=>by simp[hx]
theorem zXF(f g h i:Nat->Int):zGJ 0 f g 0 h i:=⟨⟨Nat.zero_le _,fun i hi=>absurd hi (Nat.not_lt_zero _),fun i hi=>absurd hi (Nat.not_lt_zero _)⟩,⟨Nat.zero_le _,fun i hi=>absurd hi (Nat.not_lt_zero _),fun i hi=>absurd hi (Nat.not_lt_zero _)⟩,rfl,fun i hi=>absurd hi (Nat.not_lt_zero _)⟩
theorem zI0{W V:zB}(hp:V.pn=W.pn)(hs:V.zeJ=W.zeJ)(x:Int):zE V x=zE W x:=by
 have hn:∀k,yV V x k↔yV W x k:=fun k=>by unfold yV;rw[hp,hs]
 by_cases hx:∃k,yV W x k
 ·obtain⟨k,hk⟩:=hx;rw[yQ hk,yQ ((hn k).2 hk),hs]
 ·unfold zE;rw[dif_neg hx,dif_neg fun ⟨k,hk⟩=>hx ⟨k,(hn k).1 hk⟩]
section
variable {W : zB}
theorem zFb(hU:zDL W){k:Nat}(hk:k<W.sn){x:Int×Int}:x∈zAa W (W.zeK k)↔x∈zDI W (zI W (W.pn+k)):=by
 rw[<-zPa hU hk,qN];unfold zAa;rw[zGj];rfl
def zC9(W:zB)(k:Nat)(r b:Int)(n:Nat)(f g:Nat->Int):zB:={W with zeK:=fun j=>if j=k then {W.zeK k with rs:=r,rb:=b,dn:=n,ds:=f,db:=g}else W.zeK j}
theorem zIQ{k:Nat}{r b:Int}{n:Nat}{f g:Nat->Int}{i:Nat}(h:i≠W.pn+k):zI (zC9 W k r b n f g) i=zI W i:=by
 by_cases hp:i<W.pn
 ·rw[zx hp];exact zx hp
 ·obtain⟨j,rfl⟩:∃j,i=W.pn+j:=⟨i - W.pn,by omega⟩;rw[qN];refine(qN (zC9 W k r b n f g) j).trans ?_;show zUI W.time (if j=k then _ else W.zeK j)=_;rw[if_neg (by omega)]
theorem zK6{k:Nat}{r b:Int}{n:Nat}{f g:Nat->Int}:zI (zC9 W k r b n f g) (W.pn+k)=⟨(W.zeK k).zeL,W.time,r,b,n,f,g⟩:=by
 refine(qN (zC9 W k r b n f g) k).trans ?_;show zUI W.time (if k=k then _ else W.zeK k)=_;rw[if_pos rfl];rfl
theorem zK5{k:Nat}{r b:Int}{n:Nat}{f g:Nat->Int}(x:Int):zE (zC9 W k r b n f g) x=zE W x:=zI0 rfl rfl x
theorem zL8{k:Nat}{r b:Int}{n:Nat}{f g:Nat->Int}(m:zF3):oldM (zC9 W k r b n f g) m=oldM W m:=by unfold oldM;rw[zK5];rfl
theorem zDL.root(hU:zDL W){k:Nat}(hk:k<W.sn){r b:Int}{n:Nat}{f g:Nat->Int}(hT:za W.pool r b)(hD:zD8 n f g (zB3 (oldM W (zI W (W.pn+k))) (zM W.pool r b)))
  (hB:zHU (zM W.pool r b) (oldM W (zI W (W.pn+k))) (zE W (W.zeK k).zeL).time W.time) (hA:∀x,x∈zM W.pool r b->x∉oldM W (zI W (W.pn+k))->∀m,m<memN W->m≠W.pn+k->∀y,y∈zDI W (zI W m)->x.1≠y.1):zDL (zC9 W k r b n f g):=by
 have bA:oldM (zC9 W k r b n f g) ⟨(W.zeK k).zeL,W.time,r,b,n,f,g⟩=oldM W (zI W (W.pn+k)):=by rw[zL8,qN];rfl
 have aA:∀i,i<memN W->(i≠W.pn+k->zCF W i)->zCF (zC9 W k r b n f g) i:=fun i hi h=>by
  by_cases e:i=W.pn+k
  ·subst e;unfold zCF;rw[zK6,bA];exact hD
  ·unfold zCF;rw[zIQ e,zL8];exact h e
 have hf:∀i,((zC9 W k r b n f g).zeK i).name=(W.zeK i).name/\((zC9 W k r b n f g).zeK i).zeL=(W.zeK i).zeL/\((zC9 W k r b n f g).zeK i).origin=(W.zeK i).origin:=fun i=>by
  show(if i=k then _ else W.zeK i:qi).name=_/\(if i=k then _ else W.zeK i:qi).zeL=_/\(if i=k then _ else W.zeK i:qi).origin=_;by_cases e:i=k
  ·subst e;rw[if_pos rfl];exact⟨rfl,rfl,rfl⟩
  ·rw[if_neg e];exact⟨rfl,rfl,rfl⟩
 have eA:∀x,qG (zC9 W k r b n f g) x↔qG W x:=fun x=>exists_congr fun j=>and_congr_right fun _=>by rw[(hf j).1]
 have fA:memN (zC9 W k r b n f g)=memN W:=rfl;have gA:∀i,i<W.sn->W.pn+i<memN W:=fun i hi=>by unfold memN;omega
 refine⟨hU.right,?_,fun i hi=>?_,hU.zeJ,fun i hi=>⟨?_,aA _ (gA i hi) fun _=>(hU.zeK i hi).2⟩,fun i hi=>aA i (by unfold memN;have:i<W.pn:=hi;omega) fun _=>hU.dead i hi,fun i hi=>?_,?_⟩
 ·obtain⟨a1,a3,a4,a5,a6,a7⟩:=hU.zeM;refine⟨a1,a3,a4,a5,fun i hi=>?_,fun i hi=>?_⟩
  ·have q:=a6 i hi;unfold zIa at q ⊢;rw[(hf i).1,(hf i).2.1,(hf i).2.2,(hf (i - 1)).1];exact q
  ·obtain⟨⟨b1,b2,b3,b4,b5,b6⟩,c,d⟩:=a7 i hi;exact⟨⟨b1,b2,b3,b4,b5,(eA _).2 b6⟩,c,d⟩
 ·rw[(hf i).1,(hf i).2.1,(hf i).2.2];exact zDc.same (W:=W) (V:=zC9 W k r b n f g) rfl rfl (hU.lines i hi)
 ·by_cases e:i=k
  ·subst e;show za W.pool (if i=i then _ else W.zeK i:qi).rs (if i=i then _ else W.zeK i:qi).rb;rw[if_pos rfl];exact hT
  ·show za W.pool (if i=k then _ else W.zeK i:qi).rs (if i=k then _ else W.zeK i:qi).rb;rw[if_neg e];exact(hU.zeK i hi).1
 ·by_cases e:i=W.pn+k
  ·subst e;unfold zDa;rw[zK6,bA];show zHU _ _ (zE (zC9 W k r b n f g) (W.zeK k).zeL).time _;rw[zK5];exact hB
  ·have q:=hU.born i hi;unfold zDa at q ⊢;rw[zIQ e,zL8,zK5];exact q
 ·have cA:∀i,i≠W.pn+k->zDI (zC9 W k r b n f g) (zI (zC9 W k r b n f g) i)=zDI W (zI W i):=fun i e=>by
   unfold zDI;rw[zIQ e,zL8];rfl
  have dA:∀x,x∈zDI (zC9 W k r b n f g) (zI (zC9 W k r b n f g) (W.pn+k))->x∈zM W.pool r b/\x∉oldM W (zI W (W.pn+k)):=fun x hx=>by
   rw[zK6]at hx;have:=zG9.1 hx;rw[bA]at this;exact this
  intro i hi j hj x hx y hy;by_cases e:i=W.pn+k
  ·subst e;obtain⟨x1,x2⟩:=dA x hx;rw[cA j (by omega)]at hy;exact hA x x1 x2 j (by rw[fA]at hi;omega) (by omega) y hy
  ·rw[cA i e]at hx;by_cases e':j=W.pn+k
   ·subst e';obtain⟨y1,y2⟩:=dA y hy;exact fun h=>hA y y1 y2 i hi e x hx h.symm
   ·rw[cA j e']at hy;exact hU.zeN i hi j hj x hx y hy
theorem zDL.deadOf(hU:zDL W){i:Nat}(hi:i<memN W):zCF W i:=by
 by_cases hp:i<W.pn
 ·exact hU.dead i hp
 ·obtain⟨j,rfl⟩:∃j,i=W.pn+j:=⟨i - W.pn,by omega⟩;exact(hU.zeK j (by unfold memN at hi;omega)).2
end
section
variable {W : zB}
theorem zXP(h:qo W){k:Nat}(hk:k<W.sn):qo (zDo W k)/\∀m,m<memN W->m≠W.pn+k->zFN W.pool (zDo W k).pool (zI W m).rs (zI W m).rb:=by
 have hU:=h.toU;have hR:=h.right;have iA:W.pn+k<memN W:=by unfold memN;omega
 have eo:oldM W (zI W (W.pn+k))=zM W.pool (zE W (W.zeK k).zeL).rs (zE W (W.zeK k).zeL).rb:=by rw[qN];rfl
 have fA:za W.pool (zE W (W.zeK k).zeL).rs (zE W (W.zeK k).zeL).rb:=zNa h.zeJ _;have nA:(zE W (W.zeK k).zeL).time<=W.time:=by
  by_cases hx:∃j,yV W (W.zeK k).zeL j
  ·obtain⟨j,hj⟩:=hx;rw[yQ hj];have:=(h.zeM.2.2.2.2.2 j hj.1).1.2.2.2.1;omega
  ·unfold zE;rw[dif_neg hx];have:1<=W.time:=h.zeM.1.1;show(0:Int)<=_;omega
 have hb:zHU (zM W.pool (zE W (W.zeK k).zeL).rs (zE W (W.zeK k).zeL).rb) (oldM W (zI W (W.pn+k))) (zE W (W.zeK k).zeL).time W.time:=by
  rw[eo];intro x hx;have:x.2<=(zE W (W.zeK k).zeL).time:=by
   by_cases hj:∃j,yV W (W.zeK k).zeL j
   ·obtain⟨j,hj⟩:=hj;rw[yQ hj]at hx ⊢;have q:=h.born j (by unfold memN;have:=hj.1;omega);unfold zDa at q;rw[zx hj.1]at q;exact(q x hx).1
   ·unfold zE at hx;rw[dif_neg hj]at hx;have:x∈zM W.pool 0 0:=hx;rw[zM,if_pos ⟨rfl,rfl⟩]at this;cases this
  exact⟨by omega,fun _=>this,fun _=>hx⟩
 have hV:=hU.root (n:=0) (f:=(W.zeK k).ds) (g:=(W.zeK k).db) hk fA (by rw[eo,zWr];exact zXF _ _ _ _) hb (fun x hx hn=>absurd (by rw[eo];exact hx) hn);have aA:∀m,m<memN W->m≠W.pn+k->zFN W.pool (zT W.pool (zAa W (W.zeK k))) (zI W m).rs (zI W m).rb:=fun m hm e=>zKm fun z hz=>⟨(zBc hR (zZQ h hm) hz).2.2,fun x hx=>zEN hU hk ((zFb hU hk).1 hx) hm e hz⟩
 have bA:zFN W.pool (zT W.pool (zAa W (W.zeK k))) (zE W (W.zeK k).zeL).rs (zE W (W.zeK k).zeL).rb:=zKm fun z hz=>⟨(zBc hR fA hz).2.2,fun x hx=>by
  obtain⟨j,hj,mA⟩:=zKw (W:=W) (m:=zI W (W.pn+k)) (by rw[eo];exact hz);exact zEN hU hk ((zFb hU hk).1 hx) (by unfold memN;have:=hj.1;omega) (by have:=hj.1;omega) mA⟩
 have eA:OnW (zC9 W k (zE W (W.zeK k).zeL).rs (zE W (W.zeK k).zeL).rb 0 (W.zeK k).ds (W.zeK k).db) (zDo W k):=⟨rfl,rfl,rfl,rfl,rfl,⟨Int.le_refl _,h.zeM.1.2⟩,fun i hi=>by
  by_cases e:i=W.pn+k
  ·subst e;rw[zK6];exact bA
  ·rw[zIQ e];exact aA i hi e⟩
 have lA:=(zQz hR (h.zeK k hk).1).last;refine⟨(eA.specU hV lA).spec fun i hi=>?_,aA⟩;have cA:i<W.pool.n:=by rw[<-(zAi (zAa W (W.zeK k)) W.pool).1];exact hi
 have ex:(∃m,m<memN (zDo W k)/\∃b,((i:Int),b)∈treeM (zDo W k) (zI (zDo W k) m))↔∃m,m<memN W/\∃b,((i:Int),b)∈treeM (zC9 W k (zE W (W.zeK k).zeL).rs (zE W (W.zeK k).zeL).rb 0 (W.zeK k).ds (W.zeK k).db) (zI (zC9 W k (zE W (W.zeK k).zeL).rs (zE W (W.zeK k).zeL).rb 0 (W.zeK k).ds (W.zeK k).db) m):=exists_congr fun m=>and_congr_right fun hm=>by rw[eA.treeM (i:=m) hm]
 have gA:(zDo W k).pool.s=W.pool.s:=(zAi _ _).2.1;rw[ex,gA];show _↔_/\¬Has (zT W.pool (zAa W (W.zeK k))).hn (zT W.pool (zAa W (W.zeK k))).h (i:Int);rw[zLy];constructor
 ·rintro⟨m,hm,b,hb⟩;have kA:∃m',m'<memN W/\m'≠W.pn+k/\((i:Int),b)∈treeM W (zI W m'):=by
   by_cases e:m=W.pn+k
   ·subst e;rw[zK6]at hb;obtain⟨j,hj,hz⟩:=zKw (W:=W) (m:=zI W (W.pn+k)) (by rw[eo];exact hb);exact⟨j,by unfold memN;have:=hj.1;omega,by have:=hj.1;omega,hz⟩
   ·rw[zIQ e]at hb;exact⟨m,hm,e,hb⟩
  obtain⟨m',dA,jA,hz⟩:=kA;have q:=(h.reach i cA).1 ⟨m',dA,b,hz⟩;exact⟨q.1,fun g=>g.elim q.2 fun ⟨x,hx,e⟩=>zEN hU hk ((zFb hU hk).1 hx) dA jA hz e⟩
 ·rintro⟨q1,q2⟩;obtain⟨m,hm,b,hb⟩:=(h.reach i cA).2 ⟨q1,fun g=>q2 (.inl g)⟩;by_cases e:m=W.pn+k
  ·subst e;by_cases ho:((i:Int),b)∈oldM W (zI W (W.pn+k))
   ·refine⟨W.pn+k,iA,b,?_⟩;rw[zK6];rw[eo]at ho;exact ho
   ·exact absurd (.inr ⟨_,(zFb hU hk).2 (zG9.2 ⟨hb,ho⟩),rfl⟩) q2
  ·exact⟨m,hm,b,by rw[zIQ e];exact hb⟩
end
section
variable {W : zB}
def zHR(W:zB)(k:Nat):zB:={W with sn:=W.sn - 1,zeK:=del W.zeK k}
theorem zI4{α : Type}(f:Nat->α)(k i:Nat):del f k i=f (if i<k then i else i+1):=by
 unfold del;split<;>rfl
theorem zQ7{k j:Nat}(h:j≠k):(if (if j<k then j else j - 1)<k then(if j<k then j else j - 1)else(if j<k then j else j - 1)+1)=j:=by
 by_cases h1:j<k
 ·rw[if_pos h1,if_pos h1]
 ·rw[if_neg h1,if_neg (by omega)];omega
theorem zIA(k i:Nat):zI (zHR W k) i=zI W (if i<W.pn+k then i else i+1):=by
 by_cases hp:i<W.pn
 ·rw[if_pos (by omega),zx hp];exact zx hp
 ·obtain⟨j,rfl⟩:∃j,i=W.pn+j:=⟨i - W.pn,by omega⟩;refine(qN (zHR W k) j).trans ?_;show zUI W.time (del W.zeK k j)=_;rw[zI4];by_cases hj:j<k
  ·rw[if_pos hj,if_pos (by omega),qN]
  ·rw[if_neg hj,if_neg (by omega),show W.pn+j+1=W.pn+(j+1)by omega,qN]
theorem zQI(k:Nat)(m:zF3):oldM (zHR W k) m=oldM W m:=by unfold oldM;rw[zI0 (V:=zHR W k) (W:=W) rfl rfl];rfl
theorem zDL.del(hU:zDL W){k:Nat}(hk:k<W.sn)(dA:¬∃i,i<W.pn/\(W.zeJ i).set=(W.zeK k).name):zDL (zHR W k):=by
 have eA:memN (zHR W k)=memN W - 1:=by show W.pn+(W.sn - 1)=W.pn+W.sn - 1;omega
 have bA:∀i,i<memN (zHR W k)->(if i<W.pn+k then i else i+1)<memN W:=fun i hi=>by rw[eA]at hi;unfold memN at hi ⊢;split<;>omega
 have aA:∀i,i<memN (zHR W k)->zCF (zHR W k) i:=fun i hi=>by
  have q:=hU.deadOf (bA i hi);unfold zCF at q ⊢;rw[zIA,zQI];exact q
 have hs:∀i,i<W.sn - 1->(if i<k then i else i+1)<W.sn:=fun i hi=>by split<;>omega
 refine⟨hU.right,?_,fun i hi=>?_,hU.zeJ,fun i hi=>⟨?_,aA _ (by unfold memN;omega)⟩,fun i hi=>aA i (by unfold memN;omega),fun i hi=>?_,?_⟩
 ·obtain⟨a1,a3,a4,a5,a6,a7⟩:=hU.zeM;refine⟨a1,a3,by show W.sn - 1<=8;omega,a5,fun i hi=>?_,fun i hi=>?_⟩
  ·obtain⟨q1,q2,q3,q4⟩:=a6 _ (hs i hi);unfold zIa;show zA0 (Go.Proofs.YtjganmlaooofoaaGreatDoor.del W.zeK k i).name/\(0<i->zBm (Go.Proofs.YtjganmlaooofoaaGreatDoor.del W.zeK k (i - 1)).name (Go.Proofs.YtjganmlaooofoaaGreatDoor.del W.zeK k i).name)/\((Go.Proofs.YtjganmlaooofoaaGreatDoor.del W.zeK k i).zeL≠0->zBU W (Go.Proofs.YtjganmlaooofoaaGreatDoor.del W.zeK k i).zeL)/\((Go.Proofs.YtjganmlaooofoaaGreatDoor.del W.zeK k i).origin≠0->zBU W (Go.Proofs.YtjganmlaooofoaaGreatDoor.del W.zeK k i).origin);rw[zI4,zI4];exact⟨q1,fun h0=>zNU hU.zeM (by split<;>split<;>omega) (hs i hi),q3,q4⟩
  ·obtain⟨⟨b1,b2,b3,b4,b5,j,hj,b6⟩,c,d⟩:=a7 i hi;refine⟨⟨b1,b2,b3,b4,b5,if j<k then j else j - 1,?_,?_⟩,c,d⟩
   ·have cA:j≠k:=fun e=>dA ⟨i,hi,by rw[<-e];exact b6.symm⟩
    show _<W.sn - 1;split<;>omega
   ·have cA:j≠k:=fun e=>dA ⟨i,hi,by rw[<-e];exact b6.symm⟩
    show(Go.Proofs.YtjganmlaooofoaaGreatDoor.del W.zeK k _).name=_;rw[zI4,zQ7 cA];exact b6
 ·show zDc (zHR W k) (Go.Proofs.YtjganmlaooofoaaGreatDoor.del W.zeK k i).name (Go.Proofs.YtjganmlaooofoaaGreatDoor.del W.zeK k i).zeL (Go.Proofs.YtjganmlaooofoaaGreatDoor.del W.zeK k i).origin;rw[zI4];exact zDc.same (W:=W) (V:=zHR W k) rfl rfl (hU.lines _ (hs i hi))
 ·show za W.pool (Go.Proofs.YtjganmlaooofoaaGreatDoor.del W.zeK k i).rs (Go.Proofs.YtjganmlaooofoaaGreatDoor.del W.zeK k i).rb;rw[zI4];exact(hU.zeK _ (hs i hi)).1
 ·have q:=hU.born _ (bA i hi);unfold zDa at q ⊢;rw[zIA,zQI,zI0 (V:=zHR W k) (W:=W) rfl rfl];exact q
 ·intro i hi j hj;have ho:∀i,zDI (zHR W k) (zI (zHR W k) i)=zDI W (zI W (if i<W.pn+k then i else i+1)):=fun i=>by unfold zDI;rw[zIA,zQI];rfl
  rw[ho,ho];exact hU.zeN _ (bA i hi) _ (by split<;>split<;>omega)
theorem zWU(h:qo W){k:Nat}(hk:k<W.sn)(jA:¬∃i,i<W.pn/\(W.zeJ i).set=(W.zeK k).name):qo (zEx W k)/\∀m,m<memN W->m≠W.pn+k->zFN W.pool (zEx W k).pool (zI W m).rs (zI W m).rb:=by
 have hU:=h.toU;have hR:=h.right;have aA:∀m,m<memN W->m≠W.pn+k->zFN W.pool (zT W.pool (zAa W (W.zeK k))) (zI W m).rs (zI W m).rb:=fun m hm e=>zKm fun z hz=>⟨(zBc hR (zZQ h hm) hz).2.2,fun x hx=>zEN hU hk ((zFb hU hk).1 hx) hm e hz⟩
 have gA:memN (zHR W k)=memN W - 1:=by show W.pn+(W.sn - 1)=W.pn+W.sn - 1;omega
 have bA:∀i,i<memN (zHR W k)->(if i<W.pn+k then i else i+1)<memN W/\(if i<W.pn+k then i else i+1)≠W.pn+k:=fun i hi=>by rw[gA]at hi;unfold memN at hi ⊢;split<;>omega
 have dA:OnW (zHR W k) (zEx W k):=⟨rfl,rfl,rfl,rfl,rfl,⟨Int.le_refl _,h.zeM.1.2⟩,fun i hi=>by
  rw[zIA];exact aA _ (bA i hi).1 (bA i hi).2⟩
 have kA:=(zQz hR (h.zeK k hk).1).last;refine⟨(dA.specU (hU.del hk jA) kA).spec fun i hi=>?_,aA⟩;have eA:i<W.pool.n:=by rw[<-(zAi (zAa W (W.zeK k)) W.pool).1];exact hi
 have ex:(∃m,m<memN (zEx W k)/\∃b,((i:Int),b)∈treeM (zEx W k) (zI (zEx W k) m))↔∃m,m<memN W/\m≠W.pn+k/\∃b,((i:Int),b)∈treeM W (zI W m):=by
  constructor
  ·rintro⟨m,hm,b,hb⟩;rw[dA.treeM (i:=m) hm,zIA]at hb;exact⟨_,(bA m hm).1,(bA m hm).2,b,hb⟩
  ·rintro⟨m,hm,cA,b,hb⟩;have fA:(if m<W.pn+k then m else m - 1)<memN (zHR W k):=(by rw[gA];unfold memN at hm ⊢;split<;>omega);refine⟨if m<W.pn+k then m else m - 1,fA,b,?_⟩;rw[dA.treeM fA,zIA,zQ7 cA];exact hb
 have iA:(zEx W k).pool.s=W.pool.s:=(zAi _ _).2.1;rw[ex,iA];show _↔_/\¬Has (zT W.pool (zAa W (W.zeK k))).hn (zT W.pool (zAa W (W.zeK k))).h (i:Int);rw[zLy];constructor
 ·rintro⟨m,hm,cA,b,hb⟩;have q:=(h.reach i eA).1 ⟨m,hm,b,hb⟩;exact⟨q.1,fun g=>g.elim q.2 fun ⟨x,hx,e⟩=>zEN hU hk ((zFb hU hk).1 hx) hm cA hb e⟩
 ·rintro⟨q1,q2⟩;obtain⟨m,hm,b,hb⟩:=(h.reach i eA).2 ⟨q1,fun g=>q2 (.inl g)⟩;by_cases e:m=W.pn+k
  ·subst e;by_cases ho:((i:Int),b)∈oldM W (zI W (W.pn+k))
   ·obtain⟨j,hj,hz⟩:=zKw ho;exact⟨j,by unfold memN;have:=hj.1;omega,by have:=hj.1;omega,b,hz⟩
   ·exact absurd (.inr ⟨_,(zFb hU hk).2 (zG9.2 ⟨hb,ho⟩),rfl⟩) q2
  ·exact⟨m,hm,e,b,hb⟩
end
end Go.Proofs.YtjganmlaooofoaaGreatDoor
