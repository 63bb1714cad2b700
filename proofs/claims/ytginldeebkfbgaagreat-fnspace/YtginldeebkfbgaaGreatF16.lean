/- A part of the proof. -/
import Derived.Test.YtginldeebkfbgaaGreatF15
import Derived.WideKeyPair
import Derived.DeepKeys4
set_option linter.unusedVariables false
set_option maxRecDepth 20000
set_option maxHeartbeats 4000000
namespace Go.Proofs.YtginldeebkfbgaaGreat
open Go.RowKit
set_option linter.unusedSimpArgs false
set_option maxRecDepth 20000
set_option maxHeartbeats 1600000
theorem zDi{W:zB}(h:zOZ W)(x:Int):zDS W x=zE W x:=by
 by_cases h0:x=0
 ·rw[show zDS W x=zAL from if_pos h0,zFx fun k hk e=>by have:=h k hk;omega]
 ·exact if_neg h0
theorem zQQ{l:List (Int×Int)}{i:Nat}:(l[i]?.getD (0,0)).1=zi l i:=by simp[zi,List.getD_eq_getElem?_getD]
theorem zXo{l:List (Int×Int)}{i:Nat}:(l[i]?.getD (0,0)).2=zu l i:=by simp[zu,List.getD_eq_getElem?_getD]
theorem zKG{l:List (Int×Int)}{x y:Int}:PIn l.length (fun i=>zi l i) (fun i=>zu l i) x y↔(x,y)∈l:=zC3
theorem zAV{fl:Fl}{k n:Nat}{l:List (Int×Int)}:(Tr.s fl k n (zEv encP (0,0) l)).lend = .s .b k n (ptrsT (fun i=>zi l i) (fun i=>zu l i)):=by
 rw[za];simp only[zQQ,zXo]
theorem zCF{l:List (Int×Int)}{i:Nat}:zEv encP (0,0) l i 0 = .v (.int .i64 (zi l i)):=by rw[<-zQQ];rfl
theorem zCG{l:List (Int×Int)}{i:Nat}:zEv encP (0,0) l i 1 = .v (.int .i64 (zu l i)):=by rw[<-zXo];rfl
theorem zV1{p q:Prop} [h:Decidable q]:dB p=decide q↔(p↔q):=by
 by_cases hp:p<;>by_cases hq:q<;>simp[dB,hp,hq]
attribute [local go_sem] qX List.map_cons List.map_nil Tr.cv yq qK yA qz yp yo yn qy zBE zBG zBF zBB zBD zBC zCa zCc zCb qP zr qQ zt qI qH qU zAA zo zp yE qO tmpsOf zAo yD qN zBA yw yu yr yx yv stpP opds opd opdC kap zAB qJ zn coreU bin zAe zCK get put dlO fgt zBR zBK zBO zBP tyT yk yj Op.operands Call.operands evLoad evLen evStore evAlloc zAj and_true true_and List.append_nil List.nil_append List.cons_append Ret resCv zB3 yV cellM zBh zCE qV StW StR hpT hpO hpV hpA hpL hpC sg nin zCU bdO tmW obW AvE CsE CvE Av.tup Av.ids Cv.ids inD ObE Ob.ids TrE.refl qM yB yC qR qS qT zq zb zX yz zBa zCL zBH evCall argL argOf qZ outOb obO yM qA cvO tot Tr.own rid partsOf fillC zS zBf frz frz1 evBuildSlice zc trs Cv.tr evSlice Option.toArray_none Option.toArray_some evMakeSlice evAppend dstOf srcOf zA3 zBQ zBN zBL zBM ikT qx qw qv qu RetP RetN zBr qD evLd evSt evStoreH zAh evAppendM evAppendT tlOf mvOf rowE shp evTake oOf evC evCallP evCallN evCallO unlast zAO zA1 zAa argsF zCR qg pmC varT vT evField evConv dB0 Option.bind_some Option.bind_none Option.map_some Option.map_none Option.isSome_some Option.isSome_none
attribute [local go_sem] yL za zA7 yd qr zAv zAw zAx zAy zAz zA0 zAD zAE zAF zAG zAH zAI zAJ zAK yS qp
attribute [-go_sem] za
attribute [local go_sem] zAV zCF zCG
structure zH2 (W:zB):Prop where
 right:zf W.pool
 zbj:zAU W
 zbg:∀k,k<W.pn->zW W.pool (W.zbg k).rs (W.zbg k).rb
theorem zH2.ids{W:zB}(h:zH2 W):zOZ W:=fun k hk=>(h.zbj.zbf.ids k hk).1
theorem zH2.pn{W:zB}(h:zH2 W):W.pn<=1000000:=by have:=h.zbj.2.2.2.1;omega
noncomputable def zTX:zR:=qE (fun q:(zB×Int)×(Int×Int)×Int=>[woT q.1.1,iT q.1.2,pT q.2.1.1 q.2.1.2,iT q.2.2]) (fun q=>zH2 q.1.1/\zW q.1.1.pool q.2.1.1 q.2.1.2) (fun q=>bR (zJt (zH q.1.1.pool q.2.1.1 q.2.1.2) (zH q.1.1.pool (zE q.1.1 q.1.2).rs (zE q.1.1 q.1.2).rb) (zE q.1.1 q.1.2).time q.2.2))
theorem zL0(W:zB)(x a b t:Int):zTX [woT W,iT x,pT a b,iT t]=some (zH2 W/\zW W.pool a b,bR (zJt (zH W.pool a b) (zH W.pool (zE W x).rs (zE W x).rb) (zE W x).time t)):=zK (fun l=>((zB7 (nth l 0),qC (nth l 1 0)),(qC (nth l 2 0),qC (nth l 2 1)),qC (nth l 3 0))) (fun _=>rfl) ((W,x),(a,b),t)
theorem zO6:zd Tryz.prog 79 zTX:=by
 refine zP zl (GOk.cons zCk (zG Tryz.func53 rfl rfl) (GOk.cons zBx (zG Tryz.func46 rfl rfl) (GOk.cons zGz (zG Tryz.func54 rfl rfl) GOk.nil))) zk Tryz.func79 rfl Tryz.ntmps79 Tryz.results79 14 ?_;rintro⟨⟨W,x⟩,⟨a,b⟩,t⟩ ⟨hW,hT⟩;replace hW:zH2 W:=hW;replace hT:zW W.pool a b:=hT;have hO:=zHB hW.zbg x;refine⟨by simp,?_⟩;have hz:=zDi hW.ids x;simp[go_sem,zDG,zBl,hW.pn,hz,hO,hT,hW.right];obtain⟨aA,cA⟩:∃l,l=zH W.pool a b:=⟨_,rfl⟩;obtain⟨bA,dA⟩:∃l,l=zH W.pool (zE W x).rs (zE W x).rb:=⟨_,rfl⟩;have ln:aA.length<=100:=by have:=qc W.pool a b;rw[cA];omega
 have lo:bA.length<=100:=by have:=qc W.pool (zE W x).rs (zE W x).rb;rw[dA];omega
 rw[<-cA,<-dA];obtain⟨τ,hτ⟩:∃τ,τ = (zE W x).time:=⟨_,rfl⟩;rw[<-hτ];refine qY (fun k:Nat=>⟨[(12,true,.m false [.h 8]),(11,true,.m false [.h 7]),(10,true,.m false [.v (.int .i64 τ)]),(3,true,.m false [.v (.int .i64 t)]),(13,true,.i k)],[(8,.row 2 aA.length (ptL aA)),(7,.row 2 bA.length (ptL bA))]⟩) (fun k=>aA.length - k) (fun k=>k<=aA.length/\zZI aA bA τ t k) 0 (by simp[go_sem]) ⟨Nat.zero_le _,fun j hj=>absurd hj (Nat.not_lt_zero _)⟩ ?_;rintro k ⟨hk,eA⟩;simp[go_sem,zGH,ze (show k<=1000000000 by omega),zKG,show bA.length<=1000000 by omega];have fA:zJt aA bA τ t->zu aA k<=t/\((zi aA k,zu aA k)∈bA↔zu aA k<=τ)\/¬k<aA.length:=fun h=>by
  by_cases hl:k<aA.length
  ·exact .inl ((zTA aA bA τ t).2 h k hl)
  ·exact .inr hl
 refine⟨fun hl=>⟨hl,fun _=>hl,by kernel_rfl,fun h hB=>?_,fun h1 h2=>⟨k+1,⟨by omega,fun i hi=>?_⟩,by omega,rfl⟩⟩,fun hl=>?_⟩
 ·rcases fA hB with⟨g1,g2⟩ | g
  ·exact h.elim (fun h=>by omega) (fun h=>h (zV1.2 g2))
  ·exact g hl
 ·by_cases e:i=k
  ·subst e;exact⟨h1,zV1.1 h2⟩
  ·exact eA i (by omega)
 ·cases (show k=aA.length by omega);exact(zTA aA bA τ t).1 eA
noncomputable def zZc:zR:=qE (fun q:(zB×Int)×(Int×Int)×Nat×(Nat->Int)×(Nat->Int)=>[woT q.1.1,iT q.1.2,pT q.2.1.1 q.2.1.2,psT q.2.2.1 q.2.2.2.1 q.2.2.2.2]) (fun q=>(zH2 q.1.1/\zW q.1.1.pool q.2.1.1 q.2.1.2)/\q.2.2.1<=1000000) (fun q=>bR (zED q.2.2.1 q.2.2.2.1 q.2.2.2.2 (zBy (zH q.1.1.pool (zE q.1.1 q.1.2).rs (zE q.1.1 q.1.2).rb) (zH q.1.1.pool q.2.1.1 q.2.1.2))))
theorem zQm(W:zB)(x a b:Int)(n:Nat)(f g:Nat->Int):zZc [woT W,iT x,pT a b,psT n f g]=some ((zH2 W/\zW W.pool a b)/\n<=1000000,bR (zED n f g (zBy (zH W.pool (zE W x).rs (zE W x).rb) (zH W.pool a b)))):=zK (fun l=>((zB7 (nth l 0),qC (nth l 1 0)),(qC (nth l 2 0),qC (nth l 2 1)),zUW (nth l 3 0))) (fun _=>rfl) ((W,x),(a,b),n,f,g)
theorem zSW:zd Tryz.prog 39 zZc:=by
 refine zP zl (GOk.cons zCk (zG Tryz.func53 rfl rfl) (GOk.cons zBx (zG Tryz.func46 rfl rfl) (GOk.cons zGz (zG Tryz.func54 rfl rfl) (GOk.cons zPq (zG Tryz.func78 rfl rfl) GOk.nil)))) zk Tryz.func39 rfl Tryz.ntmps39 Tryz.results39 15 ?_;rintro⟨⟨W,x⟩,⟨a,b⟩,n,f,g⟩ ⟨⟨hW,hT⟩,hn⟩;replace hW:zH2 W:=hW;replace hT:zW W.pool a b:=hT;replace hn:n<=1000000:=hn;have hO:=zHB hW.zbg x;refine⟨by simp,?_⟩;have hz:=zDi hW.ids x;simp[go_sem,zDG,zBl,hW.pn,hz,hO,hT,hW.right];obtain⟨bA,cA⟩:∃l,l=zH W.pool a b:=⟨_,rfl⟩;obtain⟨aA,dA⟩:∃l,l=zH W.pool (zE W x).rs (zE W x).rb:=⟨_,rfl⟩;have ln:bA.length<=100:=by have:=qc W.pool a b;rw[cA];omega
 have lo:aA.length<=100:=by have:=qc W.pool (zE W x).rs (zE W x).rb;rw[dA];omega
 rw[<-cA,<-dA];refine qY (fun k:Nat=>⟨[(14,true,.i k),(13,true,.m false [.h 9]),(12,true,.m false [.h 8]),(11,true,.m false [.h 7]),(3,true,.m false [.s .b 2 n (ptrsT f g)])],[(9,.row 2 (zBy (aA.take k) bA).length (ptL (zBy (aA.take k) bA))),(8,.row 2 bA.length (ptL bA)),(7,.row 2 aA.length (ptL aA))]⟩) (fun k=>aA.length - k) (fun k=>k<=aA.length) 0 (by simp[go_sem];exact zET rfl) (Nat.zero_le _) ?_;rintro k hk;have eA:=zQh aA bA k;simp[go_sem,zGH,zWx,ze (show k<=1000000000 by omega),zKG,show bA.length<=1000000 by omega,hn];refine⟨fun hl=>⟨hl,fun h=>⟨hl,by omega,k+1,by omega,by omega,rfl,?_⟩,fun h=>⟨k+1,by omega,by omega,rfl,?_⟩⟩,fun hl=>?_⟩
 ·refine zC4 zEP ?_;rw[zLw hl h]
 ·rw[zO8 hl h];exact TrE.refl _
 ·cases (show k=aA.length by omega);rw[List.take_length];rw[List.take_length]at eA;exact⟨by omega,Iff.rfl⟩
noncomputable def zWd:zR:=qE (fun W:zB=>[woT W]) (fun W=>zH2 W/\∀k,k<W.sn->zW W.pool (W.zbh k).rs (W.zbh k).rb) (fun W=>bR (∀i,i<zj W->zFs W i))
theorem zUr(W:zB):zWd [woT W]=some (zH2 W/\∀k,k<W.sn->zW W.pool (W.zbh k).rs (W.zbh k).rb,bR (∀i,i<zj W->zFs W i)):=zK (fun l=>zB7 (nth l 0)) (fun _=>rfl) W
theorem zSV:zd Tryz.prog 43 zWd:=by
 refine zP zl (GOk.cons zO6 (zG Tryz.func79 rfl rfl) GOk.nil) zk Tryz.func43 rfl Tryz.ntmps43 Tryz.results43 5 ?_;rintro W ⟨hW,hT⟩;replace hW:zH2 W:=hW;have dA:W.sn<=8:=hW.zbj.2.2.1;have cA:W.pn<=20:=hW.zbj.2.2.2.1;refine⟨by simp,?_⟩;simp[go_sem];refine qY (fun k:Nat=>⟨[(1,true,.m false [.p 1 0]),(3,true,.i k)],[(1,.var ((woL W).map Tr.cv))]⟩) (fun k=>W.pn - k) (fun k=>k<=W.pn/\∀i,i<k->zFs W i) 0 (by simp[go_sem]) (by simp) ?_;rintro k ⟨hk,bA⟩;simp[go_sem,zL0,hW,ze (show k<=1000000000 by omega)];refine⟨fun hl=>?_,fun hl=>?_⟩
 ·have e:zI W k=zYo (W.zbg k):=qq hl;have hb:zFs W k↔zJt (zH W.pool (W.zbg k).rs (W.zbg k).rb) (zH W.pool (zE W (W.zbg k).zbi).rs (zE W (W.zbg k).zbi).rb) (zE W (W.zbg k).zbi).time (W.zbg k).time:=by
   unfold zFs;rw[e];exact Iff.rfl
  refine⟨hl,hW.zbg k hl,by kernel_rfl,fun h=>⟨k,by unfold zj;omega,fun hh=>h (hb.1 hh)⟩,fun h=>⟨k+1,⟨by omega,qi hl bA (hb.2 h)⟩,by omega,rfl⟩⟩
 cases (show k=W.pn by omega);refine qY (fun k:Nat=>⟨[(1,true,.m false [.p 1 0]),(4,true,.i k)],[(1,.var ((woL W).map Tr.cv))]⟩) (fun k=>W.sn - k) (fun k=>k<=W.sn/\∀i,i<W.pn+k->zFs W i) 0 (by simp[go_sem]) ⟨Nat.zero_le _,bA⟩ ?_;rintro k ⟨hk,aA⟩;simp[go_sem,zL0,hW,ze (show k<=1000000000 by omega)];refine⟨fun hl=>?_,fun hl i hi=>aA i (by unfold zj at hi;omega)⟩;have e:zI W (W.pn+k)=zYp W.time (W.zbh k):=zAi W k;have hb:zFs W (W.pn+k)↔zJt (zH W.pool (W.zbh k).rs (W.zbh k).rb) (zH W.pool (zE W (W.zbh k).zbi).rs (zE W (W.zbh k).zbi).rb) (zE W (W.zbh k).zbi).time W.time:=by
  unfold zFs;rw[e];exact Iff.rfl
 refine⟨hl,hT k hl,by kernel_rfl,fun h=>⟨W.pn+k,by unfold zj;omega,fun hh=>h (hb.1 hh)⟩,fun h=>⟨k+1,⟨by omega,fun i hi=>?_⟩,by omega,rfl⟩⟩;by_cases e:i=W.pn+k
 ·subst e;exact hb.2 h
 ·exact aA i (by omega)
set_option maxRecDepth 20000
set_option maxHeartbeats 1600000
def zB1(h:Nat->Bool):Nat->Nat->Tr:=fun i _=>.v (.bool (h i))
theorem zAf{h:Nat->Bool}{i j:Nat}:zB1 h i j = .v (.bool (h i)):=rfl
theorem yy{fl:Fl}{k n:Nat}{h:Nat->Bool}:(Tr.s fl k n (zB1 h)).lend = .s .b k n (zB1 h):=rfl
theorem zSK{n:Nat}{h:Nat->Bool}:(Tr.s .o 1 n (zB1 h)).kept:=⟨by simp,fun i j _ _=>trivial⟩
theorem zNV{fl:Fl}{n:Nat}{F:Nat->Nat->Tr}{h:Nat->Bool}(hF:∀i j,i<n->j<1->F i j = .v (.bool (h i))):TrE (.s fl 1 n F) (.s fl 1 n (zB1 h)):=zDv fun i j hi hj=>hF i j hi hj
theorem zEg{fl:Fl}{n:Nat}{f h:Nat->Bool}(hF:∀i,i<n->f i=h i):TrE (.s fl 1 n (zB1 f)) (.s fl 1 n (zB1 h)):=zDv fun i j hi hj=>congrArg (fun b=>Tr.v (.bool b)) (hF i hi)
theorem zNW{fl:Fl}{n k:Nat}{f h:Nat->Bool}(hF:∀i,i<n->h i=if i=k then true else f i):TrE (.s fl 1 n (qn (zB1 f) k 0 [.v (.bool true)])) (.s fl 1 n (zB1 h)):=zDv fun i j hi hj=>by
 cases (show j=0 by omega);rw[show zB1 h i 0 = .v (.bool (h i))from rfl,hF i hi];by_cases e:i=k
 ·subst e;simp[qn]
 ·simp[qn,e,zB1]
theorem zV2{p q:Prop}:dB p=dB q↔(p↔q):=by
 by_cases hp:p<;>by_cases hq:q<;>simp[dB,hp,hq]
attribute [local go_sem] qX List.map_cons List.map_nil Tr.cv yq qK yA qz yp yo yn qy zBE zBG zBF zBB zBD zBC zCa zCc zCb qP zr qQ zt qI qH qU zAA zo zp yE qO tmpsOf zAo yD qN zBA yw yu yr yx yv stpP opds opd opdC kap zAB qJ zn coreU bin zAe zCK get put dlO fgt zBR zBK zBO zBP tyT yk yj Op.operands Call.operands evLoad evLen evStore evAlloc zAj and_true true_and List.append_nil List.nil_append List.cons_append Ret resCv zB3 yV cellM zBh zCE qV StW StR hpT hpO hpV hpA hpL hpC sg nin zCU bdO tmW obW AvE CsE CvE Av.tup Av.ids Cv.ids inD ObE Ob.ids TrE.refl qM yB yC qR qS qT zq zb zX yz zBa zCL zBH evCall argL argOf qZ outOb obO yM qA cvO tot Tr.own rid partsOf fillC zS zBf frz frz1 evBuildSlice zc trs Cv.tr evSlice Option.toArray_none Option.toArray_some evMakeSlice evAppend dstOf srcOf zA3 zBQ zBN zBL zBM ikT qx qw qv qu RetP RetN zBr qD evLd evSt evStoreH zAh evAppendM evAppendT tlOf mvOf rowE shp evTake oOf evC evCallP evCallN evCallO unlast zAO zA1 zAa argsF zCR qg pmC varT vT evField evConv dB0 Option.bind_some Option.bind_none Option.map_some Option.map_none Option.isSome_some Option.isSome_none
attribute [local go_sem] yL za zA7 yd qr zAv zAw zAx zAy zAz zA0 zAD zAE zAF zAG zAH zAI zAJ zAK yS qp
attribute [-go_sem] za
attribute [local go_sem] zAV zCF zCG zAf yy
structure zIa (W:zB):Prop extends zH2 W where
 zbh:∀k,k<W.sn->zW W.pool (W.zbh k).rs (W.zbh k).rb
theorem zIa.trees{W:zB}(h:zIa W):zEz W:=zJB h.right h.zbj h.zbg h.zbh
noncomputable def zJi(W:zB)(s:Nat):Bool:=dB (zJH W s)
noncomputable def zWt:zR:=qE (fun W:zB=>[woT W]) (fun W=>zIa W) (fun W=>[(false,[.s .o 1 W.pool.n (zB1 (zJi W))])])
theorem zUx(W:zB):zWt [woT W]=some (zIa W,[(false,[.s .o 1 W.pool.n (zB1 (zJi W))])]):=zK (fun l=>zB7 (nth l 0)) (fun _=>rfl) W
noncomputable def zL8(W:zB)(k:Nat)(l:List (Int×Int))(j s:Nat):Bool:=dB (zZL W k l j s)
theorem zQg:zd Tryz.prog 40 zWt:=by
 refine zP zl (GOk.cons zBx (zG Tryz.func46 rfl rfl) GOk.nil) zk Tryz.func40 rfl Tryz.ntmps40 Tryz.results40 10 ?_;intro W hW;replace hW:zIa W:=hW;have jA:W.sn<=8:=hW.zbj.2.2.1;have gA:W.pn<=20:=hW.zbj.2.2.2.1;have hn:W.pool.n<=200:=hW.right.1;refine⟨by simp,?_⟩;simp[go_sem];refine⟨by omega,?_⟩;refine qY (fun k:Nat=>⟨[(1,true,.m false [.p 1 0]),(3,true,.m false [.h 7]),(4,true,.m false [.h 8]),(5,true,.i k)],[(8,.row 2 (zDu W k).length (ptL (zDu W k))),(7,.row 1 W.pool.n (zB1 fun _=>false)),(1,.var ((woL W).map Tr.cv))]⟩) (fun k=>W.sn - k) (fun k=>k<=W.sn) 0 ?_ (Nat.zero_le _) ?_
 ·simp[go_sem];refine⟨zET rfl,zNV fun i j _ hj=>?_⟩;cases (show j=0 by omega);rfl
 intro k hk;have eA:=zGQ W k;simp[go_sem,ze (show k<=1000000000 by omega)];refine⟨fun hl=>?_,fun hl=>?_⟩
 ·refine⟨hl,by omega,k+1,by omega,by omega,rfl,zC4 zEP ?_⟩;rw[zKI,zHa hl]
 cases (show k=W.sn by omega);refine qY (fun k:Nat=>⟨[(1,true,.m false [.p 1 0]),(3,true,.m false [.h 7]),(4,true,.m false [.h 8]),(6,true,.i k)],[(8,.row 2 (zDu W (W.sn+k)).length (ptL (zDu W (W.sn+k)))),(7,.row 1 W.pool.n (zB1 fun _=>false)),(1,.var ((woL W).map Tr.cv))]⟩) (fun k=>W.pn - k) (fun k=>k<=W.pn) 0 (by simp[go_sem]) (Nat.zero_le _) ?_;intro k hk;have eA:=zGQ W (W.sn+k);simp[go_sem,ze (show k<=1000000000 by omega)];refine⟨fun hl=>?_,fun hl=>?_⟩
 ·refine⟨hl,by omega,k+1,by omega,by omega,rfl,zC4 zEP ?_⟩;rw[<-Nat.add_assoc,zKI,zGP]
 cases (show k=W.pn by omega);obtain⟨R,hR⟩:∃R,R=zDu W (W.sn+W.pn):=⟨_,rfl⟩;rw[<-hR];have fA:R.length=W.sn+W.pn:=by rw[hR];exact zGQ _ _
 refine qY (fun k:Nat=>⟨[(1,true,.m false [.p 1 0]),(3,true,.m false [.h 7]),(4,true,.m false [.h 8]),(7,true,.i k)],[(8,.row 2 R.length (ptL R)),(7,.row 1 W.pool.n (zB1 (zL8 W k [] 0))),(1,.var ((woL W).map Tr.cv))]⟩) (fun k=>R.length - k) (fun k=>k<=R.length) 0 ?_ (Nat.zero_le _) ?_
 ·simp[go_sem];refine zEg fun i _=>?_
  symm;rw[zL8,zCL];rintro(⟨i,hi,_⟩ | ⟨q,hq,_⟩)
  ·omega
  ·omega
 intro k hk;simp[go_sem,ze (show k<=1000000000 by omega),zBl,hW.right];refine⟨fun dA=>?_,fun dA=>?_⟩
 ·have cA:k<W.sn+W.pn:=(by omega);have e1:zi R k=(zCn W k).1:=(by rw[hR];exact(zOH cA).1);have e2:zu R k=(zCn W k).2:=(by rw[hR];exact(zOH cA).2);have hT:zW W.pool (zCn W k).1 (zCn W k).2:=zXe hW.trees cA;rw[e1,e2];refine⟨dA,hT,by kernel_rfl,?_⟩;obtain⟨l,aA⟩:∃l,l=zH W.pool (zCn W k).1 (zCn W k).2:=⟨_,rfl⟩;have ll:l.length<=100:=(by have:=qc W.pool (zCn W k).1 (zCn W k).2;rw[aA];omega);rw[<-aA];refine qY (fun j:Nat=>⟨[(9,true,.i j),(8,true,.m false [.h 60]),(1,true,.m false [.p 1 0]),(3,true,.m false [.h 7]),(4,true,.m false [.h 8]),(7,true,.i k)],[(60,.row 2 l.length (ptL l)),(8,.row 2 R.length (ptL R)),(7,.row 1 W.pool.n (zB1 (zL8 W k l j))),(1,.var ((woL W).map Tr.cv))]⟩) (fun j=>l.length - j) (fun j=>j<=l.length) 0 ?_ (Nat.zero_le _) ?_
  ·simp[go_sem];refine zEg fun i _=>?_
   rw[zL8,zL8,zV2];exact⟨fun h=>h.elim Or.inl fun ⟨q,hq,_⟩=>by omega,fun h=>h.elim Or.inl fun ⟨q,hq,_⟩=>by omega⟩
  intro j hj;simp[go_sem,ze (show j<=1000000000 by omega),ze (show k<=1000000000 by omega)];have hm:zKx W k l j (zL8 W k l j):=fun s=>zBa
  refine⟨fun bA=>?_,fun bA=>⟨k+1,dA,by omega,rfl,?_⟩⟩
  ·obtain⟨q,hq,iA⟩:=zRL hW.right hT (j:=j) (by rw[<-aA];exact bA);rw[<-aA]at hq;rw[hq];refine⟨bA,⟨by omega,by omega⟩,by simpa using iA,j+1,bA,by omega,rfl,zNW fun i _=>?_⟩;exact Bool.eq_iff_iff.2 (zBa.trans (zSg hm hq i).symm)
  ·cases (show j=l.length by omega);refine zEg fun i _=>?_
   exact Bool.eq_iff_iff.2 ((zSh hm aA i).trans zBa.symm)
 ·cases (show k=R.length by omega);refine⟨zEg fun i _=>?_,zSK⟩;rw[zL8,zJi,zV2,zSF,fA];exact⟨fun h=>h.elim id fun ⟨q,hq,_⟩=>by omega,Or.inl⟩
set_option maxRecDepth 20000
set_option maxHeartbeats 1600000
theorem zX2{a b:Nat}(h:a+b<=1000000000):IntKind.i64.wrap ((a:Int)+(b:Int))=(a:Int)+(b:Int):=by
 unfold IntKind.wrap;simp[IntKind.signed,IntKind.bits];omega
theorem zbU{a b:Nat}(h:a<=1000000000)(h':b<=1000000000):IntKind.i64.wrap ((a:Int) - (b:Int))=(a:Int) - (b:Int):=by
 unfold IntKind.wrap;simp[IntKind.signed,IntKind.bits];omega
theorem tnS{a b:Nat}:((a:Int) - (b:Int)).toNat=a - b:=by omega
attribute [local go_sem] qX List.map_cons List.map_nil Tr.cv yq qK yA qz yp yo yn qy zBE zBG zBF zBB zBD zBC zCa zCc zCb qP zr qQ zt qI qH qU zAA zo zp yE qO tmpsOf zAo yD qN zBA yw yu yr yx yv stpP opds opd opdC kap zAB qJ zn coreU bin zAe zCK get put dlO fgt zBR zBK zBO zBP tyT yk yj Op.operands Call.operands evLoad evLen evStore evAlloc zAj and_true true_and List.append_nil List.nil_append List.cons_append Ret resCv zB3 yV cellM zBh zCE qV StW StR hpT hpO hpV hpA hpL hpC sg nin zCU bdO tmW obW AvE CsE CvE Av.tup Av.ids Cv.ids inD ObE Ob.ids TrE.refl qM yB yC qR qS qT zq zb zX yz zBa zCL zBH evCall argL argOf qZ outOb obO yM qA cvO tot Tr.own rid partsOf fillC zS zBf frz frz1 evBuildSlice zc trs Cv.tr evSlice Option.toArray_none Option.toArray_some evMakeSlice evAppend dstOf srcOf zA3 zBQ zBN zBL zBM ikT qx qw qv qu RetP RetN zBr qD evLd evSt evStoreH zAh evAppendM evAppendT tlOf mvOf rowE shp evTake oOf evC evCallP evCallN evCallO unlast zAO zA1 zAa argsF zCR qg pmC varT vT evField evConv dB0 Option.bind_some Option.bind_none Option.map_some Option.map_none Option.isSome_some Option.isSome_none
attribute [local go_sem] yL za zA7 yd qr zAv zAw zAx zAy zAz zA0 zAD zAE zAF zAG zAH zAI zAJ zAK yS qp
attribute [-go_sem] za
attribute [local go_sem] zAV zCF zCG zAf yy
noncomputable def zOJ(W:zB)(k:Nat)(now old:List (Int×Int))(j s:Nat):Bool:=dB (zZM W k now old j s)
noncomputable def zWb:zR:=qE (fun W:zB=>[woT W]) (fun W=>zIa W) (fun W=>bR (zHx W))
theorem zUq(W:zB):zWb [woT W]=some (zIa W,bR (zHx W)):=zK (fun l=>zB7 (nth l 0)) (fun _=>rfl) W
theorem zQd:zd Tryz.prog 44 zWb:=by
 refine zP zl (GOk.cons zCk (zG Tryz.func53 rfl rfl) (GOk.cons zBx (zG Tryz.func46 rfl rfl) (GOk.cons zGz (zG Tryz.func54 rfl rfl) GOk.nil))) zk Tryz.func44 rfl Tryz.ntmps44 Tryz.results44 12 ?_;intro W hW;replace hW:zIa W:=hW;have sA:W.sn<=8:=hW.zbj.2.2.1;have pA:W.pn<=20:=hW.zbj.2.2.2.1;have hn:W.pool.n<=200:=hW.right.1;refine⟨by simp,?_⟩;simp[go_sem];refine⟨by omega,?_⟩;refine qY (fun k:Nat=>⟨[(1,true,.m false [.p 1 0]),(3,true,.m false [.h 61]),(4,true,.i k)],[(61,.row 1 W.pool.n (zB1 (zOJ W k [] [] 0))),(1,.var ((woL W).map Tr.cv))]⟩) (fun k=>zj W - k) (fun k=>k<=zj W/\zOV W k) 0 ?_ ⟨Nat.zero_le _,fun i hi=>by omega⟩ ?_
 ·simp[go_sem];refine zNV fun i j _ hj=>?_
  cases (show j=0 by omega);have:zOJ W 0 [] [] 0 i=false:=by
   rw[zOJ,zCL];rintro(⟨i,hi,_⟩ | ⟨q,hq,_⟩)<;>omega
  simp[this]
 rintro k ⟨hk,hA⟩;have rA:zj W=W.pn+W.sn:=rfl;by_cases hl:k<zj W;rotate_left
 ·have h1:¬(k:Int)<(W.pn:Int)+(W.sn:Int):=(by omega);simp[go_sem,zX2 (show W.pn+W.sn<=1000000000 by omega),h1];cases (show k=zj W by omega);exact hA
 have h1:(k:Int)<(W.pn:Int)+(W.sn:Int):=by omega
 have gA:zW W.pool (zI W k).rs (zI W k).rb:=hW.trees.tree k hl;have iA:=zHB hW.zbg (zI W k).zbi;have hz:=zDi hW.ids (zI W k).zbi;by_cases hs:k<W.pn
 case' pos=>
  have e:zI W k=zYo (W.zbg k):=qq hs;rw[e]at gA iA hz;replace gA:zW W.pool (W.zbg k).rs (W.zbg k).rb:=gA;replace iA:zW W.pool (zE W (W.zbg k).zbi).rs (zE W (W.zbg k).zbi).rb:=iA;replace hz:zDS W (W.zbg k).zbi=zE W (W.zbg k).zbi:=hz;obtain⟨bA,aA⟩:∃l,l=zH W.pool (W.zbg k).rs (W.zbg k).rb:=⟨_,rfl⟩;obtain⟨fA,cA⟩:∃l,l=zH W.pool (zE W (W.zbg k).zbi).rs (zE W (W.zbg k).zbi).rb:=⟨_,rfl⟩;have dA:bA=zBn W (zI W k):=(by rw[e];exact aA);have eA:fA=zFd W (zI W k):=(by rw[e];exact cA);simp[go_sem,zX2 (show W.pn+W.sn<=1000000000 by omega),h1,hs,zDG,zBl,hW.pn,hW.right,hz,iA,gA,<-aA,<-cA]
 case' neg=>
  have e:zI W k=zYp W.time (W.zbh (k - W.pn)):=by
   have:=zAi W (k - W.pn)
   rwa [show W.pn+(k - W.pn)=k by omega]at this
  rw[e]at gA iA hz;replace gA:zW W.pool (W.zbh (k - W.pn)).rs (W.zbh (k - W.pn)).rb:=gA;replace iA:zW W.pool (zE W (W.zbh (k - W.pn)).zbi).rs (zE W (W.zbh (k - W.pn)).zbi).rb:=iA;replace hz:zDS W (W.zbh (k - W.pn)).zbi=zE W (W.zbh (k - W.pn)).zbi:=hz;obtain⟨bA,aA⟩:∃l,l=zH W.pool (W.zbh (k - W.pn)).rs (W.zbh (k - W.pn)).rb:=⟨_,rfl⟩;obtain⟨fA,cA⟩:∃l,l=zH W.pool (zE W (W.zbh (k - W.pn)).zbi).rs (zE W (W.zbh (k - W.pn)).zbi).rb:=⟨_,rfl⟩;have dA:bA=zBn W (zI W k):=(by rw[e];exact aA);have eA:fA=zFd W (zI W k):=(by rw[e];exact cA);simp[go_sem,zX2 (show W.pn+W.sn<=1000000000 by omega),zbU (show k<=1000000000 by omega) (show W.pn<=1000000000 by omega),tnS,h1,hs,zDG,zBl,hW.pn,hW.right,hz,iA,gA,<-aA,<-cA];refine⟨⟨by omega,by omega⟩,?_⟩
 all_goals
  have ln:bA.length<=100:=(by rw[aA];exact Nat.le_trans (qc ..) (by omega));have lo:fA.length<=100:=(by rw[cA];exact Nat.le_trans (qc ..) (by omega));have mA:∀j,j<bA.length->∃s:Nat,zi bA j=(s:Int)/\s<W.pool.n:=fun j hj=>by
   rw[aA];exact zRL hW.right gA (by rw[<-aA];exact hj)
  clear aA cA gA iA hz e h1 hs;refine qY (fun j:Nat=>⟨[(11,true,.i j),(10,true,.m false [.h 63]),(9,true,.m false [.h 62]),(1,true,.m false [.p 1 0]),(3,true,.m false [.h 61]),(4,true,.i k)],[(63,.row 2 bA.length (ptL bA)),(62,.row 2 fA.length (ptL fA)),(61,.row 1 W.pool.n (zB1 (zOJ W k bA fA j))),(1,.var ((woL W).map Tr.cv))]⟩) (fun j=>bA.length - j) (fun j=>j<=bA.length/\zFK W k bA fA j) 0 ?_ ⟨Nat.zero_le _,fun i hi=>absurd hi (Nat.not_lt_zero _)⟩ ?_
  ·simp[go_sem];have h0:zEF W k [] [] 0 (zOJ W k [] [] 0):=fun s=>zBa
   exact zEg fun i _=>Bool.eq_iff_iff.2 ((zSr h0 bA fA i).trans zBa.symm)
  rintro j ⟨hj,kA⟩;have hS:zEF W k bA fA j (zOJ W k bA fA j):=fun s=>zBa
  have oA:fA.length<=1000000:=(by omega);simp[go_sem,zGH,ze (show j<=1000000000 by omega),ze (show k<=1000000000 by omega),zKG,oA];refine⟨fun jA=>⟨jA,fun lA=>⟨j+1,⟨jA,zXj kA lA⟩,by omega,rfl,?_⟩,fun lA=>?_⟩,fun jA=>?_⟩
  ·exact zEg fun i _=>Bool.eq_iff_iff.2 ((zVH hS lA i).trans zBa.symm)
  ·obtain⟨s,hs,nA⟩:=mA j jA;rw[hs];refine⟨jA,⟨by omega,by omega⟩,by simpa using nA,fun hf=>?_,fun hf=>⟨jA,⟨by omega,by omega⟩,by simpa using nA,j+1,⟨jA,?_⟩,by omega,rfl,?_⟩⟩
   ·rw[Int.toNat_natCast]at hf;exact zSs hW.trees hl dA eA hS jA hs lA hf
   ·rw[Int.toNat_natCast]at hf;exact zXg kA hS hs hf
   ·rw[Int.toNat_natCast];exact zNW fun i _=>Bool.eq_iff_iff.2 (zBa.trans (zVG hS hs lA i).symm)
  ·cases (show j=bA.length by omega);refine⟨k+1,⟨hl,zRq hA dA eA kA⟩,by omega,rfl,zEg fun i _=>?_⟩;exact Bool.eq_iff_iff.2 ((zVJ hS dA eA i).trans zBa.symm)
set_option maxRecDepth 20000
set_option maxHeartbeats 3200000
attribute [local go_sem] qX List.map_cons List.map_nil Tr.cv yq qK yA qz yp yo yn qy zBE zBG zBF zBB zBD zBC zCa zCc zCb qP zr qQ zt qI qH qU zAA zo zp yE qO tmpsOf zAo yD qN zBA yw yu yr yx yv stpP opds opd opdC kap zAB qJ zn coreU bin zAe zCK get put dlO fgt zBR zBK zBO zBP tyT yk yj Op.operands Call.operands evLoad evLen evStore evAlloc zAj and_true true_and List.append_nil List.nil_append List.cons_append Ret resCv zB3 yV cellM zBh zCE qV StW StR hpT hpO hpV hpA hpL hpC sg nin zCU bdO tmW obW AvE CsE CvE Av.tup Av.ids Cv.ids inD ObE Ob.ids TrE.refl qM yB yC qR qS qT zq zb zX yz zBa zCL zBH evCall argL argOf qZ outOb obO yM qA cvO tot Tr.own rid partsOf fillC zS zBf frz frz1 evBuildSlice zc trs Cv.tr evSlice Option.toArray_none Option.toArray_some evMakeSlice evAppend dstOf srcOf zA3 zBQ zBN zBL zBM ikT qx qw qv qu RetP RetN zBr qD evLd evSt evStoreH zAh evAppendM evAppendT tlOf mvOf rowE shp evTake oOf evC evCallP evCallN evCallO unlast zAO zA1 zAa argsF zCR qg pmC varT vT evField evConv dB0 Option.bind_some Option.bind_none Option.map_some Option.map_none Option.isSome_some Option.isSome_none
attribute [local go_sem] yL za zA7 yd qr zAv zAw zAx zAy zAz zA0 zAD zAE zAF zAG zAH zAI zAJ zAK yS qp
attribute [-go_sem] za
attribute [local go_sem] zAV zCF zCG zAf yy
structure SmallW (W:zB):Prop where
 n:W.pool.n<=1000000
 hn:W.pool.hn<=1000000
 sn:W.sn<=1000000
 pn:W.pn<=1000000
 sd:∀i,i<W.sn->(W.zbh i).dn<=1000000
 pd:∀i,i<W.pn->(W.zbg i).dn<=1000000
theorem zaH{W:zB}{k:Nat}(h:k<W.pn):zFt W k↔zED (W.zbg k).dn (W.zbg k).ds (W.zbg k).db (zBy (zH W.pool (zE W (W.zbg k).zbi).rs (zE W (W.zbg k).zbi).rb) (zH W.pool (W.zbg k).rs (W.zbg k).rb)):=by
 unfold zFt;rw[qq h];exact Iff.rfl
theorem zaI{W:zB}{k:Nat}:zFt W (W.pn+k)↔zED (W.zbh k).dn (W.zbh k).ds (W.zbh k).db (zBy (zH W.pool (zE W (W.zbh k).zbi).rs (zE W (W.zbh k).zbi).rb) (zH W.pool (W.zbh k).rs (W.zbh k).rb)):=by
 unfold zFt;rw[zAi];exact Iff.rfl
noncomputable def mWR:zR:=qE (fun W:zB=>[woT W]) (fun W=>SmallW W) (fun W=>bR (ql W))
theorem yX(W:zB):mWR [woT W]=some (SmallW W,bR (ql W)):=zK (fun l=>zB7 (nth l 0)) (fun _=>rfl) W
theorem yO:zd Tryz.prog 8 mWR:=by
 refine zP zl (GOk.cons zGD (zG Tryz.func41 rfl rfl) (GOk.cons zEM (zG Tryz.func35 rfl rfl) (GOk.cons zQe (zG Tryz.func36 rfl rfl) (GOk.cons zO7 (zG Tryz.func37 rfl rfl) (GOk.cons zJ8 (zG Tryz.func38 rfl rfl) (GOk.cons zSW (zG Tryz.func39 rfl rfl) (GOk.cons zQg (zG Tryz.func40 rfl rfl) (GOk.cons zFX (zG Tryz.func42 rfl rfl) (GOk.cons zSV (zG Tryz.func43 rfl rfl) (GOk.cons zQd (zG Tryz.func44 rfl rfl) GOk.nil)))))))))) zk Tryz.func8 rfl Tryz.ntmps8 Tryz.results8 8 ?_;intro W hW;replace hW:SmallW W:=hW;refine⟨by simp,?_⟩;simp[go_sem,zHV,zUt,zSZ,hW.n,hW.hn,hW.sn,hW.pn];refine⟨fun h hS=>?_,fun hR hN hC=>?_⟩
 ·rcases h with(h | h) | ⟨x,hx,h⟩
  ·exact h hS.right
  ·exact h hS.zbj
  ·exact h (hS.lines x hx)
 have jA:W.sn<=8:=hN.2.2.1;have iA:W.pn<=20:=hN.2.2.2.1;refine qY (fun k:Nat=>⟨[(1,true,.m false [.p 1 0]),(3,true,.i k)],[(1,.var ((woL W).map Tr.cv))]⟩) (fun k=>W.pn - k) (fun k=>k<=W.pn/\∀i,i<k->zW W.pool (W.zbg i).rs (W.zbg i).rb) 0 (by simp[go_sem]) (by simp) ?_;rintro k ⟨hk,eA⟩;simp[go_sem,ze (show k<=1000000000 by omega),zSe,hR];refine⟨fun hl=>⟨hl,by kernel_rfl,fun h hS=>h (hS.zbg k hl),fun h=>⟨k+1,⟨by omega,qi hl eA h⟩,by omega,rfl⟩⟩,fun hl=>?_⟩;cases (show k=W.pn by omega);have dA:zH2 W:=⟨hR,hN,eA⟩;refine qY (fun k:Nat=>⟨[(1,true,.m false [.p 1 0]),(4,true,.i k)],[(1,.var ((woL W).map Tr.cv))]⟩) (fun k=>W.sn - k) (fun k=>k<=W.sn/\∀i,i<k->zW W.pool (W.zbh i).rs (W.zbh i).rb/\zFt W (W.pn+i)) 0 (by simp[go_sem]) (by simp) ?_;rintro k ⟨hk,aA⟩;simp[go_sem,ze (show k<=1000000000 by omega),zSe,zQm,hR,dA,<-zaI];refine⟨fun hl=>⟨hl,fun _=>hl,fun h=>⟨h,hW.sd k hl⟩,by kernel_rfl,fun h hS=>?_,fun h1 h2=>⟨k+1,⟨by omega,qi hl aA ⟨h1,h2⟩⟩,by omega,rfl⟩⟩,fun hl=>?_⟩
 ·exact h.elim (fun h=>h (hS.zbh k hl).1) (fun h=>h (hS.zbh k hl).2)
 cases (show k=W.sn by omega);have fA:zIa W:=⟨dA,fun i hi=>(aA i hi).1⟩;refine qY (fun k:Nat=>⟨[(1,true,.m false [.p 1 0]),(5,true,.i k)],[(1,.var ((woL W).map Tr.cv))]⟩) (fun k=>W.pn - k) (fun k=>k<=W.pn/\∀i,i<k->zFt W i) 0 (by simp[go_sem]) (by simp) ?_;rintro k ⟨hk,bA⟩;by_cases hl:k<W.pn
 ·have hT:=eA k hl;have hd:=hW.pd k hl;simp[go_sem,ze (show k<=1000000000 by omega),zQm,dA,hl,hT,hd,<-zaH hl];refine⟨by kernel_rfl,fun h hS=>h (hS.dead k hl),fun h=>⟨k+1,⟨by omega,qi hl bA h⟩,by omega,rfl⟩⟩
 simp[go_sem,ze (show k<=1000000000 by omega),hl,zUx,fA];cases (show k=W.pn by omega);refine qY (fun k:Nat=>⟨[(1,true,.m false [.p 1 0]),(6,true,.m false [.h 61]),(7,true,.i k)],[(61,.row 1 W.pool.n (zB1 (zJi W))),(1,.var ((woL W).map Tr.cv))]⟩) (fun k=>W.pool.n - k) (fun k=>k<=W.pool.n/\∀i,i<k->(zJH W i↔(¬yZ (W.pool.s i)/\¬Has W.pool.hn W.pool.h i))) 0 (by simp[go_sem]) (by simp) ?_;rintro k ⟨hk,cA⟩;have gA:W.pool.n<=200:=hR.1;simp[go_sem,ze (show k<=1000000000 by omega),zG4,zHU,zUr,zUq,fA,dA,hW.hn];have hq:zJi W k=(!dB (yZ (W.pool.s k)) && !dB (Has W.pool.hn W.pool.h (k:Int)))↔(zJH W k↔(¬yZ (W.pool.s k)/\¬Has W.pool.hn W.pool.h k)):=by
  unfold zJi;by_cases h1:zJH W k<;>by_cases h2:yZ (W.pool.s k)<;>by_cases h3:Has W.pool.hn W.pool.h (k:Int)<;>simp[dB,h1,h2,h3]
 rw[hq];refine⟨fun hl=>⟨hl,by kernel_rfl,fun h hS=>h (hS.reach k hl),fun h=>⟨k+1,⟨by omega,qi hl cA h⟩,by omega,rfl⟩⟩,fun hl=>⟨fA.zbh,fun h=>?_,fun hS=>⟨hS.born,hS.apart⟩⟩⟩;cases (show k=W.pool.n by omega);exact⟨hR,hN,hC,eA,aA,bA,cA,h.1,h.2⟩
def zaB(W:zB):Prop:=(∀i,i<W.sn->(W.zbh i).dn<=1048576)/\∀i,i<W.pn->(W.zbg i).dn<=1048576
open Go.Maps
def zCz(v:Value):Option (DataW Value×List MemPlace):=some (.held v,[])
theorem zD8{v:Value}{d:DataW Value}{ps:List MemPlace}(h:zCz v=some (d,ps)):d = .held v:=by
 unfold zCz at h;simp only[Option.some.injEq,Prod.mk.injEq]at h;exact h.1.symm
theorem zCu(v:Value):zCz v=some (.held v,[]):=rfl
theorem zJF{P:Program}(w:World){dA:Array Oper}{rest:List Oper}{o:Oper}{a:Act}{Q:Exit->Act->World->Prop}
  (hg:o.guard=none) (m x:Operand) (t:TypeId) (hop:o.op=Op.lookup t m x false)
  (k e:TypeId) (K:Keyed P k) (ht:P.underlying t=some (.map k e)) {z:Value} (hz:(zeroValue e).run P w = .ok z w) (b n:Nat) (D:DataW Value)
  (hm:a.eval m = .map (some b)) (bA:w.ownsMap P k zCz b n D) (key:Value) (kl:Lit) (hx:a.eval x=key) (aA:keyOf P k key=some kl)
  (v:Value) (fA:D.atKey kl (.held z) = .held v) (hK:wpList P dA Q rest (a.put o.dst v) w) :
  wpList P dA Q (o :: rest) a w:=by
 refine wpList_plain hg fun K' eA=>?_
 obtain⟨v',ps,cA,hv⟩:=bA.lookup K ht hz (zCu z) aA;have e1:=zD8 hv;rw[fA]at e1;injection e1 with e1;subst e1;unfold Oper.wp;simp[execOp,hop,hm,hx,cA,Result.andThen];exact eA _ _ hK
theorem zCp{P:Program}(w:World){cA:Array Oper}{rest:List Oper}{o:Oper}{a:Act}{Q:Exit->Act->World->Prop}
  (hg:o.guard=none) (m x:Operand) (t:TypeId) (hop:o.op=Op.lookup t m x true)
  (k e:TypeId) (K:Keyed P k) (ht:P.underlying t=some (.map k e)) {z:Value} (hz:(zeroValue e).run P w = .ok z w) (b n:Nat) (D:DataW Value)
  (hm:a.eval m = .map (some b)) (bA:w.ownsMap P k zCz b n D) (key:Value) (kl:Lit) (hx:a.eval x=key) (aA:keyOf P k key=some kl)
  (v:Value) (dA:D.atKey kl (.held z) = .held v) (c:Bool) (hc:Maps.has D kl=c) (hK:wpList P cA Q rest (a.put o.dst (.tuple #[v,.bool c])) w) :
  wpList P cA Q (o :: rest) a w:=by
 refine wpList_lookup_own_ok w hg m x t hop k e K ht zCz hz (.held z) [] (zCu z) b n D hm bA key kl hx aA (fun v' ps hv=>?_);have e1:=zD8 hv;rw[dA]at e1;injection e1 with e1;subst e1;rw[hc];exact hK
def putD(key:Nat->Lit)(val:Nat->Value):Nat->DataW Value
 | 0=>.map []
 | k+1=>(putD key val k).put (key k) (.held (val k))
def zFC(key:Nat->Lit):Prop:=∀i,WideAt.IsKeyLit (key i)
theorem zEX{key:Nat->Lit}(hk:zFC key)(val:Nat->Value):∀k,Tidy (putD key val k)
 | 0=>tidy_empty
 | k+1=>(zEX hk val k).put (hk k) _
theorem zFg{key:Nat->Lit}(hk:zFC key)(val:Nat->Value)(l:Lit):∀k,Maps.has (putD key val k) l=true↔∃i,i<k/\key i=l
 | 0=>by
  constructor
  ·intro h;exact absurd h (by simp[putD,Maps.has])
  ·rintro⟨i,hi,_⟩;omega
 | k+1=>by
  by_cases hx:key k=l
  ·subst hx;exact⟨fun _=>⟨k,by omega,rfl⟩,fun _=>has_put_same (zEX hk val k).isMap (hk k) _⟩
  ·rw[show Maps.has (putD key val (k+1)) l=Maps.has (putD key val k) l from has_put_other (Ne.symm hx) _,zFg hk val l k];constructor
   ·rintro⟨i,hi,e⟩;exact⟨i,by omega,e⟩
   ·rintro⟨i,hi,e⟩;by_cases h:i=k
    ·subst h;exact absurd e hx
    ·exact⟨i,by omega,e⟩
theorem zHY{key:Nat->Lit}(hk:zFC key)(val:Nat->Value){l:Lit}{k:Nat}(h:∀i,i<k->key i≠l)(z:DataW Value):(putD key val k).atKey l z=z:=by
 refine atKey_of_not_has ?_ _;rw[Bool.eq_false_iff];intro hh;obtain⟨i,hi,e⟩:=(zFg hk val l k).1 hh;exact h i hi e
theorem zKs{key:Nat->Lit}(hk:zFC key)(val:Nat->Value)(z:DataW Value):∀k i,i<k->(∀j,i<j->j<k->key j≠key i)->(putD key val k).atKey (key i) z = .held (val i)
 | 0,i,hi,_=>absurd hi (Nat.not_lt_zero _)
 | k+1,i,hi,hd=>by
  by_cases e:i=k
  ·subst e;exact atKey_put_same (zEX hk val i).isMap (hk i) _ _
  ·exact(atKey_put_other (Ne.symm (hd k (by omega) (by omega))) _ _).trans (zKs hk val z k i (by omega) (fun j h1 h2=>hd j h1 (by omega)))
def zIR(n:Nat)(key:Nat->Lit):Prop:=∀i,i<n->∀k,k<i->key k≠key i
theorem zH5{k:Nat}{f:Nat->Lit}:zIR (k+1) f↔zIR k f/\∀i,i<k->f i≠f k:=by
 constructor
 ·exact fun h=>⟨fun i hi=>h i (by omega),fun i hi=>h k (by omega) i hi⟩
 ·rintro⟨h1,h2⟩ i hi j hj;by_cases e:i=k
  ·subst e;exact h2 j hj
  ·exact h1 i (by omega) j hj
theorem zJh{key:Nat->Lit}(hk:zFC key)(val:Nat->Value):∀k,Maps.size (putD key val k)<=k/\(Maps.size (putD key val k)=k↔zIR k key)
 | 0=>⟨Nat.le_refl _,fun _ i hi=>by omega,fun _=>rfl⟩
 | k+1=>by
  obtain⟨h1,h2⟩:=zJh hk val k;have e:Maps.size (putD key val (k+1))=if Maps.has (putD key val k) (key k)then Maps.size (putD key val k)else Maps.size (putD key val k)+1:=size_put (zEX hk val k) _
  by_cases hh:Maps.has (putD key val k) (key k)=true
  ·rw[if_pos hh]at e;rw[e,zH5];refine⟨by omega,fun h=>by omega,fun h=>?_⟩;obtain⟨i,hi,he⟩:=(zFg hk val (key k) k).1 hh;exact absurd he (h.2 i hi)
  ·rw[if_neg hh]at e;rw[e,zH5,<-h2];refine⟨by omega,fun h=>⟨by omega,fun i hi he=>hh ((zFg hk val (key k) k).2 ⟨i,hi,he⟩)⟩,fun h=>by omega⟩
theorem zGp(n:Int)(w:World):Calls Tryz.prog 26 #[.int .i64 n] w fun e w'=>zJ (zHN n 1 900000) e/\w'=w:=by
 by_cases h1:1<=n
 ·by_cases h2:n<=900000
  ·go_enter Tryz.func26,Tryz.ntmps26;go_wp2;go_ret;exact⟨zJ.yes ⟨h1,h2⟩,rfl⟩
  ·go_enter Tryz.func26,Tryz.ntmps26;go_wp2;go_ret;exact⟨zJ.no fun h=>by have:=h.2;omega,rfl⟩
 ·go_enter Tryz.func26,Tryz.ntmps26;go_wp2;go_ret;exact⟨zJ.no fun h=>by have:=h.1;omega,rfl⟩
def Mid(a x b:Int):Prop:=a<x/\x<b
theorem zJy(a x b:Int)(w:World):Calls Tryz.prog 62 #[.int .i64 a,.int .i64 x,.int .i64 b] w fun e w'=>zJ (Mid a x b) e/\w'=w:=by
 by_cases h1:a<x
 ·by_cases h2:x<b
  ·go_enter Tryz.func62,Tryz.ntmps62;go_wp2;go_ret;exact⟨zJ.yes ⟨h1,h2⟩,rfl⟩
  ·go_enter Tryz.func62,Tryz.ntmps62;go_wp2;go_ret;exact⟨zJ.no fun h=>by have:=h.2;omega,rfl⟩
 ·go_enter Tryz.func62,Tryz.ntmps62;go_wp2;go_ret;exact⟨zJ.no fun h=>by have:=h.1;omega,rfl⟩
def zG0(f:Nat->zB9):Nat->ByteArray
 | 0=>⟨#[]⟩
 | k+1=>(f k).name
def zZN(n:Nat)(f:Nat->zB9):Prop:=n<=8/\∀i,i<n->zDM (f i).name/\zCW (zG0 f i) (f i).name
theorem zNA(v:Value)(n lo hi:Nat)(f:Nat->zB9)(w:World)(h:zFD w lo hi v n f) :
  Calls Tryz.prog 27 #[v] w fun e w'=>zJ (zZN n f) e/\Below w.heap.size w w':=by
 have Hp:=zC h;obtain⟨m1,a,c,rfl,mc,-⟩:=id h;unfold maxLen at m1;clear h;by_cases hn:n<=8;rotate_left
 ·have kA:(8:Int)<(n:Int):=(by omega);go_enter Tryz.func27,Tryz.ntmps27;go_wp2;go_ret;exact⟨zJ.no fun h=>hn h.1,Below.refl _ _⟩
 have kA:¬(8:Int)<(n:Int):=by omega
 go_enter Tryz.func27,Tryz.ntmps27;go_wp2
 go_loopw [3,11] (fun l i wr=>∃k:Nat,k<=n/\i = .int .i64 k/\l = .string (zG0 f k)/\(∀j,j<k->zDM (f j).name/\zCW (zG0 f j) (f j).name)/\Below w.heap.size w wr) (fun _ i _=>n - (intOf i).toNat)
 case atStart=>exact⟨0,Nat.zero_le _,rfl,rfl,fun j hj=>absurd hj (Nat.not_lt_zero _),Below.refl _ _⟩
 case round=>
  obtain⟨k,hk,rfl,rfl,cA,hb⟩:=hrel;have bA:=zC cA;clear cA;by_cases dA:k<n;rotate_left
  ·obtain rfl:k=n:=(by omega);go_wp2;go_ret;exact⟨zJ.yes ⟨hn,bA.out⟩,hb⟩
  have jA:(k:Int)<(n:Int):=(by omega);obtain⟨b,off,vd,rfl,aA⟩:=(Hp.out.zbd hb).cells dA;obtain⟨-,ad,cd,rfl,-,-⟩:=id aA.dead;have gA:=zD wr (.cells #[.string (f k).name,.int .i64 (f k).origin,.int .i64 (f k).zbi,.int .i64 (f k).rs,.int .i64 (f k).rb,.slice ad (f k).dn cd] 46);have iA:=zC (zAb.new wr (.string (f k).name) (.int .i64 (f k).origin) (.int .i64 (f k).zbi) (.int .i64 (f k).rs) (.int .i64 (f k).rb) (.slice ad (f k).dn cd) 46);have fA:=zA hb gA;have q0:=aA.c0;have q1:=aA.c1;have q2:=aA.c2;have q3:=aA.c3;have q4:=aA.c4;have q5:=aA.c5;have lA:=aA.zbk;obtain⟨⟨y0,y1⟩,-⟩:=iA.out;clear aA gA;go_wp2_with fail;clear q0 q1 q2 q3 q4 q5;refine(zIm (f k).name _ lA).mono ?_;rintro e wn ⟨⟨tn,rfl,eA⟩,rfl⟩;by_cases hA:zDM (f k).name;rotate_left
  ·have Hn:=zC hA;obtain rfl:tn=false:=zAR eA hA;clear eA hA;go_wp2;go_ret;exact⟨zJ.no fun h=>Hn.out (h.2 k dA).1,fA⟩
  have HA:=zC hA;obtain rfl:tn=true:=eA.2 hA;clear eA hA;by_cases hR:zCW (zG0 f k) (f k).name
  ·have f1:=(zTU (f k).name (zG0 f k)).2 hR;have HR:=zC hR;clear hR;go_wp2;go_roundw
   case rel=>exact⟨k+1,by omega,by go_num,rfl,qi dA bA.out ⟨HA.out,HR.out⟩,fA⟩
   case measure=>simp[intOf];omega
  ·have f1:(Op.bytesLess (f k).name.toList (zG0 f k).toList || (f k).name.toList == (zG0 f k).toList)=true:=by
    cases hc:(Op.bytesLess (f k).name.toList (zG0 f k).toList || (f k).name.toList == (zG0 f k).toList)
    ·exact absurd ((zTU _ _).1 hc) hR
    ·rfl
   have HR:=zC hR;clear hR;go_wp2;go_ret;exact⟨zJ.no fun h=>HR.out (h.2 k dA).2,fA⟩
theorem zWU:laidOutB Tryz.prog=true:=by kernel_rfl
theorem zZ4:300<=Tryz.prog.types.size+300 - 1/\1<=Tryz.prog.types.size:=by
 have h:decide (1<=Tryz.prog.types.size)=true:=by kernel_rfl
 have:=of_decide_eq_true h;omega
theorem zWX{k:Nat}(h:decide (k<Tryz.prog.types.size)=true):k<Tryz.prog.types.size:=of_decide_eq_true h
theorem zbc:Tryz.prog.underlying 9=some .string:=by kernel_rfl
theorem za1:Tryz.prog.underlying 2=some (.int .i64):=by kernel_rfl
theorem zYf:Keyed Tryz.prog 9:=string_keyed zbc
theorem zYe:Keyed Tryz.prog 2:=int_keyed za1
def zEm(s:ByteArray):Lit:=.string s.data.toList
theorem zO4{s:ByteArray}(h:s.size<=maxLen):keyOf Tryz.prog 9 (.string s)=some (zEm s):=by simp[keyOf,mapKey,zEm,h]
theorem zLp{s t:ByteArray}(h:zEm s=zEm t):s=t:=by
 unfold zEm at h;injection h with h;cases s;cases t;simp only[ByteArray.mk.injEq];exact Array.toList_inj.1 h
theorem zLq(s:ByteArray):WideAt.IsKeyLit (zEm s):=trivial
def zH9(x:Int):Lit:=.int .i64 x
theorem zKj{x:Int}(h:(Lit.int .i64 x).wf=true):keyOf Tryz.prog 2 (.int .i64 x)=some (zH9 x):=keyOf_int_mk za1 h
theorem zLo{x y:Int}(h:zH9 x=zH9 y):x=y:=by unfold zH9 at h;injection h
theorem zQa(x:Int):WideAt.IsKeyLit (zH9 x):=trivial
theorem zbS:Tryz.prog.underlying 127=some (.array 2 9):=by kernel_rfl
theorem zaQ:Keyed Tryz.prog 127:=Keyed.of_law (deep_law_laid zWU (m:=5) (by decide) (zWX (by kernel_rfl)) (by kernel_rfl) (by kernel_rfl))
theorem zYc{s t:ByteArray}(hs:s.size<=maxLen)(ht:t.size<=maxLen):∃l,keyOf Tryz.prog 127 (.agg #[.string s,.string t])=some l:=by
 obtain⟨m,hm⟩:∃m,Tryz.prog.types.size+1=m+2:=⟨Tryz.prog.types.size - 1,by have:=zZ4;omega⟩;have hk:Tryz.prog.keyType 127=true:=by kernel_rfl
 have hc:Tryz.prog.cellsOf 127=2:=by kernel_rfl
 have h1:Tryz.prog.cellsOf 9=1:=by kernel_rfl
 unfold keyOf;simp only[zbS];rw[if_pos (by simp[hk,Value.formed,hc]),hm];unfold Program.keyLits;simp only[zbS,Value.cells];rw[if_pos (by rw[hc];rfl),show List.range 2 = [0,1] from rfl,List.mapM_cons,List.mapM_cons,List.mapM_nil];simp[h1,Program.keyLits,hs,ht]
theorem zbL:Tryz.prog.underlying 44=some (.struct #[⟨ "Slot",2,0,false, "", "",0⟩,⟨ "Birth",2,1,false, "", "",8⟩]):=by kernel_rfl
theorem zUp:Keyed Tryz.prog 44:=Keyed.of_law (deep_law_laid zWU (m:=5) (by decide) (zWX (by kernel_rfl)) (by kernel_rfl) (by kernel_rfl))
theorem zO3{x y:Int}(hx:(Lit.int .i64 x).wf=true)(hy:(Lit.int .i64 y).wf=true):∃l,keyOf Tryz.prog 44 (.agg #[.int .i64 x,.int .i64 y])=some l:=by
 obtain⟨m,hm⟩:∃m,Tryz.prog.types.size+1=m+2:=⟨Tryz.prog.types.size - 1,by have:=zZ4;omega⟩;have hk:Tryz.prog.keyType 44=true:=by kernel_rfl
 have hc:Tryz.prog.cellsOf 44=2:=by kernel_rfl
 have h1:Tryz.prog.cellsOf 2=1:=by kernel_rfl
 unfold keyOf;simp only[zbL];rw[if_pos (by simp[hk,Value.formed,hc]),hm];unfold Program.keyLits;simp only[zbL,Value.cells];rw[if_pos ⟨by rw[hc];rfl,by kernel_rfl⟩];simp[h1,Program.keyLits,hx,hy]
def zI6(vd:Value)(s:zB9):Value:=.agg #[.string s.name,.int .i64 s.origin,.int .i64 s.zbi,.int .i64 s.rs,.int .i64 s.rb,vd]
def zCX(vd:Value)(s:yY):Value:=.agg #[.int .i64 s.id,.string s.name,.string s.set,.int .i64 s.zbi,.int .i64 s.time,.int .i64 s.rs,.int .i64 s.rb,vd]
def zK7(w:World)(lo hi n:Nat)(f:Nat->zB9)(vd:Nat->Value):Prop:=∀i,i<n->qk w lo hi (vd i) (f i).dn (f i).ds (f i).db
def zHO(w:World)(lo hi n:Nat)(f:Nat->yY)(vd:Nat->Value):Prop:=∀i,i<n->qk w lo hi (vd i) (f i).dn (f i).ds (f i).db
open Classical in
theorem zFD.vals{w:World}{lo hi:Nat}{a:Option Addr}{n c:Nat}{f:Nat->zB9}(h:zFD w lo hi (.slice a n c) n f):∃vd:Nat->Value,zK7 w lo hi n f vd/\∀i,i<n->∃b off,a=some ⟨b,off,none⟩/\zEd w b (off+i*6) lo hi (vd i) (f i):=by
 have hx:∀i,∃v,i<n->∃b off,a=some ⟨b,off,none⟩/\zEd w b (off+i*6) lo hi v (f i):=fun i=>by
  by_cases aA:i<n
  ·obtain⟨b,off,vd,ha,hs⟩:=h.cells aA;exact⟨vd,fun _=>⟨b,off,ha,hs⟩⟩
  ·exact⟨undef,fun h=>absurd h aA⟩
 refine⟨fun i=>(hx i).choose,fun i aA=>?_,fun i aA=>(hx i).choose_spec aA⟩;obtain⟨b,off,_,hs⟩:=(hx i).choose_spec aA;exact hs.dead
open Classical in
theorem zDQ.vals{w:World}{lo hi:Nat}{a:Option Addr}{n c:Nat}{f:Nat->yY}(h:zDQ w lo hi (.slice a n c) n f):∃vd:Nat->Value,zHO w lo hi n f vd/\∀i,i<n->∃b off,a=some ⟨b,off,none⟩/\zDh w b (off+i*8) lo hi (vd i) (f i):=by
 have hx:∀i,∃v,i<n->∃b off,a=some ⟨b,off,none⟩/\zDh w b (off+i*8) lo hi v (f i):=fun i=>by
  by_cases aA:i<n
  ·obtain⟨b,off,vd,ha,hs⟩:=h.cells aA;exact⟨vd,fun _=>⟨b,off,ha,hs⟩⟩
  ·exact⟨undef,fun h=>absurd h aA⟩
 refine⟨fun i=>(hx i).choose,fun i aA=>?_,fun i aA=>(hx i).choose_spec aA⟩;obtain⟨b,off,_,hs⟩:=(hx i).choose_spec aA;exact hs.dead
theorem zUC:Tryz.prog.underlying 54=some (.map 9 46):=by kernel_rfl
theorem zPV:Tryz.prog.underlying 78=some (.map 2 50):=by kernel_rfl
theorem zVt:Tryz.prog.underlying 126=some (.map 127 2):=by kernel_rfl
def zDP(w:World)(W:zB)(M n:Nat)(vd:Nat->Value):Prop:=w.ownsMap Tryz.prog 9 zCz M n (putD (fun i=>zEm (W.zbh i).name) (fun i=>zI6 (vd i) (W.zbh i)) n)
def zD3(w:World)(W:zB)(M n:Nat)(vd:Nat->Value):Prop:=w.ownsMap Tryz.prog 2 zCz M n (putD (fun i=>zH9 (W.zbg i).id) (fun i=>zCX (vd i) (W.zbg i)) n)
theorem zDP.zbd{w w':World}{W:zB}{M n:Nat}{vd:Nat->Value}(h:zDP w W M n vd)(t:Below w.heap.size w w'):zDP w' W M n vd:=h.kept (zCS t none) (by simp)
theorem zD3.zbd{w w':World}{W:zB}{M n:Nat}{vd:Nat->Value}(h:zD3 w W M n vd)(t:Below w.heap.size w w'):zD3 w' W M n vd:=h.kept (zCS t none) (by simp)
theorem zEq(v0 v1 v2 v3:Value)(lo hi:Nat)(W:zB)(w:World)(h:ye w lo hi v0 v1 v2 v3 W)(hn:W.sn<=8) :
  Calls Tryz.prog 22 #[zAY v0 v1 v2 v3 W] w fun e w'=>∃vd,e = .returned (.map (some (w.heap.size+1)))/\zDP w' W (w.heap.size+1) W.sn vd/\zK7 w lo hi W.sn W.zbh vd/\Below w.heap.size w w':=by
 have Hp:=zC h;obtain⟨m1,a,c,rfl,mc,-⟩:=id h.zbh;unfold maxLen at m1;obtain⟨vd,rA,oA⟩:=h.zbh.vals;have vA:=zC rA;have tA:=zC oA;clear h rA oA;have ha:=zD w (.cells #[v0,v1,.int .i64 W.time,.int .i64 W.next,.slice a W.sn c,v3] 30);have HB:=zC (zAb.new w v0 v1 (.int .i64 W.time) (.int .i64 W.next) (.slice a W.sn c) v3 30);have kA:(w.alloc (.cells #[v0,v1,.int .i64 W.time,.int .i64 W.next,.slice a W.sn c,v3] 30)).heap.size=w.heap.size+1:=World.size_alloc _ _;have hm:=World.ownsMap_made (w.alloc (.cells #[v0,v1,.int .i64 W.time,.int .i64 W.next,.slice a W.sn c,v3] 30)) Tryz.prog 9 zCz;rw[kA]at hm;have HM:=zC hm;have lA:=zC (HB.out.zbd (zD _ (.map #[] 0)));have mA:=zC (zA ha (zD _ (.map #[] 0)));have fB:=@run_makeMap Tryz.prog;obtain⟨x0,x2,x4,x6,x8,eB⟩:=lA.out.c;clear hm;go_enter Tryz.func22,Tryz.ntmps22;go_wp2;clear x0 x2 x4 x6 x8 eB ha
 go_loopw [10] (fun i wr=>∃k:Nat,k<=W.sn/\i = .int .i64 k/\zDP wr W (w.heap.size+1) k vd/\Below w.heap.size w wr/\w.heap.size+2<=wr.heap.size) (fun i _=>W.sn - (intOf i).toNat)
 case atStart=>exact⟨0,Nat.zero_le _,rfl,HM.out,mA.out,by rw[World.size_alloc,kA];omega⟩
 case round=>
  clear HM lA mA HB kA;obtain⟨k,hk,rfl,eA,hb,hz⟩:=hrel;have cA:=zC eA;clear eA;by_cases bB:k<W.sn
  ·have cB:(k:Int)<(W.sn:Int):=(by omega);obtain⟨b,off,rfl,pA⟩:=tA.out k bB;have bA:=pA.zbd hb;obtain⟨-,ad,cd,jA,-,-⟩:=id bA.dead;have aB:=zC jA;rw[jA]at bA;clear jA pA;have gA:=zD wr (.cells #[.string (W.zbh k).name,.int .i64 (W.zbh k).origin,.int .i64 (W.zbh k).zbi,.int .i64 (W.zbh k).rs,.int .i64 (W.zbh k).rb,.slice ad (W.zbh k).dn cd] 46);have sA:=zC (zAb.new wr (.string (W.zbh k).name) (.int .i64 (W.zbh k).origin) (.int .i64 (W.zbh k).zbi) (.int .i64 (W.zbh k).rs) (.int .i64 (W.zbh k).rb) (.slice ad (W.zbh k).dn cd) 46);have nA:=zA hb gA;have q0:=bA.c0;have q1:=bA.c1;have q2:=bA.c2;have q3:=bA.c3;have q4:=bA.c4;have q5:=bA.c5;have iA:=zC (zO4 bA.zbk);obtain⟨⟨y0,y1⟩,⟨y2,y3⟩,⟨y4,y5⟩,⟨y6,y7⟩,⟨y8,y9⟩,⟨iB,jB⟩⟩:=sA.out;have dA:=zC (cA.out.zbd gA);have gB:=gA.size;clear bA gA;go_wp2_with (first
    | (at_mapUpdate;refine wpList_mapUpdate_own _ rfl _ _ _ 54 rfl 9 46 zYf zUC zCz (w.heap.size+1) k _ rfl dA.out (by unfold maxLen;omega) _ _ _ rfl rfl iA.out _ [] (zCu _) ?_;intro w1 fA aA)
    | go_in)
   go_roundw
   case rel=>
    refine⟨k+1,by omega,by go_num,?_,nA.grown aA nA.size (fun j hj=>by cases hj;omega),by have:=aA.size;omega⟩;unfold zDP putD zI6;rw[aB.out];exact fA
   case measure=>simp[intOf];omega
  ·obtain rfl:k=W.sn:=(by omega);go_wp2;go_ret;exact⟨vd,rfl,cA.out,vA.out,hb⟩
end Go.Proofs.YtginldeebkfbgaaGreat
