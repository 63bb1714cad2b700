/- A part of the proof. -/
import Derived.Test.YtginldeebkfbgaaGreatF23
set_option linter.unusedVariables false
set_option maxRecDepth 20000
set_option maxHeartbeats 4000000
namespace Go.Proofs.YtginldeebkfbgaaGreat
open Go.RowKit
set_option linter.unusedSimpArgs false
set_option maxRecDepth 20000
set_option maxHeartbeats 3200000
abbrev wuO(o:zDR):Bool×List Tr:=(true,[.s .o 3 o.world.pool.n (zY .z o.world.pool.s),.s .o 1 o.world.pool.hn (qf o.world.pool.h),.v (.int .i64 o.world.time),.v (.int .i64 o.world.next),.s .o 6 o.world.sn (setsE .o o.world.zbh),.s .o 8 o.world.pn (snapsE .z o.world.zbg),.v (.int .i64 o.id),.v (.int .i64 o.many),.v (.int .i64 o.code)])
abbrev woV(W:zB):List Tr:=[.s .o 3 W.pool.n (zY .z W.pool.s),.s .o 1 W.pool.hn (qf W.pool.h),.v (.int .i64 W.time),.v (.int .i64 W.next),.s .o 6 W.sn (setsE .o W.zbh),.s .o 8 W.pn (snapsE .z W.zbg)]
def zHr(W:zB)(l:List (Int×Int)):zB:={W with pool:=qe W.pool l}
abbrev psL(l:List (Int×Int)):Bool×List Tr:=psT l.length (fun i=>zi l i) (fun i=>zu l i)
def zUV(a:Tr):List (Int×Int):=(List.range (zEu a)).map fun i=>(qC (zCA a i 0),qC (zCA a i 1))
theorem zOo(l:List (Int×Int)):zUV (.s .b 2 l.length (ptrsT (fun i=>zi l i) (fun i=>zu l i)))=l:=by
 show(List.range l.length).map (fun i=>(zi l i,zu l i))=l;apply List.ext_getElem
 ·simp
 ·intro i h1 h2;simp[<-zQQ,<-zXo,h2]
theorem zJX{fl:Fl}{p:zF}{x:Int}:TrE (.s fl 1 (p.hn+1) (yH (qf p.h) p.hn (fun a q=>([Tr.v (Value.int .i64 x)][a+q]?.getD (.v (.bool false))).nt))) (.s fl 1 (zGv p x).hn (qf (zGv p x).h)):=zDv fun i j hi hj=>by
 cases (show j=0 by omega);unfold yH;by_cases h:i<p.hn
 ·rw[if_pos h];show _=Tr.v (.int .i64 (if i=p.hn then x else p.h i));rw[if_neg (by omega)];rfl
 ·cases (show i=p.hn by omega);rw[if_neg h,Nat.sub_self];show _=Tr.v (.int .i64 (if p.hn=p.hn then x else p.h p.hn));rw[if_pos rfl];rfl
attribute [local go_sem] qX List.map_cons List.map_nil Tr.cv yq qK yA qz yp yo yn qy zBE zBG zBF zBB zBD zBC zCa zCc zCb qP zr qQ zt qI qH qU zAA zo zp yE qO tmpsOf zAo yD qN zBA yw yu yr yx yv stpP opds opd opdC kap zAB qJ zn coreU bin zAe zCK get put dlO fgt zBR zBK zBO zBP tyT yk yj Op.operands Call.operands evLoad evLen evStore evAlloc zAj and_true true_and List.append_nil List.nil_append List.cons_append Ret resCv zB3 yV cellM zBh zCE qV StW StR hpT hpO hpV hpA hpL hpC sg nin zCU bdO tmW obW AvE CsE CvE Av.tup Av.ids Cv.ids inD ObE Ob.ids TrE.refl qM yB yC qR qS qT zq zb zX yz zBa zCL zBH evCall argL argOf qZ outOb obO yM qA cvO tot Tr.own rid partsOf fillC zS zBf frz frz1 evBuildSlice zc trs Cv.tr evSlice Option.toArray_none Option.toArray_some evMakeSlice evAppend dstOf srcOf zA3 zBQ zBN zBL zBM ikT qx qw qv qu RetP RetN zBr qD evLd evSt evStoreH zAh evAppendM evAppendT tlOf mvOf rowE shp evTake oOf evC evCallP evCallN evCallO unlast zAO zA1 zAa argsF zCR qg pmC varT vT evField evConv dB0 Option.bind_some Option.bind_none Option.map_some Option.map_none Option.isSome_some Option.isSome_none
attribute [local go_sem] yL za zA7 yd qr zAv zAw zAx zAy zAz zA0 zAD zAE zAF zAG zAH zAI zAJ zAK yS qp
attribute [-go_sem] za
attribute [local go_sem] zAV zCF zCG zAf yy
noncomputable def za8:zR:=qE (fun c:Int=>[iT c]) (fun _=>True) (fun c=>[wuO (qa c)])
theorem qh(c:Int):za8 [iT c]=some (True,[wuO (qa c)]):=zK (fun l=>qC (nth l 0 0)) (fun _=>rfl) c
theorem zCQ:zd Tryz.prog 115 za8:=by
 refine zP zl GOk.nil zk Tryz.func115 rfl Tryz.ntmps115 Tryz.results115 3 ?_;intro c hc;refine⟨by simp,?_⟩;simp[go_sem,qa,noW,zG8]
open Classical in
noncomputable def zE5(W:zB)(x:ByteArray):Int:=if zA4 W x then 5 else if 8<=W.sn then 6 else 0
noncomputable def zbA:zR:=qE (fun q:zB×ByteArray=>[woT q.1,sT q.2]) (fun q=>q.1.sn<=1000000) (fun q=>[iT (zE5 q.1 q.2)])
theorem zTa(W:zB)(x:ByteArray):zbA [woT W,sT x]=some (W.sn<=1000000,[iT (zE5 W x)]):=zK (fun l=>(zB7 (nth l 0),zDJ (nth l 1 0))) (fun _=>rfl) (W,x)
theorem zNy:zd Tryz.prog 116 zbA:=by
 refine zP zl (GOk.cons zCP (zG Tryz.func23 rfl rfl) GOk.nil) zk Tryz.func116 rfl Tryz.ntmps116 Tryz.results116 5 ?_;rintro⟨W,x⟩ hW;replace hW:W.sn<=1000000:=hW;refine⟨by simp,?_⟩;simp[go_sem,yW,hW,zCH,zAp];refine⟨fun h=>(if_pos h).symm,fun h=>⟨fun h1=>?_,fun h1=>?_⟩⟩
 ·rw[zE5,if_neg h,if_pos (by omega)]
 ·rw[zE5,if_neg h,if_neg (by omega)]
noncomputable def zWk:zR:=qE (fun q:zB×ByteArray×ByteArray=>[woT q.1,sT q.2.1,sT q.2.2]) (fun q=>q.1.pn<=1000000) (fun q=>bR (∃i,i<q.1.pn/\(q.1.zbg i).set=q.2.1/\(q.1.zbg i).name=q.2.2))
theorem zDo(W:zB)(x y:ByteArray):zWk [woT W,sT x,sT y]=some (W.pn<=1000000,bR (∃i,i<W.pn/\(W.zbg i).set=x/\(W.zbg i).name=y)):=zK (fun l=>(zB7 (nth l 0),zDJ (nth l 1 0),zDJ (nth l 2 0))) (fun _=>rfl) (W,x,y)
theorem zJ9:zd Tryz.prog 144 zWk:=by
 refine zP zl GOk.nil zk Tryz.func144 rfl Tryz.ntmps144 Tryz.results144 8 ?_;rintro⟨W,x,y⟩ hn;replace hn:W.pn<=1000000:=hn;refine⟨by simp,?_⟩;simp[go_sem];refine qY (fun k:Nat=>⟨[(3,true,.m false [.p 3 0]),(1,true,.m false [.v (.string x)]),(2,true,.m false [.v (.string y)]),(7,true,.i k)],[(3,.var ((woL W).map Tr.cv))]⟩) (fun k=>W.pn - k) (fun k=>k<=W.pn/\∀i,i<k->¬((W.zbg i).set=x/\(W.zbg i).name=y)) 0 (by simp[go_sem]) (by simp) ?_;rintro k ⟨hk,aA⟩;simp[go_sem,ze (show k<=1000000000 by omega)];refine⟨fun hl=>⟨hl,fun _=>hl,fun h1 h2=>⟨k,hl,zCf h1,zCf h2⟩,fun h=>⟨k+1,⟨by omega,fun i hi=>?_⟩,by omega,rfl⟩⟩,fun hl i hi h1 h2=>aA i (by omega) ⟨h1,h2⟩⟩;by_cases e:i=k
 ·subst e;exact fun h1 h2=>h (congrArg ByteArray.toList h1) (congrArg ByteArray.toList h2)
 ·exact fun h1 h2=>aA i (by omega) ⟨h1,h2⟩
noncomputable def zbE:zR:=qE (fun q:zB×ByteArray=>[woT q.1,sT q.2]) (fun q=>q.1.pn<=1000000) (fun q=>bR (∃i,i<q.1.pn/\(q.1.zbg i).set=q.2))
theorem zTd(W:zB)(x:ByteArray):zbE [woT W,sT x]=some (W.pn<=1000000,bR (∃i,i<W.pn/\(W.zbg i).set=x)):=zK (fun l=>(zB7 (nth l 0),zDJ (nth l 1 0))) (fun _=>rfl) (W,x)
theorem zUn:zd Tryz.prog 148 zbE:=by
 refine zP zl GOk.nil zk Tryz.func148 rfl Tryz.ntmps148 Tryz.results148 6 ?_;rintro⟨W,x⟩ hn;replace hn:W.pn<=1000000:=hn;refine⟨by simp,?_⟩;simp[go_sem];refine qY (fun k:Nat=>⟨[(2,true,.m false [.p 2 0]),(1,true,.m false [.v (.string x)]),(5,true,.i k)],[(2,.var ((woL W).map Tr.cv))]⟩) (fun k=>W.pn - k) (fun k=>k<=W.pn/\∀i,i<k->¬(W.zbg i).set=x) 0 (by simp[go_sem]) (by simp) ?_;rintro k ⟨hk,aA⟩;simp[go_sem,ze (show k<=1000000000 by omega)];exact⟨fun hl=>⟨hl,fun h=>⟨k,hl,zCf h⟩,fun h=>⟨k+1,⟨by omega,qi hl aA fun e=>h (congrArg ByteArray.toList e)⟩,by omega,rfl⟩⟩,fun hl i hi=>aA i (by omega)⟩
noncomputable def zZh:zR:=qE (fun q:zB×List (Int×Int)=>(true,woV q.1) :: [psL q.2]) (fun q=>q.1.pool.hn+q.2.length<=1000000) (fun q=>[woO (zHr q.1 q.2),iT q.2.length])
theorem zL2(W:zB)(l:List (Int×Int)):zZh ((true,woV W) :: [psL l])=some (W.pool.hn+l.length<=1000000,[woO (zHr W l),iT l.length]):=zK (fun m=>(zB7 (nth m 0),zUV (nth m 1 0))) (fun q=>by exact congrArg (Prod.mk q.1) (zOo q.2)) (W,l)
theorem zIB:zBd Tryz.prog 147 zZh:=by
 refine zA8 zl GOk.nil zk Tryz.func147 rfl Tryz.ntmps147 Tryz.results147 6 ?_;rintro⟨W,l⟩ hn;replace hn:W.pool.hn+l.length<=1000000:=hn;refine⟨by simp,?_⟩;simp[go_sem];refine qY (fun k:Nat=>⟨[(5,true,.i k),(0,true,.m false [.p 0 0]),(1,true,.m false [.s .b 2 l.length (ptrsT (fun i=>zi l i) (fun i=>zu l i))])],[(0,.var [.h 1000,.h 2000,.v (.int .i64 W.time),.v (.int .i64 W.next),.h 5000,.h 6000]),(1000,.row 3 W.pool.n (zY .z W.pool.s)),(2000,.row 1 (qe W.pool (l.take k)).hn (qf (qe W.pool (l.take k)).h)),(5000,.row 6 W.sn (setsE .o W.zbh)),(6000,.row 8 W.pn (snapsE .z W.zbg))]⟩) (fun k=>l.length - k) (fun k=>k<=l.length) 0 (by simp[go_sem,qe]) (Nat.zero_le _) ?_;intro k hk;obtain⟨p,hp⟩:∃p,p=qe W.pool (l.take k):=⟨_,rfl⟩;have bA:p.hn=W.pool.hn+k:=by rw[hp,(zBu _ _).2.2,List.length_take,Nat.min_eq_left hk]
 have aA:k<l.length->qe W.pool (l.take (k+1))=zGv p (zi l k):=fun h=>by
  rw[hp,List.take_succ_eq_append_getElem h,zF8,<-zQQ];simp[h]
 rw[<-hp];simp[go_sem,ze (show k<=1000000000 by omega)];refine⟨fun hl=>⟨hl,by omega,by kernel_rfl,k+1,hl,by omega,rfl,?_⟩,fun hl=>?_⟩
 ·rw[aA hl];exact zJX
 ·cases (show k=l.length by omega);rw[List.take_length]at hp;subst hp;obtain⟨e1,e2,-⟩:=zBu l W.pool;refine⟨⟨?_,zQ⟩,⟨TrE.refl _,zZ⟩,rfl,rfl,⟨TrE.refl _,qG⟩,TrE.refl _,zx⟩;show TrE _ (Tr.s .o 3 (qe W.pool l).n (zY .z (qe W.pool l).s));rw[e1,e2];exact TrE.refl _
open Classical in
noncomputable def zHi(W:zB)(x:ByteArray):Nat:=if h:∃k,k<W.sn/\¬zCW (W.zbh k).name x/\∀j,j<k->zCW (W.zbh j).name x then h.choose else W.sn
theorem zPx{W:zB}{x:ByteArray}{k:Nat}(h:k<W.sn)(h1:¬zCW (W.zbh k).name x)(h2:∀j,j<k->zCW (W.zbh j).name x):zHi W x=k:=by
 have hx:∃k,k<W.sn/\¬zCW (W.zbh k).name x/\∀j,j<k->zCW (W.zbh j).name x:=⟨k,h,h1,h2⟩;unfold zHi;rw[dif_pos hx];obtain⟨-,g1,g2⟩:=hx.choose_spec;rcases Nat.lt_trichotomy hx.choose k with e | e | e
 ·exact absurd (h2 _ e) g1
 ·exact e
 ·exact absurd (g2 _ e) h1
theorem zYB{W:zB}{x:ByteArray}(h:∀j,j<W.sn->zCW (W.zbh j).name x):zHi W x=W.sn:=dif_neg fun ⟨k,h1,h2,_⟩=>h2 (h k h1)
abbrev zDp(a:ByteArray)(o p rs rb:Int):zB9:=⟨a,o,p,rs,rb,0,fun _=>0,fun _=>0⟩
noncomputable def za6:zR:=qE (fun q:(zB×ByteArray)×Int×Int×Int×Int=>(true,woV q.1.1) :: [(true,[.v (.string q.1.2),.v (.int .i64 q.2.1),.v (.int .i64 q.2.2.1),.v (.int .i64 q.2.2.2.1),.v (.int .i64 q.2.2.2.2),.v n0])]) (fun q=>q.1.1.sn<=1000000) (fun q=>[woO (zFw q.1.1 (zHi q.1.1 q.1.2) (zDp q.1.2 q.2.1 q.2.2.1 q.2.2.2.1 q.2.2.2.2))])
theorem zTV(W:zB)(x:ByteArray)(o p rs rb:Int):za6 ((true,woV W) :: [(true,[.v (.string x),.v (.int .i64 o),.v (.int .i64 p),.v (.int .i64 rs),.v (.int .i64 rb),.v n0])])=some (W.sn<=1000000,[woO (zFw W (zHi W x) (zDp x o p rs rb))]):=zK (fun m=>((zB7 (nth m 0),zDJ (nth m 1 0)),qC (nth m 1 1),qC (nth m 1 2),qC (nth m 1 3),qC (nth m 1 4))) (fun _=>rfl) ((W,x),o,p,rs,rb)
theorem zNx:zBd Tryz.prog 118 za6:=by
 refine zA8 zl GOk.nil zk Tryz.func118 rfl Tryz.ntmps118 Tryz.results118 6 ?_;rintro⟨⟨W,x⟩,o,p,rs,rb⟩ hn;replace hn:W.sn<=1000000:=hn;refine⟨by simp,?_⟩;simp[go_sem];refine qY (fun k:Nat=>⟨[(4,true,.i k),(0,true,.m false [.p 0 0]),(3,true,.m false [.p 3 0])],[(3,.var [.v (.string x),.v (.int .i64 o),.v (.int .i64 p),.v (.int .i64 rs),.v (.int .i64 rb),.v n0]),(0,.var [.h 1000,.h 2000,.v (.int .i64 W.time),.v (.int .i64 W.next),.h 5000,.h 6000]),(1000,.row 3 W.pool.n (zY .z W.pool.s)),(2000,.row 1 W.pool.hn (qf W.pool.h)),(5000,.row 6 W.sn (setsE .o W.zbh)),(6000,.row 8 W.pn (snapsE .z W.zbg))]⟩) (fun k=>W.sn - k) (fun k=>k<=W.sn/\∀j,j<k->zCW (W.zbh j).name x) 0 (by simp[go_sem]) (by simp) ?_;rintro k ⟨hk,aA⟩;simp[go_sem,ze (show k<=1000000000 by omega)];refine⟨by kernel_rfl,fun hl h=>⟨k+1,⟨hl,qi hl aA h⟩,by omega,rfl⟩,fun h=>?_⟩;have hK:zHi W x=k:=by
  by_cases hl:k<W.sn
  ·exact zPx hl (fun e=>by have:=h hl;unfold zCW at e;rw[this]at e;simp at e) aA
  ·rw[zYB fun j hj=>aA j (by omega)];omega
 rw[hK];refine⟨hk,⟨hk,by omega⟩,by omega,hk,⟨by omega,by omega⟩,⟨TrE.refl _,zQ⟩,⟨TrE.refl _,zZ⟩,rfl,rfl,⟨?_,qG⟩,TrE.refl _,zx⟩;refine⟨.inl rfl,rfl,by show k+1+(W.sn - k)=W.sn+1;omega,fun i j hi hj=>?_⟩;show TrE _ (setsE .o (ins W.zbh k (zDp x o p rs rb)) i j);rcases Nat.lt_trichotomy i k with e | e | e
 ·have:setsE .o (ins W.zbh k (zDp x o p rs rb)) i j=setsE .o W.zbh i j:=by
   unfold setsE;rw[zWQ e]
  rw[this];exact TrE.of_eq (by simp[yH,e,show i<k+1 by omega])
 ·subst e;have:setsE .o (ins W.zbh i (zDp x o p rs rb)) i j=setsE .o (fun _=>zDp x o p rs rb) i j:=by
   unfold setsE;rw[zWO]
  rw[this]
  match j,hj with
  | 0,_ | 1,_ | 2,_ | 3,_ | 4,_=>exact TrE.of_eq (by simp[yH,setsE])
  | 5,_=>simp[yH,setsE,TrE]
 ·have:setsE .o (ins W.zbh k (zDp x o p rs rb)) i j=setsE .o W.zbh (i - 1) j:=by
   unfold setsE;rw[zWP e]
  rw[this];refine TrE.of_eq ?_;simp[yH,ntR,show ¬i<k+1 by omega,show k+(i - (k+1))=i - 1 by omega,show ¬i - 1<k by omega]
set_option maxRecDepth 20000
set_option maxHeartbeats 3200000
open Classical in
noncomputable def zDz(W:zB)(x:ByteArray):zDR:=if 8000<x.size then qa 2 else if ql W/\zDM x then(if zE5 W x=0 then⟨zFw W (zHi W x) (zDp x 0 0 0 0),0,0,0⟩else qa (zE5 W x))else qa 1
theorem qj{o o':zDR}(h:o'=o):(TrE (.s .o 3 o.world.pool.n (zY .z o.world.pool.s)) (.s .o 3 o'.world.pool.n (zY .z o'.world.pool.s))/\(Tr.s .o 3 o'.world.pool.n (zY .z o'.world.pool.s)).kept)/\(TrE (.s .o 1 o.world.pool.hn (qf o.world.pool.h)) (.s .o 1 o'.world.pool.hn (qf o'.world.pool.h))/\(Tr.s .o 1 o'.world.pool.hn (qf o'.world.pool.h)).kept)/\o.world.time=o'.world.time/\o.world.next=o'.world.next/\(TrE (.s .o 6 o.world.sn (setsE .o o.world.zbh)) (.s .o 6 o'.world.sn (setsE .o o'.world.zbh))/\(Tr.s .o 6 o'.world.sn (setsE .o o'.world.zbh)).kept)/\(TrE (.s .o 8 o.world.pn (snapsE .z o.world.zbg)) (.s .o 8 o'.world.pn (snapsE .z o'.world.zbg))/\(Tr.s .o 8 o'.world.pn (snapsE .z o'.world.zbg)).kept)/\o.id=o'.id/\o.many=o'.many/\o.code=o'.code:=by
 subst h;exact⟨⟨TrE.refl _,zQ⟩,⟨TrE.refl _,zZ⟩,rfl,rfl,⟨TrE.refl _,qG⟩,⟨TrE.refl _,zx⟩,rfl,rfl,rfl⟩
theorem zNs{W:zB}{x:Int}(h:zAC W x):(zA2 W.pn fun k=>(W.zbg k).id=x)<W.pn:=by
 rcases zLY (zF6 W.pn fun k=>(W.zbg k).id=x)with⟨-,-,h1,-⟩ | ⟨h',-⟩
 ·exact h1
 ·exact absurd h h'
theorem zHG{W:zB}{x:ByteArray}(h:zA4 W x):(zA2 W.sn fun k=>(W.zbh k).name=x)<W.sn:=by
 rcases zF6 W.sn fun k=>(W.zbh k).name=x with⟨k,h1,-,-,h2⟩ | ⟨h1,h2⟩
 ·omega
 ·have:=zAp.2 h;omega
attribute [local go_sem] qX List.map_cons List.map_nil Tr.cv yq qK yA qz yp yo yn qy zBE zBG zBF zBB zBD zBC zCa zCc zCb qP zr qQ zt qI qH qU zAA zo zp yE qO tmpsOf zAo yD qN zBA yw yu yr yx yv stpP opds opd opdC kap zAB qJ zn coreU bin zAe zCK get put dlO fgt zBR zBK zBO zBP tyT yk yj Op.operands Call.operands evLoad evLen evStore evAlloc zAj and_true true_and List.append_nil List.nil_append List.cons_append Ret resCv zB3 yV cellM zBh zCE qV StW StR hpT hpO hpV hpA hpL hpC sg nin zCU bdO tmW obW AvE CsE CvE Av.tup Av.ids Cv.ids inD ObE Ob.ids TrE.refl qM yB yC qR qS qT zq zb zX yz zBa zCL zBH evCall argL argOf qZ outOb obO yM qA cvO tot Tr.own rid partsOf fillC zS zBf frz frz1 evBuildSlice zc trs Cv.tr evSlice Option.toArray_none Option.toArray_some evMakeSlice evAppend dstOf srcOf zA3 zBQ zBN zBL zBM ikT qx qw qv qu RetP RetN zBr qD evLd evSt evStoreH zAh evAppendM evAppendT tlOf mvOf rowE shp evTake oOf evC evCallP evCallN evCallO unlast zAO zA1 zAa argsF zCR qg pmC varT vT evField evConv dB0 Option.bind_some Option.bind_none Option.map_some Option.map_none Option.isSome_some Option.isSome_none
attribute [local go_sem] yL za zA7 yd qr zAv zAw zAx zAy zAz zA0 zAD zAE zAF zAG zAH zAI zAJ zAK yS qp
attribute [-go_sem] za
attribute [local go_sem] zAV zCF zCG zAf yy
noncomputable def zTh:zR:=qE (fun q:zB×ByteArray=>[woT q.1,sT q.2]) (fun q=>yU q.1) (fun q=>[wuO (zDz q.1 q.2)])
theorem zL6(W:zB)(x:ByteArray):zTh [woT W,sT x]=some (yU W,[wuO (zDz W x)]):=zK (fun l=>(zB7 (nth l 0),zDJ (nth l 1 0))) (fun _=>rfl) (W,x)
theorem zNG:zd Tryz.prog 82 zTh:=by
 refine zP zl (GOk.cons zCC (zG Tryz.func117 rfl rfl) (GOk.cons yO (zG Tryz.func8 rfl rfl) (GOk.cons zCQ (zG Tryz.func115 rfl rfl) (GOk.cons zEL (zG Tryz.func75 rfl rfl) (GOk.cons zNy (zG Tryz.func116 rfl rfl) (GOk.ptr zNx (zG Tryz.func118 rfl rfl) GOk.nil)))))) zk Tryz.func82 rfl Tryz.ntmps82 Tryz.results82 7 ?_;rintro⟨W,x⟩ hW;replace hW:yU W:=hW;have hs:=hW.sn;refine⟨by simp,?_⟩;simp[go_sem,yf,yX,qh,zDW,zTa,zTV,hW,hW.toSmallW,hs];refine⟨fun h=>?_,fun h=>⟨fun h1=>?_,fun h1 h2=>⟨fun h3=>?_,fun h3=>?_⟩⟩⟩
 ·exact qj (if_pos (by omega))
 ·exact qj ((if_neg (by omega)).trans (if_neg fun e=>h1.elim (fun h=>h e.1) (fun h=>h e.2)))
 ·exact qj ((if_neg (by omega)).trans ((if_pos ⟨h1,h2⟩).trans (if_neg h3)))
 ·exact qj (o:=⟨zFw W (zHi W x) (zDp x 0 0 0 0),0,0,0⟩) ((if_neg (by omega)).trans ((if_pos ⟨h1,h2⟩).trans (if_pos h3)))
open Classical in
noncomputable def zEW(W:zB)(x:Int)(a:ByteArray):zDR:=if 8000<a.size then qa 2 else if ql W/\zDM a then(if zAC W x then(if zE5 W a=0 then⟨zFw W (zHi W a) (zDp a x x (W.zbg (zA2 W.pn fun k=>(W.zbg k).id=x).toNat).rs (W.zbg (zA2 W.pn fun k=>(W.zbg k).id=x).toNat).rb),0,0,0⟩else qa (zE5 W a))else qa 4)else qa 1
noncomputable def zWe:zR:=qE (fun q:zB×Int×ByteArray=>[woT q.1,iT q.2.1,sT q.2.2]) (fun q=>yU q.1) (fun q=>[wuO (zEW q.1 q.2.1 q.2.2)])
theorem zUs(W:zB)(x:Int)(a:ByteArray):zWe [woT W,iT x,sT a]=some (yU W,[wuO (zEW W x a)]):=zK (fun l=>(zB7 (nth l 0),qC (nth l 1 0),zDJ (nth l 2 0))) (fun _=>rfl) (W,x,a)
theorem zPg:zd Tryz.prog 125 zWe:=by
 refine zP zl (GOk.cons zCC (zG Tryz.func117 rfl rfl) (GOk.cons yO (zG Tryz.func8 rfl rfl) (GOk.cons zCD (zG Tryz.func52 rfl rfl) (GOk.cons zCQ (zG Tryz.func115 rfl rfl) (GOk.cons zEL (zG Tryz.func75 rfl rfl) (GOk.cons zNy (zG Tryz.func116 rfl rfl) (GOk.ptr zNx (zG Tryz.func118 rfl rfl) GOk.nil))))))) zk Tryz.func125 rfl Tryz.ntmps125 Tryz.results125 10 ?_;rintro⟨W,x,a⟩ hW;replace hW:yU W:=hW;have hs:=hW.sn;have hp:=hW.pn;refine⟨by simp,?_⟩;simp[go_sem,yf,yX,zBI,qh,zDW,zTa,zTV,hW,hW.toSmallW,hs,hp,zJ4,zGX];refine⟨fun h=>?_,fun h=>⟨fun h1=>?_,fun h1 h2=>⟨fun h3=>?_,fun h3=>?_⟩⟩⟩
 ·exact qj (if_pos (by omega))
 ·exact qj ((if_neg (by omega)).trans (if_neg fun e=>h1.elim (fun h=>h e.1) (fun h=>h e.2)))
 ·exact qj ((if_neg (by omega)).trans ((if_pos ⟨h1,h2⟩).trans (if_neg h3)))
 ·refine⟨fun h4=>?_,fun h4=>⟨⟨h3,zNs h3⟩,?_⟩⟩
  ·exact qj ((if_neg (by omega)).trans ((if_pos ⟨h1,h2⟩).trans ((if_pos h3).trans (if_neg h4))))
  ·exact qj (o:=⟨zFw W (zHi W a) (zDp a x x (W.zbg (zA2 W.pn fun k=>(W.zbg k).id=x).toNat).rs (W.zbg (zA2 W.pn fun k=>(W.zbg k).id=x).toNat).rb),0,0,0⟩) ((if_neg (by omega)).trans ((if_pos ⟨h1,h2⟩).trans ((if_pos h3).trans (if_pos h4))))
set_option maxRecDepth 20000
set_option maxHeartbeats 3200000
noncomputable abbrev zB4 (W:zB) (x:ByteArray):Nat:=(zA2 W.sn fun k=>(W.zbh k).name=x).toNat
noncomputable abbrev zHv (W:zB) (x:Int):Nat:=(zA2 W.pn fun k=>(W.zbg k).id=x).toNat
open Classical in
noncomputable def zEB(W:zB)(set name:ByteArray):zDR:=if 8000<set.size\/8000<name.size then qa 2 else if ql W/\zDM name then(if zA4 W set then(if ∃i,i<W.pn/\(W.zbg i).set=set/\(W.zbg i).name=name then qa 5 else if 20<=W.pn\/900000<=W.time\/900000<=W.next then qa 6 else⟨zRM W (zB4 W set) name set,W.next,0,0⟩)else qa 4)else qa 1
theorem zZ6{x:Int}(h:0<=x)(h':x<1000000):IntKind.i64.wrap (x+1)=x+1:=by
 unfold IntKind.wrap;simp[IntKind.signed,IntKind.bits];omega
attribute [local go_sem] qX List.map_cons List.map_nil Tr.cv yq qK yA qz yp yo yn qy zBE zBG zBF zBB zBD zBC zCa zCc zCb qP zr qQ zt qI qH qU zAA zo zp yE qO tmpsOf zAo yD qN zBA yw yu yr yx yv stpP opds opd opdC kap zAB qJ zn coreU bin zAe zCK get put dlO fgt zBR zBK zBO zBP tyT yk yj Op.operands Call.operands evLoad evLen evStore evAlloc zAj and_true true_and List.append_nil List.nil_append List.cons_append Ret resCv zB3 yV cellM zBh zCE qV StW StR hpT hpO hpV hpA hpL hpC sg nin zCU bdO tmW obW AvE CsE CvE Av.tup Av.ids Cv.ids inD ObE Ob.ids TrE.refl qM yB yC qR qS qT zq zb zX yz zBa zCL zBH evCall argL argOf qZ outOb obO yM qA cvO tot Tr.own rid partsOf fillC zS zBf frz frz1 evBuildSlice zc trs Cv.tr evSlice Option.toArray_none Option.toArray_some evMakeSlice evAppend dstOf srcOf zA3 zBQ zBN zBL zBM ikT qx qw qv qu RetP RetN zBr qD evLd evSt evStoreH zAh evAppendM evAppendT tlOf mvOf rowE shp evTake oOf evC evCallP evCallN evCallO unlast zAO zA1 zAa argsF zCR qg pmC varT vT evField evConv dB0 Option.bind_some Option.bind_none Option.map_some Option.map_none Option.isSome_some Option.isSome_none
attribute [local go_sem] yL za zA7 yd qr zAv zAw zAx zAy zAz zA0 zAD zAE zAF zAG zAH zAI zAJ zAK yS qp
attribute [-go_sem] za
attribute [local go_sem] zAV zCF zCG zAf yy
noncomputable def zQs:zR:=qE (fun q:zB×ByteArray×ByteArray=>[woT q.1,sT q.2.1,sT q.2.2]) (fun q=>yU q.1) (fun q=>[wuO (zEB q.1 q.2.1 q.2.2)])
theorem zQt(W:zB)(x a:ByteArray):zQs [woT W,sT x,sT a]=some (yU W,[wuO (zEB W x a)]):=zK (fun l=>(zB7 (nth l 0),zDJ (nth l 1 0),zDJ (nth l 2 0))) (fun _=>rfl) (W,x,a)
theorem zRk:zd Tryz.prog 123 zQs:=by
 refine zP zl (GOk.cons zCC (zG Tryz.func117 rfl rfl) (GOk.cons yO (zG Tryz.func8 rfl rfl) (GOk.cons zCP (zG Tryz.func23 rfl rfl) (GOk.cons zCQ (zG Tryz.func115 rfl rfl) (GOk.cons zEL (zG Tryz.func75 rfl rfl) (GOk.cons zJ9 (zG Tryz.func144 rfl rfl) GOk.nil)))))) zk Tryz.func123 rfl Tryz.ntmps123 Tryz.results123 10 ?_;rintro⟨W,x,a⟩ hW;replace hW:yU W:=hW;have hs:=hW.sn;have hp:=hW.pn;refine⟨by simp,?_⟩;by_cases h8:8000<x.size\/8000<a.size
 ·have dA:(8000:Int)<x.size\/(8000:Int)<a.size:=(by omega);simp[go_sem,qh,dA];exact⟨qj (if_pos h8),fun h h'=>absurd h8 (by omega)⟩
 have aA:¬(8000:Int)<x.size:=by omega
 have bA:¬(8000:Int)<a.size:=by omega
 by_cases hR:ql W/\zDM a;rotate_left
 ·simp[go_sem,yf,yX,yW,qh,zDW,zDo,hW,hW.toSmallW,hs,hp,zCH,zAp,aA,bA];refine⟨fun _=>qj ((if_neg h8).trans (if_neg hR)),fun h h'=>absurd ⟨h,h'⟩ hR⟩
 obtain⟨hR,hN⟩:=hR;by_cases hH:zA4 W x;rotate_left
 ·simp[go_sem,yf,yX,yW,qh,zDW,zDo,hW,hW.toSmallW,hs,hp,zCH,zAp,aA,bA,hR,hN,hH];exact qj ((if_neg h8).trans ((if_pos ⟨hR,hN⟩).trans (if_neg hH)))
 by_cases hE:∃i,i<W.pn/\(W.zbg i).set=x/\(W.zbg i).name=a
 ·simp[go_sem,yf,yX,yW,qh,zDW,zDo,hW,hW.toSmallW,hs,hp,zCH,zAp,aA,bA,hR,hN,hH,hE];exact qj ((if_neg h8).trans ((if_pos ⟨hR,hN⟩).trans ((if_pos hH).trans (if_pos hE))))
 by_cases hF:20<=W.pn\/900000<=W.time\/900000<=W.next
 ·simp[go_sem,yf,yX,yW,qh,zDW,zDo,hW,hW.toSmallW,hs,hp,zCH,zAp,aA,bA,hR,hN,hH,hE];refine⟨fun _=>qj ((if_neg h8).trans ((if_pos ⟨hR,hN⟩).trans ((if_pos hH).trans ((if_neg hE).trans (if_pos hF))))),fun h h' jA=>absurd hF (by omega)⟩
 have eA:¬(20:Int)<=W.pn:=by omega
 have fA:¬900000<=W.time:=by omega
 have gA:¬900000<=W.next:=by omega
 have hk:=zHG hH;simp[go_sem,yf,yX,yW,qh,zDW,zDo,hW,hW.toSmallW,hs,hp,zCH,zAp,aA,bA,hR,hN,hH,hE,eA,fA,gA];have eE:zEB W x a=⟨zRM W (zB4 W x) a x,W.next,0,0⟩:=by
  unfold zEB;rw[if_neg h8,if_pos ⟨hR,hN⟩,if_pos hH,if_neg hE,if_neg hF]
 rw[eE];have iA:zB4 W x<W.sn:=by have:=zAp.2 hH;show(zA2 W.sn fun k=>(W.zbh k).name=x).toNat<W.sn;omega
 obtain⟨k,cA⟩:∃k,k=zB4 W x:=⟨_,rfl⟩;rw[<-cA]at iA ⊢;refine⟨hk,by omega,hk,⟨TrE.refl _,zQ⟩,⟨TrE.refl _,zZ⟩,?_⟩;rw[show(zA2 W.sn fun k=>(W.zbh k).name=x).toNat=k from cA.symm];refine⟨zZ6 (by have:=hR.zbj.1.1;omega) (by omega),zZ6 (by have:=hR.zbj.2.1.1;omega) (by omega),⟨⟨.inl rfl,rfl,rfl,fun i j hi hj=>?_⟩,qG⟩,⟨⟨.inl rfl,rfl,rfl,fun i j hi hj=>?_⟩,zx⟩,rfl,rfl,rfl⟩
 ·show TrE _ (setsE .o (fun j=>if j=k then {W.zbh k with zbi:=W.next,dn:=0}else W.zbh j) i j);by_cases e:i=k
  ·subst e
   match j,hj with
   | 0,_ | 1,_ | 2,_ | 3,_ | 4,_=>exact TrE.of_eq (by simp[qn,setsE])
   | 5,_=>simp[qn,setsE,TrE]
  ·exact TrE.of_eq (by unfold setsE;simp[qn,e])
 ·show TrE _ (snapsE .z (fun j=>if j=W.pn then zFn W k a x else W.zbg j) i j);by_cases e:i<W.pn
  ·exact TrE.of_eq (by unfold snapsE;simp[yH,e,show i≠W.pn by omega])
  ·cases (show i=W.pn by omega)
   match j,hj with
   | 0,_ | 1,_ | 2,_ | 3,_ | 4,_ | 5,_ | 6,_=>exact TrE.of_eq (by simp[yH,snapsE,zFn,Tr.nt])
   | 7,_=>exact TrE.of_eq (by simp[yH,snapsE,zFn,Tr.nt])
set_option maxRecDepth 20000
set_option maxHeartbeats 3200000
noncomputable def zHg(W:zB)(k:Nat)(t:Int):List (Int×Int):=zAP (fun i=>zi (zH W.pool (W.zbh k).rs (W.zbh k).rb) i) (fun i=>zu (zH W.pool (W.zbh k).rs (W.zbh k).rb) i) t (zH W.pool (W.zbh k).rs (W.zbh k).rb).length
noncomputable def zaz(W:zB)(k j:Nat):zB:={zHr W (zHg W k (W.zbg j).time)with zbh:=fun i=>if i=k then {W.zbh k with rs:=(W.zbg j).rs,rb:=(W.zbg j).rb,dn:=0}else W.zbh i}
open Classical in
noncomputable def zT7(W:zB)(k:Nat)(x:ByteArray):zDR:=if zAC W (W.zbh k).zbi/\(W.zbg (zHv W (W.zbh k).zbi)).set=x then⟨zaz W k (zHv W (W.zbh k).zbi),0,(zHg W k (W.zbg (zHv W (W.zbh k).zbi)).time).length,0⟩else qa 4
open Classical in
noncomputable def zKH(W:zB)(x:ByteArray):zDR:=if 8000<x.size then qa 2 else if ql W then(if zA4 W x then zT7 W (zB4 W x) x else qa 4)else qa 1
theorem zBo(f g:Nat->Int)(t:Int)(n:Nat):(zAP f g t n).length<=n:=by
 have:=zFr f g t n;omega
attribute [local go_sem] qX List.map_cons List.map_nil Tr.cv yq qK yA qz yp yo yn qy zBE zBG zBF zBB zBD zBC zCa zCc zCb qP zr qQ zt qI qH qU zAA zo zp yE qO tmpsOf zAo yD qN zBA yw yu yr yx yv stpP opds opd opdC kap zAB qJ zn coreU bin zAe zCK get put dlO fgt zBR zBK zBO zBP tyT yk yj Op.operands Call.operands evLoad evLen evStore evAlloc zAj and_true true_and List.append_nil List.nil_append List.cons_append Ret resCv zB3 yV cellM zBh zCE qV StW StR hpT hpO hpV hpA hpL hpC sg nin zCU bdO tmW obW AvE CsE CvE Av.tup Av.ids Cv.ids inD ObE Ob.ids TrE.refl qM yB yC qR qS qT zq zb zX yz zBa zCL zBH evCall argL argOf qZ outOb obO yM qA cvO tot Tr.own rid partsOf fillC zS zBf frz frz1 evBuildSlice zc trs Cv.tr evSlice Option.toArray_none Option.toArray_some evMakeSlice evAppend dstOf srcOf zA3 zBQ zBN zBL zBM ikT qx qw qv qu RetP RetN zBr qD evLd evSt evStoreH zAh evAppendM evAppendT tlOf mvOf rowE shp evTake oOf evC evCallP evCallN evCallO unlast zAO zA1 zAa argsF zCR qg pmC varT vT evField evConv dB0 Option.bind_some Option.bind_none Option.map_some Option.map_none Option.isSome_some Option.isSome_none
attribute [local go_sem] yL za zA7 yd qr zAv zAw zAx zAy zAz zA0 zAD zAE zAF zAG zAH zAI zAJ zAK yS qp
attribute [-go_sem] za
attribute [local go_sem] zAV zCF zCG zAf yy
noncomputable def zZs:zR:=qE (fun q:zB×ByteArray=>[woT q.1,sT q.2]) (fun q=>yU q.1) (fun q=>[wuO (zKH q.1 q.2)])
theorem zWu(W:zB)(x:ByteArray):zZs [woT W,sT x]=some (yU W,[wuO (zKH W x)]):=zK (fun l=>(zB7 (nth l 0),zDJ (nth l 1 0))) (fun _=>rfl) (W,x)
theorem zPr:zd Tryz.prog 127 zZs:=by
 refine zP zl (GOk.cons zCC (zG Tryz.func117 rfl rfl) (GOk.cons yO (zG Tryz.func8 rfl rfl) (GOk.cons zCP (zG Tryz.func23 rfl rfl) (GOk.cons zCD (zG Tryz.func52 rfl rfl) (GOk.cons zCQ (zG Tryz.func115 rfl rfl) (GOk.cons zBx (zG Tryz.func46 rfl rfl) (GOk.cons zE4 (zG Tryz.func146 rfl rfl) (GOk.ptr zIB (zG Tryz.func147 rfl rfl) GOk.nil)))))))) zk Tryz.func127 rfl Tryz.ntmps127 Tryz.results127 11 ?_;rintro⟨W,x⟩ hW;replace hW:yU W:=hW;have hs:=hW.sn;have hp:=hW.pn;refine⟨by simp,?_⟩;by_cases h8:8000<x.size
 ·simp[go_sem,qh,show(8000:Int)<x.size by omega];exact qj (if_pos h8)
 have bA:¬(8000:Int)<x.size:=by omega
 by_cases hR:ql W;rotate_left
 ·simp[go_sem,yf,yX,yW,qh,hW,hW.toSmallW,hs,hp,zCH,zAp,bA,hR];exact qj ((if_neg h8).trans (if_neg hR))
 by_cases hH:zA4 W x;rotate_left
 ·simp[go_sem,yf,yX,yW,qh,hW,hW.toSmallW,hs,hp,zCH,zAp,bA,hR,hH];exact qj ((if_neg h8).trans ((if_pos hR).trans (if_neg hH)))
 have hk:=zHG hH;have eA:=zAp.2 hH;have aA:zB4 W x<W.sn:=by show(zA2 W.sn fun k=>(W.zbh k).name=x).toNat<W.sn;omega
 obtain⟨k,cA⟩:∃k,k=zB4 W x:=⟨_,rfl⟩;have dA:(zA2 W.sn fun k=>(W.zbh k).name=x)=(k:Int):=by rw[cA];show _=((zA2 W.sn fun k=>(W.zbh k).name=x).toNat:Int);omega
 rw[<-cA]at aA;have hT:=(hR.zbh k aA).1;simp[go_sem,yf,yX,yW,zBI,qh,zBl,zFY,zL2,hW,hW.toSmallW,hs,hp,dA,bA,hR,hR.right,hT,aA,zJ4,zGX];have eR:zKH W x=zT7 W k x:=by
  unfold zKH;rw[if_neg h8,if_pos hR,if_pos hH,<-cA]
 refine⟨fun h=>absurd h (by omega),by kernel_rfl,fun h=>⟨h,zNs h⟩,fun h=>?_,fun h1 h2=>?_⟩
 ·exact qj (eR.trans (if_neg fun e=>h.elim (fun h=>h e.1) (fun h=>h (congrArg ByteArray.toList e.2))))
 rw[eR,zT7,if_pos ⟨h1,zCf h2⟩];have hn:=zEl hR.right;refine⟨⟨h1,zNs h1⟩,Nat.le_trans (qc ..) (by omega),by kernel_rfl,?_,⟨h1,zNs h1⟩,aA,by kernel_rfl,aA,⟨TrE.refl _,zQ⟩,⟨TrE.refl _,zZ⟩,rfl,rfl,⟨⟨.inl rfl,rfl,rfl,fun i j hi hj=>?_⟩,qG⟩,⟨TrE.refl _,zx⟩,rfl,rfl,rfl⟩
 ·have hl:(zH W.pool (W.zbh k).rs (W.zbh k).rb).length<=73:=qc ..;exact Nat.le_trans (Nat.add_le_add_left (Nat.le_trans (zBo ..) hl) _) (by omega)
 show TrE _ (setsE .o (fun i=>if i=k then {W.zbh k with rs:=(W.zbg (zHv W (W.zbh k).zbi)).rs,rb:=(W.zbg (zHv W (W.zbh k).zbi)).rb,dn:=0}else W.zbh i) i j);by_cases e:i=k
 ·subst e
  match j,hj with
  | 0,_ | 1,_ | 2,_ | 3,_ | 4,_=>exact TrE.of_eq (by simp[qn,setsE,zHr])
  | 5,_=>simp[qn,setsE,TrE]
 ·exact TrE.of_eq (by unfold setsE;simp[qn,e,zHr])
set_option maxRecDepth 20000
set_option maxHeartbeats 3200000
noncomputable def zZY(W:zB)(k:Nat):zB:={zHr W (zHg W k (zE W (W.zbh k).zbi).time)with sn:=W.sn - 1,zbh:=fun i=>if i<k then W.zbh i else W.zbh (i+1)}
open Classical in
noncomputable def zJz(W:zB)(x:ByteArray):zDR:=if 8000<x.size then qa 2 else if ql W then(if zA4 W x then(if ∃i,i<W.pn/\(W.zbg i).set=x then qa 7 else⟨zZY W (zB4 W x),0,(zHg W (zB4 W x) (zE W (W.zbh (zB4 W x)).zbi).time).length,0⟩)else qa 4)else qa 1
theorem zQW{W:zB}{l:List (Int×Int)}:(zHr W l).sn=W.sn:=rfl
theorem zLj{W:zB}{l:List (Int×Int)}:(zHr W l).zbh=W.zbh:=rfl
theorem zQV{W:zB}{l:List (Int×Int)}:(zHr W l).pn=W.pn:=rfl
theorem zJ2{W:zB}{l:List (Int×Int)}:(zHr W l).zbg=W.zbg:=rfl
attribute [local go_sem] qX List.map_cons List.map_nil Tr.cv yq qK yA qz yp yo yn qy zBE zBG zBF zBB zBD zBC zCa zCc zCb qP zr qQ zt qI qH qU zAA zo zp yE qO tmpsOf zAo yD qN zBA yw yu yr yx yv stpP opds opd opdC kap zAB qJ zn coreU bin zAe zCK get put dlO fgt zBR zBK zBO zBP tyT yk yj Op.operands Call.operands evLoad evLen evStore evAlloc zAj and_true true_and List.append_nil List.nil_append List.cons_append Ret resCv zB3 yV cellM zBh zCE qV StW StR hpT hpO hpV hpA hpL hpC sg nin zCU bdO tmW obW AvE CsE CvE Av.tup Av.ids Cv.ids inD ObE Ob.ids TrE.refl qM yB yC qR qS qT zq zb zX yz zBa zCL zBH evCall argL argOf qZ outOb obO yM qA cvO tot Tr.own rid partsOf fillC zS zBf frz frz1 evBuildSlice zc trs Cv.tr evSlice Option.toArray_none Option.toArray_some evMakeSlice evAppend dstOf srcOf zA3 zBQ zBN zBL zBM ikT qx qw qv qu RetP RetN zBr qD evLd evSt evStoreH zAh evAppendM evAppendT tlOf mvOf rowE shp evTake oOf evC evCallP evCallN evCallO unlast zAO zA1 zAa argsF zCR qg pmC varT vT evField evConv dB0 Option.bind_some Option.bind_none Option.map_some Option.map_none Option.isSome_some Option.isSome_none
attribute [local go_sem] yL za zA7 yd qr zAv zAw zAx zAy zAz zA0 zAD zAE zAF zAG zAH zAI zAJ zAK yS qp
attribute [-go_sem] za
attribute [local go_sem] zAV zCF zCG zAf yy
noncomputable def zZd:zR:=qE (fun q:zB×ByteArray=>[woT q.1,sT q.2]) (fun q=>yU q.1) (fun q=>[wuO (zJz q.1 q.2)])
theorem zWg(W:zB)(x:ByteArray):zZd [woT W,sT x]=some (yU W,[wuO (zJz W x)]):=zK (fun l=>(zB7 (nth l 0),zDJ (nth l 1 0))) (fun _=>rfl) (W,x)
theorem zMu:zd Tryz.prog 126 zZd:=by
 refine zP zl (GOk.cons zCC (zG Tryz.func117 rfl rfl) (GOk.cons yO (zG Tryz.func8 rfl rfl) (GOk.cons zCP (zG Tryz.func23 rfl rfl) (GOk.cons zCQ (zG Tryz.func115 rfl rfl) (GOk.cons zCk (zG Tryz.func53 rfl rfl) (GOk.cons zBx (zG Tryz.func46 rfl rfl) (GOk.cons zE4 (zG Tryz.func146 rfl rfl) (GOk.cons zUn (zG Tryz.func148 rfl rfl) (GOk.ptr zIB (zG Tryz.func147 rfl rfl) GOk.nil))))))))) zk Tryz.func126 rfl Tryz.ntmps126 Tryz.results126 12 ?_;rintro⟨W,x⟩ hW;replace hW:yU W:=hW;have hs:=hW.sn;have hp:=hW.pn;refine⟨by simp,?_⟩;by_cases h8:8000<x.size
 ·simp[go_sem,qh,show(8000:Int)<x.size by omega];exact qj (if_pos h8)
 have aA:¬(8000:Int)<x.size:=by omega
 by_cases hR:ql W;rotate_left
 ·simp[go_sem,yf,yX,yW,qh,hW,hW.toSmallW,hs,hp,zCH,zAp,aA,hR];exact qj ((if_neg h8).trans (if_neg hR))
 by_cases hH:zA4 W x;rotate_left
 ·simp[go_sem,yf,yX,yW,qh,hW,hW.toSmallW,hs,hp,zCH,zAp,aA,hR,hH];exact qj ((if_neg h8).trans ((if_pos hR).trans (if_neg hH)))
 have hk:=zHG hH;have fA:=zAp.2 hH;have cA:zB4 W x<W.sn:=by show(zA2 W.sn fun k=>(W.zbh k).name=x).toNat<W.sn;omega
 obtain⟨k,bA⟩:∃k,k=zB4 W x:=⟨_,rfl⟩;have dA:(zA2 W.sn fun k=>(W.zbh k).name=x)=(k:Int):=by rw[bA];show _=((zA2 W.sn fun k=>(W.zbh k).name=x).toNat:Int);omega
 have eA:¬(k:Int)<0:=by omega
 by_cases hO:∃i,i<W.pn/\(W.zbg i).set=x
 ·simp[go_sem,yf,yX,yW,qh,zTd,hW,hW.toSmallW,hs,hp,dA,eA,aA,hR,hO];exact qj ((if_neg h8).trans ((if_pos hR).trans ((if_pos hH).trans (if_pos hO))))
 have eR:zJz W x=⟨zZY W k,0,(zHg W k (zE W (W.zbh k).zbi).time).length,0⟩:=by
  unfold zJz;rw[if_neg h8,if_pos hR,if_pos hH,if_neg hO,<-bA]
 rw[<-bA]at cA;have hT:=(hR.zbh k cA).1;have hz:=zDi (fun k hk=>(hR.zbj.zbf.ids k hk).1) (W.zbh k).zbi;simp[go_sem,yf,yX,yW,zTd,zDG,qh,zBl,zFY,zL2,hW,hW.toSmallW,hs,hp,dA,eA,aA,hR,hO,hz,hR.right,hT,cA,eR,ze (show k<=1000000000 by omega),zQW,zLj,zQV,zJ2];have hn:=zEl hR.right;refine⟨by kernel_rfl,Nat.le_trans (qc ..) (by omega),by kernel_rfl,?_,?_⟩
 ·have hl:(zH W.pool (W.zbh k).rs (W.zbh k).rb).length<=73:=qc ..;exact Nat.le_trans (Nat.add_le_add_left (Nat.le_trans (zBo ..) hl) _) (by omega)
 refine⟨by omega,⟨by omega,by omega⟩,⟨by omega,by omega⟩,⟨by omega,by omega⟩,by kernel_rfl,⟨TrE.refl _,zQ⟩,⟨TrE.refl _,zZ⟩,rfl,rfl,⟨⟨.inl rfl,rfl,by show k+(W.sn - (k+1))=W.sn - 1;omega,fun i j hi hj=>TrE.of_eq ?_⟩,qG⟩,⟨TrE.refl _,zx⟩,rfl⟩;show _=setsE .o (fun i=>if i<k then W.zbh i else W.zbh (i+1)) i j;by_cases e:i<k
 ·unfold setsE;simp[yH,e]
 ·have:k+1+(i - k)=i+1:=(by omega);have h2:¬i+1<k:=(by omega);unfold setsE;simp[yH,e,ntR,this,h2]
set_option maxRecDepth 20000
set_option maxHeartbeats 3200000
def zGe(W:zB)(other:ByteArray)(id:Int)(n j:Nat):Prop:=∃m x,m<n/\Steps W other id m x/\zAl W x j
def zVk(W:zB)(other:ByteArray)(id:Int)(j:Nat):Prop:=∃m x,Steps W other id m x/\zAl W x j/\(W.zbg j).set=other
open Classical in
noncomputable def zKa(W:zB)(name:ByteArray)(V:Nat->Prop):Nat->yY:=fun j=>if V j then {W.zbg j with set:=name}else W.zbg j
def zOa(W:zB)(x y:ByteArray):Prop:=∃i,i<W.pn/\(W.zbg i).set=x/\(W.zbg i).name=y
noncomputable def zXZ(W:zB)(k d:Nat)(name other:ByteArray)(id:Int):zB:={W with zbg:=zKa W name (zVk W other id),zbh:=fun i=>if i=d then {W.zbh d with origin:=id}else if i=k then {W.zbh k with origin:=(W.zbh d).origin}else W.zbh i}
open Classical in
noncomputable def zXY(W:zB)(k:Nat)(x other:ByteArray)(id:Int):zDR:=if ∃j,zVk W other id j/\zOa W x (W.zbg j).name then qa 5 else⟨zXZ W k (zB4 W other) x other id,id,0,0⟩
open Classical in
noncomputable def zRA(W:zB)(x:ByteArray):zDR:=if 8000<x.size then qa 2 else if ql W then(if zA4 W x then(if (W.zbh (zB4 W x)).origin=0 then qa 7 else zXY W (zB4 W x) x (W.zbg (zHv W (W.zbh (zB4 W x)).origin)).set (W.zbh (zB4 W x)).origin)else qa 4)else qa 1
theorem zPF{W:zB}{aA:ByteArray}{id x:Int}{n j:Nat}(h:Steps W aA id n x)(hj:zAl W x j){i:Nat}:zGe W aA id (n+1) i↔i=j\/zGe W aA id n i:=by
 constructor
 ·rintro⟨m,y,hm,hs,hi⟩;by_cases e:m=n
  ·subst e;rw[hs.det h]at hi;exact .inl (hi.uniq hj)
  ·exact .inr ⟨m,y,by omega,hs,hi⟩
 ·rintro(rfl | ⟨m,y,hm,hs,hi⟩)
  ·exact⟨n,x,by omega,h,hj⟩
  ·exact⟨m,y,by omega,hs,hi⟩
theorem zQz{W:zB}{aA:ByteArray}{id x:Int}{n:Nat}(h:Steps W aA id n x)(hx:¬zGT W aA x){i:Nat}:zGe W aA id n i↔zVk W aA id i:=by
 constructor
 ·rintro⟨m,y,hm,hs,hi⟩;obtain⟨z,hz,j,hj,bA⟩:=h.less hm;rw[hs.det hz]at hi;refine⟨m,z,hz,hi,?_⟩;rw[hi.uniq hj];exact bA
 ·rintro⟨m,y,hs,hi,bA⟩;by_cases hm:m<n
  ·exact⟨m,y,hm,hs,hi⟩
  ·exfalso;by_cases e:m=n
   ·subst e;rw[hs.det h]at hi;exact hx ⟨i,hi,bA⟩
   ·obtain⟨z,hz,ho⟩:=hs.less (show n<m by omega);rw[h.det hz]at hx;exact hx ho
attribute [local go_sem] qX List.map_cons List.map_nil Tr.cv yq qK yA qz yp yo yn qy zBE zBG zBF zBB zBD zBC zCa zCc zCb qP zr qQ zt qI qH qU zAA zo zp yE qO tmpsOf zAo yD qN zBA yw yu yr yx yv stpP opds opd opdC kap zAB qJ zn coreU bin zAe zCK get put dlO fgt zBR zBK zBO zBP tyT yk yj Op.operands Call.operands evLoad evLen evStore evAlloc zAj and_true true_and List.append_nil List.nil_append List.cons_append Ret resCv zB3 yV cellM zBh zCE qV StW StR hpT hpO hpV hpA hpL hpC sg nin zCU bdO tmW obW AvE CsE CvE Av.tup Av.ids Cv.ids inD ObE Ob.ids TrE.refl qM yB yC qR qS qT zq zb zX yz zBa zCL zBH evCall argL argOf qZ outOb obO yM qA cvO tot Tr.own rid partsOf fillC zS zBf frz frz1 evBuildSlice zc trs Cv.tr evSlice Option.toArray_none Option.toArray_some evMakeSlice evAppend dstOf srcOf zA3 zBQ zBN zBL zBM ikT qx qw qv qu RetP RetN zBr qD evLd evSt evStoreH zAh evAppendM evAppendT tlOf mvOf rowE shp evTake oOf evC evCallP evCallN evCallO unlast zAO zA1 zAa argsF zCR qg pmC varT vT evField evConv dB0 Option.bind_some Option.bind_none Option.map_some Option.map_none Option.isSome_some Option.isSome_none
attribute [local go_sem] yL za zA7 yd qr zAv zAw zAx zAy zAz zA0 zAD zAE zAF zAG zAH zAI zAJ zAK yS qp
attribute [-go_sem] za
attribute [local go_sem] zAV zCF zCG zAf yy
noncomputable def zbF:zR:=qE (fun q:zB×ByteArray=>[woT q.1,sT q.2]) (fun q=>yU q.1) (fun q=>[wuO (zRA q.1 q.2)])
theorem zYl(W:zB)(x:ByteArray):zbF [woT W,sT x]=some (yU W,[wuO (zRA W x)]):=zK (fun l=>(zB7 (nth l 0),zDJ (nth l 1 0))) (fun _=>rfl) (W,x)
theorem zRi:zd Tryz.prog 128 zbF:=by
 refine zP zl (GOk.cons zCC (zG Tryz.func117 rfl rfl) (GOk.cons yO (zG Tryz.func8 rfl rfl) (GOk.cons zCP (zG Tryz.func23 rfl rfl) (GOk.cons zCD (zG Tryz.func52 rfl rfl) (GOk.cons zCQ (zG Tryz.func115 rfl rfl) (GOk.cons zJ9 (zG Tryz.func144 rfl rfl) GOk.nil)))))) zk Tryz.func128 rfl Tryz.ntmps128 Tryz.results128 12 ?_;rintro⟨W,x⟩ hW;replace hW:yU W:=hW;have hs:=hW.sn;have hp:=hW.pn;refine⟨by simp,?_⟩;by_cases h8:8000<x.size
 ·simp[go_sem,qh,show(8000:Int)<x.size by omega];exact qj (if_pos h8)
 have eA:¬(8000:Int)<x.size:=by omega
 by_cases hR:ql W;rotate_left
 ·simp[go_sem,yf,yX,yW,qh,hW,hW.toSmallW,hs,hp,zCH,zAp,eA,hR];exact qj ((if_neg h8).trans (if_neg hR))
 by_cases hH:zA4 W x;rotate_left
 ·simp[go_sem,yf,yX,yW,qh,hW,hW.toSmallW,hs,hp,zCH,zAp,eA,hR,hH];exact qj ((if_neg h8).trans ((if_pos hR).trans (if_neg hH)))
 have hk:=zHG hH;have eB:=zAp.2 hH;have cA:zB4 W x<W.sn:=by show(zA2 W.sn fun k=>(W.zbh k).name=x).toNat<W.sn;omega
 obtain⟨k,fA⟩:∃k,k=zB4 W x:=⟨_,rfl⟩;have sA:(zA2 W.sn fun k=>(W.zbh k).name=x)=(k:Int):=by rw[fA];show _=((zA2 W.sn fun k=>(W.zbh k).name=x).toNat:Int);omega
 have aB:¬(k:Int)<0:=by omega
 rw[<-fA]at cA;by_cases hO:(W.zbh k).origin=0
 ·simp[go_sem,yf,yX,yW,qh,hW,hW.toSmallW,hs,hp,sA,aB,eA,hR,cA,hO];exact qj ((if_neg h8).trans ((if_pos hR).trans ((if_pos hH).trans (if_pos (fA▸hO)))))
 have hI:zAC W (W.zbh k).origin:=(hR.zbj.2.2.2.2.1 k cA).2.2.2 hO;obtain⟨q,hq⟩:=hI.no;have tA:(zA2 W.pn fun j=>(W.zbg j).id=(W.zbh k).origin)=(q:Int):=zFU hq.1 hq.2.1 hq.2.2;have bB:=hq.1;obtain⟨id,jA⟩:∃id,id=(W.zbh k).origin:=⟨_,rfl⟩;obtain⟨aA,kA⟩:∃o,o=(W.zbg q).set:=⟨_,rfl⟩;simp[go_sem,yf,yX,yW,zBI,qh,zDo,hW,hW.toSmallW,hs,hp,sA,aB,eA,hR,cA,hO,tA,bB];rw[<-jA,<-kA];refine⟨by kernel_rfl,?_⟩;have iA:=hR.zbj.zbf;have hS:zA4 W aA:=by rw[kA];exact(hR.zbj.2.2.2.2.2 q bB).1.2.2.2.2.2
 have hd:=zHG hS;have cB:=zAp.2 hS;obtain⟨d,nA⟩:∃d,d=zB4 W aA:=⟨_,rfl⟩;have pA:(zA2 W.sn fun k=>(W.zbh k).name=aA)=(d:Int):=by rw[nA];show _=((zA2 W.sn fun k=>(W.zbh k).name=aA).toNat:Int);omega
 have oA:d<W.sn:=by omega
 have eR:zRA W x=zXY W k x aA id:=by
  unfold zRA;rw[if_neg h8,if_pos hR,if_pos hH,<-fA,if_neg hO,jA,kA];show zXY W k x (W.zbg (zA2 W.pn fun j=>(W.zbg j).id=(W.zbh k).origin).toNat).set _=_;rw[tA,Int.toNat_natCast]
 rw[eR];refine qY (fun q:Nat×Int=>⟨[(9,true,.m false [.v (.int .i64 q.2)]),(8,true,.m false [.p 8 0]),(7,true,.m false [.v (.string aA)]),(6,true,.m false [.v (.int .i64 id)]),(5,true,.i k),(4,true,.m false [.p 4 0]),(2,true,.m false [.p 2 0]),(1,true,.m false [.v (.string x)])],[(8,.var [.h 61,.h 62,.v (.int .i64 W.time),.v (.int .i64 W.next),.h 63,.h 64]),(64,.row 8 W.pn (snapsE .z (zKa W x (zGe W aA id q.1)))),(63,.row 6 W.sn (setsE .o W.zbh)),(62,.row 1 W.pool.hn (qf W.pool.h)),(61,.row 3 W.pool.n (zY .z W.pool.s)),(4,.var [.v n0,.v n0,.v i0,.v i0,.v n0,.v n0,.v i0,.v i0,.v i0]),(2,.var ((woL W).map Tr.cv))]⟩) (fun q=>1000000 - q.1) (fun q=>zC7 W aA id q.1 q.2/\∀j,zGe W aA id q.1 j->¬zOa W x (W.zbg j).name) (0,id) ?_ ⟨zC7.start iA _ (.inr (jA▸hI)),fun j ⟨m,y,hm,_⟩=>absurd hm (Nat.not_lt_zero _)⟩ ?_
 ·have e0:zKa W x (zGe W aA id 0)=W.zbg:=funext fun j=>if_neg fun ⟨m,y,hm,_⟩=>absurd hm (Nat.not_lt_zero _)
  simp[go_sem,e0]
 rintro⟨n,y⟩ ⟨hw,gA⟩;replace hw:zC7 W aA id n y:=hw;replace gA:∀j,zGe W aA id n j->¬zOa W x (W.zbg j).name:=gA;have ha:n<=900000:=by have:=hw.least;have:=hw.sum;omega
 have hM:¬zGT W aA y->zKa W x (zGe W aA id n)=zKa W x (zVk W aA id):=fun he=>by
  have:zGe W aA id n=zVk W aA id:=funext fun i=>propext (zQz hw.steps he)
  rw[this]
 have hK:¬zGT W aA y->zXY W k x aA id=⟨zXZ W k d x aA id,id,0,0⟩:=fun he=>by
  rw[nA];exact if_neg fun ⟨i,h1,h2⟩=>gA i ((zQz hw.steps he).2 h1) h2
 have mA:TrE (Tr.s .o 6 W.sn (qn (qn (setsE .o W.zbh) k 1 [.v (.int .i64 (W.zbh d).origin)]) d 1 [.v (.int .i64 id)])) (Tr.s .o 6 W.sn (setsE .o (zXZ W k d x aA id).zbh)):=zDv fun i j hi hj=>by
  show _=setsE .o (fun i=>if i=d then {W.zbh d with origin:=id}else if i=k then {W.zbh k with origin:=(W.zbh d).origin}else W.zbh i) i j;by_cases e1:i=d
  ·subst e1;by_cases e2:i=k
   ·subst e2
    match j,hj with
    | 0,_ | 1,_ | 2,_ | 3,_ | 4,_ | 5,_=>simp[qn,setsE]
   ·match j,hj with
    | 0,_ | 1,_ | 2,_ | 3,_ | 4,_ | 5,_=>simp[qn,setsE,e2]
  ·by_cases e2:i=k
   ·subst e2
    match j,hj with
    | 0,_ | 1,_ | 2,_ | 3,_ | 4,_ | 5,_=>simp[qn,setsE,e1]
   ·unfold setsE;simp[qn,e1,e2]
 by_cases hy:y=0
 ·subst hy;have bA:=zI0 iA aA;simp[go_sem,yW,hs,pA,oA,cA];rw[hK bA,hM bA];exact⟨by kernel_rfl,⟨TrE.refl _,zQ⟩,⟨TrE.refl _,zZ⟩,rfl,rfl,⟨mA,qG⟩,⟨TrE.refl _,zx⟩,rfl,rfl,rfl⟩
 obtain⟨j,hj⟩:=(hw.there.resolve_left hy).no;have rA:(zA2 W.pn fun i=>(W.zbg i).id=y)=(j:Int):=zFU hj.1 hj.2.1 hj.2.2;have vA:=hj.1;by_cases dA:(W.zbg j).set=aA;rotate_left
 ·have bA:=zMG hj dA;have lA:¬(W.zbg j).set.toList=aA.toList:=fun e=>dA (zCf e)
  simp[go_sem,yW,zBI,hs,hp,pA,oA,cA,hy,rA,vA,lA];rw[hK bA,hM bA];exact⟨by kernel_rfl,⟨TrE.refl _,zQ⟩,⟨TrE.refl _,zZ⟩,rfl,rfl,⟨mA,qG⟩,⟨TrE.refl _,zx⟩,rfl,rfl,rfl⟩
 simp[go_sem,yW,zBI,qh,zDo,hs,hp,hy,rA,vA,dA];refine⟨by kernel_rfl,fun i hi h1 h2=>qj (if_pos ⟨j,⟨n,y,hw.steps,hj,dA⟩,i,hi,h1,h2⟩),fun h=>⟨n+1,_,⟨hw.next iA hj dA,fun i hi=>?_⟩,by omega,rfl,zDv fun i c hi hc=>?_⟩⟩
 ·rcases(zPF hw.steps hj).1 hi with rfl | hi
  ·exact fun ⟨a,h1,h2,h3⟩=>h a h1 h2 h3
  ·exact gA i hi
 ·by_cases e:i=j
  ·subst e;have hv:zGe W aA id (n+1) i:=(zPF hw.steps hj).2 (.inl rfl);have h1:zKa W x (zGe W aA id (n+1)) i = {W.zbg i with set:=x}:=if_pos hv;have h2:zKa W x (zGe W aA id n) i = {W.zbg i with set:=x}\/zKa W x (zGe W aA id n) i=W.zbg i:=by
    by_cases g:zGe W aA id n i
    ·exact .inl (if_pos g)
    ·exact .inr (if_neg g)
   rcases h2 with h2 | h2
   ·match c,hc with
    | 0,_ | 1,_ | 2,_ | 3,_ | 4,_ | 5,_ | 6,_ | 7,_=>simp[qn,snapsE,h1,h2]
   ·match c,hc with
    | 0,_ | 1,_ | 2,_ | 3,_ | 4,_ | 5,_ | 6,_ | 7,_=>simp[qn,snapsE,h1,h2]
  ·have h1:zKa W x (zGe W aA id (n+1)) i=zKa W x (zGe W aA id n) i:=by
    have:zGe W aA id (n+1) i=zGe W aA id n i:=propext ((zPF hw.steps hj).trans ⟨fun h=>h.resolve_left e,.inr⟩);unfold zKa;rw[this]
   unfold snapsE;simp[qn,e,h1]
def zDd(n:Nat)(f g:Nat->Int):List (Int×Int):=(List.range n).map fun i=>(f i,g i)
theorem zQi(p:zF)(xs xb:Int)(n:Nat)(b:Int)(o:zK1):yI (zHj p xs xb n b o).pool<=yI o.pool+16/\(zHj p xs xb n b o).old.length<=3:=by
 have h2:=zNz p xs xb n b o 2;have h3:(zSl p xs xb n 3).length<=3:=zCj _ _ 3;unfold zHj;split
 ·exact⟨Nat.zero_le _,Nat.zero_le _⟩
 ·split
  ·exact⟨Nat.zero_le _,Nat.zero_le _⟩
  ·exact⟨by show yI (zCT p xs xb n b o 2).pool<=_;omega,h3⟩
theorem zHM(p:zF)(xs xb aA:Int)(d:ByteArray)(b:Int):yI (zC0 p xs xb aA d b).pool<=yI p+40/\(zC0 p xs xb aA d b).old.length<=3:=by
 unfold zC0;split
 ·exact⟨Nat.zero_le _,Nat.zero_le _⟩
 ·split
  ·split
   ·rename_i hd
    split
    ·have h1:=zQi p xs xb aA.toNat b ⟨(zCZ p (zAq b d)).pool,(zCZ p (zAq b d)).ps,(zCZ p (zAq b d)).pb,0⟩;have h2:=zMh p (zAq b d);have h3:zDI (zAq b d)=16:=(by show 0+d.size=16;rw[hd.2]);exact⟨by have h4:=h1.1;simp only at h4;omega,h1.2⟩
    ·exact⟨Nat.zero_le _,Nat.zero_le _⟩
   ·exact⟨Nat.zero_le _,Nat.zero_le _⟩
  ·exact⟨Nat.zero_le _,Nat.zero_le _⟩
theorem zIK(p:zF)(xs xb aA b:Int):yI (zGc p xs xb aA b).pool<=yI p+40/\(zGc p xs xb aA b).old.length<=3:=by
 unfold zGc;split
 ·split
  ·split
   ·exact⟨Nat.zero_le _,Nat.zero_le _⟩
   ·have h1:=zQi p xs xb aA.toNat b ⟨p,0,0,0⟩;exact⟨by have h4:=h1.1;simp only at h4;omega,h1.2⟩
  ·exact⟨Nat.zero_le _,Nat.zero_le _⟩
 ·exact⟨Nat.zero_le _,Nat.zero_le _⟩
noncomputable def zYg(W:zB)(k:Nat)(y:zD4):List (Int×Int):=zAP (zi y.old) (zu y.old) (zE W (W.zbh k).zbi).time y.old.length
noncomputable def za4(W:zB)(k:Nat)(y:zD4):List (Int×Int):=zEI (zi y.old) (zu y.old) (zE W (W.zbh k).zbi).time y.old.length
noncomputable def zWW(W:zB)(k:Nat)(y:zD4):List (Int×Int):=zDd (W.zbh k).dn (W.zbh k).ds (W.zbh k).db ++ za4 W k y
noncomputable def zLx(W:zB)(k:Nat)(y:zD4):zB9:={W.zbh k with rs:=y.rs,rb:=y.rb,dn:=(zWW W k y).length,ds:=zi (zWW W k y),db:=zu (zWW W k y)}
noncomputable def za5(W:zB)(k:Nat)(y:zD4):zB:={W with pool:=qe y.pool (zYg W k y),zbh:=fun j=>if j=k then zLx W k y else W.zbh j}
open Classical in
noncomputable def zFF(W:zB)(k:Nat)(y:zD4):zDR:=if y.code=0 then⟨za5 W k y,0,((zYg W k y).length:Int),0⟩else qa y.code
end Go.Proofs.YtginldeebkfbgaaGreat
