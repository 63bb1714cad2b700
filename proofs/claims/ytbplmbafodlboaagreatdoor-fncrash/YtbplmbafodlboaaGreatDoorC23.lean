/- A part of the proof. -/
import Derived.Test.YtbplmbafodlboaaGreatDoorC22
import Derived.IntWalk
set_option linter.unusedVariables false
set_option maxRecDepth 20000
set_option maxHeartbeats 4000000
namespace Go.Proofs.YtbplmbafodlboaaGreatDoor
open Go.RowKit
set_option linter.unusedSimpArgs false
set_option maxRecDepth 20000
set_option maxHeartbeats 3200000
abbrev wuO(o:zDe):Bool×List Tr:=(true,[.s .o 3 o.world.pool.n (zY .z o.world.pool.s),.s .o 1 o.world.pool.hn (qx o.world.pool.h),.v (.int .i64 o.world.time),.v (.int .i64 o.world.next),.s .o 6 o.world.sn (setsE .o o.world.zc1),.s .o 8 o.world.pn (snapsE .z o.world.zcy),.v (.int .i64 o.id),.v (.int .i64 o.many),.v (.int .i64 o.code)])
abbrev woV(W:zB):List Tr:=[.s .o 3 W.pool.n (zY .z W.pool.s),.s .o 1 W.pool.hn (qx W.pool.h),.v (.int .i64 W.time),.v (.int .i64 W.next),.s .o 6 W.sn (setsE .o W.zc1),.s .o 8 W.pn (snapsE .z W.zcy)]
def zID(W:zB)(l:List (Int×Int)):zB:={W with pool:=yN W.pool l}
abbrev psL(l:List (Int×Int)):Bool×List Tr:=psT l.length (fun i=>qP l i) (fun i=>qb l i)
def zVP(a:Tr):List (Int×Int):=(List.range (zFr a)).map fun i=>(qd (zCf a i 0),qd (zCf a i 1))
theorem zPH(l:List (Int×Int)):zVP (.s .b 2 l.length (ptrsT (fun i=>qP l i) (fun i=>qb l i)))=l:=by
 show(List.range l.length).map (fun i=>(qP l i,qb l i))=l;apply List.ext_getElem
 ·simp
 ·intro i h1 h2;simp[<-zQo,<-zYx,h2]
theorem zJ3{fl:Fl}{p:zE}{x:Int}:TrE (.s fl 1 (p.hn+1) (zAC (qx p.h) p.hn (fun a q=>([Tr.v (Value.int .i64 x)][a+q]?.getD (.v (.bool false))).nt))) (.s fl 1 (zHH p x).hn (qx (zHH p x).h)):=zEF fun i j hi hj=>by
 cases (show j=0 by omega);unfold zAC;by_cases h:i<p.hn
 ·rw[if_pos h];show _=Tr.v (.int .i64 (if i=p.hn then x else p.h i));rw[if_neg (by omega)];rfl
 ·cases (show i=p.hn by omega);rw[if_neg h,Nat.sub_self];show _=Tr.v (.int .i64 (if p.hn=p.hn then x else p.h p.hn));rw[if_pos rfl];rfl
attribute [local go_sem] qX List.map_cons List.map_nil Tr.cv yp qD qs qq yo yn ym qp zAu zAw zAv zAr zAt zAs zCF zCH zCG qH zl qI zm qB qA qM yx zi zj qw qG tmpsOf zAf qv qF zAp yv yr yq yu stpP opds opd opdC kap zAG qC zh coreU bin zAb zB0 get put dlO fgt zA8 zA1 zA5 zA6 tyT yj yi Op.operands Call.operands evLoad evLen evStore evAlloc zAa and_true true_and List.append_nil List.nil_append List.cons_append Ret resCv zBs yQ cellM zBV zBw qY StW StR hpT hpO hpV hpA hpL hpC sg nin zB6 bdO tmW obW AvE CsE CvE Av.tup Av.ids Cv.ids inD ObE Ob.ids TrE.refl qE qt qu qJ qK qL zk ze zb yw zBc zB1 zAy evCall argL argOf qh outOb obO yL zy cvO tot Tr.own rid partsOf fillC zW zBU frz frz1 evBuildSlice zc trs Cv.tr evSlice Option.toArray_none Option.toArray_some evMakeSlice evAppend dstOf srcOf zBC zA7 zA4 zA2 zA3 ikT qn qm ql qk RetP RetN zBd qQ evLd evSt evStoreH zAX evAppendM evAppendT tlOf mvOf rowE shp evTake oOf evC evCallP evCallN evCallO unlast zAW zBB zAU argsF zB5 qy pmC varT vT evField evConv dB0 Option.bind_some Option.bind_none Option.map_some Option.map_none Option.isSome_some Option.isSome_none
attribute [local go_sem] yC zX zAg yI qe zAO zAP zAQ zAR zAS zAT yV yW yX yY yZ yb yd ye qz qV
attribute [-go_sem] zX
attribute [local go_sem] yS zBX zBY yg yG
noncomputable def zcK:za:=qZ (fun c:Int=>[iT c]) (fun _=>True) (fun c=>[wuO (yM c)])
theorem yO(c:Int):zcK [iT c]=some (True,[wuO (yM c)]):=zO (fun l=>qd (nth l 0 0)) (fun _=>rfl) c
theorem zCk:zp Tryz.prog 84 zcK:=by
 refine zR zs GOk.nil zr Tryz.func84 rfl Tryz.ntmps84 Tryz.results84 3 ?_;intro c hc;refine⟨by simp,?_⟩;simp[go_sem,yM,noW,zEi]
open Classical in
noncomputable def zFe(W:zB)(x:ByteArray):Int:=if zBW W x then 5 else if 8<=W.sn then 6 else 0
noncomputable def zcO:za:=qZ (fun q:zB×ByteArray=>[woT q.1,sT q.2]) (fun q=>q.1.sn<=1000000) (fun q=>[iT (zFe q.1 q.2)])
theorem zUI(W:zB)(x:ByteArray):zcO [woT W,sT x]=some (W.sn<=1000000,[iT (zFe W x)]):=zO (fun l=>(zCX (nth l 0),zDn (nth l 1 0))) (fun _=>rfl) (W,x)
theorem zOV:zp Tryz.prog 86 zcO:=by
 refine zR zs (GOk.cons zDD (zF Tryz.func66 rfl rfl) GOk.nil) zr Tryz.func86 rfl Tryz.ntmps86 Tryz.results86 5 ?_;rintro⟨W,x⟩ hW;replace hW:W.sn<=1000000:=hW;refine⟨by simp,?_⟩;simp[go_sem,zAY,hW,zCn,zBZ];refine⟨fun h=>(if_pos h).symm,fun h=>⟨fun h1=>?_,fun h1=>?_⟩⟩
 ·rw[zFe,if_neg h,if_pos (by omega)]
 ·rw[zFe,if_neg h,if_neg (by omega)]
noncomputable def zXn:za:=qZ (fun q:zB×ByteArray×ByteArray=>[woT q.1,sT q.2.1,sT q.2.2]) (fun q=>q.1.pn<=1000000) (fun q=>bR (∃i,i<q.1.pn/\(q.1.zcy i).set=q.2.1/\(q.1.zcy i).name=q.2.2))
theorem zD5(W:zB)(x y:ByteArray):zXn [woT W,sT x,sT y]=some (W.pn<=1000000,bR (∃i,i<W.pn/\(W.zcy i).set=x/\(W.zcy i).name=y)):=zO (fun l=>(zCX (nth l 0),zDn (nth l 1 0),zDn (nth l 2 0))) (fun _=>rfl) (W,x,y)
theorem zKt:zp Tryz.prog 104 zXn:=by
 refine zR zs GOk.nil zr Tryz.func104 rfl Tryz.ntmps104 Tryz.results104 8 ?_;rintro⟨W,x,y⟩ hn;replace hn:W.pn<=1000000:=hn;refine⟨by simp,?_⟩;simp[go_sem];refine yF (fun k:Nat=>⟨[(3,true,.m false [.p 3 0]),(1,true,.m false [.v (.string x)]),(2,true,.m false [.v (.string y)]),(7,true,.i k)],[(3,.var ((woL W).map Tr.cv))]⟩) (fun k=>W.pn - k) (fun k=>k<=W.pn/\∀i,i<k->¬((W.zcy i).set=x/\(W.zcy i).name=y)) 0 (by simp[go_sem]) (by simp) ?_;rintro k ⟨hk,aA⟩;simp[go_sem,qN (show k<=1000000000 by omega)];refine⟨fun hl=>⟨hl,fun _=>hl,fun h1 h2=>⟨k,hl,zCe h1,zCe h2⟩,fun h=>⟨k+1,⟨by omega,fun i hi=>?_⟩,by omega,rfl⟩⟩,fun hl i hi h1 h2=>aA i (by omega) ⟨h1,h2⟩⟩;by_cases e:i=k
 ·subst e;exact fun h1 h2=>h (congrArg ByteArray.toList h1) (congrArg ByteArray.toList h2)
 ·exact fun h1 h2=>aA i (by omega) ⟨h1,h2⟩
noncomputable def zcS:za:=qZ (fun q:zB×ByteArray=>[woT q.1,sT q.2]) (fun q=>q.1.pn<=1000000) (fun q=>bR (∃i,i<q.1.pn/\(q.1.zcy i).set=q.2))
theorem zUL(W:zB)(x:ByteArray):zcS [woT W,sT x]=some (W.pn<=1000000,bR (∃i,i<W.pn/\(W.zcy i).set=x)):=zO (fun l=>(zCX (nth l 0),zDn (nth l 1 0))) (fun _=>rfl) (W,x)
theorem zVk:zp Tryz.prog 108 zcS:=by
 refine zR zs GOk.nil zr Tryz.func108 rfl Tryz.ntmps108 Tryz.results108 6 ?_;rintro⟨W,x⟩ hn;replace hn:W.pn<=1000000:=hn;refine⟨by simp,?_⟩;simp[go_sem];refine yF (fun k:Nat=>⟨[(2,true,.m false [.p 2 0]),(1,true,.m false [.v (.string x)]),(5,true,.i k)],[(2,.var ((woL W).map Tr.cv))]⟩) (fun k=>W.pn - k) (fun k=>k<=W.pn/\∀i,i<k->¬(W.zcy i).set=x) 0 (by simp[go_sem]) (by simp) ?_;rintro k ⟨hk,aA⟩;simp[go_sem,qN (show k<=1000000000 by omega)];exact⟨fun hl=>⟨hl,fun h=>⟨k,hl,zCe h⟩,fun h=>⟨k+1,⟨by omega,yE hl aA fun e=>h (congrArg ByteArray.toList e)⟩,by omega,rfl⟩⟩,fun hl i hi=>aA i (by omega)⟩
noncomputable def zat:za:=qZ (fun q:zB×List (Int×Int)=>(true,woV q.1) :: [psL q.2]) (fun q=>q.1.pool.hn+q.2.length<=1000000) (fun q=>[woO (zID q.1 q.2),iT q.2.length])
theorem zMh(W:zB)(l:List (Int×Int)):zat ((true,woV W) :: [psL l])=some (W.pool.hn+l.length<=1000000,[woO (zID W l),iT l.length]):=zO (fun m=>(zCX (nth m 0),zVP (nth m 1 0))) (fun q=>by exact congrArg (Prod.mk q.1) (zPH q.2)) (W,l)
theorem zIh:zBr Tryz.prog 107 zat:=by
 refine zBa zs GOk.nil zr Tryz.func107 rfl Tryz.ntmps107 Tryz.results107 6 ?_;rintro⟨W,l⟩ hn;replace hn:W.pool.hn+l.length<=1000000:=hn;refine⟨by simp,?_⟩;simp[go_sem];refine yF (fun k:Nat=>⟨[(5,true,.i k),(0,true,.m false [.p 0 0]),(1,true,.m false [.s .b 2 l.length (ptrsT (fun i=>qP l i) (fun i=>qb l i))])],[(0,.var [.h 1000,.h 2000,.v (.int .i64 W.time),.v (.int .i64 W.next),.h 5000,.h 6000]),(1000,.row 3 W.pool.n (zY .z W.pool.s)),(2000,.row 1 (yN W.pool (l.take k)).hn (qx (yN W.pool (l.take k)).h)),(5000,.row 6 W.sn (setsE .o W.zc1)),(6000,.row 8 W.pn (snapsE .z W.zcy))]⟩) (fun k=>l.length - k) (fun k=>k<=l.length) 0 (by simp[go_sem,yN]) (Nat.zero_le _) ?_;intro k hk;obtain⟨p,hp⟩:∃p,p=yN W.pool (l.take k):=⟨_,rfl⟩;have bA:p.hn=W.pool.hn+k:=by rw[hp,(zB9 _ _).2.2,List.length_take,Nat.min_eq_left hk]
 have aA:k<l.length->yN W.pool (l.take (k+1))=zHH p (qP l k):=fun h=>by
  rw[hp,List.take_succ_eq_append_getElem h,zGd,<-zQo];simp[h]
 rw[<-hp];simp[go_sem,qN (show k<=1000000000 by omega)];refine⟨fun hl=>⟨hl,by omega,by kernel_rfl,k+1,hl,by omega,rfl,?_⟩,fun hl=>?_⟩
 ·rw[aA hl];exact zJ3
 ·cases (show k=l.length by omega);rw[List.take_length]at hp;subst hp;obtain⟨e1,e2,-⟩:=zB9 l W.pool;refine⟨⟨?_,zU⟩,⟨TrE.refl _,zd⟩,rfl,rfl,⟨TrE.refl _,zt⟩,TrE.refl _,zf⟩;show TrE _ (Tr.s .o 3 (yN W.pool l).n (zY .z (yN W.pool l).s));rw[e1,e2];exact TrE.refl _
open Classical in
noncomputable def zH3(W:zB)(x:ByteArray):Nat:=if h:∃k,k<W.sn/\¬zCN (W.zc1 k).name x/\∀j,j<k->zCN (W.zc1 j).name x then h.choose else W.sn
theorem zQQ{W:zB}{x:ByteArray}{k:Nat}(h:k<W.sn)(h1:¬zCN (W.zc1 k).name x)(h2:∀j,j<k->zCN (W.zc1 j).name x):zH3 W x=k:=by
 have hx:∃k,k<W.sn/\¬zCN (W.zc1 k).name x/\∀j,j<k->zCN (W.zc1 j).name x:=⟨k,h,h1,h2⟩;unfold zH3;rw[dif_pos hx];obtain⟨-,g1,g2⟩:=hx.choose_spec;rcases Nat.lt_trichotomy hx.choose k with e | e | e
 ·exact absurd (h2 _ e) g1
 ·exact e
 ·exact absurd (g2 _ e) h1
theorem zZN{W:zB}{x:ByteArray}(h:∀j,j<W.sn->zCN (W.zc1 j).name x):zH3 W x=W.sn:=dif_neg fun ⟨k,h1,h2,_⟩=>h2 (h k h1)
abbrev zD9(a:ByteArray)(o p rs rb:Int):zAV:=⟨a,o,p,rs,rb,0,fun _=>0,fun _=>0⟩
noncomputable def zcH:za:=qZ (fun q:(zB×ByteArray)×Int×Int×Int×Int=>(true,woV q.1.1) :: [(true,[.v (.string q.1.2),.v (.int .i64 q.2.1),.v (.int .i64 q.2.2.1),.v (.int .i64 q.2.2.2.1),.v (.int .i64 q.2.2.2.2),.v n0])]) (fun q=>q.1.1.sn<=1000000) (fun q=>[woO (zGU q.1.1 (zH3 q.1.1 q.1.2) (zD9 q.1.2 q.2.1 q.2.2.1 q.2.2.2.1 q.2.2.2.2))])
theorem zT9(W:zB)(x:ByteArray)(o p rs rb:Int):zcH ((true,woV W) :: [(true,[.v (.string x),.v (.int .i64 o),.v (.int .i64 p),.v (.int .i64 rs),.v (.int .i64 rb),.v n0])])=some (W.sn<=1000000,[woO (zGU W (zH3 W x) (zD9 x o p rs rb))]):=zO (fun m=>((zCX (nth m 0),zDn (nth m 1 0)),qd (nth m 1 1),qd (nth m 1 2),qd (nth m 1 3),qd (nth m 1 4))) (fun _=>rfl) ((W,x),o,p,rs,rb)
theorem zOU:zBr Tryz.prog 87 zcH:=by
 refine zBa zs GOk.nil zr Tryz.func87 rfl Tryz.ntmps87 Tryz.results87 6 ?_;rintro⟨⟨W,x⟩,o,p,rs,rb⟩ hn;replace hn:W.sn<=1000000:=hn;refine⟨by simp,?_⟩;simp[go_sem];refine yF (fun k:Nat=>⟨[(4,true,.i k),(0,true,.m false [.p 0 0]),(3,true,.m false [.p 3 0])],[(3,.var [.v (.string x),.v (.int .i64 o),.v (.int .i64 p),.v (.int .i64 rs),.v (.int .i64 rb),.v n0]),(0,.var [.h 1000,.h 2000,.v (.int .i64 W.time),.v (.int .i64 W.next),.h 5000,.h 6000]),(1000,.row 3 W.pool.n (zY .z W.pool.s)),(2000,.row 1 W.pool.hn (qx W.pool.h)),(5000,.row 6 W.sn (setsE .o W.zc1)),(6000,.row 8 W.pn (snapsE .z W.zcy))]⟩) (fun k=>W.sn - k) (fun k=>k<=W.sn/\∀j,j<k->zCN (W.zc1 j).name x) 0 (by simp[go_sem]) (by simp) ?_;rintro k ⟨hk,aA⟩;simp[go_sem,qN (show k<=1000000000 by omega)];refine⟨by kernel_rfl,fun hl h=>⟨k+1,⟨hl,yE hl aA h⟩,by omega,rfl⟩,fun h=>?_⟩;have hK:zH3 W x=k:=by
  by_cases hl:k<W.sn
  ·exact zQQ hl (fun e=>by have:=h hl;unfold zCN at e;rw[this]at e;simp at e) aA
  ·rw[zZN fun j hj=>aA j (by omega)];omega
 rw[hK];refine⟨hk,⟨hk,by omega⟩,by omega,hk,⟨by omega,by omega⟩,⟨TrE.refl _,zU⟩,⟨TrE.refl _,zd⟩,rfl,rfl,⟨?_,zt⟩,TrE.refl _,zf⟩;refine⟨.inl rfl,rfl,by show k+1+(W.sn - k)=W.sn+1;omega,fun i j hi hj=>?_⟩;show TrE _ (setsE .o (ins W.zc1 k (zD9 x o p rs rb)) i j);rcases Nat.lt_trichotomy i k with e | e | e
 ·have:setsE .o (ins W.zc1 k (zD9 x o p rs rb)) i j=setsE .o W.zc1 i j:=by
   unfold setsE;rw[zXM e]
  rw[this];exact TrE.of_eq (by simp[zAC,e,show i<k+1 by omega])
 ·subst e;have:setsE .o (ins W.zc1 i (zD9 x o p rs rb)) i j=setsE .o (fun _=>zD9 x o p rs rb) i j:=by
   unfold setsE;rw[zXK]
  rw[this]
  match j,hj with
  | 0,_ | 1,_ | 2,_ | 3,_ | 4,_=>exact TrE.of_eq (by simp[zAC,setsE])
  | 5,_=>simp[zAC,setsE,TrE]
 ·have:setsE .o (ins W.zc1 k (zD9 x o p rs rb)) i j=setsE .o W.zc1 (i - 1) j:=by
   unfold setsE;rw[zXL e]
  rw[this];refine TrE.of_eq ?_;simp[zAC,ntR,show ¬i<k+1 by omega,show k+(i - (k+1))=i - 1 by omega,show ¬i - 1<k by omega]
set_option maxRecDepth 20000
set_option maxHeartbeats 3200000
open Classical in
noncomputable def zCZ(W:zB)(x:ByteArray):zDe:=if 8000<x.size then yM 2 else if zAL W/\zDb x then(if zFe W x=0 then⟨zGU W (zH3 W x) (zD9 x 0 0 0 0),0,0,0⟩else yM (zFe W x))else yM 1
theorem yP{o o':zDe}(h:o'=o):(TrE (.s .o 3 o.world.pool.n (zY .z o.world.pool.s)) (.s .o 3 o'.world.pool.n (zY .z o'.world.pool.s))/\(Tr.s .o 3 o'.world.pool.n (zY .z o'.world.pool.s)).kept)/\(TrE (.s .o 1 o.world.pool.hn (qx o.world.pool.h)) (.s .o 1 o'.world.pool.hn (qx o'.world.pool.h))/\(Tr.s .o 1 o'.world.pool.hn (qx o'.world.pool.h)).kept)/\o.world.time=o'.world.time/\o.world.next=o'.world.next/\(TrE (.s .o 6 o.world.sn (setsE .o o.world.zc1)) (.s .o 6 o'.world.sn (setsE .o o'.world.zc1))/\(Tr.s .o 6 o'.world.sn (setsE .o o'.world.zc1)).kept)/\(TrE (.s .o 8 o.world.pn (snapsE .z o.world.zcy)) (.s .o 8 o'.world.pn (snapsE .z o'.world.zcy))/\(Tr.s .o 8 o'.world.pn (snapsE .z o'.world.zcy)).kept)/\o.id=o'.id/\o.many=o'.many/\o.code=o'.code:=by
 subst h;exact⟨⟨TrE.refl _,zU⟩,⟨TrE.refl _,zd⟩,rfl,rfl,⟨TrE.refl _,zt⟩,⟨TrE.refl _,zf⟩,rfl,rfl,rfl⟩
theorem zOM{W:zB}{x:Int}(h:zB2 W x):(zBn W.pn fun k=>(W.zcy k).id=x)<W.pn:=by
 rcases zL2 (zEq W.pn fun k=>(W.zcy k).id=x)with⟨-,-,h1,-⟩ | ⟨h',-⟩
 ·exact h1
 ·exact absurd h h'
theorem zHX{W:zB}{x:ByteArray}(h:zBW W x):(zBn W.sn fun k=>(W.zc1 k).name=x)<W.sn:=by
 rcases zEq W.sn fun k=>(W.zc1 k).name=x with⟨k,h1,-,-,h2⟩ | ⟨h1,h2⟩
 ·omega
 ·have:=zBZ.2 h;omega
attribute [local go_sem] qX List.map_cons List.map_nil Tr.cv yp qD qs qq yo yn ym qp zAu zAw zAv zAr zAt zAs zCF zCH zCG qH zl qI zm qB qA qM yx zi zj qw qG tmpsOf zAf qv qF zAp yv yr yq yu stpP opds opd opdC kap zAG qC zh coreU bin zAb zB0 get put dlO fgt zA8 zA1 zA5 zA6 tyT yj yi Op.operands Call.operands evLoad evLen evStore evAlloc zAa and_true true_and List.append_nil List.nil_append List.cons_append Ret resCv zBs yQ cellM zBV zBw qY StW StR hpT hpO hpV hpA hpL hpC sg nin zB6 bdO tmW obW AvE CsE CvE Av.tup Av.ids Cv.ids inD ObE Ob.ids TrE.refl qE qt qu qJ qK qL zk ze zb yw zBc zB1 zAy evCall argL argOf qh outOb obO yL zy cvO tot Tr.own rid partsOf fillC zW zBU frz frz1 evBuildSlice zc trs Cv.tr evSlice Option.toArray_none Option.toArray_some evMakeSlice evAppend dstOf srcOf zBC zA7 zA4 zA2 zA3 ikT qn qm ql qk RetP RetN zBd qQ evLd evSt evStoreH zAX evAppendM evAppendT tlOf mvOf rowE shp evTake oOf evC evCallP evCallN evCallO unlast zAW zBB zAU argsF zB5 qy pmC varT vT evField evConv dB0 Option.bind_some Option.bind_none Option.map_some Option.map_none Option.isSome_some Option.isSome_none
attribute [local go_sem] yC zX zAg yI qe zAO zAP zAQ zAR zAS zAT yV yW yX yY yZ yb yd ye qz qV
attribute [-go_sem] zX
attribute [local go_sem] yS zBX zBY yg yG
noncomputable def zUP:za:=qZ (fun q:zB×ByteArray=>[woT q.1,sT q.2]) (fun q=>qO q.1) (fun q=>[wuO (zCZ q.1 q.2)])
theorem zIj(W:zB)(x:ByteArray):zUP [woT W,sT x]=some (qO W,[wuO (zCZ W x)]):=zO (fun l=>(zCX (nth l 0),zDn (nth l 1 0))) (fun _=>rfl) (W,x)
theorem zJu:zp Tryz.prog 48 zUP:=by
 refine zR zs (GOk.cons zBm (zF Tryz.func27 rfl rfl) (GOk.cons zAh (zF Tryz.func32 rfl rfl) (GOk.cons zCk (zF Tryz.func84 rfl rfl) (GOk.cons zEk (zF Tryz.func85 rfl rfl) (GOk.cons zOV (zF Tryz.func86 rfl rfl) (GOk.ptr zOU (zF Tryz.func87 rfl rfl) GOk.nil)))))) zr Tryz.func48 rfl Tryz.ntmps48 Tryz.results48 7 ?_;rintro⟨W,x⟩ hW;replace hW:qO W:=hW;have hs:=hW.sn;refine⟨by simp,?_⟩;simp[go_sem,yJ,zBE,yO,zDj,zUI,zT9,hW,hW.toSmallW,hs];refine⟨fun h=>?_,fun h=>⟨fun h1=>?_,fun h1 h2=>⟨fun h3=>?_,fun h3=>?_⟩⟩⟩
 ·exact yP (if_pos (by omega))
 ·exact yP ((if_neg (by omega)).trans (if_neg fun e=>h1.elim (fun h=>h e.1) (fun h=>h e.2)))
 ·exact yP ((if_neg (by omega)).trans ((if_pos ⟨h1,h2⟩).trans (if_neg h3)))
 ·exact yP (o:=⟨zGU W (zH3 W x) (zD9 x 0 0 0 0),0,0,0⟩) ((if_neg (by omega)).trans ((if_pos ⟨h1,h2⟩).trans (if_pos h3)))
open Classical in
noncomputable def zEz(W:zB)(x:Int)(a:ByteArray):zDe:=if 8000<a.size then yM 2 else if zAL W/\zDb a then(if zB2 W x then(if zFe W a=0 then⟨zGU W (zH3 W a) (zD9 a x x (W.zcy (zBn W.pn fun k=>(W.zcy k).id=x).toNat).rs (W.zcy (zBn W.pn fun k=>(W.zcy k).id=x).toNat).rb),0,0,0⟩else yM (zFe W a))else yM 4)else yM 1
noncomputable def zXh:za:=qZ (fun q:zB×Int×ByteArray=>[woT q.1,iT q.2.1,sT q.2.2]) (fun q=>qO q.1) (fun q=>[wuO (zEz q.1 q.2.1 q.2.2)])
theorem zVt(W:zB)(x:Int)(a:ByteArray):zXh [woT W,iT x,sT a]=some (qO W,[wuO (zEz W x a)]):=zO (fun l=>(zCX (nth l 0),qd (nth l 1 0),zDn (nth l 2 0))) (fun _=>rfl) (W,x,a)
theorem zQF:zp Tryz.prog 76 zXh:=by
 refine zR zs (GOk.cons zBm (zF Tryz.func27 rfl rfl) (GOk.cons zAh (zF Tryz.func32 rfl rfl) (GOk.cons zC1 (zF Tryz.func68 rfl rfl) (GOk.cons zCk (zF Tryz.func84 rfl rfl) (GOk.cons zEk (zF Tryz.func85 rfl rfl) (GOk.cons zOV (zF Tryz.func86 rfl rfl) (GOk.ptr zOU (zF Tryz.func87 rfl rfl) GOk.nil))))))) zr Tryz.func76 rfl Tryz.ntmps76 Tryz.results76 10 ?_;rintro⟨W,x,a⟩ hW;replace hW:qO W:=hW;have hs:=hW.sn;have hp:=hW.pn;refine⟨by simp,?_⟩;simp[go_sem,yJ,zBE,zCB,yO,zDj,zUI,zT9,hW,hW.toSmallW,hs,hp,zML,zJP];refine⟨fun h=>?_,fun h=>⟨fun h1=>?_,fun h1 h2=>⟨fun h3=>?_,fun h3=>?_⟩⟩⟩
 ·exact yP (if_pos (by omega))
 ·exact yP ((if_neg (by omega)).trans (if_neg fun e=>h1.elim (fun h=>h e.1) (fun h=>h e.2)))
 ·exact yP ((if_neg (by omega)).trans ((if_pos ⟨h1,h2⟩).trans (if_neg h3)))
 ·refine⟨fun h4=>?_,fun h4=>⟨⟨h3,zOM h3⟩,?_⟩⟩
  ·exact yP ((if_neg (by omega)).trans ((if_pos ⟨h1,h2⟩).trans ((if_pos h3).trans (if_neg h4))))
  ·exact yP (o:=⟨zGU W (zH3 W a) (zD9 a x x (W.zcy (zBn W.pn fun k=>(W.zcy k).id=x).toNat).rs (W.zcy (zBn W.pn fun k=>(W.zcy k).id=x).toNat).rb),0,0,0⟩) ((if_neg (by omega)).trans ((if_pos ⟨h1,h2⟩).trans ((if_pos h3).trans (if_pos h4))))
set_option maxRecDepth 20000
set_option maxHeartbeats 3200000
noncomputable abbrev zCR (W:zB) (x:ByteArray):Nat:=(zBn W.sn fun k=>(W.zc1 k).name=x).toNat
noncomputable abbrev zIH (W:zB) (x:Int):Nat:=(zBn W.pn fun k=>(W.zcy k).id=x).toNat
open Classical in
noncomputable def zEX(W:zB)(set name:ByteArray):zDe:=if 8000<set.size\/8000<name.size then yM 2 else if zAL W/\zDb name then(if zBW W set then(if ∃i,i<W.pn/\(W.zcy i).set=set/\(W.zcy i).name=name then yM 5 else if 20<=W.pn\/900000<=W.time\/900000<=W.next then yM 6 else⟨zRx W (zCR W set) name set,W.next,0,0⟩)else yM 4)else yM 1
theorem zZD{x:Int}(h:0<=x)(h':x<1000000):IntKind.i64.wrap (x+1)=x+1:=by
 unfold IntKind.wrap;simp[IntKind.signed,IntKind.bits];omega
attribute [local go_sem] qX List.map_cons List.map_nil Tr.cv yp qD qs qq yo yn ym qp zAu zAw zAv zAr zAt zAs zCF zCH zCG qH zl qI zm qB qA qM yx zi zj qw qG tmpsOf zAf qv qF zAp yv yr yq yu stpP opds opd opdC kap zAG qC zh coreU bin zAb zB0 get put dlO fgt zA8 zA1 zA5 zA6 tyT yj yi Op.operands Call.operands evLoad evLen evStore evAlloc zAa and_true true_and List.append_nil List.nil_append List.cons_append Ret resCv zBs yQ cellM zBV zBw qY StW StR hpT hpO hpV hpA hpL hpC sg nin zB6 bdO tmW obW AvE CsE CvE Av.tup Av.ids Cv.ids inD ObE Ob.ids TrE.refl qE qt qu qJ qK qL zk ze zb yw zBc zB1 zAy evCall argL argOf qh outOb obO yL zy cvO tot Tr.own rid partsOf fillC zW zBU frz frz1 evBuildSlice zc trs Cv.tr evSlice Option.toArray_none Option.toArray_some evMakeSlice evAppend dstOf srcOf zBC zA7 zA4 zA2 zA3 ikT qn qm ql qk RetP RetN zBd qQ evLd evSt evStoreH zAX evAppendM evAppendT tlOf mvOf rowE shp evTake oOf evC evCallP evCallN evCallO unlast zAW zBB zAU argsF zB5 qy pmC varT vT evField evConv dB0 Option.bind_some Option.bind_none Option.map_some Option.map_none Option.isSome_some Option.isSome_none
attribute [local go_sem] yC zX zAg yI qe zAO zAP zAQ zAR zAS zAT yV yW yX yY yZ yb yd ye qz qV
attribute [-go_sem] zX
attribute [local go_sem] yS zBX zBY yg yG
noncomputable def zRQ:za:=qZ (fun q:zB×ByteArray×ByteArray=>[woT q.1,sT q.2.1,sT q.2.2]) (fun q=>qO q.1) (fun q=>[wuO (zEX q.1 q.2.1 q.2.2)])
theorem zRR(W:zB)(x a:ByteArray):zRQ [woT W,sT x,sT a]=some (qO W,[wuO (zEX W x a)]):=zO (fun l=>(zCX (nth l 0),zDn (nth l 1 0),zDn (nth l 2 0))) (fun _=>rfl) (W,x,a)
theorem zSN:zp Tryz.prog 73 zRQ:=by
 refine zR zs (GOk.cons zBm (zF Tryz.func27 rfl rfl) (GOk.cons zAh (zF Tryz.func32 rfl rfl) (GOk.cons zDD (zF Tryz.func66 rfl rfl) (GOk.cons zCk (zF Tryz.func84 rfl rfl) (GOk.cons zEk (zF Tryz.func85 rfl rfl) (GOk.cons zKt (zF Tryz.func104 rfl rfl) GOk.nil)))))) zr Tryz.func73 rfl Tryz.ntmps73 Tryz.results73 10 ?_;rintro⟨W,x,a⟩ hW;replace hW:qO W:=hW;have hs:=hW.sn;have hp:=hW.pn;refine⟨by simp,?_⟩;by_cases h8:8000<x.size\/8000<a.size
 ·have dA:(8000:Int)<x.size\/(8000:Int)<a.size:=(by omega);simp[go_sem,yO,dA];exact⟨yP (if_pos h8),fun h h'=>absurd h8 (by omega)⟩
 have aA:¬(8000:Int)<x.size:=by omega
 have bA:¬(8000:Int)<a.size:=by omega
 by_cases hR:zAL W/\zDb a;rotate_left
 ·simp[go_sem,yJ,zBE,zAY,yO,zDj,zD5,hW,hW.toSmallW,hs,hp,zCn,zBZ,aA,bA];refine⟨fun _=>yP ((if_neg h8).trans (if_neg hR)),fun h h'=>absurd ⟨h,h'⟩ hR⟩
 obtain⟨hR,hN⟩:=hR;by_cases hH:zBW W x;rotate_left
 ·simp[go_sem,yJ,zBE,zAY,yO,zDj,zD5,hW,hW.toSmallW,hs,hp,zCn,zBZ,aA,bA,hR,hN,hH];exact yP ((if_neg h8).trans ((if_pos ⟨hR,hN⟩).trans (if_neg hH)))
 by_cases hE:∃i,i<W.pn/\(W.zcy i).set=x/\(W.zcy i).name=a
 ·simp[go_sem,yJ,zBE,zAY,yO,zDj,zD5,hW,hW.toSmallW,hs,hp,zCn,zBZ,aA,bA,hR,hN,hH,hE];exact yP ((if_neg h8).trans ((if_pos ⟨hR,hN⟩).trans ((if_pos hH).trans (if_pos hE))))
 by_cases hF:20<=W.pn\/900000<=W.time\/900000<=W.next
 ·simp[go_sem,yJ,zBE,zAY,yO,zDj,zD5,hW,hW.toSmallW,hs,hp,zCn,zBZ,aA,bA,hR,hN,hH,hE];refine⟨fun _=>yP ((if_neg h8).trans ((if_pos ⟨hR,hN⟩).trans ((if_pos hH).trans ((if_neg hE).trans (if_pos hF))))),fun h h' jA=>absurd hF (by omega)⟩
 have eA:¬(20:Int)<=W.pn:=by omega
 have fA:¬900000<=W.time:=by omega
 have gA:¬900000<=W.next:=by omega
 have hk:=zHX hH;simp[go_sem,yJ,zBE,zAY,yO,zDj,zD5,hW,hW.toSmallW,hs,hp,zCn,zBZ,aA,bA,hR,hN,hH,hE,eA,fA,gA];have eE:zEX W x a=⟨zRx W (zCR W x) a x,W.next,0,0⟩:=by
  unfold zEX;rw[if_neg h8,if_pos ⟨hR,hN⟩,if_pos hH,if_neg hE,if_neg hF]
 rw[eE];have iA:zCR W x<W.sn:=by have:=zBZ.2 hH;show(zBn W.sn fun k=>(W.zc1 k).name=x).toNat<W.sn;omega
 obtain⟨k,cA⟩:∃k,k=zCR W x:=⟨_,rfl⟩;rw[<-cA]at iA ⊢;refine⟨hk,by omega,hk,⟨TrE.refl _,zU⟩,⟨TrE.refl _,zd⟩,?_⟩;rw[show(zBn W.sn fun k=>(W.zc1 k).name=x).toNat=k from cA.symm];refine⟨zZD (by have:=hR.zc3.1.1;omega) (by omega),zZD (by have:=hR.zc3.2.1.1;omega) (by omega),⟨⟨.inl rfl,rfl,rfl,fun i j hi hj=>?_⟩,zt⟩,⟨⟨.inl rfl,rfl,rfl,fun i j hi hj=>?_⟩,zf⟩,rfl,rfl,rfl⟩
 ·show TrE _ (setsE .o (fun j=>if j=k then {W.zc1 k with zc2:=W.next,dn:=0}else W.zc1 j) i j);by_cases e:i=k
  ·subst e
   match j,hj with
   | 0,_ | 1,_ | 2,_ | 3,_ | 4,_=>exact TrE.of_eq (by simp[yK,setsE])
   | 5,_=>simp[yK,setsE,TrE]
  ·exact TrE.of_eq (by unfold setsE;simp[yK,e])
 ·show TrE _ (snapsE .z (fun j=>if j=W.pn then zGJ W k a x else W.zcy j) i j);by_cases e:i<W.pn
  ·exact TrE.of_eq (by unfold snapsE;simp[zAC,e,show i≠W.pn by omega])
  ·cases (show i=W.pn by omega)
   match j,hj with
   | 0,_ | 1,_ | 2,_ | 3,_ | 4,_ | 5,_ | 6,_=>exact TrE.of_eq (by simp[zAC,snapsE,zGJ,Tr.nt])
   | 7,_=>exact TrE.of_eq (by simp[zAC,snapsE,zGJ,Tr.nt])
set_option maxRecDepth 20000
set_option maxHeartbeats 3200000
noncomputable def zH1(W:zB)(k:Nat)(t:Int):List (Int×Int):=zAl (fun i=>qP (zN W.pool (W.zc1 k).rs (W.zc1 k).rb) i) (fun i=>qb (zN W.pool (W.zc1 k).rs (W.zc1 k).rb) i) t (zN W.pool (W.zc1 k).rs (W.zc1 k).rb).length
noncomputable def zb9(W:zB)(k j:Nat):zB:={zID W (zH1 W k (W.zcy j).time)with zc1:=fun i=>if i=k then {W.zc1 k with rs:=(W.zcy j).rs,rb:=(W.zcy j).rb,dn:=0}else W.zc1 i}
open Classical in
noncomputable def zUx(W:zB)(k:Nat)(x:ByteArray):zDe:=if zB2 W (W.zc1 k).zc2/\(W.zcy (zIH W (W.zc1 k).zc2)).set=x then⟨zb9 W k (zIH W (W.zc1 k).zc2),0,(zH1 W k (W.zcy (zIH W (W.zc1 k).zc2)).time).length,0⟩else yM 4
open Classical in
noncomputable def zKy(W:zB)(x:ByteArray):zDe:=if 8000<x.size then yM 2 else if zAL W then(if zBW W x then zUx W (zCR W x) x else yM 4)else yM 1
theorem zBy(f g:Nat->Int)(t:Int)(n:Nat):(zAl f g t n).length<=n:=by
 have:=zGN f g t n;omega
attribute [local go_sem] qX List.map_cons List.map_nil Tr.cv yp qD qs qq yo yn ym qp zAu zAw zAv zAr zAt zAs zCF zCH zCG qH zl qI zm qB qA qM yx zi zj qw qG tmpsOf zAf qv qF zAp yv yr yq yu stpP opds opd opdC kap zAG qC zh coreU bin zAb zB0 get put dlO fgt zA8 zA1 zA5 zA6 tyT yj yi Op.operands Call.operands evLoad evLen evStore evAlloc zAa and_true true_and List.append_nil List.nil_append List.cons_append Ret resCv zBs yQ cellM zBV zBw qY StW StR hpT hpO hpV hpA hpL hpC sg nin zB6 bdO tmW obW AvE CsE CvE Av.tup Av.ids Cv.ids inD ObE Ob.ids TrE.refl qE qt qu qJ qK qL zk ze zb yw zBc zB1 zAy evCall argL argOf qh outOb obO yL zy cvO tot Tr.own rid partsOf fillC zW zBU frz frz1 evBuildSlice zc trs Cv.tr evSlice Option.toArray_none Option.toArray_some evMakeSlice evAppend dstOf srcOf zBC zA7 zA4 zA2 zA3 ikT qn qm ql qk RetP RetN zBd qQ evLd evSt evStoreH zAX evAppendM evAppendT tlOf mvOf rowE shp evTake oOf evC evCallP evCallN evCallO unlast zAW zBB zAU argsF zB5 qy pmC varT vT evField evConv dB0 Option.bind_some Option.bind_none Option.map_some Option.map_none Option.isSome_some Option.isSome_none
attribute [local go_sem] yC zX zAg yI qe zAO zAP zAQ zAR zAS zAT yV yW yX yY yZ yb yd ye qz qV
attribute [-go_sem] zX
attribute [local go_sem] yS zBX zBY yg yG
noncomputable def za4:za:=qZ (fun q:zB×ByteArray=>[woT q.1,sT q.2]) (fun q=>qO q.1) (fun q=>[wuO (zKy q.1 q.2)])
theorem zXw(W:zB)(x:ByteArray):za4 [woT W,sT x]=some (qO W,[wuO (zKy W x)]):=zO (fun l=>(zCX (nth l 0),zDn (nth l 1 0))) (fun _=>rfl) (W,x)
theorem zQJ:zp Tryz.prog 78 za4:=by
 refine zR zs (GOk.cons zBm (zF Tryz.func27 rfl rfl) (GOk.cons zAh (zF Tryz.func32 rfl rfl) (GOk.cons zDD (zF Tryz.func66 rfl rfl) (GOk.cons zC1 (zF Tryz.func68 rfl rfl) (GOk.cons zCk (zF Tryz.func84 rfl rfl) (GOk.cons zDR (zF Tryz.func99 rfl rfl) (GOk.cons zFb (zF Tryz.func106 rfl rfl) (GOk.ptr zIh (zF Tryz.func107 rfl rfl) GOk.nil)))))))) zr Tryz.func78 rfl Tryz.ntmps78 Tryz.results78 11 ?_;rintro⟨W,x⟩ hW;replace hW:qO W:=hW;have hs:=hW.sn;have hp:=hW.pn;refine⟨by simp,?_⟩;by_cases h8:8000<x.size
 ·simp[go_sem,yO,show(8000:Int)<x.size by omega];exact yP (if_pos h8)
 have bA:¬(8000:Int)<x.size:=by omega
 by_cases hR:zAL W;rotate_left
 ·simp[go_sem,yJ,zBE,zAY,yO,hW,hW.toSmallW,hs,hp,zCn,zBZ,bA,hR];exact yP ((if_neg h8).trans (if_neg hR))
 by_cases hH:zBW W x;rotate_left
 ·simp[go_sem,yJ,zBE,zAY,yO,hW,hW.toSmallW,hs,hp,zCn,zBZ,bA,hR,hH];exact yP ((if_neg h8).trans ((if_pos hR).trans (if_neg hH)))
 have hk:=zHX hH;have eA:=zBZ.2 hH;have aA:zCR W x<W.sn:=by show(zBn W.sn fun k=>(W.zc1 k).name=x).toNat<W.sn;omega
 obtain⟨k,cA⟩:∃k,k=zCR W x:=⟨_,rfl⟩;have dA:(zBn W.sn fun k=>(W.zc1 k).name=x)=(k:Int):=by rw[cA];show _=((zBn W.sn fun k=>(W.zc1 k).name=x).toNat:Int);omega
 rw[<-cA]at aA;have hT:=(hR.zc1 k aA).1;simp[go_sem,yJ,zBE,zAY,zCB,yO,zEU,zF7,zMh,hW,hW.toSmallW,hs,hp,dA,bA,hR,hR.right,hT,aA,zML,zJP];have eR:zKy W x=zUx W k x:=by
  unfold zKy;rw[if_neg h8,if_pos hR,if_pos hH,<-cA]
 refine⟨fun h=>absurd h (by omega),by kernel_rfl,fun h=>⟨h,zOM h⟩,fun h=>?_,fun h1 h2=>?_⟩
 ·exact yP (eR.trans (if_neg fun e=>h.elim (fun h=>h e.1) (fun h=>h (congrArg ByteArray.toList e.2))))
 rw[eR,zUx,if_pos ⟨h1,zCe h2⟩];have hn:=zHG hR.right;refine⟨⟨h1,zOM h1⟩,Nat.le_trans (yz ..) (by omega),by kernel_rfl,?_,⟨h1,zOM h1⟩,aA,by kernel_rfl,aA,⟨TrE.refl _,zU⟩,⟨TrE.refl _,zd⟩,rfl,rfl,⟨⟨.inl rfl,rfl,rfl,fun i j hi hj=>?_⟩,zt⟩,⟨TrE.refl _,zf⟩,rfl,rfl,rfl⟩
 ·have hl:(zN W.pool (W.zc1 k).rs (W.zc1 k).rb).length<=73:=yz ..;exact Nat.le_trans (Nat.add_le_add_left (Nat.le_trans (zBy ..) hl) _) (by omega)
 show TrE _ (setsE .o (fun i=>if i=k then {W.zc1 k with rs:=(W.zcy (zIH W (W.zc1 k).zc2)).rs,rb:=(W.zcy (zIH W (W.zc1 k).zc2)).rb,dn:=0}else W.zc1 i) i j);by_cases e:i=k
 ·subst e
  match j,hj with
  | 0,_ | 1,_ | 2,_ | 3,_ | 4,_=>exact TrE.of_eq (by simp[yK,setsE,zID])
  | 5,_=>simp[yK,setsE,TrE]
 ·exact TrE.of_eq (by unfold setsE;simp[yK,e,zID])
set_option maxRecDepth 20000
set_option maxHeartbeats 3200000
noncomputable def zai(W:zB)(k:Nat):zB:={zID W (zH1 W k (zI W (W.zc1 k).zc2).time)with sn:=W.sn - 1,zc1:=fun i=>if i<k then W.zc1 i else W.zc1 (i+1)}
open Classical in
noncomputable def zKh(W:zB)(x:ByteArray):zDe:=if 8000<x.size then yM 2 else if zAL W then(if zBW W x then(if ∃i,i<W.pn/\(W.zcy i).set=x then yM 7 else⟨zai W (zCR W x),0,(zH1 W (zCR W x) (zI W (W.zc1 (zCR W x)).zc2).time).length,0⟩)else yM 4)else yM 1
theorem zQv{W:zB}{l:List (Int×Int)}:(zID W l).sn=W.sn:=rfl
theorem zMH{W:zB}{l:List (Int×Int)}:(zID W l).zc1=W.zc1:=rfl
theorem zQu{W:zB}{l:List (Int×Int)}:(zID W l).pn=W.pn:=rfl
theorem zKl{W:zB}{l:List (Int×Int)}:(zID W l).zcy=W.zcy:=rfl
attribute [local go_sem] qX List.map_cons List.map_nil Tr.cv yp qD qs qq yo yn ym qp zAu zAw zAv zAr zAt zAs zCF zCH zCG qH zl qI zm qB qA qM yx zi zj qw qG tmpsOf zAf qv qF zAp yv yr yq yu stpP opds opd opdC kap zAG qC zh coreU bin zAb zB0 get put dlO fgt zA8 zA1 zA5 zA6 tyT yj yi Op.operands Call.operands evLoad evLen evStore evAlloc zAa and_true true_and List.append_nil List.nil_append List.cons_append Ret resCv zBs yQ cellM zBV zBw qY StW StR hpT hpO hpV hpA hpL hpC sg nin zB6 bdO tmW obW AvE CsE CvE Av.tup Av.ids Cv.ids inD ObE Ob.ids TrE.refl qE qt qu qJ qK qL zk ze zb yw zBc zB1 zAy evCall argL argOf qh outOb obO yL zy cvO tot Tr.own rid partsOf fillC zW zBU frz frz1 evBuildSlice zc trs Cv.tr evSlice Option.toArray_none Option.toArray_some evMakeSlice evAppend dstOf srcOf zBC zA7 zA4 zA2 zA3 ikT qn qm ql qk RetP RetN zBd qQ evLd evSt evStoreH zAX evAppendM evAppendT tlOf mvOf rowE shp evTake oOf evC evCallP evCallN evCallO unlast zAW zBB zAU argsF zB5 qy pmC varT vT evField evConv dB0 Option.bind_some Option.bind_none Option.map_some Option.map_none Option.isSome_some Option.isSome_none
attribute [local go_sem] yC zX zAg yI qe zAO zAP zAQ zAR zAS zAT yV yW yX yY yZ yb yd ye qz qV
attribute [-go_sem] zX
attribute [local go_sem] yS zBX zBY yg yG
noncomputable def zap:za:=qZ (fun q:zB×ByteArray=>[woT q.1,sT q.2]) (fun q=>qO q.1) (fun q=>[wuO (zKh q.1 q.2)])
theorem zXj(W:zB)(x:ByteArray):zap [woT W,sT x]=some (qO W,[wuO (zKh W x)]):=zO (fun l=>(zCX (nth l 0),zDn (nth l 1 0))) (fun _=>rfl) (W,x)
theorem zNa:zp Tryz.prog 77 zap:=by
 refine zR zs (GOk.cons zBm (zF Tryz.func27 rfl rfl) (GOk.cons zAh (zF Tryz.func32 rfl rfl) (GOk.cons zDD (zF Tryz.func66 rfl rfl) (GOk.cons zCk (zF Tryz.func84 rfl rfl) (GOk.cons zDV (zF Tryz.func98 rfl rfl) (GOk.cons zDR (zF Tryz.func99 rfl rfl) (GOk.cons zFb (zF Tryz.func106 rfl rfl) (GOk.cons zVk (zF Tryz.func108 rfl rfl) (GOk.ptr zIh (zF Tryz.func107 rfl rfl) GOk.nil))))))))) zr Tryz.func77 rfl Tryz.ntmps77 Tryz.results77 12 ?_;rintro⟨W,x⟩ hW;replace hW:qO W:=hW;have hs:=hW.sn;have hp:=hW.pn;refine⟨by simp,?_⟩;by_cases h8:8000<x.size
 ·simp[go_sem,yO,show(8000:Int)<x.size by omega];exact yP (if_pos h8)
 have aA:¬(8000:Int)<x.size:=by omega
 by_cases hR:zAL W;rotate_left
 ·simp[go_sem,yJ,zBE,zAY,yO,hW,hW.toSmallW,hs,hp,zCn,zBZ,aA,hR];exact yP ((if_neg h8).trans (if_neg hR))
 by_cases hH:zBW W x;rotate_left
 ·simp[go_sem,yJ,zBE,zAY,yO,hW,hW.toSmallW,hs,hp,zCn,zBZ,aA,hR,hH];exact yP ((if_neg h8).trans ((if_pos hR).trans (if_neg hH)))
 have hk:=zHX hH;have fA:=zBZ.2 hH;have cA:zCR W x<W.sn:=by show(zBn W.sn fun k=>(W.zc1 k).name=x).toNat<W.sn;omega
 obtain⟨k,bA⟩:∃k,k=zCR W x:=⟨_,rfl⟩;have dA:(zBn W.sn fun k=>(W.zc1 k).name=x)=(k:Int):=by rw[bA];show _=((zBn W.sn fun k=>(W.zc1 k).name=x).toNat:Int);omega
 have eA:¬(k:Int)<0:=by omega
 by_cases hO:∃i,i<W.pn/\(W.zcy i).set=x
 ·simp[go_sem,yJ,zBE,zAY,yO,zUL,hW,hW.toSmallW,hs,hp,dA,eA,aA,hR,hO];exact yP ((if_neg h8).trans ((if_pos hR).trans ((if_pos hH).trans (if_pos hO))))
 have eR:zKh W x=⟨zai W k,0,(zH1 W k (zI W (W.zc1 k).zc2).time).length,0⟩:=by
  unfold zKh;rw[if_neg h8,if_pos hR,if_pos hH,if_neg hO,<-bA]
 rw[<-bA]at cA;have hT:=(hR.zc1 k cA).1;have hz:=zEx (fun k hk=>(hR.zc3.prevOk.ids k hk).1) (W.zc1 k).zc2;simp[go_sem,yJ,zBE,zAY,zUL,zD3,yO,zEU,zF7,zMh,hW,hW.toSmallW,hs,hp,dA,eA,aA,hR,hO,hz,hR.right,hT,cA,eR,qN (show k<=1000000000 by omega),zQv,zMH,zQu,zKl];have hn:=zHG hR.right;refine⟨by kernel_rfl,Nat.le_trans (yz ..) (by omega),by kernel_rfl,?_,?_⟩
 ·have hl:(zN W.pool (W.zc1 k).rs (W.zc1 k).rb).length<=73:=yz ..;exact Nat.le_trans (Nat.add_le_add_left (Nat.le_trans (zBy ..) hl) _) (by omega)
 refine⟨by omega,⟨by omega,by omega⟩,⟨by omega,by omega⟩,⟨by omega,by omega⟩,by kernel_rfl,⟨TrE.refl _,zU⟩,⟨TrE.refl _,zd⟩,rfl,rfl,⟨⟨.inl rfl,rfl,by show k+(W.sn - (k+1))=W.sn - 1;omega,fun i j hi hj=>TrE.of_eq ?_⟩,zt⟩,⟨TrE.refl _,zf⟩,rfl⟩;show _=setsE .o (fun i=>if i<k then W.zc1 i else W.zc1 (i+1)) i j;by_cases e:i<k
 ·unfold setsE;simp[zAC,e]
 ·have:k+1+(i - k)=i+1:=(by omega);have h2:¬i+1<k:=(by omega);unfold setsE;simp[zAC,e,ntR,this,h2]
set_option maxRecDepth 20000
set_option maxHeartbeats 3200000
def zGy(W:zB)(other:ByteArray)(id:Int)(n j:Nat):Prop:=∃m x,m<n/\Steps W other id m x/\zBD W x j
def zWj(W:zB)(other:ByteArray)(id:Int)(j:Nat):Prop:=∃m x,Steps W other id m x/\zBD W x j/\(W.zcy j).set=other
open Classical in
noncomputable def zLE(W:zB)(name:ByteArray)(V:Nat->Prop):Nat->zz:=fun j=>if V j then {W.zcy j with set:=name}else W.zcy j
def zO2(W:zB)(x y:ByteArray):Prop:=∃i,i<W.pn/\(W.zcy i).set=x/\(W.zcy i).name=y
noncomputable def zYZ(W:zB)(k d:Nat)(name other:ByteArray)(id:Int):zB:={W with zcy:=zLE W name (zWj W other id),zc1:=fun i=>if i=d then {W.zc1 d with origin:=id}else if i=k then {W.zc1 k with origin:=(W.zc1 d).origin}else W.zc1 i}
open Classical in
noncomputable def zYY(W:zB)(k:Nat)(x other:ByteArray)(id:Int):zDe:=if ∃j,zWj W other id j/\zO2 W x (W.zcy j).name then yM 5 else⟨zYZ W k (zCR W other) x other id,id,0,0⟩
open Classical in
noncomputable def zRh(W:zB)(x:ByteArray):zDe:=if 8000<x.size then yM 2 else if zAL W then(if zBW W x then(if (W.zc1 (zCR W x)).origin=0 then yM 7 else zYY W (zCR W x) x (W.zcy (zIH W (W.zc1 (zCR W x)).origin)).set (W.zc1 (zCR W x)).origin)else yM 4)else yM 1
theorem zPl{W:zB}{aA:ByteArray}{id x:Int}{n j:Nat}(h:Steps W aA id n x)(hj:zBD W x j){i:Nat}:zGy W aA id (n+1) i↔i=j\/zGy W aA id n i:=by
 constructor
 ·rintro⟨m,y,hm,hs,hi⟩;by_cases e:m=n
  ·subst e;rw[hs.det h]at hi;exact .inl (hi.uniq hj)
  ·exact .inr ⟨m,y,by omega,hs,hi⟩
 ·rintro(rfl | ⟨m,y,hm,hs,hi⟩)
  ·exact⟨n,x,by omega,h,hj⟩
  ·exact⟨m,y,by omega,hs,hi⟩
theorem zRX{W:zB}{aA:ByteArray}{id x:Int}{n:Nat}(h:Steps W aA id n x)(hx:¬zGu W aA x){i:Nat}:zGy W aA id n i↔zWj W aA id i:=by
 constructor
 ·rintro⟨m,y,hm,hs,hi⟩;obtain⟨z,hz,j,hj,bA⟩:=h.less hm;rw[hs.det hz]at hi;refine⟨m,z,hz,hi,?_⟩;rw[hi.uniq hj];exact bA
 ·rintro⟨m,y,hs,hi,bA⟩;by_cases hm:m<n
  ·exact⟨m,y,hm,hs,hi⟩
  ·exfalso;by_cases e:m=n
   ·subst e;rw[hs.det h]at hi;exact hx ⟨i,hi,bA⟩
   ·obtain⟨z,hz,ho⟩:=hs.less (show n<m by omega);rw[h.det hz]at hx;exact hx ho
attribute [local go_sem] qX List.map_cons List.map_nil Tr.cv yp qD qs qq yo yn ym qp zAu zAw zAv zAr zAt zAs zCF zCH zCG qH zl qI zm qB qA qM yx zi zj qw qG tmpsOf zAf qv qF zAp yv yr yq yu stpP opds opd opdC kap zAG qC zh coreU bin zAb zB0 get put dlO fgt zA8 zA1 zA5 zA6 tyT yj yi Op.operands Call.operands evLoad evLen evStore evAlloc zAa and_true true_and List.append_nil List.nil_append List.cons_append Ret resCv zBs yQ cellM zBV zBw qY StW StR hpT hpO hpV hpA hpL hpC sg nin zB6 bdO tmW obW AvE CsE CvE Av.tup Av.ids Cv.ids inD ObE Ob.ids TrE.refl qE qt qu qJ qK qL zk ze zb yw zBc zB1 zAy evCall argL argOf qh outOb obO yL zy cvO tot Tr.own rid partsOf fillC zW zBU frz frz1 evBuildSlice zc trs Cv.tr evSlice Option.toArray_none Option.toArray_some evMakeSlice evAppend dstOf srcOf zBC zA7 zA4 zA2 zA3 ikT qn qm ql qk RetP RetN zBd qQ evLd evSt evStoreH zAX evAppendM evAppendT tlOf mvOf rowE shp evTake oOf evC evCallP evCallN evCallO unlast zAW zBB zAU argsF zB5 qy pmC varT vT evField evConv dB0 Option.bind_some Option.bind_none Option.map_some Option.map_none Option.isSome_some Option.isSome_none
attribute [local go_sem] yC zX zAg yI qe zAO zAP zAQ zAR zAS zAT yV yW yX yY yZ yb yd ye qz qV
attribute [-go_sem] zX
attribute [local go_sem] yS zBX zBY yg yG
noncomputable def zcT:za:=qZ (fun q:zB×ByteArray=>[woT q.1,sT q.2]) (fun q=>qO q.1) (fun q=>[wuO (zRh q.1 q.2)])
theorem zZw(W:zB)(x:ByteArray):zcT [woT W,sT x]=some (qO W,[wuO (zRh W x)]):=zO (fun l=>(zCX (nth l 0),zDn (nth l 1 0))) (fun _=>rfl) (W,x)
theorem zSK:zp Tryz.prog 79 zcT:=by
 refine zR zs (GOk.cons zBm (zF Tryz.func27 rfl rfl) (GOk.cons zAh (zF Tryz.func32 rfl rfl) (GOk.cons zDD (zF Tryz.func66 rfl rfl) (GOk.cons zC1 (zF Tryz.func68 rfl rfl) (GOk.cons zCk (zF Tryz.func84 rfl rfl) (GOk.cons zKt (zF Tryz.func104 rfl rfl) GOk.nil)))))) zr Tryz.func79 rfl Tryz.ntmps79 Tryz.results79 12 ?_;rintro⟨W,x⟩ hW;replace hW:qO W:=hW;have hs:=hW.sn;have hp:=hW.pn;refine⟨by simp,?_⟩;by_cases h8:8000<x.size
 ·simp[go_sem,yO,show(8000:Int)<x.size by omega];exact yP (if_pos h8)
 have eA:¬(8000:Int)<x.size:=by omega
 by_cases hR:zAL W;rotate_left
 ·simp[go_sem,yJ,zBE,zAY,yO,hW,hW.toSmallW,hs,hp,zCn,zBZ,eA,hR];exact yP ((if_neg h8).trans (if_neg hR))
 by_cases hH:zBW W x;rotate_left
 ·simp[go_sem,yJ,zBE,zAY,yO,hW,hW.toSmallW,hs,hp,zCn,zBZ,eA,hR,hH];exact yP ((if_neg h8).trans ((if_pos hR).trans (if_neg hH)))
 have hk:=zHX hH;have eB:=zBZ.2 hH;have cA:zCR W x<W.sn:=by show(zBn W.sn fun k=>(W.zc1 k).name=x).toNat<W.sn;omega
 obtain⟨k,fA⟩:∃k,k=zCR W x:=⟨_,rfl⟩;have sA:(zBn W.sn fun k=>(W.zc1 k).name=x)=(k:Int):=by rw[fA];show _=((zBn W.sn fun k=>(W.zc1 k).name=x).toNat:Int);omega
 have aB:¬(k:Int)<0:=by omega
 rw[<-fA]at cA;by_cases hO:(W.zc1 k).origin=0
 ·simp[go_sem,yJ,zBE,zAY,yO,hW,hW.toSmallW,hs,hp,sA,aB,eA,hR,cA,hO];exact yP ((if_neg h8).trans ((if_pos hR).trans ((if_pos hH).trans (if_pos (fA▸hO)))))
 have hI:zB2 W (W.zc1 k).origin:=(hR.zc3.2.2.2.2.1 k cA).2.2.2 hO;obtain⟨q,hq⟩:=hI.no;have tA:(zBn W.pn fun j=>(W.zcy j).id=(W.zc1 k).origin)=(q:Int):=zEQ hq.1 hq.2.1 hq.2.2;have bB:=hq.1;obtain⟨id,jA⟩:∃id,id=(W.zc1 k).origin:=⟨_,rfl⟩;obtain⟨aA,kA⟩:∃o,o=(W.zcy q).set:=⟨_,rfl⟩;simp[go_sem,yJ,zBE,zAY,zCB,yO,zD5,hW,hW.toSmallW,hs,hp,sA,aB,eA,hR,cA,hO,tA,bB];rw[<-jA,<-kA];refine⟨by kernel_rfl,?_⟩;have iA:=hR.zc3.prevOk;have hS:zBW W aA:=by rw[kA];exact(hR.zc3.2.2.2.2.2 q bB).1.2.2.2.2.2
 have hd:=zHX hS;have cB:=zBZ.2 hS;obtain⟨d,nA⟩:∃d,d=zCR W aA:=⟨_,rfl⟩;have pA:(zBn W.sn fun k=>(W.zc1 k).name=aA)=(d:Int):=by rw[nA];show _=((zBn W.sn fun k=>(W.zc1 k).name=aA).toNat:Int);omega
 have oA:d<W.sn:=by omega
 have eR:zRh W x=zYY W k x aA id:=by
  unfold zRh;rw[if_neg h8,if_pos hR,if_pos hH,<-fA,if_neg hO,jA,kA];show zYY W k x (W.zcy (zBn W.pn fun j=>(W.zcy j).id=(W.zc1 k).origin).toNat).set _=_;rw[tA,Int.toNat_natCast]
 rw[eR];refine yF (fun q:Nat×Int=>⟨[(9,true,.m false [.v (.int .i64 q.2)]),(8,true,.m false [.p 8 0]),(7,true,.m false [.v (.string aA)]),(6,true,.m false [.v (.int .i64 id)]),(5,true,.i k),(4,true,.m false [.p 4 0]),(2,true,.m false [.p 2 0]),(1,true,.m false [.v (.string x)])],[(8,.var [.h 61,.h 62,.v (.int .i64 W.time),.v (.int .i64 W.next),.h 63,.h 64]),(64,.row 8 W.pn (snapsE .z (zLE W x (zGy W aA id q.1)))),(63,.row 6 W.sn (setsE .o W.zc1)),(62,.row 1 W.pool.hn (qx W.pool.h)),(61,.row 3 W.pool.n (zY .z W.pool.s)),(4,.var [.v n0,.v n0,.v i0,.v i0,.v n0,.v n0,.v i0,.v i0,.v i0]),(2,.var ((woL W).map Tr.cv))]⟩) (fun q=>1000000 - q.1) (fun q=>zDQ W aA id q.1 q.2/\∀j,zGy W aA id q.1 j->¬zO2 W x (W.zcy j).name) (0,id) ?_ ⟨zDQ.start iA _ (.inr (jA▸hI)),fun j ⟨m,y,hm,_⟩=>absurd hm (Nat.not_lt_zero _)⟩ ?_
 ·have e0:zLE W x (zGy W aA id 0)=W.zcy:=funext fun j=>if_neg fun ⟨m,y,hm,_⟩=>absurd hm (Nat.not_lt_zero _)
  simp[go_sem,e0]
 rintro⟨n,y⟩ ⟨hw,gA⟩;replace hw:zDQ W aA id n y:=hw;replace gA:∀j,zGy W aA id n j->¬zO2 W x (W.zcy j).name:=gA;have ha:n<=900000:=by have:=hw.least;have:=hw.sum;omega
 have hM:¬zGu W aA y->zLE W x (zGy W aA id n)=zLE W x (zWj W aA id):=fun he=>by
  have:zGy W aA id n=zWj W aA id:=funext fun i=>propext (zRX hw.steps he)
  rw[this]
 have hK:¬zGu W aA y->zYY W k x aA id=⟨zYZ W k d x aA id,id,0,0⟩:=fun he=>by
  rw[nA];exact if_neg fun ⟨i,h1,h2⟩=>gA i ((zRX hw.steps he).2 h1) h2
 have mA:TrE (Tr.s .o 6 W.sn (yK (yK (setsE .o W.zc1) k 1 [.v (.int .i64 (W.zc1 d).origin)]) d 1 [.v (.int .i64 id)])) (Tr.s .o 6 W.sn (setsE .o (zYZ W k d x aA id).zc1)):=zEF fun i j hi hj=>by
  show _=setsE .o (fun i=>if i=d then {W.zc1 d with origin:=id}else if i=k then {W.zc1 k with origin:=(W.zc1 d).origin}else W.zc1 i) i j;by_cases e1:i=d
  ·subst e1;by_cases e2:i=k
   ·subst e2
    match j,hj with
    | 0,_ | 1,_ | 2,_ | 3,_ | 4,_ | 5,_=>simp[yK,setsE]
   ·match j,hj with
    | 0,_ | 1,_ | 2,_ | 3,_ | 4,_ | 5,_=>simp[yK,setsE,e2]
  ·by_cases e2:i=k
   ·subst e2
    match j,hj with
    | 0,_ | 1,_ | 2,_ | 3,_ | 4,_ | 5,_=>simp[yK,setsE,e1]
   ·unfold setsE;simp[yK,e1,e2]
 by_cases hy:y=0
 ·subst hy;have bA:=zJd iA aA;simp[go_sem,zAY,hs,pA,oA,cA];rw[hK bA,hM bA];exact⟨by kernel_rfl,⟨TrE.refl _,zU⟩,⟨TrE.refl _,zd⟩,rfl,rfl,⟨mA,zt⟩,⟨TrE.refl _,zf⟩,rfl,rfl,rfl⟩
 obtain⟨j,hj⟩:=(hw.there.resolve_left hy).no;have rA:(zBn W.pn fun i=>(W.zcy i).id=y)=(j:Int):=zEQ hj.1 hj.2.1 hj.2.2;have vA:=hj.1;by_cases dA:(W.zcy j).set=aA;rotate_left
 ·have bA:=zMx hj dA;have lA:¬(W.zcy j).set.toList=aA.toList:=fun e=>dA (zCe e)
  simp[go_sem,zAY,zCB,hs,hp,pA,oA,cA,hy,rA,vA,lA];rw[hK bA,hM bA];exact⟨by kernel_rfl,⟨TrE.refl _,zU⟩,⟨TrE.refl _,zd⟩,rfl,rfl,⟨mA,zt⟩,⟨TrE.refl _,zf⟩,rfl,rfl,rfl⟩
 simp[go_sem,zAY,zCB,yO,zD5,hs,hp,hy,rA,vA,dA];refine⟨by kernel_rfl,fun i hi h1 h2=>yP (if_pos ⟨j,⟨n,y,hw.steps,hj,dA⟩,i,hi,h1,h2⟩),fun h=>⟨n+1,_,⟨hw.next iA hj dA,fun i hi=>?_⟩,by omega,rfl,zEF fun i c hi hc=>?_⟩⟩
 ·rcases(zPl hw.steps hj).1 hi with rfl | hi
  ·exact fun ⟨a,h1,h2,h3⟩=>h a h1 h2 h3
  ·exact gA i hi
 ·by_cases e:i=j
  ·subst e;have hv:zGy W aA id (n+1) i:=(zPl hw.steps hj).2 (.inl rfl);have h1:zLE W x (zGy W aA id (n+1)) i = {W.zcy i with set:=x}:=if_pos hv;have h2:zLE W x (zGy W aA id n) i = {W.zcy i with set:=x}\/zLE W x (zGy W aA id n) i=W.zcy i:=by
    by_cases g:zGy W aA id n i
    ·exact .inl (if_pos g)
    ·exact .inr (if_neg g)
   rcases h2 with h2 | h2
   ·match c,hc with
    | 0,_ | 1,_ | 2,_ | 3,_ | 4,_ | 5,_ | 6,_ | 7,_=>simp[yK,snapsE,h1,h2]
   ·match c,hc with
    | 0,_ | 1,_ | 2,_ | 3,_ | 4,_ | 5,_ | 6,_ | 7,_=>simp[yK,snapsE,h1,h2]
  ·have h1:zLE W x (zGy W aA id (n+1)) i=zLE W x (zGy W aA id n) i:=by
    have:zGy W aA id (n+1) i=zGy W aA id n i:=propext ((zPl hw.steps hj).trans ⟨fun h=>h.resolve_left e,.inr⟩);unfold zLE;rw[this]
   unfold snapsE;simp[yK,e,h1]
open Go.Maps
theorem zaC{a b c d:Int}(h:¬(a=c/\b=d)):(a == c)=false\/(a == c)=true/\(b == d)=false:=by
 by_cases e:a=c
 ·right;refine⟨by simp[e],?_⟩;have:¬b=d:=fun e'=>h ⟨e,e'⟩
  simp[this]
 ·left;simp[e]
theorem zJ2{a b:Int}(h:a=b):(a == b)=true/\(a != b)=false/\decide (a=b)=true:=by subst h;simp
theorem zHn{a b:Int}(h:¬a=b):(a == b)=false/\(a != b)=true/\decide (a=b)=false:=by simp[h]
structure zBM (S:zx):Prop where
 zc0:zAL S.zc0
 zcz:zAL S.zcz
 many:S.zc0.pool.n=S.zcz.pool.n
 held:S.zcz.pool.hn=0
 time:S.zcz.time<=S.zc0.time
 next:S.zcz.next<=S.zc0.next
 slots:∀i,i<S.zcz.pool.n->¬zAA (S.zcz.pool.s i)->zDu (S.zcz.pool.s i) (S.zc0.pool.s i)
end Go.Proofs.YtbplmbafodlboaaGreatDoor
