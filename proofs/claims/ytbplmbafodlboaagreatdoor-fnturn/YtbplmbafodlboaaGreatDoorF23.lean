/- A part of the proof. -/
import Derived.Test.YtbplmbafodlboaaGreatDoorF22
import Derived.IntWalk
set_option linter.unusedVariables false
set_option maxRecDepth 20000
set_option maxHeartbeats 4000000
namespace Go.Proofs.YtbplmbafodlboaaGreatDoor
open Go.RowKit
set_option linter.unusedSimpArgs false
set_option maxRecDepth 20000
set_option maxHeartbeats 3200000
abbrev wuO(o:zDX):Bool×List Tr:=(true,[.s .o 3 o.world.pool.n (zU .z o.world.pool.s),.s .o 1 o.world.pool.hn (qh o.world.pool.h),.v (.int .i64 o.world.time),.v (.int .i64 o.world.next),.s .o 6 o.world.sn (setsE .o o.world.zcC),.s .o 8 o.world.pn (snapsE .z o.world.zb9),.v (.int .i64 o.id),.v (.int .i64 o.many),.v (.int .i64 o.code)])
abbrev woV(W:zC):List Tr:=[.s .o 3 W.pool.n (zU .z W.pool.s),.s .o 1 W.pool.hn (qh W.pool.h),.v (.int .i64 W.time),.v (.int .i64 W.next),.s .o 6 W.sn (setsE .o W.zcC),.s .o 8 W.pn (snapsE .z W.zb9)]
def zH1(W:zC)(l:List (Int×Int)):zC:={W with pool:=yH W.pool l}
abbrev psL(l:List (Int×Int)):Bool×List Tr:=psT l.length (fun i=>zx l i) (fun i=>qS l i)
def zUl(a:Tr):List (Int×Int):=(List.range (zE9 a)).map fun i=>(qg (zCS a i 0),qg (zCS a i 1))
theorem zO4(l:List (Int×Int)):zUl (.s .b 2 l.length (ptrsT (fun i=>zx l i) (fun i=>qS l i)))=l:=by
 show(List.range l.length).map (fun i=>(zx l i,qS l i))=l;apply List.ext_getElem
 ·simp
 ·intro i h1 h2;simp[<-zQW,<-zX7,h2]
theorem zJz{fl:Fl}{p:zF}{x:Int}:TrE (.s fl 1 (p.hn+1) (yU (qh p.h) p.hn (fun a q=>([Tr.v (Value.int .i64 x)][a+q]?.getD (.v (.bool false))).nt))) (.s fl 1 (zG3 p x).hn (qh (zG3 p x).h)):=zD2 fun i j hi hj=>by
 cases (show j=0 by omega);unfold yU;by_cases h:i<p.hn
 ·rw[if_pos h];show _=Tr.v (.int .i64 (if i=p.hn then x else p.h i));rw[if_neg (by omega)];rfl
 ·cases (show i=p.hn by omega);rw[if_neg h,Nat.sub_self];show _=Tr.v (.int .i64 (if p.hn=p.hn then x else p.h p.hn));rw[if_pos rfl];rfl
attribute [local go_sem] qW List.map_cons List.map_nil Tr.cv yo qG qw qv yn ym yk qu zAv zAx zAw zAs zAu zAt zCK zCM zCL qK zn qL zo qE qD qP yx zk zl yB qJ tmpsOf zAf yA qI zAr yu yq yp yr stpP opds opd opdC kap zAE qF zj coreU bin zAY zB6 get put dlO fgt zA6 zAz zA3 zA4 tyT yj yi Op.operands Call.operands evLoad evLen evStore evAlloc zAZ and_true true_and List.append_nil List.nil_append List.cons_append Ret resCv zBx yP cellM zBT zB3 qX StW StR hpT hpO hpV hpA hpL hpC sg nin zCD bdO tmW obW AvE CsE CvE Av.tup Av.ids Cv.ids inD ObE Ob.ids TrE.refl qH qx qy qM qN qO zm zb za yw zBd zCB zAy evCall argL argOf qj outOb obO yM zy cvO tot Tr.own rid partsOf fillC zT zBS frz frz1 evBuildSlice zc trs Cv.tr evSlice Option.toArray_none Option.toArray_some evMakeSlice evAppend dstOf srcOf zAq zA5 zA2 zA0 zA1 ikT qt qs qq qp RetP RetN zBe qR evLd evSt evStoreH zAP evAppendM evAppendT tlOf mvOf rowE shp evTake oOf evC evCallP evCallN evCallO unlast zAK zAp zAO argsF zCA qn pmC varT vT evField evConv dB0 Option.bind_some Option.bind_none Option.map_some Option.map_none Option.isSome_some Option.isSome_none
attribute [local go_sem] yF zY zAk yN qk zAS zAT zAU zAV zAW zAX yX yY yZ yb yd ye yf yg yG qe
attribute [-go_sem] zY
attribute [local go_sem] yV zBi zBj zAA yO
noncomputable def zbW:zW:=qZ (fun c:Int=>[iT c]) (fun _=>True) (fun c=>[wuO (yD c)])
theorem yI(c:Int):zbW [iT c]=some (True,[wuO (yD c)]):=zO (fun l=>qg (nth l 0 0)) (fun _=>rfl) c
theorem zCc:zw Tryz.prog 84 zbW:=by
 refine zQ zs GOk.nil zr Tryz.func84 rfl Tryz.ntmps84 Tryz.results84 3 ?_;intro c hc;refine⟨by simp,?_⟩;simp[go_sem,yD,noW,zCC]
open Classical in
noncomputable def zFO(W:zC)(x:ByteArray):Int:=if zBo W x then 5 else if 8<=W.sn then 6 else 0
noncomputable def zba:zW:=qZ (fun q:zC×ByteArray=>[woT q.1,sT q.2]) (fun q=>q.1.sn<=1000000) (fun q=>[iT (zFO q.1 q.2)])
theorem zTm(W:zC)(x:ByteArray):zba [woT W,sT x]=some (W.sn<=1000000,[iT (zFO W x)]):=zO (fun l=>(zC1 (nth l 0),zEA (nth l 1 0))) (fun _=>rfl) (W,x)
theorem zOM:zw Tryz.prog 86 zba:=by
 refine zQ zs (GOk.cons zDN (zE Tryz.func66 rfl rfl) GOk.nil) zr Tryz.func86 rfl Tryz.ntmps86 Tryz.results86 5 ?_;rintro⟨W,x⟩ hW;replace hW:W.sn<=1000000:=hW;refine⟨by simp,?_⟩;simp[go_sem,zAN,hW,zCu,zBa];refine⟨fun h=>(if_pos h).symm,fun h=>⟨fun h1=>?_,fun h1=>?_⟩⟩
 ·rw[zFO,if_neg h,if_pos (by omega)]
 ·rw[zFO,if_neg h,if_neg (by omega)]
noncomputable def zW0:zW:=qZ (fun q:zC×ByteArray×ByteArray=>[woT q.1,sT q.2.1,sT q.2.2]) (fun q=>q.1.pn<=1000000) (fun q=>bR (∃i,i<q.1.pn/\(q.1.zb9 i).set=q.2.1/\(q.1.zb9 i).name=q.2.2))
theorem zDv(W:zC)(x y:ByteArray):zW0 [woT W,sT x,sT y]=some (W.pn<=1000000,bR (∃i,i<W.pn/\(W.zb9 i).set=x/\(W.zb9 i).name=y)):=zO (fun l=>(zC1 (nth l 0),zEA (nth l 1 0),zEA (nth l 2 0))) (fun _=>rfl) (W,x,y)
theorem zKb:zw Tryz.prog 104 zW0:=by
 refine zQ zs GOk.nil zr Tryz.func104 rfl Tryz.ntmps104 Tryz.results104 8 ?_;rintro⟨W,x,y⟩ hn;replace hn:W.pn<=1000000:=hn;refine⟨by simp,?_⟩;simp[go_sem];refine yE (fun k:Nat=>⟨[(3,true,.m false [.p 3 0]),(1,true,.m false [.v (.string x)]),(2,true,.m false [.v (.string y)]),(7,true,.i k)],[(3,.var ((woL W).map Tr.cv))]⟩) (fun k=>W.pn - k) (fun k=>k<=W.pn/\∀i,i<k->¬((W.zb9 i).set=x/\(W.zb9 i).name=y)) 0 (by simp[go_sem]) (by simp) ?_;rintro k ⟨hk,aA⟩;simp[go_sem,qB (show k<=1000000000 by omega)];refine⟨fun hl=>⟨hl,fun _=>hl,fun h1 h2=>⟨k,hl,zCY h1,zCY h2⟩,fun h=>⟨k+1,⟨by omega,fun i hi=>?_⟩,by omega,rfl⟩⟩,fun hl i hi h1 h2=>aA i (by omega) ⟨h1,h2⟩⟩;by_cases e:i=k
 ·subst e;exact fun h1 h2=>h (congrArg ByteArray.toList h1) (congrArg ByteArray.toList h2)
 ·exact fun h1 h2=>aA i (by omega) ⟨h1,h2⟩
noncomputable def zbe:zW:=qZ (fun q:zC×ByteArray=>[woT q.1,sT q.2]) (fun q=>q.1.pn<=1000000) (fun q=>bR (∃i,i<q.1.pn/\(q.1.zb9 i).set=q.2))
theorem zTp(W:zC)(x:ByteArray):zbe [woT W,sT x]=some (W.pn<=1000000,bR (∃i,i<W.pn/\(W.zb9 i).set=x)):=zO (fun l=>(zC1 (nth l 0),zEA (nth l 1 0))) (fun _=>rfl) (W,x)
theorem zU6:zw Tryz.prog 108 zbe:=by
 refine zQ zs GOk.nil zr Tryz.func108 rfl Tryz.ntmps108 Tryz.results108 6 ?_;rintro⟨W,x⟩ hn;replace hn:W.pn<=1000000:=hn;refine⟨by simp,?_⟩;simp[go_sem];refine yE (fun k:Nat=>⟨[(2,true,.m false [.p 2 0]),(1,true,.m false [.v (.string x)]),(5,true,.i k)],[(2,.var ((woL W).map Tr.cv))]⟩) (fun k=>W.pn - k) (fun k=>k<=W.pn/\∀i,i<k->¬(W.zb9 i).set=x) 0 (by simp[go_sem]) (by simp) ?_;rintro k ⟨hk,aA⟩;simp[go_sem,qB (show k<=1000000000 by omega)];exact⟨fun hl=>⟨hl,fun h=>⟨k,hl,zCY h⟩,fun h=>⟨k+1,⟨by omega,qz hl aA fun e=>h (congrArg ByteArray.toList e)⟩,by omega,rfl⟩⟩,fun hl i hi=>aA i (by omega)⟩
noncomputable def zZ3:zW:=qZ (fun q:zC×List (Int×Int)=>(true,woV q.1) :: [psL q.2]) (fun q=>q.1.pool.hn+q.2.length<=1000000) (fun q=>[woO (zH1 q.1 q.2),iT q.2.length])
theorem zMW(W:zC)(l:List (Int×Int)):zZ3 ((true,woV W) :: [psL l])=some (W.pool.hn+l.length<=1000000,[woO (zH1 W l),iT l.length]):=zO (fun m=>(zC1 (nth m 0),zUl (nth m 1 0))) (fun q=>by exact congrArg (Prod.mk q.1) (zO4 q.2)) (W,l)
theorem zIZ:zBh Tryz.prog 107 zZ3:=by
 refine zBM zs GOk.nil zr Tryz.func107 rfl Tryz.ntmps107 Tryz.results107 6 ?_;rintro⟨W,l⟩ hn;replace hn:W.pool.hn+l.length<=1000000:=hn;refine⟨by simp,?_⟩;simp[go_sem];refine yE (fun k:Nat=>⟨[(5,true,.i k),(0,true,.m false [.p 0 0]),(1,true,.m false [.s .b 2 l.length (ptrsT (fun i=>zx l i) (fun i=>qS l i))])],[(0,.var [.h 1000,.h 2000,.v (.int .i64 W.time),.v (.int .i64 W.next),.h 5000,.h 6000]),(1000,.row 3 W.pool.n (zU .z W.pool.s)),(2000,.row 1 (yH W.pool (l.take k)).hn (qh (yH W.pool (l.take k)).h)),(5000,.row 6 W.sn (setsE .o W.zcC)),(6000,.row 8 W.pn (snapsE .z W.zb9))]⟩) (fun k=>l.length - k) (fun k=>k<=l.length) 0 (by simp[go_sem,yH]) (Nat.zero_le _) ?_;intro k hk;obtain⟨p,hp⟩:∃p,p=yH W.pool (l.take k):=⟨_,rfl⟩;have bA:p.hn=W.pool.hn+k:=by rw[hp,(zB0 _ _).2.2,List.length_take,Nat.min_eq_left hk]
 have aA:k<l.length->yH W.pool (l.take (k+1))=zG3 p (zx l k):=fun h=>by
  rw[hp,List.take_succ_eq_append_getElem h,zGM,<-zQW];simp[h]
 rw[<-hp];simp[go_sem,qB (show k<=1000000000 by omega)];refine⟨fun hl=>⟨hl,by omega,by kernel_rfl,k+1,hl,by omega,rfl,?_⟩,fun hl=>?_⟩
 ·rw[aA hl];exact zJz
 ·cases (show k=l.length by omega);rw[List.take_length]at hp;subst hp;obtain⟨e1,e2,-⟩:=zB0 l W.pool;refine⟨⟨?_,zR⟩,⟨TrE.refl _,zX⟩,rfl,rfl,⟨TrE.refl _,zp⟩,TrE.refl _,zd⟩;show TrE _ (Tr.s .o 3 (yH W.pool l).n (zU .z (yH W.pool l).s));rw[e1,e2];exact TrE.refl _
open Classical in
noncomputable def zHq(W:zC)(x:ByteArray):Nat:=if h:∃k,k<W.sn/\¬zC8 (W.zcC k).name x/\∀j,j<k->zC8 (W.zcC j).name x then h.choose else W.sn
theorem zP6{W:zC}{x:ByteArray}{k:Nat}(h:k<W.sn)(h1:¬zC8 (W.zcC k).name x)(h2:∀j,j<k->zC8 (W.zcC j).name x):zHq W x=k:=by
 have hx:∃k,k<W.sn/\¬zC8 (W.zcC k).name x/\∀j,j<k->zC8 (W.zcC j).name x:=⟨k,h,h1,h2⟩;unfold zHq;rw[dif_pos hx];obtain⟨-,g1,g2⟩:=hx.choose_spec;rcases Nat.lt_trichotomy hx.choose k with e | e | e
 ·exact absurd (h2 _ e) g1
 ·exact e
 ·exact absurd (g2 _ e) h1
theorem zYX{W:zC}{x:ByteArray}(h:∀j,j<W.sn->zC8 (W.zcC j).name x):zHq W x=W.sn:=dif_neg fun ⟨k,h1,h2,_⟩=>h2 (h k h1)
abbrev zDw(a:ByteArray)(o p rs rb:Int):zAJ:=⟨a,o,p,rs,rb,0,fun _=>0,fun _=>0⟩
noncomputable def zbT:zW:=qZ (fun q:(zC×ByteArray)×Int×Int×Int×Int=>(true,woV q.1.1) :: [(true,[.v (.string q.1.2),.v (.int .i64 q.2.1),.v (.int .i64 q.2.2.1),.v (.int .i64 q.2.2.2.1),.v (.int .i64 q.2.2.2.2),.v n0])]) (fun q=>q.1.1.sn<=1000000) (fun q=>[woO (zGD q.1.1 (zHq q.1.1 q.1.2) (zDw q.1.2 q.2.1 q.2.2.1 q.2.2.2.1 q.2.2.2.2))])
theorem zTf(W:zC)(x:ByteArray)(o p rs rb:Int):zbT ((true,woV W) :: [(true,[.v (.string x),.v (.int .i64 o),.v (.int .i64 p),.v (.int .i64 rs),.v (.int .i64 rb),.v n0])])=some (W.sn<=1000000,[woO (zGD W (zHq W x) (zDw x o p rs rb))]):=zO (fun m=>((zC1 (nth m 0),zEA (nth m 1 0)),qg (nth m 1 1),qg (nth m 1 2),qg (nth m 1 3),qg (nth m 1 4))) (fun _=>rfl) ((W,x),o,p,rs,rb)
theorem zOL:zBh Tryz.prog 87 zbT:=by
 refine zBM zs GOk.nil zr Tryz.func87 rfl Tryz.ntmps87 Tryz.results87 6 ?_;rintro⟨⟨W,x⟩,o,p,rs,rb⟩ hn;replace hn:W.sn<=1000000:=hn;refine⟨by simp,?_⟩;simp[go_sem];refine yE (fun k:Nat=>⟨[(4,true,.i k),(0,true,.m false [.p 0 0]),(3,true,.m false [.p 3 0])],[(3,.var [.v (.string x),.v (.int .i64 o),.v (.int .i64 p),.v (.int .i64 rs),.v (.int .i64 rb),.v n0]),(0,.var [.h 1000,.h 2000,.v (.int .i64 W.time),.v (.int .i64 W.next),.h 5000,.h 6000]),(1000,.row 3 W.pool.n (zU .z W.pool.s)),(2000,.row 1 W.pool.hn (qh W.pool.h)),(5000,.row 6 W.sn (setsE .o W.zcC)),(6000,.row 8 W.pn (snapsE .z W.zb9))]⟩) (fun k=>W.sn - k) (fun k=>k<=W.sn/\∀j,j<k->zC8 (W.zcC j).name x) 0 (by simp[go_sem]) (by simp) ?_;rintro k ⟨hk,aA⟩;simp[go_sem,qB (show k<=1000000000 by omega)];refine⟨by kernel_rfl,fun hl h=>⟨k+1,⟨hl,qz hl aA h⟩,by omega,rfl⟩,fun h=>?_⟩;have hK:zHq W x=k:=by
  by_cases hl:k<W.sn
  ·exact zP6 hl (fun e=>by have:=h hl;unfold zC8 at e;rw[this]at e;simp at e) aA
  ·rw[zYX fun j hj=>aA j (by omega)];omega
 rw[hK];refine⟨hk,⟨hk,by omega⟩,by omega,hk,⟨by omega,by omega⟩,⟨TrE.refl _,zR⟩,⟨TrE.refl _,zX⟩,rfl,rfl,⟨?_,zp⟩,TrE.refl _,zd⟩;refine⟨.inl rfl,rfl,by show k+1+(W.sn - k)=W.sn+1;omega,fun i j hi hj=>?_⟩;show TrE _ (setsE .o (ins W.zcC k (zDw x o p rs rb)) i j);rcases Nat.lt_trichotomy i k with e | e | e
 ·have:setsE .o (ins W.zcC k (zDw x o p rs rb)) i j=setsE .o W.zcC i j:=by
   unfold setsE;rw[zWb e]
  rw[this];exact TrE.of_eq (by simp[yU,e,show i<k+1 by omega])
 ·subst e;have:setsE .o (ins W.zcC i (zDw x o p rs rb)) i j=setsE .o (fun _=>zDw x o p rs rb) i j:=by
   unfold setsE;rw[zWZ]
  rw[this]
  match j,hj with
  | 0,_ | 1,_ | 2,_ | 3,_ | 4,_=>exact TrE.of_eq (by simp[yU,setsE])
  | 5,_=>simp[yU,setsE,TrE]
 ·have:setsE .o (ins W.zcC k (zDw x o p rs rb)) i j=setsE .o W.zcC (i - 1) j:=by
   unfold setsE;rw[zWa e]
  rw[this];refine TrE.of_eq ?_;simp[yU,ntR,show ¬i<k+1 by omega,show k+(i - (k+1))=i - 1 by omega,show ¬i - 1<k by omega]
set_option maxRecDepth 20000
set_option maxHeartbeats 3200000
open Classical in
noncomputable def zCU(W:zC)(x:ByteArray):zDX:=if 8000<x.size then yD 2 else if zB9 W/\zDT x then(if zFO W x=0 then⟨zGD W (zHq W x) (zDw x 0 0 0 0),0,0,0⟩else yD (zFO W x))else yD 1
theorem yJ{o o':zDX}(h:o'=o):(TrE (.s .o 3 o.world.pool.n (zU .z o.world.pool.s)) (.s .o 3 o'.world.pool.n (zU .z o'.world.pool.s))/\(Tr.s .o 3 o'.world.pool.n (zU .z o'.world.pool.s)).kept)/\(TrE (.s .o 1 o.world.pool.hn (qh o.world.pool.h)) (.s .o 1 o'.world.pool.hn (qh o'.world.pool.h))/\(Tr.s .o 1 o'.world.pool.hn (qh o'.world.pool.h)).kept)/\o.world.time=o'.world.time/\o.world.next=o'.world.next/\(TrE (.s .o 6 o.world.sn (setsE .o o.world.zcC)) (.s .o 6 o'.world.sn (setsE .o o'.world.zcC))/\(Tr.s .o 6 o'.world.sn (setsE .o o'.world.zcC)).kept)/\(TrE (.s .o 8 o.world.pn (snapsE .z o.world.zb9)) (.s .o 8 o'.world.pn (snapsE .z o'.world.zb9))/\(Tr.s .o 8 o'.world.pn (snapsE .z o'.world.zb9)).kept)/\o.id=o'.id/\o.many=o'.many/\o.code=o'.code:=by
 subst h;exact⟨⟨TrE.refl _,zR⟩,⟨TrE.refl _,zX⟩,rfl,rfl,⟨TrE.refl _,zp⟩,⟨TrE.refl _,zd⟩,rfl,rfl,rfl⟩
theorem zOE{W:zC}{x:Int}(h:zCO W x):(zBl W.pn fun k=>(W.zb9 k).id=x)<W.pn:=by
 rcases zLz (zJB W.pn fun k=>(W.zb9 k).id=x)with⟨-,-,h1,-⟩ | ⟨h',-⟩
 ·exact h1
 ·exact absurd h h'
theorem zHL{W:zC}{x:ByteArray}(h:zBo W x):(zBl W.sn fun k=>(W.zcC k).name=x)<W.sn:=by
 rcases zJB W.sn fun k=>(W.zcC k).name=x with⟨k,h1,-,-,h2⟩ | ⟨h1,h2⟩
 ·omega
 ·have:=zBa.2 h;omega
attribute [local go_sem] qW List.map_cons List.map_nil Tr.cv yo qG qw qv yn ym yk qu zAv zAx zAw zAs zAu zAt zCK zCM zCL qK zn qL zo qE qD qP yx zk zl yB qJ tmpsOf zAf yA qI zAr yu yq yp yr stpP opds opd opdC kap zAE qF zj coreU bin zAY zB6 get put dlO fgt zA6 zAz zA3 zA4 tyT yj yi Op.operands Call.operands evLoad evLen evStore evAlloc zAZ and_true true_and List.append_nil List.nil_append List.cons_append Ret resCv zBx yP cellM zBT zB3 qX StW StR hpT hpO hpV hpA hpL hpC sg nin zCD bdO tmW obW AvE CsE CvE Av.tup Av.ids Cv.ids inD ObE Ob.ids TrE.refl qH qx qy qM qN qO zm zb za yw zBd zCB zAy evCall argL argOf qj outOb obO yM zy cvO tot Tr.own rid partsOf fillC zT zBS frz frz1 evBuildSlice zc trs Cv.tr evSlice Option.toArray_none Option.toArray_some evMakeSlice evAppend dstOf srcOf zAq zA5 zA2 zA0 zA1 ikT qt qs qq qp RetP RetN zBe qR evLd evSt evStoreH zAP evAppendM evAppendT tlOf mvOf rowE shp evTake oOf evC evCallP evCallN evCallO unlast zAK zAp zAO argsF zCA qn pmC varT vT evField evConv dB0 Option.bind_some Option.bind_none Option.map_some Option.map_none Option.isSome_some Option.isSome_none
attribute [local go_sem] yF zY zAk yN qk zAS zAT zAU zAV zAW zAX yX yY yZ yb yd ye yf yg yG qe
attribute [-go_sem] zY
attribute [local go_sem] yV zBi zBj zAA yO
noncomputable def zTs:zW:=qZ (fun q:zC×ByteArray=>[woT q.1,sT q.2]) (fun q=>qU q.1) (fun q=>[wuO (zCU q.1 q.2)])
theorem zIc(W:zC)(x:ByteArray):zTs [woT W,sT x]=some (qU W,[wuO (zCU W x)]):=zO (fun l=>(zC1 (nth l 0),zEA (nth l 1 0))) (fun _=>rfl) (W,x)
theorem zJo:zw Tryz.prog 48 zTs:=by
 refine zQ zs (GOk.cons zBs (zE Tryz.func27 rfl rfl) (GOk.cons zA8 (zE Tryz.func32 rfl rfl) (GOk.cons zCc (zE Tryz.func84 rfl rfl) (GOk.cons zET (zE Tryz.func85 rfl rfl) (GOk.cons zOM (zE Tryz.func86 rfl rfl) (GOk.ptr zOL (zE Tryz.func87 rfl rfl) GOk.nil)))))) zr Tryz.func48 rfl Tryz.ntmps48 Tryz.results48 7 ?_;rintro⟨W,x⟩ hW;replace hW:qU W:=hW;have hs:=hW.sn;refine⟨by simp,?_⟩;simp[go_sem,yL,zBC,yI,zDd,zTm,zTf,hW,hW.toSmallW,hs];refine⟨fun h=>?_,fun h=>⟨fun h1=>?_,fun h1 h2=>⟨fun h3=>?_,fun h3=>?_⟩⟩⟩
 ·exact yJ (if_pos (by omega))
 ·exact yJ ((if_neg (by omega)).trans (if_neg fun e=>h1.elim (fun h=>h e.1) (fun h=>h e.2)))
 ·exact yJ ((if_neg (by omega)).trans ((if_pos ⟨h1,h2⟩).trans (if_neg h3)))
 ·exact yJ (o:=⟨zGD W (zHq W x) (zDw x 0 0 0 0),0,0,0⟩) ((if_neg (by omega)).trans ((if_pos ⟨h1,h2⟩).trans (if_pos h3)))
open Classical in
noncomputable def zEf(W:zC)(x:Int)(a:ByteArray):zDX:=if 8000<a.size then yD 2 else if zB9 W/\zDT a then(if zCO W x then(if zFO W a=0 then⟨zGD W (zHq W a) (zDw a x x (W.zb9 (zBl W.pn fun k=>(W.zb9 k).id=x).toNat).rs (W.zb9 (zBl W.pn fun k=>(W.zb9 k).id=x).toNat).rb),0,0,0⟩else yD (zFO W a))else yD 4)else yD 1
noncomputable def zWu:zW:=qZ (fun q:zC×Int×ByteArray=>[woT q.1,iT q.2.1,sT q.2.2]) (fun q=>qU q.1) (fun q=>[wuO (zEf q.1 q.2.1 q.2.2)])
theorem zVC(W:zC)(x:Int)(a:ByteArray):zWu [woT W,iT x,sT a]=some (qU W,[wuO (zEf W x a)]):=zO (fun l=>(zC1 (nth l 0),qg (nth l 1 0),zEA (nth l 2 0))) (fun _=>rfl) (W,x,a)
theorem zPv:zw Tryz.prog 76 zWu:=by
 refine zQ zs (GOk.cons zBs (zE Tryz.func27 rfl rfl) (GOk.cons zA8 (zE Tryz.func32 rfl rfl) (GOk.cons zDI (zE Tryz.func68 rfl rfl) (GOk.cons zCc (zE Tryz.func84 rfl rfl) (GOk.cons zET (zE Tryz.func85 rfl rfl) (GOk.cons zOM (zE Tryz.func86 rfl rfl) (GOk.ptr zOL (zE Tryz.func87 rfl rfl) GOk.nil))))))) zr Tryz.func76 rfl Tryz.ntmps76 Tryz.results76 10 ?_;rintro⟨W,x,a⟩ hW;replace hW:qU W:=hW;have hs:=hW.sn;have hp:=hW.pn;refine⟨by simp,?_⟩;simp[go_sem,yL,zBC,zCI,yI,zDd,zTm,zTf,hW,hW.toSmallW,hs,hp,zOF,zME];refine⟨fun h=>?_,fun h=>⟨fun h1=>?_,fun h1 h2=>⟨fun h3=>?_,fun h3=>?_⟩⟩⟩
 ·exact yJ (if_pos (by omega))
 ·exact yJ ((if_neg (by omega)).trans (if_neg fun e=>h1.elim (fun h=>h e.1) (fun h=>h e.2)))
 ·exact yJ ((if_neg (by omega)).trans ((if_pos ⟨h1,h2⟩).trans (if_neg h3)))
 ·refine⟨fun h4=>?_,fun h4=>⟨⟨h3,zOE h3⟩,?_⟩⟩
  ·exact yJ ((if_neg (by omega)).trans ((if_pos ⟨h1,h2⟩).trans ((if_pos h3).trans (if_neg h4))))
  ·exact yJ (o:=⟨zGD W (zHq W a) (zDw a x x (W.zb9 (zBl W.pn fun k=>(W.zb9 k).id=x).toNat).rs (W.zb9 (zBl W.pn fun k=>(W.zb9 k).id=x).toNat).rb),0,0,0⟩) ((if_neg (by omega)).trans ((if_pos ⟨h1,h2⟩).trans ((if_pos h3).trans (if_pos h4))))
set_option maxRecDepth 20000
set_option maxHeartbeats 3200000
noncomputable abbrev zCJ (W:zC) (x:ByteArray):Nat:=(zBl W.sn fun k=>(W.zcC k).name=x).toNat
noncomputable abbrev zH5 (W:zC) (x:Int):Nat:=(zBl W.pn fun k=>(W.zb9 k).id=x).toNat
open Classical in
noncomputable def zEJ(W:zC)(set name:ByteArray):zDX:=if 8000<set.size\/8000<name.size then yD 2 else if zB9 W/\zDT name then(if zBo W set then(if ∃i,i<W.pn/\(W.zb9 i).set=set/\(W.zb9 i).name=name then yD 5 else if 20<=W.pn\/900000<=W.time\/900000<=W.next then yD 6 else⟨zRV W (zCJ W set) name set,W.next,0,0⟩)else yD 4)else yD 1
theorem zYN{x:Int}(h:0<=x)(h':x<1000000):IntKind.i64.wrap (x+1)=x+1:=by
 unfold IntKind.wrap;simp[IntKind.signed,IntKind.bits];omega
attribute [local go_sem] qW List.map_cons List.map_nil Tr.cv yo qG qw qv yn ym yk qu zAv zAx zAw zAs zAu zAt zCK zCM zCL qK zn qL zo qE qD qP yx zk zl yB qJ tmpsOf zAf yA qI zAr yu yq yp yr stpP opds opd opdC kap zAE qF zj coreU bin zAY zB6 get put dlO fgt zA6 zAz zA3 zA4 tyT yj yi Op.operands Call.operands evLoad evLen evStore evAlloc zAZ and_true true_and List.append_nil List.nil_append List.cons_append Ret resCv zBx yP cellM zBT zB3 qX StW StR hpT hpO hpV hpA hpL hpC sg nin zCD bdO tmW obW AvE CsE CvE Av.tup Av.ids Cv.ids inD ObE Ob.ids TrE.refl qH qx qy qM qN qO zm zb za yw zBd zCB zAy evCall argL argOf qj outOb obO yM zy cvO tot Tr.own rid partsOf fillC zT zBS frz frz1 evBuildSlice zc trs Cv.tr evSlice Option.toArray_none Option.toArray_some evMakeSlice evAppend dstOf srcOf zAq zA5 zA2 zA0 zA1 ikT qt qs qq qp RetP RetN zBe qR evLd evSt evStoreH zAP evAppendM evAppendT tlOf mvOf rowE shp evTake oOf evC evCallP evCallN evCallO unlast zAK zAp zAO argsF zCA qn pmC varT vT evField evConv dB0 Option.bind_some Option.bind_none Option.map_some Option.map_none Option.isSome_some Option.isSome_none
attribute [local go_sem] yF zY zAk yN qk zAS zAT zAU zAV zAW zAX yX yY yZ yb yd ye yf yg yG qe
attribute [-go_sem] zY
attribute [local go_sem] yV zBi zBj zAA yO
noncomputable def zQ4:zW:=qZ (fun q:zC×ByteArray×ByteArray=>[woT q.1,sT q.2.1,sT q.2.2]) (fun q=>qU q.1) (fun q=>[wuO (zEJ q.1 q.2.1 q.2.2)])
theorem zQ5(W:zC)(x a:ByteArray):zQ4 [woT W,sT x,sT a]=some (qU W,[wuO (zEJ W x a)]):=zO (fun l=>(zC1 (nth l 0),zEA (nth l 1 0),zEA (nth l 2 0))) (fun _=>rfl) (W,x,a)
theorem zRs:zw Tryz.prog 73 zQ4:=by
 refine zQ zs (GOk.cons zBs (zE Tryz.func27 rfl rfl) (GOk.cons zA8 (zE Tryz.func32 rfl rfl) (GOk.cons zDN (zE Tryz.func66 rfl rfl) (GOk.cons zCc (zE Tryz.func84 rfl rfl) (GOk.cons zET (zE Tryz.func85 rfl rfl) (GOk.cons zKb (zE Tryz.func104 rfl rfl) GOk.nil)))))) zr Tryz.func73 rfl Tryz.ntmps73 Tryz.results73 10 ?_;rintro⟨W,x,a⟩ hW;replace hW:qU W:=hW;have hs:=hW.sn;have hp:=hW.pn;refine⟨by simp,?_⟩;by_cases h8:8000<x.size\/8000<a.size
 ·have dA:(8000:Int)<x.size\/(8000:Int)<a.size:=(by omega);simp[go_sem,yI,dA];exact⟨yJ (if_pos h8),fun h h'=>absurd h8 (by omega)⟩
 have aA:¬(8000:Int)<x.size:=by omega
 have bA:¬(8000:Int)<a.size:=by omega
 by_cases hR:zB9 W/\zDT a;rotate_left
 ·simp[go_sem,yL,zBC,zAN,yI,zDd,zDv,hW,hW.toSmallW,hs,hp,zCu,zBa,aA,bA];refine⟨fun _=>yJ ((if_neg h8).trans (if_neg hR)),fun h h'=>absurd ⟨h,h'⟩ hR⟩
 obtain⟨hR,hN⟩:=hR;by_cases hH:zBo W x;rotate_left
 ·simp[go_sem,yL,zBC,zAN,yI,zDd,zDv,hW,hW.toSmallW,hs,hp,zCu,zBa,aA,bA,hR,hN,hH];exact yJ ((if_neg h8).trans ((if_pos ⟨hR,hN⟩).trans (if_neg hH)))
 by_cases hE:∃i,i<W.pn/\(W.zb9 i).set=x/\(W.zb9 i).name=a
 ·simp[go_sem,yL,zBC,zAN,yI,zDd,zDv,hW,hW.toSmallW,hs,hp,zCu,zBa,aA,bA,hR,hN,hH,hE];exact yJ ((if_neg h8).trans ((if_pos ⟨hR,hN⟩).trans ((if_pos hH).trans (if_pos hE))))
 by_cases hF:20<=W.pn\/900000<=W.time\/900000<=W.next
 ·simp[go_sem,yL,zBC,zAN,yI,zDd,zDv,hW,hW.toSmallW,hs,hp,zCu,zBa,aA,bA,hR,hN,hH,hE];refine⟨fun _=>yJ ((if_neg h8).trans ((if_pos ⟨hR,hN⟩).trans ((if_pos hH).trans ((if_neg hE).trans (if_pos hF))))),fun h h' jA=>absurd hF (by omega)⟩
 have eA:¬(20:Int)<=W.pn:=by omega
 have fA:¬900000<=W.time:=by omega
 have gA:¬900000<=W.next:=by omega
 have hk:=zHL hH;simp[go_sem,yL,zBC,zAN,yI,zDd,zDv,hW,hW.toSmallW,hs,hp,zCu,zBa,aA,bA,hR,hN,hH,hE,eA,fA,gA];have eE:zEJ W x a=⟨zRV W (zCJ W x) a x,W.next,0,0⟩:=by
  unfold zEJ;rw[if_neg h8,if_pos ⟨hR,hN⟩,if_pos hH,if_neg hE,if_neg hF]
 rw[eE];have iA:zCJ W x<W.sn:=by have:=zBa.2 hH;show(zBl W.sn fun k=>(W.zcC k).name=x).toNat<W.sn;omega
 obtain⟨k,cA⟩:∃k,k=zCJ W x:=⟨_,rfl⟩;rw[<-cA]at iA ⊢;refine⟨hk,by omega,hk,⟨TrE.refl _,zR⟩,⟨TrE.refl _,zX⟩,?_⟩;rw[show(zBl W.sn fun k=>(W.zcC k).name=x).toNat=k from cA.symm];refine⟨zYN (by have:=hR.zcE.1.1;omega) (by omega),zYN (by have:=hR.zcE.2.1.1;omega) (by omega),⟨⟨.inl rfl,rfl,rfl,fun i j hi hj=>?_⟩,zp⟩,⟨⟨.inl rfl,rfl,rfl,fun i j hi hj=>?_⟩,zd⟩,rfl,rfl,rfl⟩
 ·show TrE _ (setsE .o (fun j=>if j=k then {W.zcC k with zcD:=W.next,dn:=0}else W.zcC j) i j);by_cases e:i=k
  ·subst e
   match j,hj with
   | 0,_ | 1,_ | 2,_ | 3,_ | 4,_=>exact TrE.of_eq (by simp[yK,setsE])
   | 5,_=>simp[yK,setsE,TrE]
  ·exact TrE.of_eq (by unfold setsE;simp[yK,e])
 ·show TrE _ (snapsE .z (fun j=>if j=W.pn then zF2 W k a x else W.zb9 j) i j);by_cases e:i<W.pn
  ·exact TrE.of_eq (by unfold snapsE;simp[yU,e,show i≠W.pn by omega])
  ·cases (show i=W.pn by omega)
   match j,hj with
   | 0,_ | 1,_ | 2,_ | 3,_ | 4,_ | 5,_ | 6,_=>exact TrE.of_eq (by simp[yU,snapsE,zF2,Tr.nt])
   | 7,_=>exact TrE.of_eq (by simp[yU,snapsE,zF2,Tr.nt])
set_option maxRecDepth 20000
set_option maxHeartbeats 3200000
noncomputable def zHo(W:zC)(k:Nat)(t:Int):List (Int×Int):=zAc (fun i=>zx (zN W.pool (W.zcC k).rs (W.zcC k).rb) i) (fun i=>qS (zN W.pool (W.zcC k).rs (W.zcC k).rb) i) t (zN W.pool (W.zcC k).rs (W.zcC k).rb).length
noncomputable def zbL(W:zC)(k j:Nat):zC:={zH1 W (zHo W k (W.zb9 j).time)with zcC:=fun i=>if i=k then {W.zcC k with rs:=(W.zb9 j).rs,rb:=(W.zb9 j).rb,dn:=0}else W.zcC i}
open Classical in
noncomputable def zUL(W:zC)(k:Nat)(x:ByteArray):zDX:=if zCO W (W.zcC k).zcD/\(W.zb9 (zH5 W (W.zcC k).zcD)).set=x then⟨zbL W k (zH5 W (W.zcC k).zcD),0,(zHo W k (W.zb9 (zH5 W (W.zcC k).zcD)).time).length,0⟩else yD 4
open Classical in
noncomputable def zKg(W:zC)(x:ByteArray):zDX:=if 8000<x.size then yD 2 else if zB9 W then(if zBo W x then zUL W (zCJ W x) x else yD 4)else yD 1
theorem zBv(f g:Nat->Int)(t:Int)(n:Nat):(zAc f g t n).length<=n:=by
 have:=zF5 f g t n;omega
attribute [local go_sem] qW List.map_cons List.map_nil Tr.cv yo qG qw qv yn ym yk qu zAv zAx zAw zAs zAu zAt zCK zCM zCL qK zn qL zo qE qD qP yx zk zl yB qJ tmpsOf zAf yA qI zAr yu yq yp yr stpP opds opd opdC kap zAE qF zj coreU bin zAY zB6 get put dlO fgt zA6 zAz zA3 zA4 tyT yj yi Op.operands Call.operands evLoad evLen evStore evAlloc zAZ and_true true_and List.append_nil List.nil_append List.cons_append Ret resCv zBx yP cellM zBT zB3 qX StW StR hpT hpO hpV hpA hpL hpC sg nin zCD bdO tmW obW AvE CsE CvE Av.tup Av.ids Cv.ids inD ObE Ob.ids TrE.refl qH qx qy qM qN qO zm zb za yw zBd zCB zAy evCall argL argOf qj outOb obO yM zy cvO tot Tr.own rid partsOf fillC zT zBS frz frz1 evBuildSlice zc trs Cv.tr evSlice Option.toArray_none Option.toArray_some evMakeSlice evAppend dstOf srcOf zAq zA5 zA2 zA0 zA1 ikT qt qs qq qp RetP RetN zBe qR evLd evSt evStoreH zAP evAppendM evAppendT tlOf mvOf rowE shp evTake oOf evC evCallP evCallN evCallO unlast zAK zAp zAO argsF zCA qn pmC varT vT evField evConv dB0 Option.bind_some Option.bind_none Option.map_some Option.map_none Option.isSome_some Option.isSome_none
attribute [local go_sem] yF zY zAk yN qk zAS zAT zAU zAV zAW zAX yX yY yZ yb yd ye yf yg yG qe
attribute [-go_sem] zY
attribute [local go_sem] yV zBi zBj zAA yO
noncomputable def zaF:zW:=qZ (fun q:zC×ByteArray=>[woT q.1,sT q.2]) (fun q=>qU q.1) (fun q=>[wuO (zKg q.1 q.2)])
theorem zW9(W:zC)(x:ByteArray):zaF [woT W,sT x]=some (qU W,[wuO (zKg W x)]):=zO (fun l=>(zC1 (nth l 0),zEA (nth l 1 0))) (fun _=>rfl) (W,x)
theorem zP0:zw Tryz.prog 78 zaF:=by
 refine zQ zs (GOk.cons zBs (zE Tryz.func27 rfl rfl) (GOk.cons zA8 (zE Tryz.func32 rfl rfl) (GOk.cons zDN (zE Tryz.func66 rfl rfl) (GOk.cons zDI (zE Tryz.func68 rfl rfl) (GOk.cons zCc (zE Tryz.func84 rfl rfl) (GOk.cons zDH (zE Tryz.func99 rfl rfl) (GOk.cons zFM (zE Tryz.func106 rfl rfl) (GOk.ptr zIZ (zE Tryz.func107 rfl rfl) GOk.nil)))))))) zr Tryz.func78 rfl Tryz.ntmps78 Tryz.results78 11 ?_;rintro⟨W,x⟩ hW;replace hW:qU W:=hW;have hs:=hW.sn;have hp:=hW.pn;refine⟨by simp,?_⟩;by_cases h8:8000<x.size
 ·simp[go_sem,yI,show(8000:Int)<x.size by omega];exact yJ (if_pos h8)
 have bA:¬(8000:Int)<x.size:=by omega
 by_cases hR:zB9 W;rotate_left
 ·simp[go_sem,yL,zBC,zAN,yI,hW,hW.toSmallW,hs,hp,zCu,zBa,bA,hR];exact yJ ((if_neg h8).trans (if_neg hR))
 by_cases hH:zBo W x;rotate_left
 ·simp[go_sem,yL,zBC,zAN,yI,hW,hW.toSmallW,hs,hp,zCu,zBa,bA,hR,hH];exact yJ ((if_neg h8).trans ((if_pos hR).trans (if_neg hH)))
 have hk:=zHL hH;have eA:=zBa.2 hH;have aA:zCJ W x<W.sn:=by show(zBl W.sn fun k=>(W.zcC k).name=x).toNat<W.sn;omega
 obtain⟨k,cA⟩:∃k,k=zCJ W x:=⟨_,rfl⟩;have dA:(zBl W.sn fun k=>(W.zcC k).name=x)=(k:Int):=by rw[cA];show _=((zBl W.sn fun k=>(W.zcC k).name=x).toNat:Int);omega
 rw[<-cA]at aA;have hT:=(hR.zcC k aA).1;simp[go_sem,yL,zBC,zAN,zCI,yI,zEG,zFq,zMW,hW,hW.toSmallW,hs,hp,dA,bA,hR,hR.right,hT,aA,zOF,zME];have eR:zKg W x=zUL W k x:=by
  unfold zKg;rw[if_neg h8,if_pos hR,if_pos hH,<-cA]
 refine⟨fun h=>absurd h (by omega),by kernel_rfl,fun h=>⟨h,zOE h⟩,fun h=>?_,fun h1 h2=>?_⟩
 ·exact yJ (eR.trans (if_neg fun e=>h.elim (fun h=>h e.1) (fun h=>h (congrArg ByteArray.toList e.2))))
 rw[eR,zUL,if_pos ⟨h1,zCY h2⟩];have hn:=zG2 hR.right;refine⟨⟨h1,zOE h1⟩,Nat.le_trans (yR ..) (by omega),by kernel_rfl,?_,⟨h1,zOE h1⟩,aA,by kernel_rfl,aA,⟨TrE.refl _,zR⟩,⟨TrE.refl _,zX⟩,rfl,rfl,⟨⟨.inl rfl,rfl,rfl,fun i j hi hj=>?_⟩,zp⟩,⟨TrE.refl _,zd⟩,rfl,rfl,rfl⟩
 ·have hl:(zN W.pool (W.zcC k).rs (W.zcC k).rb).length<=73:=yR ..;exact Nat.le_trans (Nat.add_le_add_left (Nat.le_trans (zBv ..) hl) _) (by omega)
 show TrE _ (setsE .o (fun i=>if i=k then {W.zcC k with rs:=(W.zb9 (zH5 W (W.zcC k).zcD)).rs,rb:=(W.zb9 (zH5 W (W.zcC k).zcD)).rb,dn:=0}else W.zcC i) i j);by_cases e:i=k
 ·subst e
  match j,hj with
  | 0,_ | 1,_ | 2,_ | 3,_ | 4,_=>exact TrE.of_eq (by simp[yK,setsE,zH1])
  | 5,_=>simp[yK,setsE,TrE]
 ·exact TrE.of_eq (by unfold setsE;simp[yK,e,zH1])
set_option maxRecDepth 20000
set_option maxHeartbeats 3200000
noncomputable def zZs(W:zC)(k:Nat):zC:={zH1 W (zHo W k (zI W (W.zcC k).zcD).time)with sn:=W.sn - 1,zcC:=fun i=>if i<k then W.zcC i else W.zcC (i+1)}
open Classical in
noncomputable def zKS(W:zC)(x:ByteArray):zDX:=if 8000<x.size then yD 2 else if zB9 W then(if zBo W x then(if ∃i,i<W.pn/\(W.zb9 i).set=x then yD 7 else⟨zZs W (zCJ W x),0,(zHo W (zCJ W x) (zI W (W.zcC (zCJ W x)).zcD).time).length,0⟩)else yD 4)else yD 1
theorem zQe{W:zC}{l:List (Int×Int)}:(zH1 W l).sn=W.sn:=rfl
theorem zMA{W:zC}{l:List (Int×Int)}:(zH1 W l).zcC=W.zcC:=rfl
theorem zQd{W:zC}{l:List (Int×Int)}:(zH1 W l).pn=W.pn:=rfl
theorem zKV{W:zC}{l:List (Int×Int)}:(zH1 W l).zb9=W.zb9:=rfl
attribute [local go_sem] qW List.map_cons List.map_nil Tr.cv yo qG qw qv yn ym yk qu zAv zAx zAw zAs zAu zAt zCK zCM zCL qK zn qL zo qE qD qP yx zk zl yB qJ tmpsOf zAf yA qI zAr yu yq yp yr stpP opds opd opdC kap zAE qF zj coreU bin zAY zB6 get put dlO fgt zA6 zAz zA3 zA4 tyT yj yi Op.operands Call.operands evLoad evLen evStore evAlloc zAZ and_true true_and List.append_nil List.nil_append List.cons_append Ret resCv zBx yP cellM zBT zB3 qX StW StR hpT hpO hpV hpA hpL hpC sg nin zCD bdO tmW obW AvE CsE CvE Av.tup Av.ids Cv.ids inD ObE Ob.ids TrE.refl qH qx qy qM qN qO zm zb za yw zBd zCB zAy evCall argL argOf qj outOb obO yM zy cvO tot Tr.own rid partsOf fillC zT zBS frz frz1 evBuildSlice zc trs Cv.tr evSlice Option.toArray_none Option.toArray_some evMakeSlice evAppend dstOf srcOf zAq zA5 zA2 zA0 zA1 ikT qt qs qq qp RetP RetN zBe qR evLd evSt evStoreH zAP evAppendM evAppendT tlOf mvOf rowE shp evTake oOf evC evCallP evCallN evCallO unlast zAK zAp zAO argsF zCA qn pmC varT vT evField evConv dB0 Option.bind_some Option.bind_none Option.map_some Option.map_none Option.isSome_some Option.isSome_none
attribute [local go_sem] yF zY zAk yN qk zAS zAT zAU zAV zAW zAX yX yY yZ yb yd ye yf yg yG qe
attribute [-go_sem] zY
attribute [local go_sem] yV zBi zBj zAA yO
noncomputable def zZz:zW:=qZ (fun q:zC×ByteArray=>[woT q.1,sT q.2]) (fun q=>qU q.1) (fun q=>[wuO (zKS q.1 q.2)])
theorem zWw(W:zC)(x:ByteArray):zZz [woT W,sT x]=some (qU W,[wuO (zKS W x)]):=zO (fun l=>(zC1 (nth l 0),zEA (nth l 1 0))) (fun _=>rfl) (W,x)
theorem zNT:zw Tryz.prog 77 zZz:=by
 refine zQ zs (GOk.cons zBs (zE Tryz.func27 rfl rfl) (GOk.cons zA8 (zE Tryz.func32 rfl rfl) (GOk.cons zDN (zE Tryz.func66 rfl rfl) (GOk.cons zCc (zE Tryz.func84 rfl rfl) (GOk.cons zDM (zE Tryz.func98 rfl rfl) (GOk.cons zDH (zE Tryz.func99 rfl rfl) (GOk.cons zFM (zE Tryz.func106 rfl rfl) (GOk.cons zU6 (zE Tryz.func108 rfl rfl) (GOk.ptr zIZ (zE Tryz.func107 rfl rfl) GOk.nil))))))))) zr Tryz.func77 rfl Tryz.ntmps77 Tryz.results77 12 ?_;rintro⟨W,x⟩ hW;replace hW:qU W:=hW;have hs:=hW.sn;have hp:=hW.pn;refine⟨by simp,?_⟩;by_cases h8:8000<x.size
 ·simp[go_sem,yI,show(8000:Int)<x.size by omega];exact yJ (if_pos h8)
 have aA:¬(8000:Int)<x.size:=by omega
 by_cases hR:zB9 W;rotate_left
 ·simp[go_sem,yL,zBC,zAN,yI,hW,hW.toSmallW,hs,hp,zCu,zBa,aA,hR];exact yJ ((if_neg h8).trans (if_neg hR))
 by_cases hH:zBo W x;rotate_left
 ·simp[go_sem,yL,zBC,zAN,yI,hW,hW.toSmallW,hs,hp,zCu,zBa,aA,hR,hH];exact yJ ((if_neg h8).trans ((if_pos hR).trans (if_neg hH)))
 have hk:=zHL hH;have fA:=zBa.2 hH;have cA:zCJ W x<W.sn:=by show(zBl W.sn fun k=>(W.zcC k).name=x).toNat<W.sn;omega
 obtain⟨k,bA⟩:∃k,k=zCJ W x:=⟨_,rfl⟩;have dA:(zBl W.sn fun k=>(W.zcC k).name=x)=(k:Int):=by rw[bA];show _=((zBl W.sn fun k=>(W.zcC k).name=x).toNat:Int);omega
 have eA:¬(k:Int)<0:=by omega
 by_cases hO:∃i,i<W.pn/\(W.zb9 i).set=x
 ·simp[go_sem,yL,zBC,zAN,yI,zTp,hW,hW.toSmallW,hs,hp,dA,eA,aA,hR,hO];exact yJ ((if_neg h8).trans ((if_pos hR).trans ((if_pos hH).trans (if_pos hO))))
 have eR:zKS W x=⟨zZs W k,0,(zHo W k (zI W (W.zcC k).zcD).time).length,0⟩:=by
  unfold zKS;rw[if_neg h8,if_pos hR,if_pos hH,if_neg hO,<-bA]
 rw[<-bA]at cA;have hT:=(hR.zcC k cA).1;have hz:=zEc (fun k hk=>(hR.zcE.prevOk.ids k hk).1) (W.zcC k).zcD;simp[go_sem,yL,zBC,zAN,zTp,zDu,yI,zEG,zFq,zMW,hW,hW.toSmallW,hs,hp,dA,eA,aA,hR,hO,hz,hR.right,hT,cA,eR,qB (show k<=1000000000 by omega),zQe,zMA,zQd,zKV];have hn:=zG2 hR.right;refine⟨by kernel_rfl,Nat.le_trans (yR ..) (by omega),by kernel_rfl,?_,?_⟩
 ·have hl:(zN W.pool (W.zcC k).rs (W.zcC k).rb).length<=73:=yR ..;exact Nat.le_trans (Nat.add_le_add_left (Nat.le_trans (zBv ..) hl) _) (by omega)
 refine⟨by omega,⟨by omega,by omega⟩,⟨by omega,by omega⟩,⟨by omega,by omega⟩,by kernel_rfl,⟨TrE.refl _,zR⟩,⟨TrE.refl _,zX⟩,rfl,rfl,⟨⟨.inl rfl,rfl,by show k+(W.sn - (k+1))=W.sn - 1;omega,fun i j hi hj=>TrE.of_eq ?_⟩,zp⟩,⟨TrE.refl _,zd⟩,rfl⟩;show _=setsE .o (fun i=>if i<k then W.zcC i else W.zcC (i+1)) i j;by_cases e:i<k
 ·unfold setsE;simp[yU,e]
 ·have:k+1+(i - k)=i+1:=(by omega);have h2:¬i+1<k:=(by omega);unfold setsE;simp[yU,e,ntR,this,h2]
set_option maxRecDepth 20000
set_option maxHeartbeats 3200000
def zGk(W:zC)(other:ByteArray)(id:Int)(n j:Nat):Prop:=∃m x,m<n/\Steps W other id m x/\zBQ W x j
def zVw(W:zC)(other:ByteArray)(id:Int)(j:Nat):Prop:=∃m x,Steps W other id m x/\zBQ W x j/\(W.zb9 j).set=other
open Classical in
noncomputable def zKy(W:zC)(name:ByteArray)(V:Nat->Prop):Nat->zu:=fun j=>if V j then {W.zb9 j with set:=name}else W.zb9 j
def zOr(W:zC)(x y:ByteArray):Prop:=∃i,i<W.pn/\(W.zb9 i).set=x/\(W.zb9 i).name=y
noncomputable def zXn(W:zC)(k d:Nat)(name other:ByteArray)(id:Int):zC:={W with zb9:=zKy W name (zVw W other id),zcC:=fun i=>if i=d then {W.zcC d with origin:=id}else if i=k then {W.zcC k with origin:=(W.zcC d).origin}else W.zcC i}
open Classical in
noncomputable def zXm(W:zC)(k:Nat)(x other:ByteArray)(id:Int):zDX:=if ∃j,zVw W other id j/\zOr W x (W.zb9 j).name then yD 5 else⟨zXn W k (zCJ W other) x other id,id,0,0⟩
open Classical in
noncomputable def zRH(W:zC)(x:ByteArray):zDX:=if 8000<x.size then yD 2 else if zB9 W then(if zBo W x then(if (W.zcC (zCJ W x)).origin=0 then yD 7 else zXm W (zCJ W x) x (W.zb9 (zH5 W (W.zcC (zCJ W x)).origin)).set (W.zcC (zCJ W x)).origin)else yD 4)else yD 1
theorem zPT{W:zC}{aA:ByteArray}{id x:Int}{n j:Nat}(h:Steps W aA id n x)(hj:zBQ W x j){i:Nat}:zGk W aA id (n+1) i↔i=j\/zGk W aA id n i:=by
 constructor
 ·rintro⟨m,y,hm,hs,hi⟩;by_cases e:m=n
  ·subst e;rw[hs.det h]at hi;exact .inl (hi.uniq hj)
  ·exact .inr ⟨m,y,by omega,hs,hi⟩
 ·rintro(rfl | ⟨m,y,hm,hs,hi⟩)
  ·exact⟨n,x,by omega,h,hj⟩
  ·exact⟨m,y,by omega,hs,hi⟩
theorem zQ8{W:zC}{aA:ByteArray}{id x:Int}{n:Nat}(h:Steps W aA id n x)(hx:¬zGe W aA x){i:Nat}:zGk W aA id n i↔zVw W aA id i:=by
 constructor
 ·rintro⟨m,y,hm,hs,hi⟩;obtain⟨z,hz,j,hj,bA⟩:=h.less hm;rw[hs.det hz]at hi;refine⟨m,z,hz,hi,?_⟩;rw[hi.uniq hj];exact bA
 ·rintro⟨m,y,hs,hi,bA⟩;by_cases hm:m<n
  ·exact⟨m,y,hm,hs,hi⟩
  ·exfalso;by_cases e:m=n
   ·subst e;rw[hs.det h]at hi;exact hx ⟨i,hi,bA⟩
   ·obtain⟨z,hz,ho⟩:=hs.less (show n<m by omega);rw[h.det hz]at hx;exact hx ho
attribute [local go_sem] qW List.map_cons List.map_nil Tr.cv yo qG qw qv yn ym yk qu zAv zAx zAw zAs zAu zAt zCK zCM zCL qK zn qL zo qE qD qP yx zk zl yB qJ tmpsOf zAf yA qI zAr yu yq yp yr stpP opds opd opdC kap zAE qF zj coreU bin zAY zB6 get put dlO fgt zA6 zAz zA3 zA4 tyT yj yi Op.operands Call.operands evLoad evLen evStore evAlloc zAZ and_true true_and List.append_nil List.nil_append List.cons_append Ret resCv zBx yP cellM zBT zB3 qX StW StR hpT hpO hpV hpA hpL hpC sg nin zCD bdO tmW obW AvE CsE CvE Av.tup Av.ids Cv.ids inD ObE Ob.ids TrE.refl qH qx qy qM qN qO zm zb za yw zBd zCB zAy evCall argL argOf qj outOb obO yM zy cvO tot Tr.own rid partsOf fillC zT zBS frz frz1 evBuildSlice zc trs Cv.tr evSlice Option.toArray_none Option.toArray_some evMakeSlice evAppend dstOf srcOf zAq zA5 zA2 zA0 zA1 ikT qt qs qq qp RetP RetN zBe qR evLd evSt evStoreH zAP evAppendM evAppendT tlOf mvOf rowE shp evTake oOf evC evCallP evCallN evCallO unlast zAK zAp zAO argsF zCA qn pmC varT vT evField evConv dB0 Option.bind_some Option.bind_none Option.map_some Option.map_none Option.isSome_some Option.isSome_none
attribute [local go_sem] yF zY zAk yN qk zAS zAT zAU zAV zAW zAX yX yY yZ yb yd ye yf yg yG qe
attribute [-go_sem] zY
attribute [local go_sem] yV zBi zBj zAA yO
noncomputable def zbf:zW:=qZ (fun q:zC×ByteArray=>[woT q.1,sT q.2]) (fun q=>qU q.1) (fun q=>[wuO (zRH q.1 q.2)])
theorem zY5(W:zC)(x:ByteArray):zbf [woT W,sT x]=some (qU W,[wuO (zRH W x)]):=zO (fun l=>(zC1 (nth l 0),zEA (nth l 1 0))) (fun _=>rfl) (W,x)
theorem zRp:zw Tryz.prog 79 zbf:=by
 refine zQ zs (GOk.cons zBs (zE Tryz.func27 rfl rfl) (GOk.cons zA8 (zE Tryz.func32 rfl rfl) (GOk.cons zDN (zE Tryz.func66 rfl rfl) (GOk.cons zDI (zE Tryz.func68 rfl rfl) (GOk.cons zCc (zE Tryz.func84 rfl rfl) (GOk.cons zKb (zE Tryz.func104 rfl rfl) GOk.nil)))))) zr Tryz.func79 rfl Tryz.ntmps79 Tryz.results79 12 ?_;rintro⟨W,x⟩ hW;replace hW:qU W:=hW;have hs:=hW.sn;have hp:=hW.pn;refine⟨by simp,?_⟩;by_cases h8:8000<x.size
 ·simp[go_sem,yI,show(8000:Int)<x.size by omega];exact yJ (if_pos h8)
 have eA:¬(8000:Int)<x.size:=by omega
 by_cases hR:zB9 W;rotate_left
 ·simp[go_sem,yL,zBC,zAN,yI,hW,hW.toSmallW,hs,hp,zCu,zBa,eA,hR];exact yJ ((if_neg h8).trans (if_neg hR))
 by_cases hH:zBo W x;rotate_left
 ·simp[go_sem,yL,zBC,zAN,yI,hW,hW.toSmallW,hs,hp,zCu,zBa,eA,hR,hH];exact yJ ((if_neg h8).trans ((if_pos hR).trans (if_neg hH)))
 have hk:=zHL hH;have eB:=zBa.2 hH;have cA:zCJ W x<W.sn:=by show(zBl W.sn fun k=>(W.zcC k).name=x).toNat<W.sn;omega
 obtain⟨k,fA⟩:∃k,k=zCJ W x:=⟨_,rfl⟩;have sA:(zBl W.sn fun k=>(W.zcC k).name=x)=(k:Int):=by rw[fA];show _=((zBl W.sn fun k=>(W.zcC k).name=x).toNat:Int);omega
 have aB:¬(k:Int)<0:=by omega
 rw[<-fA]at cA;by_cases hO:(W.zcC k).origin=0
 ·simp[go_sem,yL,zBC,zAN,yI,hW,hW.toSmallW,hs,hp,sA,aB,eA,hR,cA,hO];exact yJ ((if_neg h8).trans ((if_pos hR).trans ((if_pos hH).trans (if_pos (fA▸hO)))))
 have hI:zCO W (W.zcC k).origin:=(hR.zcE.2.2.2.2.1 k cA).2.2.2 hO;obtain⟨q,hq⟩:=hI.no;have tA:(zBl W.pn fun j=>(W.zb9 j).id=(W.zcC k).origin)=(q:Int):=zFj hq.1 hq.2.1 hq.2.2;have bB:=hq.1;obtain⟨id,jA⟩:∃id,id=(W.zcC k).origin:=⟨_,rfl⟩;obtain⟨aA,kA⟩:∃o,o=(W.zb9 q).set:=⟨_,rfl⟩;simp[go_sem,yL,zBC,zAN,zCI,yI,zDv,hW,hW.toSmallW,hs,hp,sA,aB,eA,hR,cA,hO,tA,bB];rw[<-jA,<-kA];refine⟨by kernel_rfl,?_⟩;have iA:=hR.zcE.prevOk;have hS:zBo W aA:=by rw[kA];exact(hR.zcE.2.2.2.2.2 q bB).1.2.2.2.2.2
 have hd:=zHL hS;have cB:=zBa.2 hS;obtain⟨d,nA⟩:∃d,d=zCJ W aA:=⟨_,rfl⟩;have pA:(zBl W.sn fun k=>(W.zcC k).name=aA)=(d:Int):=by rw[nA];show _=((zBl W.sn fun k=>(W.zcC k).name=aA).toNat:Int);omega
 have oA:d<W.sn:=by omega
 have eR:zRH W x=zXm W k x aA id:=by
  unfold zRH;rw[if_neg h8,if_pos hR,if_pos hH,<-fA,if_neg hO,jA,kA];show zXm W k x (W.zb9 (zBl W.pn fun j=>(W.zb9 j).id=(W.zcC k).origin).toNat).set _=_;rw[tA,Int.toNat_natCast]
 rw[eR];refine yE (fun q:Nat×Int=>⟨[(9,true,.m false [.v (.int .i64 q.2)]),(8,true,.m false [.p 8 0]),(7,true,.m false [.v (.string aA)]),(6,true,.m false [.v (.int .i64 id)]),(5,true,.i k),(4,true,.m false [.p 4 0]),(2,true,.m false [.p 2 0]),(1,true,.m false [.v (.string x)])],[(8,.var [.h 61,.h 62,.v (.int .i64 W.time),.v (.int .i64 W.next),.h 63,.h 64]),(64,.row 8 W.pn (snapsE .z (zKy W x (zGk W aA id q.1)))),(63,.row 6 W.sn (setsE .o W.zcC)),(62,.row 1 W.pool.hn (qh W.pool.h)),(61,.row 3 W.pool.n (zU .z W.pool.s)),(4,.var [.v n0,.v n0,.v i0,.v i0,.v n0,.v n0,.v i0,.v i0,.v i0]),(2,.var ((woL W).map Tr.cv))]⟩) (fun q=>1000000 - q.1) (fun q=>zDG W aA id q.1 q.2/\∀j,zGk W aA id q.1 j->¬zOr W x (W.zb9 j).name) (0,id) ?_ ⟨zDG.start iA _ (.inr (jA▸hI)),fun j ⟨m,y,hm,_⟩=>absurd hm (Nat.not_lt_zero _)⟩ ?_
 ·have e0:zKy W x (zGk W aA id 0)=W.zb9:=funext fun j=>if_neg fun ⟨m,y,hm,_⟩=>absurd hm (Nat.not_lt_zero _)
  simp[go_sem,e0]
 rintro⟨n,y⟩ ⟨hw,gA⟩;replace hw:zDG W aA id n y:=hw;replace gA:∀j,zGk W aA id n j->¬zOr W x (W.zb9 j).name:=gA;have ha:n<=900000:=by have:=hw.least;have:=hw.sum;omega
 have hM:¬zGe W aA y->zKy W x (zGk W aA id n)=zKy W x (zVw W aA id):=fun he=>by
  have:zGk W aA id n=zVw W aA id:=funext fun i=>propext (zQ8 hw.steps he)
  rw[this]
 have hK:¬zGe W aA y->zXm W k x aA id=⟨zXn W k d x aA id,id,0,0⟩:=fun he=>by
  rw[nA];exact if_neg fun ⟨i,h1,h2⟩=>gA i ((zQ8 hw.steps he).2 h1) h2
 have mA:TrE (Tr.s .o 6 W.sn (yK (yK (setsE .o W.zcC) k 1 [.v (.int .i64 (W.zcC d).origin)]) d 1 [.v (.int .i64 id)])) (Tr.s .o 6 W.sn (setsE .o (zXn W k d x aA id).zcC)):=zD2 fun i j hi hj=>by
  show _=setsE .o (fun i=>if i=d then {W.zcC d with origin:=id}else if i=k then {W.zcC k with origin:=(W.zcC d).origin}else W.zcC i) i j;by_cases e1:i=d
  ·subst e1;by_cases e2:i=k
   ·subst e2
    match j,hj with
    | 0,_ | 1,_ | 2,_ | 3,_ | 4,_ | 5,_=>simp[yK,setsE]
   ·match j,hj with
    | 0,_ | 1,_ | 2,_ | 3,_ | 4,_ | 5,_=>simp[yK,setsE,e2]
  ·by_cases e2:i=k
   ·subst e2
    match j,hj with
    | 0,_ | 1,_ | 2,_ | 3,_ | 4,_ | 5,_=>simp[yK,setsE,e1]
   ·unfold setsE;simp[yK,e1,e2]
 by_cases hy:y=0
 ·subst hy;have bA:=zJV iA aA;simp[go_sem,zAN,hs,pA,oA,cA];rw[hK bA,hM bA];exact⟨by kernel_rfl,⟨TrE.refl _,zR⟩,⟨TrE.refl _,zX⟩,rfl,rfl,⟨mA,zp⟩,⟨TrE.refl _,zd⟩,rfl,rfl,rfl⟩
 obtain⟨j,hj⟩:=(hw.there.resolve_left hy).no;have rA:(zBl W.pn fun i=>(W.zb9 i).id=y)=(j:Int):=zFj hj.1 hj.2.1 hj.2.2;have vA:=hj.1;by_cases dA:(W.zb9 j).set=aA;rotate_left
 ·have bA:=zMm hj dA;have lA:¬(W.zb9 j).set.toList=aA.toList:=fun e=>dA (zCY e)
  simp[go_sem,zAN,zCI,hs,hp,pA,oA,cA,hy,rA,vA,lA];rw[hK bA,hM bA];exact⟨by kernel_rfl,⟨TrE.refl _,zR⟩,⟨TrE.refl _,zX⟩,rfl,rfl,⟨mA,zp⟩,⟨TrE.refl _,zd⟩,rfl,rfl,rfl⟩
 simp[go_sem,zAN,zCI,yI,zDv,hs,hp,hy,rA,vA,dA];refine⟨by kernel_rfl,fun i hi h1 h2=>yJ (if_pos ⟨j,⟨n,y,hw.steps,hj,dA⟩,i,hi,h1,h2⟩),fun h=>⟨n+1,_,⟨hw.next iA hj dA,fun i hi=>?_⟩,by omega,rfl,zD2 fun i c hi hc=>?_⟩⟩
 ·rcases(zPT hw.steps hj).1 hi with rfl | hi
  ·exact fun ⟨a,h1,h2,h3⟩=>h a h1 h2 h3
  ·exact gA i hi
 ·by_cases e:i=j
  ·subst e;have hv:zGk W aA id (n+1) i:=(zPT hw.steps hj).2 (.inl rfl);have h1:zKy W x (zGk W aA id (n+1)) i = {W.zb9 i with set:=x}:=if_pos hv;have h2:zKy W x (zGk W aA id n) i = {W.zb9 i with set:=x}\/zKy W x (zGk W aA id n) i=W.zb9 i:=by
    by_cases g:zGk W aA id n i
    ·exact .inl (if_pos g)
    ·exact .inr (if_neg g)
   rcases h2 with h2 | h2
   ·match c,hc with
    | 0,_ | 1,_ | 2,_ | 3,_ | 4,_ | 5,_ | 6,_ | 7,_=>simp[yK,snapsE,h1,h2]
   ·match c,hc with
    | 0,_ | 1,_ | 2,_ | 3,_ | 4,_ | 5,_ | 6,_ | 7,_=>simp[yK,snapsE,h1,h2]
  ·have h1:zKy W x (zGk W aA id (n+1)) i=zKy W x (zGk W aA id n) i:=by
    have:zGk W aA id (n+1) i=zGk W aA id n i:=propext ((zPT hw.steps hj).trans ⟨fun h=>h.resolve_left e,.inr⟩);unfold zKy;rw[this]
   unfold snapsE;simp[yK,e,h1]
open Go.Maps
theorem zZM{a b c d:Int}(h:¬(a=c/\b=d)):(a == c)=false\/(a == c)=true/\(b == d)=false:=by
 by_cases e:a=c
 ·right;refine⟨by simp[e],?_⟩;have:¬b=d:=fun e'=>h ⟨e,e'⟩
  simp[this]
 ·left;simp[e]
theorem zJy{a b:Int}(h:a=b):(a == b)=true/\(a != b)=false/\decide (a=b)=true:=by subst h;simp
theorem zHa{a b:Int}(h:¬a=b):(a == b)=false/\(a != b)=true/\decide (a=b)=false:=by simp[h]
structure zDF (S:qC):Prop where
 zcB:zB9 S.zcB
 zcA:zB9 S.zcA
 many:S.zcB.pool.n=S.zcA.pool.n
 held:S.zcA.pool.hn=0
 time:S.zcA.time<=S.zcB.time
 next:S.zcA.next<=S.zcB.next
 slots:∀i,i<S.zcA.pool.n->¬yh (S.zcA.pool.s i)->zEn (S.zcA.pool.s i) (S.zcB.pool.s i)
end Go.Proofs.YtbplmbafodlboaaGreatDoor
