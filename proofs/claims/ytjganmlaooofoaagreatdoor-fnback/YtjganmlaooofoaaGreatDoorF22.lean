/- A part of the proof. -/
import Derived.Test.YtjganmlaooofoaaGreatDoorF21
set_option linter.unusedVariables false
set_option maxRecDepth 20000
set_option maxHeartbeats 4000000
namespace Go.Proofs.YtjganmlaooofoaaGreatDoor
open Go.RowKit
set_option linter.unusedSimpArgs false
set_option maxRecDepth 20000
set_option maxHeartbeats 3200000
abbrev wuO(o:zAk):Bool×List Tr:=(true,[.s .o 3 o.world.pool.n (zk .z o.world.pool.s),.s .o 1 o.world.pool.hn (yT o.world.pool.h),.v (.int .i64 o.world.time),.v (.int .i64 o.world.next),.s .o 6 o.world.sn (setsE .o o.world.zeK),.s .o 8 o.world.pn (snapsE .z o.world.zeJ),.v (.int .i64 o.id),.v (.int .i64 o.many),.v (.int .i64 o.code)])
abbrev woV(W:zB):List Tr:=[.s .o 3 W.pool.n (zk .z W.pool.s),.s .o 1 W.pool.hn (yT W.pool.h),.v (.int .i64 W.time),.v (.int .i64 W.next),.s .o 6 W.sn (setsE .o W.zeK),.s .o 8 W.pn (snapsE .z W.zeJ)]
def zIk(W:zB)(l:List (Int×Int)):zB:={W with pool:=zT W.pool l}
abbrev psL(l:List (Int×Int)):Bool×List Tr:=psT l.length (fun i=>zh l i) (fun i=>zn l i)
def zWR(a:Tr):List (Int×Int):=(List.range (zF8 a)).map fun i=>(qM (zCh a i 0),qM (zCh a i 1))
theorem zQH(l:List (Int×Int)):zWR (.s .b 2 l.length (ptrsT (fun i=>zh l i) (fun i=>zn l i)))=l:=by
 show(List.range l.length).map (fun i=>(zh l i,zn l i))=l;apply List.ext_getElem
 ·simp
 ·intro i h1 h2;simp[<-zRp,<-zaM,h2]
theorem zKr{fl:Fl}{p:zF}{x:Int}:TrE (.s fl 1 (p.hn+1) (yX (yT p.h) p.hn (fun a q=>([Tr.v (Value.int .i64 x)][a+q]?.getD (.v (.bool false))).nt))) (.s fl 1 (zBw p x).hn (yT (zBw p x).h)):=zES fun i j hi hj=>by
 cases (show j=0 by omega);unfold yX;by_cases h:i<p.hn
 ·rw[if_pos h];show _=Tr.v (.int .i64 (if i=p.hn then x else p.h i));rw[if_neg (by omega)];rfl
 ·cases (show i=p.hn by omega);rw[if_neg h,Nat.sub_self];show _=Tr.v (.int .i64 (if p.hn=p.hn then x else p.h p.hn));rw[if_pos rfl];rfl
attribute [local go_sem] qg List.map_cons List.map_nil Tr.cv yv qT yF yD yu yr yq yC zBD zBF zBE zBA zBC zBB zCc zCe zCd qY zt qZ zu qR qQ qf zAL zp zq yL qW tmpsOf zAy yK qV zA9 yz yx yw zAA yy stpP opds opd opdC kap zAS qS zo coreU bin zAl zCO get put dlO fgt zBP zBI zBM zBN tyT yp yo Op.operands Call.operands evLoad evLen evStore evAlloc zAn and_true true_and List.append_nil List.nil_append List.cons_append Ret resCv zCB yY cellM zBl zCI qh StW StR hpT hpO hpV hpA hpL hpC sg nin zCT bdO tmW obW AvE CsE CvE Av.tup Av.ids Cv.ids inD ObE Ob.ids TrE.refl qU yH yI qb qd qe zr zf zd zAC zBe zCH zBG evCall argL argOf qq outOb obO yU qK cvO tot Tr.own rid partsOf fillC zU zBj frz frz1 evBuildSlice zc trs Cv.tr evSlice Option.toArray_none Option.toArray_some evMakeSlice evAppend dstOf srcOf zA7 zBO zBL zBJ zBK ikT yB yA qz qy RetP RetN zBs qP evLd evSt evStoreH zAe evAppendM evAppendT tlOf mvOf rowE shp evTake oOf evC evCallP evCallN evCallO unlast zAX zA6 zAZ argsF zCS qu pmC varT vT evField evConv dB0 Option.bind_some Option.bind_none Option.map_some Option.map_none Option.isSome_some Option.isSome_none
attribute [local go_sem] yP zb zA5 yW qw zAs zAt zAu zAv zAw zAx zAD zAE zAF zAG zAH zAI zAJ zAK yR qt
attribute [-go_sem] zb
attribute [local go_sem] zAP zB7 zB8 zAU yb
noncomputable def zdg:zX:=qk (fun c:Int=>[iT c]) (fun _=>True) (fun c=>[wuO (qD c)])
theorem yG(c:Int):zdg [iT c]=some (True,[wuO (qD c)]):=zO (fun l=>qM (nth l 0 0)) (fun _=>rfl) c
theorem zCl:zy Tryz.prog 25 zdg:=by
 refine zQ qA GOk.nil zz Tryz.func25 rfl Tryz.ntmps25 Tryz.results25 3 ?_;intro c hc;refine⟨by simp,?_⟩;simp[go_sem,qD,noW,zEw]
open Classical in
noncomputable def zFt(W:zB)(x:ByteArray):Int:=if qG W x then 5 else if 8<=W.sn then 6 else 0
noncomputable def zdi:zX:=qk (fun q:zB×ByteArray=>[woT q.1,sT q.2]) (fun q=>q.1.sn<=1000000) (fun q=>[iT (zFt q.1 q.2)])
theorem zVL(W:zB)(x:ByteArray):zdi [woT W,sT x]=some (W.sn<=1000000,[iT (zFt W x)]):=zO (fun l=>(zCW (nth l 0),zDP (nth l 1 0))) (fun _=>rfl) (W,x)
theorem zPR:zy Tryz.prog 125 zdi:=by
 refine zQ qA (GOk.cons zDH (zG Tryz.func26 rfl rfl) GOk.nil) zz Tryz.func125 rfl Tryz.ntmps125 Tryz.results125 5 ?_;rintro⟨W,x⟩ hW;replace hW:W.sn<=1000000:=hW;refine⟨by simp,?_⟩;simp[go_sem,zAR,hW,zCq,zBT];refine⟨fun h=>(if_pos h).symm,fun h=>⟨fun h1=>?_,fun h1=>?_⟩⟩
 ·rw[zFt,if_neg h,if_pos (by omega)]
 ·rw[zFt,if_neg h,if_neg (by omega)]
noncomputable def zYy:zX:=qk (fun q:zB×ByteArray×ByteArray=>[woT q.1,sT q.2.1,sT q.2.2]) (fun q=>q.1.pn<=1000000) (fun q=>bR (∃i,i<q.1.pn/\(q.1.zeJ i).set=q.2.1/\(q.1.zeJ i).name=q.2.2))
theorem zEK(W:zB)(x y:ByteArray):zYy [woT W,sT x,sT y]=some (W.pn<=1000000,bR (∃i,i<W.pn/\(W.zeJ i).set=x/\(W.zeJ i).name=y)):=zO (fun l=>(zCW (nth l 0),zDP (nth l 1 0),zDP (nth l 2 0))) (fun _=>rfl) (W,x,y)
theorem zLT:zy Tryz.prog 173 zYy:=by
 refine zQ qA GOk.nil zz Tryz.func173 rfl Tryz.ntmps173 Tryz.results173 8 ?_;rintro⟨W,x,y⟩ hn;replace hn:W.pn<=1000000:=hn;refine⟨by simp,?_⟩;simp[go_sem];refine yE (fun k:Nat=>⟨[(3,true,.m false [.p 3 0]),(1,true,.m false [.v (.string x)]),(2,true,.m false [.v (.string y)]),(7,true,.i k)],[(3,.var ((woL W).map Tr.cv))]⟩) (fun k=>W.pn - k) (fun k=>k<=W.pn/\∀i,i<k->¬((W.zeJ i).set=x/\(W.zeJ i).name=y)) 0 (by simp[go_sem]) (by simp) ?_;rintro k ⟨hk,aA⟩;simp[go_sem,qB (show k<=1000000000 by omega)];refine⟨fun hl=>⟨hl,fun _=>hl,fun h1 h2=>⟨k,hl,zCg h1,zCg h2⟩,fun h=>⟨k+1,⟨by omega,fun i hi=>?_⟩,by omega,rfl⟩⟩,fun hl i hi h1 h2=>aA i (by omega) ⟨h1,h2⟩⟩;by_cases e:i=k
 ·subst e;exact fun h1 h2=>h (congrArg ByteArray.toList h1) (congrArg ByteArray.toList h2)
 ·exact fun h1 h2=>aA i (by omega) ⟨h1,h2⟩
noncomputable def zdm:zX:=qk (fun q:zB×ByteArray=>[woT q.1,sT q.2]) (fun q=>q.1.pn<=1000000) (fun q=>bR (∃i,i<q.1.pn/\(q.1.zeJ i).set=q.2))
theorem zVO(W:zB)(x:ByteArray):zdm [woT W,sT x]=some (W.pn<=1000000,bR (∃i,i<W.pn/\(W.zeJ i).set=x)):=zO (fun l=>(zCW (nth l 0),zDP (nth l 1 0))) (fun _=>rfl) (W,x)
theorem zWp:zy Tryz.prog 38 zdm:=by
 refine zQ qA GOk.nil zz Tryz.func38 rfl Tryz.ntmps38 Tryz.results38 6 ?_;rintro⟨W,x⟩ hn;replace hn:W.pn<=1000000:=hn;refine⟨by simp,?_⟩;simp[go_sem];refine yE (fun k:Nat=>⟨[(2,true,.m false [.p 2 0]),(1,true,.m false [.v (.string x)]),(5,true,.i k)],[(2,.var ((woL W).map Tr.cv))]⟩) (fun k=>W.pn - k) (fun k=>k<=W.pn/\∀i,i<k->¬(W.zeJ i).set=x) 0 (by simp[go_sem]) (by simp) ?_;rintro k ⟨hk,aA⟩;simp[go_sem,qB (show k<=1000000000 by omega)];exact⟨fun hl=>⟨hl,fun h=>⟨k,hl,zCg h⟩,fun h=>⟨k+1,⟨by omega,yJ hl aA fun e=>h (congrArg ByteArray.toList e)⟩,by omega,rfl⟩⟩,fun hl i hi=>aA i (by omega)⟩
noncomputable def zcE:zX:=qk (fun q:zB×List (Int×Int)=>(true,woV q.1) :: [psL q.2]) (fun q=>q.1.pool.hn+q.2.length<=1000000) (fun q=>[woO (zIk q.1 q.2),iT q.2.length])
theorem zNI(W:zB)(l:List (Int×Int)):zcE ((true,woV W) :: [psL l])=some (W.pool.hn+l.length<=1000000,[woO (zIk W l),iT l.length]):=zO (fun m=>(zCW (nth m 0),zWR (nth m 1 0))) (fun q=>by exact congrArg (Prod.mk q.1) (zQH q.2)) (W,l)
theorem zJC:zBv Tryz.prog 31 zcE:=by
 refine zBg qA GOk.nil zz Tryz.func31 rfl Tryz.ntmps31 Tryz.results31 6 ?_;rintro⟨W,l⟩ hn;replace hn:W.pool.hn+l.length<=1000000:=hn;refine⟨by simp,?_⟩;simp[go_sem];refine yE (fun k:Nat=>⟨[(5,true,.i k),(0,true,.m false [.p 0 0]),(1,true,.m false [.s .b 2 l.length (ptrsT (fun i=>zh l i) (fun i=>zn l i))])],[(0,.var [.h 1000,.h 2000,.v (.int .i64 W.time),.v (.int .i64 W.next),.h 5000,.h 6000]),(1000,.row 3 W.pool.n (zk .z W.pool.s)),(2000,.row 1 (zT W.pool (l.take k)).hn (yT (zT W.pool (l.take k)).h)),(5000,.row 6 W.sn (setsE .o W.zeK)),(6000,.row 8 W.pn (snapsE .z W.zeJ))]⟩) (fun k=>l.length - k) (fun k=>k<=l.length) 0 (by simp[go_sem,zT]) (Nat.zero_le _) ?_;intro k hk;obtain⟨p,hp⟩:∃p,p=zT W.pool (l.take k):=⟨_,rfl⟩;have bA:p.hn=W.pool.hn+k:=by rw[hp,(zAi _ _).2.2,List.length_take,Nat.min_eq_left hk]
 have aA:k<l.length->zT W.pool (l.take (k+1))=zBw p (zh l k):=fun h=>by
  rw[hp,List.take_succ_eq_append_getElem h,zE5,<-zRp];simp[h]
 rw[<-hp];simp[go_sem,qB (show k<=1000000000 by omega)];refine⟨fun hl=>⟨hl,by omega,by kernel_rfl,k+1,hl,by omega,rfl,?_⟩,fun hl=>?_⟩
 ·rw[aA hl];exact zKr
 ·cases (show k=l.length by omega);rw[List.take_length]at hp;subst hp;obtain⟨e1,e2,-⟩:=zAi l W.pool;refine⟨⟨?_,zW⟩,⟨TrE.refl _,zm⟩,rfl,rfl,⟨TrE.refl _,qm⟩,TrE.refl _,qI⟩;show TrE _ (Tr.s .o 3 (zT W.pool l).n (zk .z (zT W.pool l).s));rw[e1,e2];exact TrE.refl _
open Classical in
noncomputable def zIW(W:zB)(x:ByteArray):Nat:=if h:∃k,k<W.sn/\¬zBm (W.zeK k).name x/\∀j,j<k->zBm (W.zeK j).name x then h.choose else W.sn
theorem zRO{W:zB}{x:ByteArray}{k:Nat}(h:k<W.sn)(h1:¬zBm (W.zeK k).name x)(h2:∀j,j<k->zBm (W.zeK j).name x):zIW W x=k:=by
 have hx:∃k,k<W.sn/\¬zBm (W.zeK k).name x/\∀j,j<k->zBm (W.zeK j).name x:=⟨k,h,h1,h2⟩;unfold zIW;rw[dif_pos hx];obtain⟨-,g1,g2⟩:=hx.choose_spec;rcases Nat.lt_trichotomy hx.choose k with e | e | e
 ·exact absurd (h2 _ e) g1
 ·exact e
 ·exact absurd (g2 _ e) h1
theorem zai{W:zB}{x:ByteArray}(h:∀j,j<W.sn->zBm (W.zeK j).name x):zIW W x=W.sn:=dif_neg fun ⟨k,h1,h2,_⟩=>h2 (h k h1)
abbrev zEL(a:ByteArray)(o p rs rb:Int):qi:=⟨a,o,p,rs,rb,0,fun _=>0,fun _=>0⟩
noncomputable def zde:zX:=qk (fun q:(zB×ByteArray)×Int×Int×Int×Int=>(true,woV q.1.1) :: [(true,[.v (.string q.1.2),.v (.int .i64 q.2.1),.v (.int .i64 q.2.2.1),.v (.int .i64 q.2.2.2.1),.v (.int .i64 q.2.2.2.2),.v n0])]) (fun q=>q.1.1.sn<=1000000) (fun q=>[woO (zGp q.1.1 (zIW q.1.1 q.1.2) (zEL q.1.2 q.2.1 q.2.2.1 q.2.2.2.1 q.2.2.2.2))])
theorem zVE(W:zB)(x:ByteArray)(o p rs rb:Int):zde ((true,woV W) :: [(true,[.v (.string x),.v (.int .i64 o),.v (.int .i64 p),.v (.int .i64 rs),.v (.int .i64 rb),.v n0])])=some (W.sn<=1000000,[woO (zGp W (zIW W x) (zEL x o p rs rb))]):=zO (fun m=>((zCW (nth m 0),zDP (nth m 1 0)),qM (nth m 1 1),qM (nth m 1 2),qM (nth m 1 3),qM (nth m 1 4))) (fun _=>rfl) ((W,x),o,p,rs,rb)
theorem zPQ:zBv Tryz.prog 126 zde:=by
 refine zBg qA GOk.nil zz Tryz.func126 rfl Tryz.ntmps126 Tryz.results126 6 ?_;rintro⟨⟨W,x⟩,o,p,rs,rb⟩ hn;replace hn:W.sn<=1000000:=hn;refine⟨by simp,?_⟩;simp[go_sem];refine yE (fun k:Nat=>⟨[(4,true,.i k),(0,true,.m false [.p 0 0]),(3,true,.m false [.p 3 0])],[(3,.var [.v (.string x),.v (.int .i64 o),.v (.int .i64 p),.v (.int .i64 rs),.v (.int .i64 rb),.v n0]),(0,.var [.h 1000,.h 2000,.v (.int .i64 W.time),.v (.int .i64 W.next),.h 5000,.h 6000]),(1000,.row 3 W.pool.n (zk .z W.pool.s)),(2000,.row 1 W.pool.hn (yT W.pool.h)),(5000,.row 6 W.sn (setsE .o W.zeK)),(6000,.row 8 W.pn (snapsE .z W.zeJ))]⟩) (fun k=>W.sn - k) (fun k=>k<=W.sn/\∀j,j<k->zBm (W.zeK j).name x) 0 (by simp[go_sem]) (by simp) ?_;rintro k ⟨hk,aA⟩;simp[go_sem,qB (show k<=1000000000 by omega)];refine⟨by kernel_rfl,fun hl h=>⟨k+1,⟨hl,yJ hl aA h⟩,by omega,rfl⟩,fun h=>?_⟩;have hK:zIW W x=k:=by
  by_cases hl:k<W.sn
  ·exact zRO hl (fun e=>by have:=h hl;unfold zBm at e;rw[this]at e;simp at e) aA
  ·rw[zai fun j hj=>aA j (by omega)];omega
 rw[hK];refine⟨hk,⟨hk,by omega⟩,by omega,hk,⟨by omega,by omega⟩,⟨TrE.refl _,zW⟩,⟨TrE.refl _,zm⟩,rfl,rfl,⟨?_,qm⟩,TrE.refl _,qI⟩;refine⟨.inl rfl,rfl,by show k+1+(W.sn - k)=W.sn+1;omega,fun i j hi hj=>?_⟩;show TrE _ (setsE .o (ins W.zeK k (zEL x o p rs rb)) i j);rcases Nat.lt_trichotomy i k with e | e | e
 ·have:setsE .o (ins W.zeK k (zEL x o p rs rb)) i j=setsE .o W.zeK i j:=by
   unfold setsE;rw[zYc e]
  rw[this];exact TrE.of_eq (by simp[yX,e,show i<k+1 by omega])
 ·subst e;have:setsE .o (ins W.zeK i (zEL x o p rs rb)) i j=setsE .o (fun _=>zEL x o p rs rb) i j:=by
   unfold setsE;rw[zYa]
  rw[this]
  match j,hj with
  | 0,_ | 1,_ | 2,_ | 3,_ | 4,_=>exact TrE.of_eq (by simp[yX,setsE])
  | 5,_=>simp[yX,setsE,TrE]
 ·have:setsE .o (ins W.zeK k (zEL x o p rs rb)) i j=setsE .o W.zeK (i - 1) j:=by
   unfold setsE;rw[zYb e]
  rw[this];refine TrE.of_eq ?_;simp[yX,ntR,show ¬i<k+1 by omega,show k+(i - (k+1))=i - 1 by omega,show ¬i - 1<k by omega]
set_option maxRecDepth 20000
set_option maxHeartbeats 3200000
open Classical in
noncomputable def zEZ(W:zB)(x:ByteArray):zAk:=if 8000<x.size then qD 2 else if qo W/\zA0 x then(if zFt W x=0 then⟨zGp W (zIW W x) (zEL x 0 0 0 0),0,0,0⟩else qD (zFt W x))else qD 1
theorem yM{o o':zAk}(h:o'=o):(TrE (.s .o 3 o.world.pool.n (zk .z o.world.pool.s)) (.s .o 3 o'.world.pool.n (zk .z o'.world.pool.s))/\(Tr.s .o 3 o'.world.pool.n (zk .z o'.world.pool.s)).kept)/\(TrE (.s .o 1 o.world.pool.hn (yT o.world.pool.h)) (.s .o 1 o'.world.pool.hn (yT o'.world.pool.h))/\(Tr.s .o 1 o'.world.pool.hn (yT o'.world.pool.h)).kept)/\o.world.time=o'.world.time/\o.world.next=o'.world.next/\(TrE (.s .o 6 o.world.sn (setsE .o o.world.zeK)) (.s .o 6 o'.world.sn (setsE .o o'.world.zeK))/\(Tr.s .o 6 o'.world.sn (setsE .o o'.world.zeK)).kept)/\(TrE (.s .o 8 o.world.pn (snapsE .z o.world.zeJ)) (.s .o 8 o'.world.pn (snapsE .z o'.world.zeJ))/\(Tr.s .o 8 o'.world.pn (snapsE .z o'.world.zeJ)).kept)/\o.id=o'.id/\o.many=o'.many/\o.code=o'.code:=by
 subst h;exact⟨⟨TrE.refl _,zW⟩,⟨TrE.refl _,zm⟩,rfl,rfl,⟨TrE.refl _,qm⟩,⟨TrE.refl _,qI⟩,rfl,rfl,rfl⟩
theorem zPK{W:zB}{x:Int}(h:zBU W x):(zBb W.pn fun k=>(W.zeJ k).id=x)<W.pn:=by
 rcases zMj (zEY W.pn fun k=>(W.zeJ k).id=x)with⟨-,-,h1,-⟩ | ⟨h',-⟩
 ·exact h1
 ·exact absurd h h'
theorem zH1{W:zB}{x:ByteArray}(h:qG W x):(zBb W.sn fun k=>(W.zeK k).name=x)<W.sn:=by
 rcases zEY W.sn fun k=>(W.zeK k).name=x with⟨k,h1,-,-,h2⟩ | ⟨h1,h2⟩
 ·omega
 ·have:=zBT.2 h;omega
attribute [local go_sem] qg List.map_cons List.map_nil Tr.cv yv qT yF yD yu yr yq yC zBD zBF zBE zBA zBC zBB zCc zCe zCd qY zt qZ zu qR qQ qf zAL zp zq yL qW tmpsOf zAy yK qV zA9 yz yx yw zAA yy stpP opds opd opdC kap zAS qS zo coreU bin zAl zCO get put dlO fgt zBP zBI zBM zBN tyT yp yo Op.operands Call.operands evLoad evLen evStore evAlloc zAn and_true true_and List.append_nil List.nil_append List.cons_append Ret resCv zCB yY cellM zBl zCI qh StW StR hpT hpO hpV hpA hpL hpC sg nin zCT bdO tmW obW AvE CsE CvE Av.tup Av.ids Cv.ids inD ObE Ob.ids TrE.refl qU yH yI qb qd qe zr zf zd zAC zBe zCH zBG evCall argL argOf qq outOb obO yU qK cvO tot Tr.own rid partsOf fillC zU zBj frz frz1 evBuildSlice zc trs Cv.tr evSlice Option.toArray_none Option.toArray_some evMakeSlice evAppend dstOf srcOf zA7 zBO zBL zBJ zBK ikT yB yA qz qy RetP RetN zBs qP evLd evSt evStoreH zAe evAppendM evAppendT tlOf mvOf rowE shp evTake oOf evC evCallP evCallN evCallO unlast zAX zA6 zAZ argsF zCS qu pmC varT vT evField evConv dB0 Option.bind_some Option.bind_none Option.map_some Option.map_none Option.isSome_some Option.isSome_none
attribute [local go_sem] yP zb zA5 yW qw zAs zAt zAu zAv zAw zAx zAD zAE zAF zAG zAH zAI zAJ zAK yR qt
attribute [-go_sem] zb
attribute [local go_sem] zAP zB7 zB8 zAU yb
noncomputable def zVR:zX:=qk (fun q:zB×ByteArray=>[woT q.1,sT q.2]) (fun q=>ym q.1) (fun q=>[wuO (zEZ q.1 q.2)])
theorem zNM(W:zB)(x:ByteArray):zVR [woT W,sT x]=some (ym W,[wuO (zEZ W x)]):=zO (fun l=>(zCW (nth l 0),zDP (nth l 1 0))) (fun _=>rfl) (W,x)
theorem zOf:zy Tryz.prog 81 zVR:=by
 refine zQ qA (GOk.cons zCY (zG Tryz.func28 rfl rfl) (GOk.cons zAW (zG Tryz.func23 rfl rfl) (GOk.cons zCl (zG Tryz.func25 rfl rfl) (GOk.cons zEy (zG Tryz.func106 rfl rfl) (GOk.cons zPR (zG Tryz.func125 rfl rfl) (GOk.ptr zPQ (zG Tryz.func126 rfl rfl) GOk.nil)))))) zz Tryz.func81 rfl Tryz.ntmps81 Tryz.results81 7 ?_;rintro⟨W,x⟩ hW;replace hW:ym W:=hW;have hs:=hW.sn;refine⟨by simp,?_⟩;simp[go_sem,zAQ,zAp,yG,zD0,zVL,zVE,hW,hW.toSmallW,hs];refine⟨fun h=>?_,fun h=>⟨fun h1=>?_,fun h1 h2=>⟨fun h3=>?_,fun h3=>?_⟩⟩⟩
 ·exact yM (if_pos (by omega))
 ·exact yM ((if_neg (by omega)).trans (if_neg fun e=>h1.elim (fun h=>h e.1) (fun h=>h e.2)))
 ·exact yM ((if_neg (by omega)).trans ((if_pos ⟨h1,h2⟩).trans (if_neg h3)))
 ·exact yM (o:=⟨zGp W (zIW W x) (zEL x 0 0 0 0),0,0,0⟩) ((if_neg (by omega)).trans ((if_pos ⟨h1,h2⟩).trans (if_pos h3)))
open Classical in
noncomputable def zFC(W:zB)(x:Int)(a:ByteArray):zAk:=if 8000<a.size then qD 2 else if qo W/\zA0 a then(if zBU W x then(if zFt W a=0 then⟨zGp W (zIW W a) (zEL a x x (W.zeJ (zBb W.pn fun k=>(W.zeJ k).id=x).toNat).rs (W.zeJ (zBb W.pn fun k=>(W.zeJ k).id=x).toNat).rb),0,0,0⟩else qD (zFt W a))else qD 4)else qD 1
noncomputable def zYs:zX:=qk (fun q:zB×Int×ByteArray=>[woT q.1,iT q.2.1,sT q.2.2]) (fun q=>ym q.1) (fun q=>[wuO (zFC q.1 q.2.1 q.2.2)])
theorem zW0(W:zB)(x:Int)(a:ByteArray):zYs [woT W,iT x,sT a]=some (ym W,[wuO (zFC W x a)]):=zO (fun l=>(zCW (nth l 0),qM (nth l 1 0),zDP (nth l 2 0))) (fun _=>rfl) (W,x,a)
theorem zRB:zy Tryz.prog 133 zYs:=by
 refine zQ qA (GOk.cons zCY (zG Tryz.func28 rfl rfl) (GOk.cons zAW (zG Tryz.func23 rfl rfl) (GOk.cons zC5 (zG Tryz.func27 rfl rfl) (GOk.cons zCl (zG Tryz.func25 rfl rfl) (GOk.cons zEy (zG Tryz.func106 rfl rfl) (GOk.cons zPR (zG Tryz.func125 rfl rfl) (GOk.ptr zPQ (zG Tryz.func126 rfl rfl) GOk.nil))))))) zz Tryz.func133 rfl Tryz.ntmps133 Tryz.results133 10 ?_;rintro⟨W,x,a⟩ hW;replace hW:ym W:=hW;have hs:=hW.sn;have hp:=hW.pn;refine⟨by simp,?_⟩;simp[go_sem,zAQ,zAp,zCA,yG,zD0,zVL,zVE,hW,hW.toSmallW,hs,hp,zMx,zJx];refine⟨fun h=>?_,fun h=>⟨fun h1=>?_,fun h1 h2=>⟨fun h3=>?_,fun h3=>?_⟩⟩⟩
 ·exact yM (if_pos (by omega))
 ·exact yM ((if_neg (by omega)).trans (if_neg fun e=>h1.elim (fun h=>h e.1) (fun h=>h e.2)))
 ·exact yM ((if_neg (by omega)).trans ((if_pos ⟨h1,h2⟩).trans (if_neg h3)))
 ·refine⟨fun h4=>?_,fun h4=>⟨⟨h3,zPK h3⟩,?_⟩⟩
  ·exact yM ((if_neg (by omega)).trans ((if_pos ⟨h1,h2⟩).trans ((if_pos h3).trans (if_neg h4))))
  ·exact yM (o:=⟨zGp W (zIW W a) (zEL a x x (W.zeJ (zBb W.pn fun k=>(W.zeJ k).id=x).toNat).rs (W.zeJ (zBb W.pn fun k=>(W.zeJ k).id=x).toNat).rb),0,0,0⟩) ((if_neg (by omega)).trans ((if_pos ⟨h1,h2⟩).trans ((if_pos h3).trans (if_pos h4))))
set_option maxRecDepth 20000
set_option maxHeartbeats 3200000
noncomputable abbrev zA2 (W:zB) (x:ByteArray):Nat:=(zBb W.sn fun k=>(W.zeK k).name=x).toNat
noncomputable abbrev zH3 (W:zB) (x:Int):Nat:=(zBb W.pn fun k=>(W.zeJ k).id=x).toNat
open Classical in
noncomputable def zEo(W:zB)(set name:ByteArray):zAk:=if 8000<set.size\/8000<name.size then qD 2 else if qo W/\zA0 name then(if qG W set then(if ∃i,i<W.pn/\(W.zeJ i).set=set/\(W.zeJ i).name=name then qD 5 else if 20<=W.pn\/900000<=W.time\/900000<=W.next then qD 6 else⟨zSu W (zA2 W set) name set,W.next,0,0⟩)else qD 4)else qD 1
theorem zce{x:Int}(h:0<=x)(h':x<1000000):IntKind.i64.wrap (x+1)=x+1:=by
 unfold IntKind.wrap;simp[IntKind.signed,IntKind.bits];omega
attribute [local go_sem] qg List.map_cons List.map_nil Tr.cv yv qT yF yD yu yr yq yC zBD zBF zBE zBA zBC zBB zCc zCe zCd qY zt qZ zu qR qQ qf zAL zp zq yL qW tmpsOf zAy yK qV zA9 yz yx yw zAA yy stpP opds opd opdC kap zAS qS zo coreU bin zAl zCO get put dlO fgt zBP zBI zBM zBN tyT yp yo Op.operands Call.operands evLoad evLen evStore evAlloc zAn and_true true_and List.append_nil List.nil_append List.cons_append Ret resCv zCB yY cellM zBl zCI qh StW StR hpT hpO hpV hpA hpL hpC sg nin zCT bdO tmW obW AvE CsE CvE Av.tup Av.ids Cv.ids inD ObE Ob.ids TrE.refl qU yH yI qb qd qe zr zf zd zAC zBe zCH zBG evCall argL argOf qq outOb obO yU qK cvO tot Tr.own rid partsOf fillC zU zBj frz frz1 evBuildSlice zc trs Cv.tr evSlice Option.toArray_none Option.toArray_some evMakeSlice evAppend dstOf srcOf zA7 zBO zBL zBJ zBK ikT yB yA qz qy RetP RetN zBs qP evLd evSt evStoreH zAe evAppendM evAppendT tlOf mvOf rowE shp evTake oOf evC evCallP evCallN evCallO unlast zAX zA6 zAZ argsF zCS qu pmC varT vT evField evConv dB0 Option.bind_some Option.bind_none Option.map_some Option.map_none Option.isSome_some Option.isSome_none
attribute [local go_sem] yP zb zA5 yW qw zAs zAt zAu zAv zAw zAx zAD zAE zAF zAG zAH zAI zAJ zAK yR qt
attribute [-go_sem] zb
attribute [local go_sem] zAP zB7 zB8 zAU yb
noncomputable def zSN:zX:=qk (fun q:zB×ByteArray×ByteArray=>[woT q.1,sT q.2.1,sT q.2.2]) (fun q=>ym q.1) (fun q=>[wuO (zEo q.1 q.2.1 q.2.2)])
theorem zSO(W:zB)(x a:ByteArray):zSN [woT W,sT x,sT a]=some (ym W,[wuO (zEo W x a)]):=zO (fun l=>(zCW (nth l 0),zDP (nth l 1 0),zDP (nth l 2 0))) (fun _=>rfl) (W,x,a)
theorem zTI:zy Tryz.prog 131 zSN:=by
 refine zQ qA (GOk.cons zCY (zG Tryz.func28 rfl rfl) (GOk.cons zAW (zG Tryz.func23 rfl rfl) (GOk.cons zDH (zG Tryz.func26 rfl rfl) (GOk.cons zCl (zG Tryz.func25 rfl rfl) (GOk.cons zEy (zG Tryz.func106 rfl rfl) (GOk.cons zLT (zG Tryz.func173 rfl rfl) GOk.nil)))))) zz Tryz.func131 rfl Tryz.ntmps131 Tryz.results131 10 ?_;rintro⟨W,x,a⟩ hW;replace hW:ym W:=hW;have hs:=hW.sn;have hp:=hW.pn;refine⟨by simp,?_⟩;by_cases h8:8000<x.size\/8000<a.size
 ·have dA:(8000:Int)<x.size\/(8000:Int)<a.size:=(by omega);simp[go_sem,yG,dA];exact⟨yM (if_pos h8),fun h h'=>absurd h8 (by omega)⟩
 have aA:¬(8000:Int)<x.size:=by omega
 have bA:¬(8000:Int)<a.size:=by omega
 by_cases hR:qo W/\zA0 a;rotate_left
 ·simp[go_sem,zAQ,zAp,zAR,yG,zD0,zEK,hW,hW.toSmallW,hs,hp,zCq,zBT,aA,bA];refine⟨fun _=>yM ((if_neg h8).trans (if_neg hR)),fun h h'=>absurd ⟨h,h'⟩ hR⟩
 obtain⟨hR,hN⟩:=hR;by_cases hH:qG W x;rotate_left
 ·simp[go_sem,zAQ,zAp,zAR,yG,zD0,zEK,hW,hW.toSmallW,hs,hp,zCq,zBT,aA,bA,hR,hN,hH];exact yM ((if_neg h8).trans ((if_pos ⟨hR,hN⟩).trans (if_neg hH)))
 by_cases hE:∃i,i<W.pn/\(W.zeJ i).set=x/\(W.zeJ i).name=a
 ·simp[go_sem,zAQ,zAp,zAR,yG,zD0,zEK,hW,hW.toSmallW,hs,hp,zCq,zBT,aA,bA,hR,hN,hH,hE];exact yM ((if_neg h8).trans ((if_pos ⟨hR,hN⟩).trans ((if_pos hH).trans (if_pos hE))))
 by_cases hF:20<=W.pn\/900000<=W.time\/900000<=W.next
 ·simp[go_sem,zAQ,zAp,zAR,yG,zD0,zEK,hW,hW.toSmallW,hs,hp,zCq,zBT,aA,bA,hR,hN,hH,hE];refine⟨fun _=>yM ((if_neg h8).trans ((if_pos ⟨hR,hN⟩).trans ((if_pos hH).trans ((if_neg hE).trans (if_pos hF))))),fun h h' jA=>absurd hF (by omega)⟩
 have eA:¬(20:Int)<=W.pn:=by omega
 have fA:¬900000<=W.time:=by omega
 have gA:¬900000<=W.next:=by omega
 have hk:=zH1 hH;simp[go_sem,zAQ,zAp,zAR,yG,zD0,zEK,hW,hW.toSmallW,hs,hp,zCq,zBT,aA,bA,hR,hN,hH,hE,eA,fA,gA];have eE:zEo W x a=⟨zSu W (zA2 W x) a x,W.next,0,0⟩:=by
  unfold zEo;rw[if_neg h8,if_pos ⟨hR,hN⟩,if_pos hH,if_neg hE,if_neg hF]
 rw[eE];have iA:zA2 W x<W.sn:=by have:=zBT.2 hH;show(zBb W.sn fun k=>(W.zeK k).name=x).toNat<W.sn;omega
 obtain⟨k,cA⟩:∃k,k=zA2 W x:=⟨_,rfl⟩;rw[<-cA]at iA ⊢;refine⟨hk,by omega,hk,⟨TrE.refl _,zW⟩,⟨TrE.refl _,zm⟩,?_⟩;rw[show(zBb W.sn fun k=>(W.zeK k).name=x).toNat=k from cA.symm];refine⟨zce (by have:=hR.zeM.1.1;omega) (by omega),zce (by have:=hR.zeM.2.1.1;omega) (by omega),⟨⟨.inl rfl,rfl,rfl,fun i j hi hj=>?_⟩,qm⟩,⟨⟨.inl rfl,rfl,rfl,fun i j hi hj=>?_⟩,qI⟩,rfl,rfl,rfl⟩
 ·show TrE _ (setsE .o (fun j=>if j=k then {W.zeK k with zeL:=W.next,dn:=0}else W.zeK j) i j);by_cases e:i=k
  ·subst e
   match j,hj with
   | 0,_ | 1,_ | 2,_ | 3,_ | 4,_=>exact TrE.of_eq (by simp[yN,setsE])
   | 5,_=>simp[yN,setsE,TrE]
  ·exact TrE.of_eq (by unfold setsE;simp[yN,e])
 ·show TrE _ (snapsE .z (fun j=>if j=W.pn then zGe W k a x else W.zeJ j) i j);by_cases e:i<W.pn
  ·exact TrE.of_eq (by unfold snapsE;simp[yX,e,show i≠W.pn by omega])
  ·cases (show i=W.pn by omega)
   match j,hj with
   | 0,_ | 1,_ | 2,_ | 3,_ | 4,_ | 5,_ | 6,_=>exact TrE.of_eq (by simp[yX,snapsE,zGe,Tr.nt])
   | 7,_=>exact TrE.of_eq (by simp[yX,snapsE,zGe,Tr.nt])
set_option maxRecDepth 20000
set_option maxHeartbeats 3200000
noncomputable def zIU(W:zB)(k:Nat)(t:Int):List (Int×Int):=ye (fun i=>zh (zM W.pool (W.zeK k).rs (W.zeK k).rb) i) (fun i=>zn (zM W.pool (W.zeK k).rs (W.zeK k).rb) i) t (zM W.pool (W.zeK k).rs (W.zeK k).rb).length
noncomputable def zdW(W:zB)(k j:Nat):zB:={zIk W (zIU W k (W.zeJ j).time)with zeK:=fun i=>if i=k then {W.zeK k with rs:=(W.zeJ j).rs,rb:=(W.zeJ j).rb,dn:=0}else W.zeK i}
open Classical in
noncomputable def zNm(W:zB)(k:Nat)(x:ByteArray):zAk:=if zBU W (W.zeK k).zeL/\(W.zeJ (zH3 W (W.zeK k).zeL)).set=x then⟨zdW W k (zH3 W (W.zeK k).zeL),0,(zIU W k (W.zeJ (zH3 W (W.zeK k).zeL)).time).length,0⟩else qD 4
open Classical in
noncomputable def zEl(W:zB)(x:ByteArray):zAk:=if 8000<x.size then qD 2 else if qo W then(if qG W x then zNm W (zA2 W x) x else qD 4)else qD 1
theorem zB0(f g:Nat->Int)(t:Int)(n:Nat):(ye f g t n).length<=n:=by
 have:=zFJ f g t n;omega
attribute [local go_sem] qg List.map_cons List.map_nil Tr.cv yv qT yF yD yu yr yq yC zBD zBF zBE zBA zBC zBB zCc zCe zCd qY zt qZ zu qR qQ qf zAL zp zq yL qW tmpsOf zAy yK qV zA9 yz yx yw zAA yy stpP opds opd opdC kap zAS qS zo coreU bin zAl zCO get put dlO fgt zBP zBI zBM zBN tyT yp yo Op.operands Call.operands evLoad evLen evStore evAlloc zAn and_true true_and List.append_nil List.nil_append List.cons_append Ret resCv zCB yY cellM zBl zCI qh StW StR hpT hpO hpV hpA hpL hpC sg nin zCT bdO tmW obW AvE CsE CvE Av.tup Av.ids Cv.ids inD ObE Ob.ids TrE.refl qU yH yI qb qd qe zr zf zd zAC zBe zCH zBG evCall argL argOf qq outOb obO yU qK cvO tot Tr.own rid partsOf fillC zU zBj frz frz1 evBuildSlice zc trs Cv.tr evSlice Option.toArray_none Option.toArray_some evMakeSlice evAppend dstOf srcOf zA7 zBO zBL zBJ zBK ikT yB yA qz qy RetP RetN zBs qP evLd evSt evStoreH zAe evAppendM evAppendT tlOf mvOf rowE shp evTake oOf evC evCallP evCallN evCallO unlast zAX zA6 zAZ argsF zCS qu pmC varT vT evField evConv dB0 Option.bind_some Option.bind_none Option.map_some Option.map_none Option.isSome_some Option.isSome_none
attribute [local go_sem] yP zb zA5 yW qw zAs zAt zAu zAv zAw zAx zAD zAE zAF zAG zAH zAI zAJ zAK yR qt
attribute [-go_sem] zb
attribute [local go_sem] zAP zB7 zB8 zAU yb
noncomputable def zcQ:zX:=qk (fun q:zB×ByteArray=>[woT q.1,sT q.2]) (fun q=>ym q.1) (fun q=>[wuO (zEl q.1 q.2)])
theorem zHt(W:zB)(x:ByteArray):zcQ [woT W,sT x]=some (ym W,[wuO (zEl W x)]):=zO (fun l=>(zCW (nth l 0),zDP (nth l 1 0))) (fun _=>rfl) (W,x)
theorem zLG:zy Tryz.prog 7 zcQ:=by
 refine zQ qA (GOk.cons zCY (zG Tryz.func28 rfl rfl) (GOk.cons zAW (zG Tryz.func23 rfl rfl) (GOk.cons zDH (zG Tryz.func26 rfl rfl) (GOk.cons zC5 (zG Tryz.func27 rfl rfl) (GOk.cons zCl (zG Tryz.func25 rfl rfl) (GOk.cons zC4 (zG Tryz.func30 rfl rfl) (GOk.cons zFs (zG Tryz.func29 rfl rfl) (GOk.ptr zJC (zG Tryz.func31 rfl rfl) GOk.nil)))))))) zz Tryz.func7 rfl Tryz.ntmps7 Tryz.results7 11 ?_;rintro⟨W,x⟩ hW;replace hW:ym W:=hW;have hs:=hW.sn;have hp:=hW.pn;refine⟨by simp,?_⟩;by_cases h8:8000<x.size
 ·simp[go_sem,yG,show(8000:Int)<x.size by omega];exact yM (if_pos h8)
 have bA:¬(8000:Int)<x.size:=by omega
 by_cases hR:qo W;rotate_left
 ·simp[go_sem,zAQ,zAp,zAR,yG,hW,hW.toSmallW,hs,hp,zCq,zBT,bA,hR];exact yM ((if_neg h8).trans (if_neg hR))
 by_cases hH:qG W x;rotate_left
 ·simp[go_sem,zAQ,zAp,zAR,yG,hW,hW.toSmallW,hs,hp,zCq,zBT,bA,hR,hH];exact yM ((if_neg h8).trans ((if_pos hR).trans (if_neg hH)))
 have hk:=zH1 hH;have eA:=zBT.2 hH;have aA:zA2 W x<W.sn:=by show(zBb W.sn fun k=>(W.zeK k).name=x).toNat<W.sn;omega
 obtain⟨k,cA⟩:∃k,k=zA2 W x:=⟨_,rfl⟩;have dA:(zBb W.sn fun k=>(W.zeK k).name=x)=(k:Int):=by rw[cA];show _=((zBb W.sn fun k=>(W.zeK k).name=x).toNat:Int);omega
 rw[<-cA]at aA;have hT:=(hR.zeK k aA).1;simp[go_sem,zAQ,zAp,zAR,zCA,yG,zBx,zGS,zNI,hW,hW.toSmallW,hs,hp,dA,bA,hR,hR.right,hT,aA,zMx,zJx];have eR:zEl W x=zNm W k x:=by
  unfold zEl;rw[if_neg h8,if_pos hR,if_pos hH,<-cA]
 refine⟨fun h=>absurd h (by omega),by kernel_rfl,fun h=>⟨h,zPK h⟩,fun h=>?_,fun h1 h2=>?_⟩
 ·exact yM (eR.trans (if_neg fun e=>h.elim (fun h=>h e.1) (fun h=>h (congrArg ByteArray.toList e.2))))
 rw[eR,zNm,if_pos ⟨h1,zCg h2⟩];have hn:=zGP hR.right;refine⟨⟨h1,zPK h1⟩,Nat.le_trans (qx ..) (by omega),by kernel_rfl,?_,⟨h1,zPK h1⟩,aA,by kernel_rfl,aA,⟨TrE.refl _,zW⟩,⟨TrE.refl _,zm⟩,rfl,rfl,⟨⟨.inl rfl,rfl,rfl,fun i j hi hj=>?_⟩,qm⟩,⟨TrE.refl _,qI⟩,rfl,rfl,rfl⟩
 ·have hl:(zM W.pool (W.zeK k).rs (W.zeK k).rb).length<=73:=qx ..;exact Nat.le_trans (Nat.add_le_add_left (Nat.le_trans (zB0 ..) hl) _) (by omega)
 show TrE _ (setsE .o (fun i=>if i=k then {W.zeK k with rs:=(W.zeJ (zH3 W (W.zeK k).zeL)).rs,rb:=(W.zeJ (zH3 W (W.zeK k).zeL)).rb,dn:=0}else W.zeK i) i j);by_cases e:i=k
 ·subst e
  match j,hj with
  | 0,_ | 1,_ | 2,_ | 3,_ | 4,_=>exact TrE.of_eq (by simp[yN,setsE,zIk])
  | 5,_=>simp[yN,setsE,TrE]
 ·exact TrE.of_eq (by unfold setsE;simp[yN,e,zIk])
set_option maxRecDepth 20000
set_option maxHeartbeats 3200000
noncomputable def zb4(W:zB)(k:Nat):zB:={zIk W (zIU W k (zE W (W.zeK k).zeL).time)with sn:=W.sn - 1,zeK:=fun i=>if i<k then W.zeK i else W.zeK (i+1)}
open Classical in
noncomputable def zEe(W:zB)(x:ByteArray):zAk:=if 8000<x.size then qD 2 else if qo W then(if qG W x then(if ∃i,i<W.pn/\(W.zeJ i).set=x then qD 7 else⟨zb4 W (zA2 W x),0,(zIU W (zA2 W x) (zE W (W.zeK (zA2 W x)).zeL).time).length,0⟩)else qD 4)else qD 1
theorem zRv{W:zB}{l:List (Int×Int)}:(zIk W l).sn=W.sn:=rfl
theorem zMt{W:zB}{l:List (Int×Int)}:(zIk W l).zeK=W.zeK:=rfl
theorem zRu{W:zB}{l:List (Int×Int)}:(zIk W l).pn=W.pn:=rfl
theorem zLN{W:zB}{l:List (Int×Int)}:(zIk W l).zeJ=W.zeJ:=rfl
attribute [local go_sem] qg List.map_cons List.map_nil Tr.cv yv qT yF yD yu yr yq yC zBD zBF zBE zBA zBC zBB zCc zCe zCd qY zt qZ zu qR qQ qf zAL zp zq yL qW tmpsOf zAy yK qV zA9 yz yx yw zAA yy stpP opds opd opdC kap zAS qS zo coreU bin zAl zCO get put dlO fgt zBP zBI zBM zBN tyT yp yo Op.operands Call.operands evLoad evLen evStore evAlloc zAn and_true true_and List.append_nil List.nil_append List.cons_append Ret resCv zCB yY cellM zBl zCI qh StW StR hpT hpO hpV hpA hpL hpC sg nin zCT bdO tmW obW AvE CsE CvE Av.tup Av.ids Cv.ids inD ObE Ob.ids TrE.refl qU yH yI qb qd qe zr zf zd zAC zBe zCH zBG evCall argL argOf qq outOb obO yU qK cvO tot Tr.own rid partsOf fillC zU zBj frz frz1 evBuildSlice zc trs Cv.tr evSlice Option.toArray_none Option.toArray_some evMakeSlice evAppend dstOf srcOf zA7 zBO zBL zBJ zBK ikT yB yA qz qy RetP RetN zBs qP evLd evSt evStoreH zAe evAppendM evAppendT tlOf mvOf rowE shp evTake oOf evC evCallP evCallN evCallO unlast zAX zA6 zAZ argsF zCS qu pmC varT vT evField evConv dB0 Option.bind_some Option.bind_none Option.map_some Option.map_none Option.isSome_some Option.isSome_none
attribute [local go_sem] yP zb zA5 yW qw zAs zAt zAu zAv zAw zAx zAD zAE zAF zAG zAH zAI zAJ zAK yR qt
attribute [-go_sem] zb
attribute [local go_sem] zAP zB7 zB8 zAU yb
noncomputable def zcA:zX:=qk (fun q:zB×ByteArray=>[woT q.1,sT q.2]) (fun q=>ym q.1) (fun q=>[wuO (zEe q.1 q.2)])
theorem zHq(W:zB)(x:ByteArray):zcA [woT W,sT x]=some (ym W,[wuO (zEe W x)]):=zO (fun l=>(zCW (nth l 0),zDP (nth l 1 0))) (fun _=>rfl) (W,x)
theorem zIZ:zy Tryz.prog 15 zcA:=by
 refine zQ qA (GOk.cons zCY (zG Tryz.func28 rfl rfl) (GOk.cons zAW (zG Tryz.func23 rfl rfl) (GOk.cons zDH (zG Tryz.func26 rfl rfl) (GOk.cons zCl (zG Tryz.func25 rfl rfl) (GOk.cons zDj (zG Tryz.func39 rfl rfl) (GOk.cons zC4 (zG Tryz.func30 rfl rfl) (GOk.cons zFs (zG Tryz.func29 rfl rfl) (GOk.cons zWp (zG Tryz.func38 rfl rfl) (GOk.ptr zJC (zG Tryz.func31 rfl rfl) GOk.nil))))))))) zz Tryz.func15 rfl Tryz.ntmps15 Tryz.results15 12 ?_;rintro⟨W,x⟩ hW;replace hW:ym W:=hW;have hs:=hW.sn;have hp:=hW.pn;refine⟨by simp,?_⟩;by_cases h8:8000<x.size
 ·simp[go_sem,yG,show(8000:Int)<x.size by omega];exact yM (if_pos h8)
 have aA:¬(8000:Int)<x.size:=by omega
 by_cases hR:qo W;rotate_left
 ·simp[go_sem,zAQ,zAp,zAR,yG,hW,hW.toSmallW,hs,hp,zCq,zBT,aA,hR];exact yM ((if_neg h8).trans (if_neg hR))
 by_cases hH:qG W x;rotate_left
 ·simp[go_sem,zAQ,zAp,zAR,yG,hW,hW.toSmallW,hs,hp,zCq,zBT,aA,hR,hH];exact yM ((if_neg h8).trans ((if_pos hR).trans (if_neg hH)))
 have hk:=zH1 hH;have fA:=zBT.2 hH;have cA:zA2 W x<W.sn:=by show(zBb W.sn fun k=>(W.zeK k).name=x).toNat<W.sn;omega
 obtain⟨k,bA⟩:∃k,k=zA2 W x:=⟨_,rfl⟩;have dA:(zBb W.sn fun k=>(W.zeK k).name=x)=(k:Int):=by rw[bA];show _=((zBb W.sn fun k=>(W.zeK k).name=x).toNat:Int);omega
 have eA:¬(k:Int)<0:=by omega
 by_cases hO:∃i,i<W.pn/\(W.zeJ i).set=x
 ·simp[go_sem,zAQ,zAp,zAR,yG,zVO,hW,hW.toSmallW,hs,hp,dA,eA,aA,hR,hO];exact yM ((if_neg h8).trans ((if_pos hR).trans ((if_pos hH).trans (if_pos hO))))
 have eR:zEe W x=⟨zb4 W k,0,(zIU W k (zE W (W.zeK k).zeL).time).length,0⟩:=by
  unfold zEe;rw[if_neg h8,if_pos hR,if_pos hH,if_neg hO,<-bA]
 rw[<-bA]at cA;have hT:=(hR.zeK k cA).1;have hz:=zFA (fun k hk=>(hR.zeM.zeI.ids k hk).1) (W.zeK k).zeL;simp[go_sem,zAQ,zAp,zAR,zVO,zEJ,yG,zBx,zGS,zNI,hW,hW.toSmallW,hs,hp,dA,eA,aA,hR,hO,hz,hR.right,hT,cA,eR,qB (show k<=1000000000 by omega),zRv,zMt,zRu,zLN];have hn:=zGP hR.right;refine⟨by kernel_rfl,Nat.le_trans (qx ..) (by omega),by kernel_rfl,?_,?_⟩
 ·have hl:(zM W.pool (W.zeK k).rs (W.zeK k).rb).length<=73:=qx ..;exact Nat.le_trans (Nat.add_le_add_left (Nat.le_trans (zB0 ..) hl) _) (by omega)
 refine⟨by omega,⟨by omega,by omega⟩,⟨by omega,by omega⟩,⟨by omega,by omega⟩,by kernel_rfl,⟨TrE.refl _,zW⟩,⟨TrE.refl _,zm⟩,rfl,rfl,⟨⟨.inl rfl,rfl,by show k+(W.sn - (k+1))=W.sn - 1;omega,fun i j hi hj=>TrE.of_eq ?_⟩,qm⟩,⟨TrE.refl _,qI⟩,rfl⟩;show _=setsE .o (fun i=>if i<k then W.zeK i else W.zeK (i+1)) i j;by_cases e:i<k
 ·unfold setsE;simp[yX,e]
 ·have:k+1+(i - k)=i+1:=(by omega);have h2:¬i+1<k:=(by omega);unfold setsE;simp[yX,e,ntR,this,h2]
set_option maxRecDepth 20000
set_option maxHeartbeats 3200000
def zHQ(W:zB)(other:ByteArray)(id:Int)(n j:Nat):Prop:=∃m x,m<n/\Steps W other id m x/\yV W x j
def zXq(W:zB)(other:ByteArray)(id:Int)(j:Nat):Prop:=∃m x,Steps W other id m x/\yV W x j/\(W.zeJ j).set=other
open Classical in
noncomputable def zLr(W:zB)(name:ByteArray)(V:Nat->Prop):Nat->zl:=fun j=>if V j then {W.zeJ j with set:=name}else W.zeJ j
def zP1(W:zB)(x y:ByteArray):Prop:=∃i,i<W.pn/\(W.zeJ i).set=x/\(W.zeJ i).name=y
noncomputable def zZu(W:zB)(k d:Nat)(name other:ByteArray)(id:Int):zB:={W with zeJ:=zLr W name (zXq W other id),zeK:=fun i=>if i=d then {W.zeK d with origin:=id}else if i=k then {W.zeK k with origin:=(W.zeK d).origin}else W.zeK i}
open Classical in
noncomputable def zZt(W:zB)(k:Nat)(x other:ByteArray)(id:Int):zAk:=if ∃j,zXq W other id j/\zP1 W x (W.zeJ j).name then qD 5 else⟨zZu W k (zA2 W other) x other id,id,0,0⟩
open Classical in
noncomputable def zSd(W:zB)(x:ByteArray):zAk:=if 8000<x.size then qD 2 else if qo W then(if qG W x then(if (W.zeK (zA2 W x)).origin=0 then qD 7 else zZt W (zA2 W x) x (W.zeJ (zH3 W (W.zeK (zA2 W x)).origin)).set (W.zeK (zA2 W x)).origin)else qD 4)else qD 1
theorem zQi{W:zB}{aA:ByteArray}{id x:Int}{n j:Nat}(h:Steps W aA id n x)(hj:yV W x j){i:Nat}:zHQ W aA id (n+1) i↔i=j\/zHQ W aA id n i:=by
 constructor
 ·rintro⟨m,y,hm,hs,hi⟩;by_cases e:m=n
  ·subst e;rw[hs.det h]at hi;exact .inl (hi.uniq hj)
  ·exact .inr ⟨m,y,by omega,hs,hi⟩
 ·rintro(rfl | ⟨m,y,hm,hs,hi⟩)
  ·exact⟨n,x,by omega,h,hj⟩
  ·exact⟨m,y,by omega,hs,hi⟩
theorem zSR{W:zB}{aA:ByteArray}{id x:Int}{n:Nat}(h:Steps W aA id n x)(hx:¬zHJ W aA x){i:Nat}:zHQ W aA id n i↔zXq W aA id i:=by
 constructor
 ·rintro⟨m,y,hm,hs,hi⟩;obtain⟨z,hz,j,hj,bA⟩:=h.less hm;rw[hs.det hz]at hi;refine⟨m,z,hz,hi,?_⟩;rw[hi.uniq hj];exact bA
 ·rintro⟨m,y,hs,hi,bA⟩;by_cases hm:m<n
  ·exact⟨m,y,hm,hs,hi⟩
  ·exfalso;by_cases e:m=n
   ·subst e;rw[hs.det h]at hi;exact hx ⟨i,hi,bA⟩
   ·obtain⟨z,hz,ho⟩:=hs.less (show n<m by omega);rw[h.det hz]at hx;exact hx ho
attribute [local go_sem] qg List.map_cons List.map_nil Tr.cv yv qT yF yD yu yr yq yC zBD zBF zBE zBA zBC zBB zCc zCe zCd qY zt qZ zu qR qQ qf zAL zp zq yL qW tmpsOf zAy yK qV zA9 yz yx yw zAA yy stpP opds opd opdC kap zAS qS zo coreU bin zAl zCO get put dlO fgt zBP zBI zBM zBN tyT yp yo Op.operands Call.operands evLoad evLen evStore evAlloc zAn and_true true_and List.append_nil List.nil_append List.cons_append Ret resCv zCB yY cellM zBl zCI qh StW StR hpT hpO hpV hpA hpL hpC sg nin zCT bdO tmW obW AvE CsE CvE Av.tup Av.ids Cv.ids inD ObE Ob.ids TrE.refl qU yH yI qb qd qe zr zf zd zAC zBe zCH zBG evCall argL argOf qq outOb obO yU qK cvO tot Tr.own rid partsOf fillC zU zBj frz frz1 evBuildSlice zc trs Cv.tr evSlice Option.toArray_none Option.toArray_some evMakeSlice evAppend dstOf srcOf zA7 zBO zBL zBJ zBK ikT yB yA qz qy RetP RetN zBs qP evLd evSt evStoreH zAe evAppendM evAppendT tlOf mvOf rowE shp evTake oOf evC evCallP evCallN evCallO unlast zAX zA6 zAZ argsF zCS qu pmC varT vT evField evConv dB0 Option.bind_some Option.bind_none Option.map_some Option.map_none Option.isSome_some Option.isSome_none
attribute [local go_sem] yP zb zA5 yW qw zAs zAt zAu zAv zAw zAx zAD zAE zAF zAG zAH zAI zAJ zAK yR qt
attribute [-go_sem] zb
attribute [local go_sem] zAP zB7 zB8 zAU yb
noncomputable def zdn:zX:=qk (fun q:zB×ByteArray=>[woT q.1,sT q.2]) (fun q=>ym q.1) (fun q=>[wuO (zSd q.1 q.2)])
theorem zbH(W:zB)(x:ByteArray):zdn [woT W,sT x]=some (ym W,[wuO (zSd W x)]):=zO (fun l=>(zCW (nth l 0),zDP (nth l 1 0))) (fun _=>rfl) (W,x)
theorem zTG:zy Tryz.prog 134 zdn:=by
 refine zQ qA (GOk.cons zCY (zG Tryz.func28 rfl rfl) (GOk.cons zAW (zG Tryz.func23 rfl rfl) (GOk.cons zDH (zG Tryz.func26 rfl rfl) (GOk.cons zC5 (zG Tryz.func27 rfl rfl) (GOk.cons zCl (zG Tryz.func25 rfl rfl) (GOk.cons zLT (zG Tryz.func173 rfl rfl) GOk.nil)))))) zz Tryz.func134 rfl Tryz.ntmps134 Tryz.results134 12 ?_;rintro⟨W,x⟩ hW;replace hW:ym W:=hW;have hs:=hW.sn;have hp:=hW.pn;refine⟨by simp,?_⟩;by_cases h8:8000<x.size
 ·simp[go_sem,yG,show(8000:Int)<x.size by omega];exact yM (if_pos h8)
 have eA:¬(8000:Int)<x.size:=by omega
 by_cases hR:qo W;rotate_left
 ·simp[go_sem,zAQ,zAp,zAR,yG,hW,hW.toSmallW,hs,hp,zCq,zBT,eA,hR];exact yM ((if_neg h8).trans (if_neg hR))
 by_cases hH:qG W x;rotate_left
 ·simp[go_sem,zAQ,zAp,zAR,yG,hW,hW.toSmallW,hs,hp,zCq,zBT,eA,hR,hH];exact yM ((if_neg h8).trans ((if_pos hR).trans (if_neg hH)))
 have hk:=zH1 hH;have eB:=zBT.2 hH;have cA:zA2 W x<W.sn:=by show(zBb W.sn fun k=>(W.zeK k).name=x).toNat<W.sn;omega
 obtain⟨k,fA⟩:∃k,k=zA2 W x:=⟨_,rfl⟩;have sA:(zBb W.sn fun k=>(W.zeK k).name=x)=(k:Int):=by rw[fA];show _=((zBb W.sn fun k=>(W.zeK k).name=x).toNat:Int);omega
 have aB:¬(k:Int)<0:=by omega
 rw[<-fA]at cA;by_cases hO:(W.zeK k).origin=0
 ·simp[go_sem,zAQ,zAp,zAR,yG,hW,hW.toSmallW,hs,hp,sA,aB,eA,hR,cA,hO];exact yM ((if_neg h8).trans ((if_pos hR).trans ((if_pos hH).trans (if_pos (fA▸hO)))))
 have hI:zBU W (W.zeK k).origin:=(hR.zeM.2.2.2.2.1 k cA).2.2.2 hO;obtain⟨q,hq⟩:=hI.no;have tA:(zBb W.pn fun j=>(W.zeJ j).id=(W.zeK k).origin)=(q:Int):=zDy hq.1 hq.2.1 hq.2.2;have bB:=hq.1;obtain⟨id,jA⟩:∃id,id=(W.zeK k).origin:=⟨_,rfl⟩;obtain⟨aA,kA⟩:∃o,o=(W.zeJ q).set:=⟨_,rfl⟩;simp[go_sem,zAQ,zAp,zAR,zCA,yG,zEK,hW,hW.toSmallW,hs,hp,sA,aB,eA,hR,cA,hO,tA,bB];rw[<-jA,<-kA];refine⟨by kernel_rfl,?_⟩;have iA:=hR.zeM.zeI;have hS:qG W aA:=by rw[kA];exact(hR.zeM.2.2.2.2.2 q bB).1.2.2.2.2.2
 have hd:=zH1 hS;have cB:=zBT.2 hS;obtain⟨d,nA⟩:∃d,d=zA2 W aA:=⟨_,rfl⟩;have pA:(zBb W.sn fun k=>(W.zeK k).name=aA)=(d:Int):=by rw[nA];show _=((zBb W.sn fun k=>(W.zeK k).name=aA).toNat:Int);omega
 have oA:d<W.sn:=by omega
 have eR:zSd W x=zZt W k x aA id:=by
  unfold zSd;rw[if_neg h8,if_pos hR,if_pos hH,<-fA,if_neg hO,jA,kA];show zZt W k x (W.zeJ (zBb W.pn fun j=>(W.zeJ j).id=(W.zeK k).origin).toNat).set _=_;rw[tA,Int.toNat_natCast]
 rw[eR];refine yE (fun q:Nat×Int=>⟨[(9,true,.m false [.v (.int .i64 q.2)]),(8,true,.m false [.p 8 0]),(7,true,.m false [.v (.string aA)]),(6,true,.m false [.v (.int .i64 id)]),(5,true,.i k),(4,true,.m false [.p 4 0]),(2,true,.m false [.p 2 0]),(1,true,.m false [.v (.string x)])],[(8,.var [.h 61,.h 62,.v (.int .i64 W.time),.v (.int .i64 W.next),.h 63,.h 64]),(64,.row 8 W.pn (snapsE .z (zLr W x (zHQ W aA id q.1)))),(63,.row 6 W.sn (setsE .o W.zeK)),(62,.row 1 W.pool.hn (yT W.pool.h)),(61,.row 3 W.pool.n (zk .z W.pool.s)),(4,.var [.v n0,.v n0,.v i0,.v i0,.v n0,.v n0,.v i0,.v i0,.v i0]),(2,.var ((woL W).map Tr.cv))]⟩) (fun q=>1000000 - q.1) (fun q=>zDe W aA id q.1 q.2/\∀j,zHQ W aA id q.1 j->¬zP1 W x (W.zeJ j).name) (0,id) ?_ ⟨zDe.start iA _ (.inr (jA▸hI)),fun j ⟨m,y,hm,_⟩=>absurd hm (Nat.not_lt_zero _)⟩ ?_
 ·have e0:zLr W x (zHQ W aA id 0)=W.zeJ:=funext fun j=>if_neg fun ⟨m,y,hm,_⟩=>absurd hm (Nat.not_lt_zero _)
  simp[go_sem,e0]
 rintro⟨n,y⟩ ⟨hw,gA⟩;replace hw:zDe W aA id n y:=hw;replace gA:∀j,zHQ W aA id n j->¬zP1 W x (W.zeJ j).name:=gA;have ha:n<=900000:=by have:=hw.least;have:=hw.sum;omega
 have hM:¬zHJ W aA y->zLr W x (zHQ W aA id n)=zLr W x (zXq W aA id):=fun he=>by
  have:zHQ W aA id n=zXq W aA id:=funext fun i=>propext (zSR hw.steps he)
  rw[this]
 have hK:¬zHJ W aA y->zZt W k x aA id=⟨zZu W k d x aA id,id,0,0⟩:=fun he=>by
  rw[nA];exact if_neg fun ⟨i,h1,h2⟩=>gA i ((zSR hw.steps he).2 h1) h2
 have mA:TrE (Tr.s .o 6 W.sn (yN (yN (setsE .o W.zeK) k 1 [.v (.int .i64 (W.zeK d).origin)]) d 1 [.v (.int .i64 id)])) (Tr.s .o 6 W.sn (setsE .o (zZu W k d x aA id).zeK)):=zES fun i j hi hj=>by
  show _=setsE .o (fun i=>if i=d then {W.zeK d with origin:=id}else if i=k then {W.zeK k with origin:=(W.zeK d).origin}else W.zeK i) i j;by_cases e1:i=d
  ·subst e1;by_cases e2:i=k
   ·subst e2
    match j,hj with
    | 0,_ | 1,_ | 2,_ | 3,_ | 4,_ | 5,_=>simp[yN,setsE]
   ·match j,hj with
    | 0,_ | 1,_ | 2,_ | 3,_ | 4,_ | 5,_=>simp[yN,setsE,e2]
  ·by_cases e2:i=k
   ·subst e2
    match j,hj with
    | 0,_ | 1,_ | 2,_ | 3,_ | 4,_ | 5,_=>simp[yN,setsE,e1]
   ·unfold setsE;simp[yN,e1,e2]
 by_cases hy:y=0
 ·subst hy;have bA:=zKD iA aA;simp[go_sem,zAR,hs,pA,oA,cA];rw[hK bA,hM bA];exact⟨by kernel_rfl,⟨TrE.refl _,zW⟩,⟨TrE.refl _,zm⟩,rfl,rfl,⟨mA,qm⟩,⟨TrE.refl _,qI⟩,rfl,rfl,rfl⟩
 obtain⟨j,hj⟩:=(hw.there.resolve_left hy).no;have rA:(zBb W.pn fun i=>(W.zeJ i).id=y)=(j:Int):=zDy hj.1 hj.2.1 hj.2.2;have vA:=hj.1;by_cases dA:(W.zeJ j).set=aA;rotate_left
 ·have bA:=zNZ hj dA;have lA:¬(W.zeJ j).set.toList=aA.toList:=fun e=>dA (zCg e)
  simp[go_sem,zAR,zCA,hs,hp,pA,oA,cA,hy,rA,vA,lA];rw[hK bA,hM bA];exact⟨by kernel_rfl,⟨TrE.refl _,zW⟩,⟨TrE.refl _,zm⟩,rfl,rfl,⟨mA,qm⟩,⟨TrE.refl _,qI⟩,rfl,rfl,rfl⟩
 simp[go_sem,zAR,zCA,yG,zEK,hs,hp,hy,rA,vA,dA];refine⟨by kernel_rfl,fun i hi h1 h2=>yM (if_pos ⟨j,⟨n,y,hw.steps,hj,dA⟩,i,hi,h1,h2⟩),fun h=>⟨n+1,_,⟨hw.next iA hj dA,fun i hi=>?_⟩,by omega,rfl,zES fun i c hi hc=>?_⟩⟩
 ·rcases(zQi hw.steps hj).1 hi with rfl | hi
  ·exact fun ⟨a,h1,h2,h3⟩=>h a h1 h2 h3
  ·exact gA i hi
 ·by_cases e:i=j
  ·subst e;have hv:zHQ W aA id (n+1) i:=(zQi hw.steps hj).2 (.inl rfl);have h1:zLr W x (zHQ W aA id (n+1)) i = {W.zeJ i with set:=x}:=if_pos hv;have h2:zLr W x (zHQ W aA id n) i = {W.zeJ i with set:=x}\/zLr W x (zHQ W aA id n) i=W.zeJ i:=by
    by_cases g:zHQ W aA id n i
    ·exact .inl (if_pos g)
    ·exact .inr (if_neg g)
   rcases h2 with h2 | h2
   ·match c,hc with
    | 0,_ | 1,_ | 2,_ | 3,_ | 4,_ | 5,_ | 6,_ | 7,_=>simp[yN,snapsE,h1,h2]
   ·match c,hc with
    | 0,_ | 1,_ | 2,_ | 3,_ | 4,_ | 5,_ | 6,_ | 7,_=>simp[yN,snapsE,h1,h2]
  ·have h1:zLr W x (zHQ W aA id (n+1)) i=zLr W x (zHQ W aA id n) i:=by
    have:zHQ W aA id (n+1) i=zHQ W aA id n i:=propext ((zQi hw.steps hj).trans ⟨fun h=>h.resolve_left e,.inr⟩);unfold zLr;rw[this]
   unfold snapsE;simp[yN,e,h1]
def zD6(n:Nat)(f g:Nat->Int):List (Int×Int):=(List.range n).map fun i=>(f i,g i)
theorem zSE(p:zF)(xs xb:Int)(n:Nat)(b:Int)(o:zKY):qs (zIX p xs xb n b o).pool<=qs o.pool+16/\(zIX p xs xb n b o).old.length<=3:=by
 have h2:=zPT p xs xb n b o 2;have h3:(zUN p xs xb n 3).length<=3:=zC3 _ _ 3;unfold zIX;split
 ·exact⟨Nat.zero_le _,Nat.zero_le _⟩
 ·split
  ·exact⟨Nat.zero_le _,Nat.zero_le _⟩
  ·exact⟨by show qs (zCp p xs xb n b o 2).pool<=_;omega,h3⟩
theorem zH5(p:zF)(xs xb aA:Int)(d:ByteArray)(b:Int):qs (zDN p xs xb aA d b).pool<=qs p+40/\(zDN p xs xb aA d b).old.length<=3:=by
 unfold zDN;split
 ·exact⟨Nat.zero_le _,Nat.zero_le _⟩
 ·split
  ·split
   ·rename_i hd
    split
    ·have h1:=zSE p xs xb aA.toNat b ⟨(zCv p (zBH b d)).pool,(zCv p (zBH b d)).ps,(zCv p (zBH b d)).pb,0⟩;have h2:=zN3 p (zBH b d);have h3:zCu (zBH b d)=16:=(by show 0+d.size=16;rw[hd.2]);exact⟨by have h4:=h1.1;simp only at h4;omega,h1.2⟩
    ·exact⟨Nat.zero_le _,Nat.zero_le _⟩
   ·exact⟨Nat.zero_le _,Nat.zero_le _⟩
  ·exact⟨Nat.zero_le _,Nat.zero_le _⟩
theorem zJQ(p:zF)(xs xb aA b:Int):qs (zHP p xs xb aA b).pool<=qs p+40/\(zHP p xs xb aA b).old.length<=3:=by
 unfold zHP;split
 ·split
  ·split
   ·exact⟨Nat.zero_le _,Nat.zero_le _⟩
   ·have h1:=zSE p xs xb aA.toNat b ⟨p,0,0,0⟩;exact⟨by have h4:=h1.1;simp only at h4;omega,h1.2⟩
  ·exact⟨Nat.zero_le _,Nat.zero_le _⟩
 ·exact⟨Nat.zero_le _,Nat.zero_le _⟩
noncomputable def zbC(W:zB)(k:Nat)(y:zEd):List (Int×Int):=ye (zh y.old) (zn y.old) (zE W (W.zeK k).zeL).time y.old.length
noncomputable def zdc(W:zB)(k:Nat)(y:zEd):List (Int×Int):=zD4 (zh y.old) (zn y.old) (zE W (W.zeK k).zeL).time y.old.length
noncomputable def zYl(W:zB)(k:Nat)(y:zEd):List (Int×Int):=zD6 (W.zeK k).dn (W.zeK k).ds (W.zeK k).db ++ zdc W k y
noncomputable def zNC(W:zB)(k:Nat)(y:zEd):qi:={W.zeK k with rs:=y.rs,rb:=y.rb,dn:=(zYl W k y).length,ds:=zh (zYl W k y),db:=zn (zYl W k y)}
noncomputable def zdd(W:zB)(k:Nat)(y:zEd):zB:={W with pool:=zT y.pool (zbC W k y),zeK:=fun j=>if j=k then zNC W k y else W.zeK j}
open Classical in
noncomputable def zGB(W:zB)(k:Nat)(y:zEd):zAk:=if y.code=0 then⟨zdd W k y,0,((zbC W k y).length:Int),0⟩else qD y.code
end Go.Proofs.YtjganmlaooofoaaGreatDoor
