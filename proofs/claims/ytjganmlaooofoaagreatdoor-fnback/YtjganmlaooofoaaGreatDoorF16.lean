/- A part of the proof. -/
import Derived.Test.YtjganmlaooofoaaGreatDoorF15
set_option linter.unusedVariables false
set_option maxRecDepth 20000
set_option maxHeartbeats 4000000
namespace Go.Proofs.YtjganmlaooofoaaGreatDoor
open Go.RowKit
set_option linter.unusedSimpArgs false
set_option maxRecDepth 20000
set_option maxHeartbeats 1600000
theorem zMx{W:zB}{x:Int}:(zBb W.pn fun k=>(W.zeJ k).id=x)<0↔¬zBU W x:=by
 rcases zMj (zEY W.pn fun k=>(W.zeJ k).id=x)with⟨h,h1,-⟩ | ⟨h,h1⟩
 ·exact⟨fun e=>absurd e (by omega),fun e=>absurd h e⟩
 ·rw[h1];exact⟨fun _=>h,fun _=>by decide⟩
theorem zJx{W:zB}{x:Int}:(0<=zBb W.pn fun k=>(W.zeJ k).id=x)↔zBU W x:=by
 rw[<-Int.not_lt,zMx,Classical.not_not]
theorem zCq{W:zB}{x:ByteArray}:(zBb W.sn fun k=>(W.zeK k).name=x)<0↔¬qG W x:=by
 rcases zWZ (zEY W.sn fun k=>(W.zeK k).name=x)with⟨h,h1⟩ | ⟨h,h1⟩
 ·exact⟨fun e=>absurd e (by omega),fun e=>absurd h e⟩
 ·rw[h1];exact⟨fun _=>h,fun _=>by decide⟩
theorem zBT{W:zB}{x:ByteArray}:(0<=zBb W.sn fun k=>(W.zeK k).name=x)↔qG W x:=by
 rw[<-Int.not_lt,zCq,Classical.not_not]
theorem zch{k:Nat}(h:k<=1000000000):IntKind.i64.wrap ((k:Int) - 1)=(k:Int) - 1:=by
 unfold IntKind.wrap;simp[IntKind.signed,IntKind.bits];omega
theorem tn1{k:Nat}:((k:Int) - 1).toNat=k - 1:=by omega
attribute [local go_sem] qg List.map_cons List.map_nil Tr.cv yv qT yF yD yu yr yq yC zBD zBF zBE zBA zBC zBB zCc zCe zCd qY zt qZ zu qR qQ qf zAL zp zq yL qW tmpsOf zAy yK qV zA9 yz yx yw zAA yy stpP opds opd opdC kap zAS qS zo coreU bin zAl zCO get put dlO fgt zBP zBI zBM zBN tyT yp yo Op.operands Call.operands evLoad evLen evStore evAlloc zAn and_true true_and List.append_nil List.nil_append List.cons_append Ret resCv zCB yY cellM zBl zCI qh StW StR hpT hpO hpV hpA hpL hpC sg nin zCT bdO tmW obW AvE CsE CvE Av.tup Av.ids Cv.ids inD ObE Ob.ids TrE.refl qU yH yI qb qd qe zr zf zd zAC zBe zCH zBG evCall argL argOf qq outOb obO yU qK cvO tot Tr.own rid partsOf fillC zU zBj frz frz1 evBuildSlice zc trs Cv.tr evSlice Option.toArray_none Option.toArray_some evMakeSlice evAppend dstOf srcOf zA7 zBO zBL zBJ zBK ikT yB yA qz qy RetP RetN zBs qP evLd evSt evStoreH zAe evAppendM evAppendT tlOf mvOf rowE shp evTake oOf evC evCallP evCallN evCallO unlast zAX zA6 zAZ argsF zCS qu pmC varT vT evField evConv dB0 Option.bind_some Option.bind_none Option.map_some Option.map_none Option.isSome_some Option.isSome_none
attribute [local go_sem] yP zb zA5 yW qw zAs zAt zAu zAv zAw zAx zAD zAE zAF zAG zAH zAI zAJ zAK yR qt
noncomputable def zcG:zX:=qk (fun s:ByteArray=>[sT s]) (fun _=>True) (fun s=>bR (zA0 s))
theorem zD0(s:ByteArray):zcG [sT s]=some (True,bR (zA0 s)):=zO (fun l=>zDP (nth l 0 0)) (fun _=>rfl) s
theorem zEy:zy Tryz.prog 106 zcG:=by
 refine zQ qA GOk.nil zz Tryz.func106 rfl Tryz.ntmps106 Tryz.results106 5 ?_;rintro s -;refine⟨by simp,?_⟩;simp[go_sem];refine⟨fun h=>?_,fun h1 h2=>?_⟩
 ·exact fun hN=>by have h1:=hN.1;have h2:=hN.2.1;omega
 refine yE (fun k:Nat=>⟨[(0,true,.m false [.v (.string s)]),(3,true,.i k)],[]⟩) (fun k=>s.size - k) (fun k=>k<=s.size/\∀j,(h:j<k)->(h':j<s.size)->zGn j (s[j].toNat:Int)) 0 (by simp[go_sem]) (by simp) ?_;rintro k ⟨hk,aA⟩;simp[go_sem,qB (show k<=1000000000 by omega)];refine⟨fun hl=>?_,fun hl=>⟨by omega,by omega,fun j hj=>aA j (by omega) hj⟩⟩;have e:s[k]?.getD 0=s[k]:=by simp[hl]
 rw[e];obtain⟨c,hc⟩:∃c:Int,c=(s[k].toNat:Int):=⟨_,rfl⟩;have ho:zA0 s->zGn k c:=fun hN=>hc▸hN.2.2 k hl
 have hn:zGn k c->∀j,(h:j<k+1)->(h':j<s.size)->zGn j (s[j].toNat:Int):=fun h j hj bA=>by
  by_cases e:j=k
  ·subst e;rw[<-hc];exact h
  ·exact aA j (by omega) bA
 rw[<-hc];unfold zGn at ho;refine⟨hl,fun a b c=>⟨⟨a,b⟩,c⟩,fun a b c=>⟨⟨a,b⟩,c⟩,fun a b=>⟨a,b⟩,fun a b hN=>?_,fun h=>⟨k+1,⟨by omega,hn ?_⟩,by omega,rfl⟩⟩
 ·have:=ho hN;omega
 ·unfold zGn;omega
noncomputable def zYz:zX:=qk (fun W:zB=>[woT W]) (fun W=>W.sn<=1000000/\W.pn<=1000000) (fun W=>bR (yj W))
theorem zW1(W:zB):zYz [woT W]=some (W.sn<=1000000/\W.pn<=1000000,bR (yj W)):=zO (fun l=>zCW (nth l 0)) (fun _=>rfl) W
theorem zR8:zy Tryz.prog 56 zYz:=by
 refine zQ qA (GOk.cons zHm (zG Tryz.func105 rfl rfl) (GOk.cons zDH (zG Tryz.func26 rfl rfl) (GOk.cons zC5 (zG Tryz.func27 rfl rfl) (GOk.cons zEy (zG Tryz.func106 rfl rfl) GOk.nil)))) zz Tryz.func56 rfl Tryz.ntmps56 Tryz.results56 8 ?_;rintro W ⟨hn,hm⟩;refine⟨by simp,?_⟩;simp[go_sem,zNJ];refine⟨fun h hN=>?_,fun a1 a2 b1 b2 c1 c2=>?_⟩
 ·obtain⟨h1,h2,h3,h4,-⟩:=hN;unfold zGl at h1 h2;omega
 refine yE (fun k:Nat=>⟨[(1,true,.m false [.p 1 0]),(3,true,.i k)],[(1,.var ((woL W).map Tr.cv))]⟩) (fun k=>W.sn - k) (fun k=>k<=W.sn/\∀i,i<k->zIa W i) 0 (by simp[go_sem]) (by simp) ?_;rintro k ⟨hk,cA⟩;simp[go_sem,qB (show k<=1000000000 by omega),zD0,zCA,zAR,hm,hn,zMx,zJx,zCq,zBT,zch (show k<=1000000000 by omega),tn1];refine⟨fun hl=>?_,fun hl=>?_⟩
 ·have hS:yj W->zIa W k:=fun hN=>hN.2.2.2.2.1 k hl
  have hI:zIa W k->∃a':Nat,(a'<=W.sn/\∀i,i<a'->zIa W i)/\W.sn - a'<W.sn - k/\(k:Int)+1=(a':Int):=fun h=>⟨k+1,⟨by omega,yJ hl cA h⟩,by omega,rfl⟩
  obtain⟨Q,hQ⟩:∃Q,Q=zIa W k:=⟨_,rfl⟩;rw[<-hQ]at hS hI;unfold zIa zBm at hQ;refine⟨hl,fun _ _=>⟨by omega,by omega⟩,?_,?_,?_,?_,?_,by kernel_rfl,fun h hN=>?_,fun h1 h2 h3 h4=>hI ?_⟩
  ·grind
  ·grind
  ·grind
  ·grind
  ·grind
  ·have:=hS hN
   grind
  ·grind
 cases (show k=W.sn by omega);refine yE (fun k:Nat=>⟨[(1,true,.m false [.p 1 0]),(5,true,.i k)],[(1,.var ((woL W).map Tr.cv))]⟩) (fun k=>W.pn - k) (fun k=>k<=W.pn/\∀i,i<k->zP7 W i) 0 (by simp[go_sem]) (by simp) ?_;rintro k ⟨hk,aA⟩;simp[go_sem,qB (show k<=1000000000 by omega),zD0,zCA,zAR,hm,hn,zMx,zJx,zCq,zBT,zch (show k<=1000000000 by omega),tn1];refine⟨fun hl=>?_,fun hl=>⟨⟨a1,a2⟩,⟨b1,b2⟩,by omega,by omega,cA,fun i hi=>aA i (by omega)⟩⟩;have hS:yj W->zP7 W k:=fun hN=>hN.2.2.2.2.2 k hl
 refine⟨hl,fun h hN=>?_,fun s1 s2 s3 s4 s5 s6=>⟨fun _=>⟨by omega,by omega⟩,fun _ _=>⟨by omega,by omega⟩,?_,?_,?_,?_,by kernel_rfl,fun h hN=>?_,fun p1 p2=>?_⟩⟩
 ·obtain⟨q1,q2,q3,q4,q5,q6⟩:=(hS hN).1
  grind
 ·grind
 ·grind
 ·grind
 ·grind
 ·obtain⟨q1,q2⟩:=(hS hN).2.1
  grind
 have hB:zXu W k:=⟨p1,p2⟩;refine yE (fun j:Nat=>⟨[(1,true,.m false [.p 1 0]),(5,true,.i k),(6,true,.m false [.p 6 0]),(7,true,.i j)],[(6,.var [.v (.int .i64 (W.zeJ k).id),.v (.string (W.zeJ k).name),.v (.string (W.zeJ k).set),.v (.int .i64 (W.zeJ k).zeL),.v (.int .i64 (W.zeJ k).time),.v (.int .i64 (W.zeJ k).rs),.v (.int .i64 (W.zeJ k).rb),.s .b 2 (W.zeJ k).dn (ptrsT (W.zeJ k).ds (W.zeJ k).db)]),(1,.var ((woL W).map Tr.cv))]⟩) (fun j=>k - j) (fun j=>j<=k/\zXv W k j) 0 (by simp[go_sem]) ⟨Nat.zero_le _,fun j hj=>absurd hj (Nat.not_lt_zero _)⟩ ?_;rintro j ⟨hj,hc⟩;simp[go_sem,qB (show j<=1000000000 by omega),qB (show k<=1000000000 by omega)];refine⟨fun bA=>⟨by omega,fun _=>by omega,by kernel_rfl,fun g1 g2 hN=>(hS hN).2.2 j bA ⟨zCg g1,zCg g2⟩,fun g=>⟨j+1,⟨by omega,fun i hi=>?_⟩,by omega,rfl⟩⟩,fun bA=>⟨k+1,⟨by omega,yJ hl aA ⟨⟨s1,s2,s3,s4,s5,s6⟩,hB,fun i hi=>hc i (by omega)⟩⟩,by omega,rfl⟩⟩;by_cases e:i=j
 ·subst e;exact fun h=>g (congrArg ByteArray.toList h.1) (congrArg ByteArray.toList h.2)
 ·exact hc i (by omega)
open Go.Maps
open Classical in
noncomputable def ownN(W:zB)(name:ByteArray):Nat->Nat
 | 0=>0
 | k+1=>ownN W name k+(if (W.zeJ k).set=name then 1 else 0)
theorem zNe{W:zB}{name:ByteArray}{k:Nat}(h:(W.zeJ k).set=name):ownN W name (k+1)=ownN W name k+1:=by simp[ownN,h]
theorem zQp{W:zB}{name:ByteArray}{k:Nat}(h:¬(W.zeJ k).set=name):ownN W name (k+1)=ownN W name k:=by simp[ownN,h]
theorem zL5(W:zB)(name:ByteArray):∀k,ownN W name k<=k
 | 0=>Nat.le_refl _
 | k+1=>by
  have:=zL5 W name k;by_cases h:(W.zeJ k).set=name
  ·rw[zNe h];omega
  ·rw[zQp h];omega
inductive Steps (W:zB) (name:ByteArray) (start:Int):Nat->Int->Prop
 | zero:Steps W name start 0 start
 | next {n:Nat} {x:Int} {k:Nat}:Steps W name start n x->yV W x k->(W.zeJ k).set=name->Steps W name start (n+1) (W.zeJ k).zeL
def zHJ(W:zB)(name:ByteArray)(x:Int):Prop:=∃k,yV W x k/\(W.zeJ k).set=name
def zDc(W:zB)(name:ByteArray)(start origin:Int):Prop:=∃n e,Steps W name start n e/\¬zHJ W name e/\n=ownN W name W.pn/\e=origin
theorem Steps.det{W:zB}{name:ByteArray}{start:Int}:∀{n:Nat} {x y:Int},Steps W name start n x->Steps W name start n y->x=y
 | 0,_,_,.zero,.zero=>rfl
 | n+1,_,_,.next h hk _,.next h' hk' _=>by
  have e:=Steps.det h h';subst e;rw[yV.uniq hk hk']
theorem Steps.less{W:zB}{name:ByteArray}{start:Int}:∀{n m:Nat} {x:Int},Steps W name start m x->n<m->∃y,Steps W name start n y/\zHJ W name y
 | n,0,_,_,h=>absurd h (Nat.not_lt_zero _)
 | n,m+1,_,.next (x:=x) h hk hs,hl=>by
  by_cases e:n=m
  ·subst e;exact⟨x,h,_,hk,hs⟩
  ·exact Steps.less h (by omega)
theorem Steps.end{W:zB}{name:ByteArray}{start:Int}{n m:Nat}{x y:Int}(h:Steps W name start n x)(hx:¬zHJ W name x)(h':Steps W name start m y)(hy:¬zHJ W name y):n=m/\x=y:=by
 have e:n=m:=by
  rcases Nat.lt_trichotomy n m with hl | hl | hl
  ·obtain⟨z,hz,ho⟩:=h'.less hl;rw[h.det hz]at hx;exact absurd ho hx
  ·exact hl
  ·obtain⟨z,hz,ho⟩:=h.less hl;rw[h'.det hz]at hy;exact absurd ho hy
 subst e;exact⟨rfl,h.det h'⟩
theorem zSF{W:zB}{name:ByteArray}{start origin:Int}{n:Nat}{x:Int}(h:Steps W name start n x)(hx:¬zHJ W name x):zDc W name start origin↔n=ownN W name W.pn/\x=origin:=by
 constructor
 ·rintro⟨m,y,hs,hy,h1,h2⟩;obtain⟨rfl,rfl⟩:=h.end hx hs hy;exact⟨h1,h2⟩
 ·rintro⟨h1,h2⟩;exact⟨n,x,h,hx,h1,h2⟩
theorem zBU.no{W:zB}{x:Int}(h:zBU W x):∃k,yV W x k:=zLA (Nat.le_refl _) h
structure zFM (W:zB):Prop where
 ids:∀k,k<W.pn->1<=(W.zeJ k).id/\(W.zeJ k).id<900000
 zeL:∀k,k<W.pn->(W.zeJ k).zeL=0\/zBU W (W.zeJ k).zeL
 less:∀k,k<W.pn->(W.zeJ k).zeL<(W.zeJ k).id
 zeK:∀k,k<W.sn->(W.zeK k).zeL=0\/zBU W (W.zeK k).zeL
 zeM:∀k,k<W.sn->(W.zeK k).name.toList.isEmpty=false
theorem zFM.pos{W:zB}(h:zFM W):zP0 W:=fun k hk=>(h.ids k hk).1
theorem zBU.range{W:zB}(h:zFM W){x:Int}(hx:zBU W x):1<=x/\x<900000:=by
 obtain⟨k,hk,rfl⟩:=hx;exact h.ids k hk
theorem zGD{s:ByteArray}(h:zA0 s):s.toList.isEmpty=false:=by
 have:=h.1;rw[Go.ByteArray.toList_eq];cases s with
 | mk d=>
  cases hd:d.toList with
  | nil=>
   have h0:d.size=0:=(by rw[<-Array.length_toList,hd];rfl);have h1:1<=d.size:=this;omega
  | cons a l=>simp
theorem yj.zeI{W:zB}(h:yj W):zFM W where
 ids:=fun k hk=>⟨(h.2.2.2.2.2 k hk).1.1,by have:=(h.2.2.2.2.2 k hk).1.2.1;have:=h.2.1.2;omega⟩
 zeL:=fun k hk=>by
  by_cases e:(W.zeJ k).zeL=0
  ·exact Or.inl e
  ·exact Or.inr ((h.2.2.2.2.2 k hk).2.1.2 e).2
 less:=fun k hk=>by
  by_cases e:(W.zeJ k).zeL=0
  ·have:=(h.2.2.2.2.2 k hk).1.1;omega
  ·exact((h.2.2.2.2.2 k hk).2.1.2 e).1
 zeK:=fun k hk=>by
  by_cases e:(W.zeK k).zeL=0
  ·exact Or.inl e
  ·exact Or.inr ((h.2.2.2.2.1 k hk).2.2.1 e)
 zeM:=fun k hk=>zGD (h.2.2.2.2.1 k hk).1
structure zDe (W:zB) (name:ByteArray) (start:Int) (n:Nat) (x:Int):Prop where
 steps:Steps W name start n x
 there:x=0\/zBU W x
 least:0<=x
 sum:(n:Int)+x<=900000
theorem zDe.start{W:zB}(h:zFM W)(name:ByteArray){x:Int}(hx:x=0\/zBU W x):zDe W name x 0 x where
 steps:=.zero
 there:=hx
 least:=by rcases hx with rfl | hx;exact Int.le_refl _;have:=hx.range h;omega
 sum:=by rcases hx with rfl | hx;decide;have:=hx.range h;omega
theorem zDe.next{W:zB}(h:zFM W){name:ByteArray}{start:Int}{n:Nat}{x:Int}(hw:zDe W name start n x){k:Nat}(hk:yV W x k)(hs:(W.zeJ k).set=name):zDe W name start (n+1) (W.zeJ k).zeL where
 steps:=hw.steps.next hk hs
 there:=h.zeL k hk.1
 least:=by rcases h.zeL k hk.1 with e | e;omega;have:=e.range h;omega
 sum:=by have h1:=h.less k hk.1;have h2:=hw.sum;have h3:=hk.2.1;omega
theorem zKD{W:zB}(h:zFM W)(name:ByteArray):¬zHJ W name 0:=fun ⟨k,hk,_⟩=>by
 have:=(h.ids k hk.1).1;have:=hk.2.1;omega
theorem zNZ{W:zB}{name:ByteArray}{x:Int}{k:Nat}(hk:yV W x k)(hs:¬(W.zeJ k).set=name):¬zHJ W name x:=fun ⟨j,hj,e⟩=>hs (by rw[yV.uniq hk hj];exact e)
set_option linter.unusedSimpArgs false
set_option maxRecDepth 20000
set_option maxHeartbeats 1600000
def zJV(W:zB)(i:Nat):Prop:=zDc W (W.zeK i).name (W.zeK i).zeL (W.zeK i).origin
attribute [local go_sem] qg List.map_cons List.map_nil Tr.cv yv qT yF yD yu yr yq yC zBD zBF zBE zBA zBC zBB zCc zCe zCd qY zt qZ zu qR qQ qf zAL zp zq yL qW tmpsOf zAy yK qV zA9 yz yx yw zAA yy stpP opds opd opdC kap zAS qS zo coreU bin zAl zCO get put dlO fgt zBP zBI zBM zBN tyT yp yo Op.operands Call.operands evLoad evLen evStore evAlloc zAn and_true true_and List.append_nil List.nil_append List.cons_append Ret resCv zCB yY cellM zBl zCI qh StW StR hpT hpO hpV hpA hpL hpC sg nin zCT bdO tmW obW AvE CsE CvE Av.tup Av.ids Cv.ids inD ObE Ob.ids TrE.refl qU yH yI qb qd qe zr zf zd zAC zBe zCH zBG evCall argL argOf qq outOb obO yU qK cvO tot Tr.own rid partsOf fillC zU zBj frz frz1 evBuildSlice zc trs Cv.tr evSlice Option.toArray_none Option.toArray_some evMakeSlice evAppend dstOf srcOf zA7 zBO zBL zBJ zBK ikT yB yA qz qy RetP RetN zBs qP evLd evSt evStoreH zAe evAppendM evAppendT tlOf mvOf rowE shp evTake oOf evC evCallP evCallN evCallO unlast zAX zA6 zAZ argsF zCS qu pmC varT vT evField evConv dB0 Option.bind_some Option.bind_none Option.map_some Option.map_none Option.isSome_some Option.isSome_none
attribute [local go_sem] yP zb zA5 yW qw zAs zAt zAu zAv zAw zAx zAD zAE zAF zAG zAH zAI zAJ zAK yR qt
noncomputable def zVG:zX:=qk (fun W:zB=>[woT W]) (fun W=>yj W) (fun W=>bR (∀i,i<W.sn->zJV W i))
theorem zT9(W:zB):zVG [woT W]=some (yj W,bR (∀i,i<W.sn->zJV W i)):=zO (fun l=>zCW (nth l 0)) (fun _=>rfl) W
theorem zQc:zy Tryz.prog 57 zVG:=by
 refine zQ qA (GOk.cons zC5 (zG Tryz.func27 rfl rfl) GOk.nil) zz Tryz.func57 rfl Tryz.ntmps57 Tryz.results57 8 ?_;rintro W hN;replace hN:yj W:=hN;have eA:W.sn<=8:=hN.2.2.1;have dA:W.pn<=20:=hN.2.2.2.1;have hm:W.pn<=1000000:=by omega
 have hP:=hN.zeI;refine⟨by simp,?_⟩;simp[go_sem];refine yE (fun k:Nat=>⟨[(1,true,.m false [.p 1 0]),(3,true,.i k)],[(1,.var ((woL W).map Tr.cv))]⟩) (fun k=>W.sn - k) (fun k=>k<=W.sn/\∀i,i<k->zJV W i) 0 (by simp[go_sem]) (by simp) ?_;rintro k ⟨hk,cA⟩;simp[go_sem,qB (show k<=1000000000 by omega)];refine⟨fun hl=>?_,fun hl i hi=>cA i (by omega)⟩;refine yE (fun j:Nat=>⟨[(1,true,.m false [.p 1 0]),(3,true,.i k),(4,true,.m false [.v (.int .i64 0)]),(5,true,.i (ownN W (W.zeK k).name j)),(6,true,.i j)],[(1,.var ((woL W).map Tr.cv))]⟩) (fun j=>W.pn - j) (fun j=>j<=W.pn) 0 (by simp[go_sem,ownN]) (Nat.zero_le _) ?_;rintro j hj;have ho:=zL5 W (W.zeK k).name j;simp[go_sem,qB (show j<=1000000000 by omega),qB (show ownN W (W.zeK k).name j<=1000000000 by omega)];refine⟨fun bA=>⟨bA,hl,by kernel_rfl,fun h=>⟨j+1,bA,by omega,by rw[zNe (zCg h)];rfl,rfl⟩,fun h=>⟨j+1,bA,by omega,by rw[zQp fun e=>h (congrArg ByteArray.toList e)],rfl⟩⟩,fun bA=>⟨hl,?_⟩⟩;cases (show j=W.pn by omega);refine yE (fun q:Nat×Int=>⟨[(1,true,.m false [.p 1 0]),(3,true,.i k),(4,true,.i q.1),(5,true,.i (ownN W (W.zeK k).name W.pn)),(7,true,.m false [.v (.int .i64 q.2)])],[(1,.var ((woL W).map Tr.cv))]⟩) (fun q=>1000000 - q.1) (fun q=>zDe W (W.zeK k).name (W.zeK k).zeL q.1 q.2) (0,(W.zeK k).zeL) (by simp[go_sem]) (zDe.start hP _ (hP.zeK k hl)) ?_;rintro⟨a,x⟩ hw;replace hw:zDe W (W.zeK k).name (W.zeK k).zeL a x:=hw;have ha:a<=900000:=by have:=hw.least;have:=hw.sum;omega
 simp[go_sem,zCA,hm,qB (show a<=1000000000 by omega),qB (show k<=1000000000 by omega)];have aA:¬zHJ W (W.zeK k).name x->(¬(a:Int)=(ownN W (W.zeK k).name W.pn:Nat)\/¬x=(W.zeK k).origin->∃x,x<W.sn/\¬zJV W x)/\((a:Int)=(ownN W (W.zeK k).name W.pn:Nat)->x=(W.zeK k).origin->∃a':Nat,(a'<=W.sn/\∀i,i<a'->zJV W i)/\W.sn - a'<W.sn - k/\(k:Int)+1=(a':Int)):=fun ho=>by
  have hi:=zSF (origin:=(W.zeK k).origin) hw.steps ho;refine⟨fun h=>⟨k,hl,fun hc=>?_⟩,fun h1 h2=>⟨k+1,⟨by omega,yJ hl cA (hi.2 ⟨by exact_mod_cast h1,h2⟩)⟩,by omega,rfl⟩⟩;obtain⟨g1,g2⟩:=hi.1 hc;exact h.elim (fun h=>h (by exact_mod_cast g1)) (fun h=>h g2)
 by_cases hx:x=0
 ·subst hx;exact⟨fun h=>absurd rfl h,fun h=>absurd rfl h,by kernel_rfl,fun h=>absurd rfl h,fun _=>⟨fun _=>hl,aA (zKD hP _)⟩⟩
 ·obtain⟨q,hq⟩:=(hw.there.resolve_left hx).no;have e:(zBb W.pn fun k=>(W.zeJ k).id=x)=q:=zDy hq.1 hq.2.1 hq.2.2;have:=hq.1;rw[e,Int.toNat_natCast];exact⟨fun _=>⟨by omega,by omega⟩,fun _=>hl,by kernel_rfl,fun _ h=>⟨⟨by omega,by omega⟩,by kernel_rfl,a+1,_,hw.next hP hq (zCg h),by omega,rfl,rfl⟩,fun h=>⟨fun _=>hl,aA (zNZ hq fun e=>h hx (congrArg ByteArray.toList e))⟩⟩
set_option maxRecDepth 20000
set_option maxHeartbeats 1600000
attribute [local go_sem] qg List.map_cons List.map_nil Tr.cv yv qT yF yD yu yr yq yC zBD zBF zBE zBA zBC zBB zCc zCe zCd qY zt qZ zu qR qQ qf zAL zp zq yL qW tmpsOf zAy yK qV zA9 yz yx yw zAA yy stpP opds opd opdC kap zAS qS zo coreU bin zAl zCO get put dlO fgt zBP zBI zBM zBN tyT yp yo Op.operands Call.operands evLoad evLen evStore evAlloc zAn and_true true_and List.append_nil List.nil_append List.cons_append Ret resCv zCB yY cellM zBl zCI qh StW StR hpT hpO hpV hpA hpL hpC sg nin zCT bdO tmW obW AvE CsE CvE Av.tup Av.ids Cv.ids inD ObE Ob.ids TrE.refl qU yH yI qb qd qe zr zf zd zAC zBe zCH zBG evCall argL argOf qq outOb obO yU qK cvO tot Tr.own rid partsOf fillC zU zBj frz frz1 evBuildSlice zc trs Cv.tr evSlice Option.toArray_none Option.toArray_some evMakeSlice evAppend dstOf srcOf zA7 zBO zBL zBJ zBK ikT yB yA qz qy RetP RetN zBs qP evLd evSt evStoreH zAe evAppendM evAppendT tlOf mvOf rowE shp evTake oOf evC evCallP evCallN evCallO unlast zAX zA6 zAZ argsF zCS qu pmC varT vT evField evConv dB0 Option.bind_some Option.bind_none Option.map_some Option.map_none Option.isSome_some Option.isSome_none
abbrev psT(n:Nat)(f g:Nat->Int):Bool×List Tr:=(false,[.s .b 2 n (ptrsT f g)])
abbrev psO(l:List (Int×Int)):Bool×List Tr:=(false,[.s .o 2 l.length (ptL l)])
def zWS(a:Tr):Nat×(Nat->Int)×(Nat->Int):=(zF8 a,fun i=>qM (zCh a i 0),fun i=>qM (zCh a i 1))
noncomputable def mIn:zX:=qk (fun q:(Nat×(Nat->Int)×(Nat->Int))×Int×Int=>[psT q.1.1 q.1.2.1 q.1.2.2,pT q.2.1 q.2.2]) (fun q=>q.1.1<=1000000) (fun q=>bR (PIn q.1.1 q.1.2.1 q.1.2.2 q.2.1 q.2.2))
theorem zG5(n:Nat)(f g:Nat->Int)(a b:Int):mIn [psT n f g,pT a b]=some (n<=1000000,bR (PIn n f g a b)):=zO (fun l=>(zWS (nth l 0 0),qM (nth l 1 0),qM (nth l 1 1))) (fun _=>rfl) ((n,f,g),a,b)
theorem zJ4:zy Tryz.prog 109 mIn:=by
 refine zQ qA GOk.nil zz Tryz.func109 rfl Tryz.ntmps109 Tryz.results109 6 ?_;rintro⟨⟨n,f,g⟩,a,b⟩ hn;replace hn:n<=1000000:=hn;refine⟨by simp,?_⟩;simp[go_sem];refine yE (fun k:Nat=>⟨[(3,true,.m false [.p 3 0]),(0,true,.m false [.s .b 2 n (ptrsT f g)]),(5,true,.i k)],[(3,.var [.v (.int .i64 a),.v (.int .i64 b)])]⟩) (fun k=>n - k) (fun k=>k<=n/\∀i,i<k->¬(f i=a/\g i=b)) 0 (by simp[go_sem]) (by simp) ?_;rintro k ⟨hk,aA⟩;simp[go_sem,qB (show k<=1000000000 by omega)];refine⟨fun hl=>⟨hl,by kernel_rfl,fun h1 h2=>⟨k,hl,h1,h2⟩,fun h=>⟨k+1,⟨by omega,fun i hi h1 h2=>?_⟩,by omega,rfl⟩⟩,fun hl ⟨j,h1,h2⟩=>aA j (by omega) h2⟩;rcases Nat.lt_succ_iff_lt_or_eq.1 hi with h3 | rfl
 ·exact aA i h3 ⟨h1,h2⟩
 ·exact h h1 h2
noncomputable def zZD:zX:=qk (fun q:(Nat×(Nat->Int)×(Nat->Int))×Int=>[psT q.1.1 q.1.2.1 q.1.2.2,iT q.2]) (fun q=>q.1.1<=1000000) (fun q=>[psO (ye q.1.2.1 q.1.2.2 q.2 q.1.1),psO (zD4 q.1.2.1 q.1.2.2 q.2 q.1.1)])
theorem zGS(n:Nat)(f g:Nat->Int)(t:Int):zZD [psT n f g,iT t]=some (n<=1000000,[psO (ye f g t n),psO (zD4 f g t n)]):=zO (fun l=>(zWS (nth l 0 0),qM (nth l 1 0))) (fun _=>rfl) ((n,f,g),t)
theorem zFs:zy Tryz.prog 29 zZD:=by
 refine zQ qA GOk.nil zz Tryz.func29 rfl Tryz.ntmps29 Tryz.results29 9 ?_;rintro⟨⟨n,f,g⟩,t⟩ hn;replace hn:n<=1000000:=hn;refine⟨by simp,?_⟩;simp[go_sem];refine yE (fun k:Nat=>⟨[(6,true,.m false [.h 7]),(7,true,.m false [.h 8]),(0,true,.m false [.s .b 2 n (ptrsT f g)]),(1,true,.i t),(8,true,.i k)],[(7,.row 2 (ye f g t k).length (ptL (ye f g t k))),(8,.row 2 (zD4 f g t k).length (ptL (zD4 f g t k)))]⟩) (fun k=>n - k) (fun k=>k<=n) 0 (by simp[go_sem,ye,zD4];exact zKJ rfl) (by simp) ?_;rintro k hk;have hl:=zFJ f g t k;simp[go_sem,qB (show k<=1000000000 by omega)];refine⟨fun aA=>⟨aA,fun h=>⟨aA,by omega,k+1,by omega,by omega,by omega,zDR zE2 (by simp[ye,h]),zDS (by simp[zD4,h])⟩,fun h=>⟨aA,by omega,k+1,by omega,by omega,by omega,zDS (by simp[ye,Int.not_lt.2 h]),zDR zE2 (by simp[zD4,Int.not_lt.2 h])⟩⟩,fun aA=>?_⟩;cases (show k=n from by omega);exact⟨⟨zDS rfl,zC1⟩,zDS rfl,zC1⟩
noncomputable def zcP:zX:=qk (fun q:Nat×(Nat->Int)×(Nat->Int)=>[psT q.1 q.2.1 q.2.2]) (fun q=>q.1<=1000000) (fun q=>bR (zA4 q.1 q.2.1 q.2.2))
theorem zY5(n:Nat)(f g:Nat->Int):zcP [psT n f g]=some (n<=1000000,bR (zA4 n f g)):=zO (fun l=>zWS (nth l 0 0)) (fun _=>rfl) (n,f,g)
theorem zP3:zy Tryz.prog 151 zcP:=by
 refine zQ qA (GOk.cons zHm (zG Tryz.func105 rfl rfl) (GOk.cons zHl (zG Tryz.func149 rfl rfl) GOk.nil)) zz Tryz.func151 rfl Tryz.ntmps151 Tryz.results151 5 ?_;rintro⟨n,f,g⟩ hn;replace hn:n<=1000000:=hn;refine⟨by simp,?_⟩;simp[go_sem];refine⟨fun h1 h=>by have:=h.1;omega,fun h1=>?_⟩;refine yE (fun k:Nat=>⟨[(0,true,.m false [.s .b 2 n (ptrsT f g)]),(3,true,.i k)],[]⟩) (fun k=>n - k) (fun k=>k<=n/\∀i,i<k->zHK (f i) (g i)/\∀j,j<i->f j≠f i) 0 (by simp[go_sem]) (by simp) ?_;rintro k ⟨hk,cA⟩;simp[go_sem,qB (show k<=1000000000 by omega),zNJ,zKu];refine⟨fun hl=>?_,fun hl=>⟨by omega,fun i hi=>(cA i (by omega)).1,fun i hi=>(cA i (by omega)).2⟩⟩;refine⟨hl,fun _ _=>hl,fun h h'=>?_,fun g1 g2 g3=>?_⟩
 ·have:=(h'.2.1 k hl);unfold zHK at this;unfold zBW at h;omega
 refine yE (fun j:Nat=>⟨[(0,true,.m false [.s .b 2 n (ptrsT f g)]),(3,true,.i k),(4,true,.i j)],[]⟩) (fun j=>k - j) (fun j=>j<=k/\∀i,i<j->f i≠f k) 0 (by simp[go_sem]) (by simp) ?_;rintro j ⟨hj,aA⟩;simp[go_sem,qB (show j<=1000000000 by omega),qB (show k<=1000000000 by omega)];exact⟨fun bA=>⟨by omega,hl,by kernel_rfl,fun h h'=>h'.2.2 k hl j bA h,fun h=>⟨j+1,⟨by omega,yJ bA aA h⟩,by omega,rfl⟩⟩,fun bA=>⟨k+1,⟨by omega,yJ hl cA ⟨by unfold zHK;unfold zBW at g3;omega,fun i hi=>aA i (by omega)⟩⟩,by omega,rfl⟩⟩
noncomputable def zcS:zX:=qk (fun q:(Nat×(Nat->Int)×(Nat->Int))×Nat×(Nat->Int)×(Nat->Int)=>[psT q.1.1 q.1.2.1 q.1.2.2,psT q.2.1 q.2.2.1 q.2.2.2]) (fun q=>q.1.1<=1000000/\q.2.1<=1000000) (fun q=>bR (zGJ q.1.1 q.1.2.1 q.1.2.2 q.2.1 q.2.2.1 q.2.2.2))
theorem zY9(n:Nat)(f g:Nat->Int)(n':Nat)(f' g':Nat->Int):zcS [psT n f g,psT n' f' g']=some (n<=1000000/\n'<=1000000,bR (zGJ n f g n' f' g')):=zO (fun l=>(zWS (nth l 0 0),zWS (nth l 1 0))) (fun _=>rfl) ((n,f,g),n',f',g')
theorem zRI:zy Tryz.prog 110 zcS:=by
 refine zQ qA (GOk.cons zP3 (zG Tryz.func151 rfl rfl) (GOk.cons zJ4 (zG Tryz.func109 rfl rfl) GOk.nil)) zz Tryz.func110 rfl Tryz.ntmps110 Tryz.results110 6 ?_;rintro⟨⟨n,f,g⟩,n',f',g'⟩ ⟨hn,aA⟩;replace hn:n<=1000000:=hn;replace aA:n'<=1000000:=aA;refine⟨by simp,?_⟩;simp[go_sem,zY5,hn,aA];refine⟨fun h h'=>?_,fun h1 h2 h3=>?_⟩
 ·have:=h'.2.2.1;rcases h with(h | h) | h
  ·exact h h'.1
  ·exact h h'.2.1
  ·omega
 refine yE (fun k:Nat=>⟨[(0,true,.m false [.s .b 2 n (ptrsT f g)]),(1,true,.m false [.s .b 2 n' (ptrsT f' g')]),(5,true,.i k)],[]⟩) (fun k=>n - k) (fun k=>k<=n/\∀i,i<k->PIn n' f' g' (f i) (g i)) 0 (by simp[go_sem]) (by simp) ?_;rintro k ⟨hk,bA⟩;simp[go_sem,qB (show k<=1000000000 by omega),zG5,aA];exact⟨fun hl=>⟨hl,fun h h'=>h (h'.2.2.2 k hl),fun h=>⟨k+1,⟨by omega,yJ hl bA h⟩,by omega,rfl⟩⟩,fun hl=>⟨h1,h2,by omega,fun i hi=>bA i (by omega)⟩⟩
theorem zQd{l m:List (Int×Int)}{k:Nat}(hk:k<l.length)(h:(zh l k,zn l k)∈m):zB3 (l.take (k+1)) m=zB3 (l.take k) m:=by
 unfold zh zn at h;rw[zBS hk]at h;unfold zB3;rw[List.take_succ_eq_append_getElem hk,List.filter_append,List.filter_cons];simp only[List.filter_nil];rw[if_neg (by simp;exact h),List.append_nil]
theorem zNB{l m:List (Int×Int)}{k:Nat}(hk:k<l.length)(h:(zh l k,zn l k)∉m):zB3 (l.take (k+1)) m=zB3 (l.take k) m ++ [(zh l k,zn l k)]:=by
 unfold zh zn at h ⊢;rw[zBS hk]at h ⊢;unfold zB3;rw[List.take_succ_eq_append_getElem hk,List.filter_append,List.filter_cons];simp only[List.filter_nil];rw[if_pos (by simp;exact h)]
theorem zSC(l m:List (Int×Int))(k:Nat):(zB3 (l.take k) m).length<=k:=by
 unfold zB3;exact Nat.le_trans (List.length_filter_le _ _) (by rw[List.length_take];omega)
def zDa(W:zB)(i:Nat):Prop:=zHU (treeM W (zI W i)) (oldM W (zI W i)) (zE W (zI W i).zeL).time (zI W i).time
theorem zFo.snap{W:zB}(h:zFo W){k:Nat}(hk:k<W.pn):za W.pool (W.zeJ k).rs (W.zeJ k).rb:=by
 have:=h.tree k (by unfold memN;omega);rw[zx hk]at this;exact this
theorem zFo.set{W:zB}(h:zFo W){k:Nat}(hk:k<W.sn):za W.pool (W.zeK k).rs (W.zeK k).rb:=by
 have:=h.tree (W.pn+k) (by unfold memN;omega);rw[qN]at this;exact this
def zKV(W:zB)(s:Nat):Prop:=∃m,m<memN W/\∃b,((s:Int),b)∈treeM W (zI W m)
def zC8(W:zB)(i:Nat):Int×Int:=if i<W.sn then((W.zeK i).rs,(W.zeK i).rb)else((W.zeJ (i - W.sn)).rs,(W.zeJ (i - W.sn)).rb)
def zER(W:zB)(n:Nat):List (Int×Int):=(List.range n).map (zC8 W)
theorem zHF(W:zB)(n:Nat):(zER W n).length=n:=by simp[zER]
theorem zLa(W:zB)(n:Nat):zER W (n+1)=zER W n ++ [zC8 W n]:=by simp[zER,List.range_succ]
theorem zIO{W:zB}{i:Nat}(h:i<W.sn):zC8 W i=((W.zeK i).rs,(W.zeK i).rb):=if_pos h
theorem zHE(W:zB)(i:Nat):zC8 W (W.sn+i)=((W.zeJ i).rs,(W.zeJ i).rb):=by
 unfold zC8;rw[if_neg (by omega),show W.sn+i - W.sn=i by omega]
theorem zPj{W:zB}{n i:Nat}(h:i<n):zh (zER W n) i=(zC8 W i).1/\zn (zER W n) i=(zC8 W i).2:=by
 unfold zh zn;rw[zBS (by rw[zHF];exact h)];simp[zER]
theorem zZ3{W:zB}(hT:zFo W){i:Nat}(hi:i<W.sn+W.pn):za W.pool (zC8 W i).1 (zC8 W i).2:=by
 by_cases h:i<W.sn
 ·rw[zIO h];exact hT.set h
 ·have:=zHE W (i - W.sn);rw[show W.sn+(i - W.sn)=i by omega]at this;rw[this];exact hT.snap (by omega)
theorem zTp{W:zB}{s:Nat}:zKV W s↔∃i,i<W.sn+W.pn/\∃b,((s:Int),b)∈zM W.pool (zC8 W i).1 (zC8 W i).2:=by
 unfold zKV memN treeM;constructor
 ·rintro⟨m,hm,b,h⟩;by_cases hp:m<W.pn
  ·rw[zx hp]at h;exact⟨W.sn+m,by omega,b,by rw[zHE];exact h⟩
  ·have e:=qN W (m - W.pn);rw[show W.pn+(m - W.pn)=m by omega]at e;rw[e]at h;exact⟨m - W.pn,by omega,b,by rw[zIO (by omega)];exact h⟩
 ·rintro⟨i,hi,b,h⟩;by_cases hs:i<W.sn
  ·rw[zIO hs]at h;exact⟨W.pn+i,by omega,b,by rw[qN];exact h⟩
  ·have e:=zHE W (i - W.sn);rw[show W.sn+(i - W.sn)=i by omega]at e;rw[e]at h;exact⟨i - W.sn,by omega,b,by rw[zx (by omega)];exact h⟩
def zbq(W:zB)(k:Nat)(l:List (Int×Int))(j s:Nat):Prop:=(∃i,i<k/\∃b,((s:Int),b)∈zM W.pool (zC8 W i).1 (zC8 W i).2)\/∃q,q<j/\zh l q=(s:Int)
def zME(W:zB)(k:Nat)(l:List (Int×Int))(j:Nat)(f:Nat->Bool):Prop:=∀s,f s=true↔zbq W k l j s
theorem zUG{W:zB}{k j s:Nat}{l:List (Int×Int)}{f:Nat->Bool}(h:zME W k l j f)(hs:zh l j=(s:Int)):zME W k l (j+1) (fun i=>if i=s then true else f i):=by
 intro i;show(if i=s then true else f i)=true↔_;by_cases e:i=s
 ·subst e;rw[if_pos rfl];exact⟨fun _=>Or.inr ⟨j,by omega,hs⟩,fun _=>rfl⟩
 ·rw[if_neg e,h i];constructor
  ·rintro(h | ⟨q,hq,h⟩)
   ·exact Or.inl h
   ·exact Or.inr ⟨q,by omega,h⟩
  ·rintro(h | ⟨q,hq,h⟩)
   ·exact Or.inl h
   ·by_cases eq:q=j
    ·subst eq;exact absurd (by omega) e
    ·exact Or.inr ⟨q,by omega,h⟩
theorem zUH{W:zB}{k:Nat}{l:List (Int×Int)}{f:Nat->Bool}(h:zME W k l l.length f)(hl:l=zM W.pool (zC8 W k).1 (zC8 W k).2):zME W (k+1) [] 0 f:=by
 intro s;rw[h s];constructor
 ·rintro(⟨i,hi,h⟩ | ⟨q,hq,e⟩)
  ·exact Or.inl ⟨i,by omega,h⟩
  ·refine Or.inl ⟨k,by omega,(l[q]).2,?_⟩;unfold zh at e;rw[zBS hq]at e;rw[<-hl,<-e];exact List.getElem_mem hq
 ·rintro(⟨i,hi,b,h2⟩ | ⟨q,hq,e⟩)
  ·by_cases e:i=k
   ·subst e;rw[<-hl]at h2;obtain⟨q,hq,e⟩:=List.getElem_of_mem h2;exact Or.inr ⟨q,hq,by unfold zh;rw[zBS hq,e]⟩
   ·exact Or.inl ⟨i,by omega,b,h2⟩
  ·omega
theorem zSs{p:zF}{rs rb:Int}(hR:zg p)(hT:za p rs rb){j:Nat}(hj:j<(zM p rs rb).length):∃s:Nat,zh (zM p rs rb) j=(s:Int)/\s<p.n:=by
 unfold zh;rw[zBS hj];have:=(zBc hR hT (List.getElem_mem hj)).1;obtain⟨_,h0,h1,_⟩:=this;exact⟨((zM p rs rb)[j]).1.toNat,by omega,by omega⟩
theorem zAN.grown{w w1:World}{b:Nat}{v0 v1 v2 v3 v4 v5:Value}{row:Option Nat}(h:zAN w b v0 v1 v2 v3 v4 v5)(hg:w.grownBy w1 row)(aA:∀q,row=some q->b≠q):zAN w1 b v0 v1 v2 v3 v4 v5:=by
 have hb:b<w.heap.size:=h.1.lt;refine h.zeG (S:=fun k=>row=some k) ⟨hg.os,hg.tape,hg.output,hg.size,fun k hk hs=>hg.block k hk (fun e=>hs e.symm)⟩ (fun e=>aA b e rfl)
def zPx(W:zB)(k:Nat):Prop:=∀i,i<k->∀j,j<i->∀x,x∈zDI W (zI W i)->∀y,y∈zDI W (zI W j)->x.1≠y.1
def zGF(W:zB)(k:Nat)(now old:List (Int×Int))(j:Nat):Prop:=∀q,q<j->(zh now q,zn now q)∉old->∀i,i<k->∀y,y∈zDI W (zI W i)->zh now q≠y.1
def zbr(W:zB)(k:Nat)(now old:List (Int×Int))(j s:Nat):Prop:=(∃i,i<k/\∃b,((s:Int),b)∈zDI W (zI W i))\/∃q,q<j/\zh now q=(s:Int)/\(zh now q,zn now q)∉old
def zEr(W:zB)(k:Nat)(now old:List (Int×Int))(j:Nat)(f:Nat->Bool):Prop:=∀s,f s=true↔zbr W k now old j s
theorem zTK{W:zB}{k:Nat}{aA bA:List (Int×Int)}(h:zPx W k)(hn:aA=treeM W (zI W k))(ho:bA=oldM W (zI W k))(hr:zGF W k aA bA aA.length):zPx W (k+1):=by
 intro i hi j hj x hx y hy;by_cases e:i=k
 ·subst e;obtain⟨h1,h2⟩:=List.mem_filter.1 hx;rw[<-hn]at h1;rw[<-ho]at h2;obtain⟨q,hq,e⟩:=List.getElem_of_mem h1;have:=hr q hq;unfold zh zn at this;rw[zBS hq,e]at this;exact this (by simpa using h2) j hj y hy
 ·exact h i (by omega) j hj x hx y hy
theorem zXT{W:zB}{k j:Nat}{aA bA:List (Int×Int)}{f:Nat->Bool}(h:zEr W k aA bA j f)(cA:(zh aA j,zn aA j)∈bA):zEr W k aA bA (j+1) f:=by
 intro s;rw[h s];constructor
 ·rintro(h | ⟨q,hq,h⟩)
  ·exact Or.inl h
  ·exact Or.inr ⟨q,by omega,h⟩
 ·rintro(h | ⟨q,hq,h1,h2⟩)
  ·exact Or.inl h
  ·by_cases e:q=j
   ·subst e;exact absurd cA h2
   ·exact Or.inr ⟨q,by omega,h1,h2⟩
theorem zXS{W:zB}{k j s:Nat}{aA bA:List (Int×Int)}{f:Nat->Bool}(h:zEr W k aA bA j f)(hs:zh aA j=(s:Int))(cA:(zh aA j,zn aA j)∉bA):zEr W k aA bA (j+1) (fun i=>if i=s then true else f i):=by
 intro i;show(if i=s then true else f i)=true↔_;by_cases e:i=s
 ·subst e;rw[if_pos rfl];exact⟨fun _=>Or.inr ⟨j,by omega,hs,cA⟩,fun _=>rfl⟩
 ·rw[if_neg e,h i];constructor
  ·rintro(h | ⟨q,hq,h⟩)
   ·exact Or.inl h
   ·exact Or.inr ⟨q,by omega,h⟩
  ·rintro(h | ⟨q,hq,h,h2⟩)
   ·exact Or.inl h
   ·by_cases eq:q=j
    ·subst eq;exact absurd (by omega) e
    ·exact Or.inr ⟨q,by omega,h,h2⟩
theorem zaA{W:zB}{k j:Nat}{aA bA:List (Int×Int)}(h:zGF W k aA bA j)(cA:(zh aA j,zn aA j)∈bA):zGF W k aA bA (j+1):=by
 intro q hq;by_cases e:q=j
 ·subst e;exact fun h=>absurd cA h
 ·exact h q (by omega)
theorem zZ7{W:zB}{k j s:Nat}{aA bA:List (Int×Int)}{f:Nat->Bool}(h:zGF W k aA bA j)(hS:zEr W k aA bA j f)(hs:zh aA j=(s:Int))(hf:f s=false):zGF W k aA bA (j+1):=by
 intro q hq;by_cases e:q=j
 ·subst e;intro _ i hi y hy ey;have:f s=true:=(hS s).2 (Or.inl ⟨i,hi,y.2,by rw[<-hs,ey];exact hy⟩);rw[hf]at this;exact absurd this (by simp)
 ·exact h q (by omega)
theorem zXV{W:zB}{k:Nat}{aA bA:List (Int×Int)}{f:Nat->Bool}(h:zEr W k aA bA aA.length f)(hn:aA=treeM W (zI W k))(ho:bA=oldM W (zI W k)):zEr W (k+1) [] [] 0 f:=by
 intro s;rw[h s];constructor
 ·rintro(⟨i,hi,h⟩ | ⟨q,hq,e,h2⟩)
  ·exact Or.inl ⟨i,by omega,h⟩
  ·refine Or.inl ⟨k,by omega,(aA[q]).2,?_⟩;unfold zh zn at h2;unfold zh at e;rw[zBS hq]at e h2;refine List.mem_filter.2 ⟨?_,?_⟩
   ·rw[<-hn,<-e];exact List.getElem_mem hq
   ·rw[<-ho,<-e];simpa using h2
 ·rintro(⟨i,hi,b,h2⟩ | ⟨q,hq,_⟩)
  ·by_cases e:i=k
   ·subst e;obtain⟨h3,h4⟩:=List.mem_filter.1 h2;rw[<-hn]at h3;rw[<-ho]at h4;obtain⟨q,hq,e⟩:=List.getElem_of_mem h3;refine Or.inr ⟨q,hq,?_⟩;unfold zh zn;rw[zBS hq,e];exact⟨rfl,by simpa using h4⟩
   ·exact Or.inl ⟨i,by omega,b,h2⟩
  ·omega
theorem zUV{W:zB}{k:Nat}{f:Nat->Bool}(h:zEr W k [] [] 0 f)(aA bA:List (Int×Int)):zEr W k aA bA 0 f:=by
 intro s;rw[h s];constructor
 ·rintro(h | ⟨q,hq,_⟩)
  ·exact Or.inl h
  ·omega
 ·rintro(h | ⟨q,hq,_⟩)
  ·exact Or.inl h
  ·omega
theorem zUW{W:zB}{k j s:Nat}{aA bA:List (Int×Int)}{f:Nat->Bool}(hT:zFo W)(hk:k<memN W)(hn:aA=treeM W (zI W k))(ho:bA=oldM W (zI W k))(hS:zEr W k aA bA j f)(hj:j<aA.length)(hs:zh aA j=(s:Int))(cA:(zh aA j,zn aA j)∉bA)(hf:f s=true):¬zHS W:=by
 intro hA;rcases(hS s).1 hf with⟨i,hi,b,h⟩ | ⟨q,hq,e,h2⟩
 ·refine hA k hk i hi (zh aA j,zn aA j) ?_ _ h hs;refine List.mem_filter.2 ⟨?_,by rw[<-ho];simpa using cA⟩;rw[<-hn];unfold zh zn;rw[zBS hj];exact List.getElem_mem hj
 ·have dA:=zDn hT.right (l:=aA) (fun x hx=>by rw[hn]at hx;exact(zBc hT.right (hT.tree k hk) hx).1) (by rw[hn];exact zDB hT.right (hT.tree k hk)) (by rw[hn];have:=qx W.pool (zI W k).rs (zI W k).rb;unfold treeM;omega);exact dA.2.2 j hj q hq (by rw[e,hs])
def zCF(W:zB)(i:Nat):Prop:=zD8 (zI W i).dn (zI W i).ds (zI W i).db (zB3 (oldM W (zI W i)) (treeM W (zI W i)))
structure qo (W:zB):Prop where
 right:zg W.pool
 zeM:yj W
 lines:∀i,i<W.sn->zDc W (W.zeK i).name (W.zeK i).zeL (W.zeK i).origin
 zeJ:∀i,i<W.pn->za W.pool (W.zeJ i).rs (W.zeJ i).rb
 zeK:∀i,i<W.sn->za W.pool (W.zeK i).rs (W.zeK i).rb/\zCF W (W.pn+i)
 dead:∀i,i<W.pn->zCF W i
 reach:zP4 W
 born:∀i,i<memN W->zDa W i
 zeN:zHS W
theorem zNa{W:zB}(h:∀k,k<W.pn->za W.pool (W.zeJ k).rs (W.zeJ k).rb)(x:Int):za W.pool (zE W x).rs (zE W x).rb:=by
 by_cases hx:∃k,yV W x k
 ·obtain⟨k,hk⟩:=hx;rw[yQ hk];exact h k hk.1
 ·have:zE W x=zAV:=by
   unfold zE;rw[dif_neg hx]
  rw[this];exact Or.inl ⟨rfl,rfl⟩
theorem zKR{W:zB}(hR:zg W.pool)(hN:yj W)(h1:∀i,i<W.pn->za W.pool (W.zeJ i).rs (W.zeJ i).rb)(h2:∀i,i<W.sn->za W.pool (W.zeK i).rs (W.zeK i).rb):zFo W where
 right:=hR
 ids:=hN.zeI.less
 tree:=fun i hi=>by
  by_cases hp:i<W.pn
  ·rw[zx hp];exact h1 i hp
  ·have e:=qN W (i - W.pn);rw[show W.pn+(i - W.pn)=i by omega]at e;rw[e];unfold memN at hi;exact h2 _ (by omega)
 time:=fun i hi=>by
  by_cases hp:i<W.pn
  ·rw[zx hp];have:1<=(W.zeJ i).time:=(hN.2.2.2.2.2 i hp).1.2.2.1;show 0<=(W.zeJ i).time;omega
  ·have e:=qN W (i - W.pn);rw[show W.pn+(i - W.pn)=i by omega]at e;rw[e];have:1<=W.time:=hN.1.1;show 0<=W.time;omega
set_option linter.unusedSimpArgs false
set_option maxRecDepth 20000
set_option maxHeartbeats 1600000
theorem zFA{W:zB}(h:zP0 W)(x:Int):zDt W x=zE W x:=by
 by_cases h0:x=0
 ·rw[show zDt W x=zAV from if_pos h0,zGq fun k hk e=>by have:=h k hk;omega]
 ·exact if_neg h0
theorem zRp{l:List (Int×Int)}{i:Nat}:(l[i]?.getD (0,0)).1=zh l i:=by simp[zh,List.getD_eq_getElem?_getD]
theorem zaM{l:List (Int×Int)}{i:Nat}:(l[i]?.getD (0,0)).2=zn l i:=by simp[zn,List.getD_eq_getElem?_getD]
theorem zSc{l:List (Int×Int)}{x y:Int}:PIn l.length (fun i=>zh l i) (fun i=>zn l i) x y↔(x,y)∈l:=zFd
theorem zAP{fl:Fl}{k n:Nat}{l:List (Int×Int)}:(Tr.s fl k n (zFj encP (0,0) l)).lend = .s .b k n (ptrsT (fun i=>zh l i) (fun i=>zn l i)):=by
 rw[zb];simp only[zRp,zaM]
theorem zB7{l:List (Int×Int)}{i:Nat}:zFj encP (0,0) l i 0 = .v (.int .i64 (zh l i)):=by rw[<-zRp];rfl
theorem zB8{l:List (Int×Int)}{i:Nat}:zFj encP (0,0) l i 1 = .v (.int .i64 (zn l i)):=by rw[<-zaM];rfl
theorem zYA{p q:Prop} [h:Decidable q]:dB p=decide q↔(p↔q):=by
 by_cases hp:p<;>by_cases hq:q<;>simp[dB,hp,hq]
attribute [local go_sem] qg List.map_cons List.map_nil Tr.cv yv qT yF yD yu yr yq yC zBD zBF zBE zBA zBC zBB zCc zCe zCd qY zt qZ zu qR qQ qf zAL zp zq yL qW tmpsOf zAy yK qV zA9 yz yx yw zAA yy stpP opds opd opdC kap zAS qS zo coreU bin zAl zCO get put dlO fgt zBP zBI zBM zBN tyT yp yo Op.operands Call.operands evLoad evLen evStore evAlloc zAn and_true true_and List.append_nil List.nil_append List.cons_append Ret resCv zCB yY cellM zBl zCI qh StW StR hpT hpO hpV hpA hpL hpC sg nin zCT bdO tmW obW AvE CsE CvE Av.tup Av.ids Cv.ids inD ObE Ob.ids TrE.refl qU yH yI qb qd qe zr zf zd zAC zBe zCH zBG evCall argL argOf qq outOb obO yU qK cvO tot Tr.own rid partsOf fillC zU zBj frz frz1 evBuildSlice zc trs Cv.tr evSlice Option.toArray_none Option.toArray_some evMakeSlice evAppend dstOf srcOf zA7 zBO zBL zBJ zBK ikT yB yA qz qy RetP RetN zBs qP evLd evSt evStoreH zAe evAppendM evAppendT tlOf mvOf rowE shp evTake oOf evC evCallP evCallN evCallO unlast zAX zA6 zAZ argsF zCS qu pmC varT vT evField evConv dB0 Option.bind_some Option.bind_none Option.map_some Option.map_none Option.isSome_some Option.isSome_none
attribute [local go_sem] yP zb zA5 yW qw zAs zAt zAu zAv zAw zAx zAD zAE zAF zAG zAH zAI zAJ zAK yR qt
attribute [-go_sem] zb
attribute [local go_sem] zAP zB7 zB8
structure zIz (W:zB):Prop where
 right:zg W.pool
 zeM:yj W
 zeJ:∀k,k<W.pn->za W.pool (W.zeJ k).rs (W.zeJ k).rb
theorem zIz.ids{W:zB}(h:zIz W):zP0 W:=fun k hk=>(h.zeM.zeI.ids k hk).1
theorem zIz.pn{W:zB}(h:zIz W):W.pn<=1000000:=by have:=h.zeM.2.2.2.1;omega
noncomputable def zVF:zX:=qk (fun q:(zB×Int)×(Int×Int)×Int=>[woT q.1.1,iT q.1.2,pT q.2.1.1 q.2.1.2,iT q.2.2]) (fun q=>zIz q.1.1/\za q.1.1.pool q.2.1.1 q.2.1.2) (fun q=>bR (zHU (zM q.1.1.pool q.2.1.1 q.2.1.2) (zM q.1.1.pool (zE q.1.1 q.1.2).rs (zE q.1.1 q.1.2).rb) (zE q.1.1 q.1.2).time q.2.2))
theorem zNH(W:zB)(x a b t:Int):zVF [woT W,iT x,pT a b,iT t]=some (zIz W/\za W.pool a b,bR (zHU (zM W.pool a b) (zM W.pool (zE W x).rs (zE W x).rb) (zE W x).time t)):=zO (fun l=>((zCW (nth l 0),qM (nth l 1 0)),(qM (nth l 2 0),qM (nth l 2 1)),qM (nth l 3 0))) (fun _=>rfl) ((W,x),(a,b),t)
theorem zQb:zy Tryz.prog 111 zVF:=by
 refine zQ qA (GOk.cons zDj (zG Tryz.func39 rfl rfl) (GOk.cons zC4 (zG Tryz.func30 rfl rfl) (GOk.cons zJ4 (zG Tryz.func109 rfl rfl) GOk.nil))) zz Tryz.func111 rfl Tryz.ntmps111 Tryz.results111 14 ?_;rintro⟨⟨W,x⟩,⟨a,b⟩,t⟩ ⟨hW,hT⟩;replace hW:zIz W:=hW;replace hT:za W.pool a b:=hT;have hO:=zNa hW.zeJ x;refine⟨by simp,?_⟩;have hz:=zFA hW.ids x;simp[go_sem,zEJ,zBx,hW.pn,hz,hO,hT,hW.right];obtain⟨aA,cA⟩:∃l,l=zM W.pool a b:=⟨_,rfl⟩;obtain⟨bA,dA⟩:∃l,l=zM W.pool (zE W x).rs (zE W x).rb:=⟨_,rfl⟩;have ln:aA.length<=100:=by have:=qx W.pool a b;rw[cA];omega
 have lo:bA.length<=100:=by have:=qx W.pool (zE W x).rs (zE W x).rb;rw[dA];omega
 rw[<-cA,<-dA];obtain⟨τ,hτ⟩:∃τ,τ = (zE W x).time:=⟨_,rfl⟩;rw[<-hτ];refine yE (fun k:Nat=>⟨[(12,true,.m false [.h 8]),(11,true,.m false [.h 7]),(10,true,.m false [.v (.int .i64 τ)]),(3,true,.m false [.v (.int .i64 t)]),(13,true,.i k)],[(8,.row 2 aA.length (ptL aA)),(7,.row 2 bA.length (ptL bA))]⟩) (fun k=>aA.length - k) (fun k=>k<=aA.length/\zbn aA bA τ t k) 0 (by simp[go_sem]) ⟨Nat.zero_le _,fun j hj=>absurd hj (Nat.not_lt_zero _)⟩ ?_;rintro k ⟨hk,eA⟩;simp[go_sem,zG5,qB (show k<=1000000000 by omega),zSc,show bA.length<=1000000 by omega];have fA:zHU aA bA τ t->zn aA k<=t/\((zh aA k,zn aA k)∈bA↔zn aA k<=τ)\/¬k<aA.length:=fun h=>by
  by_cases hl:k<aA.length
  ·exact .inl ((zUn aA bA τ t).2 h k hl)
  ·exact .inr hl
 refine⟨fun hl=>⟨hl,fun _=>hl,by kernel_rfl,fun h hB=>?_,fun h1 h2=>⟨k+1,⟨by omega,fun i hi=>?_⟩,by omega,rfl⟩⟩,fun hl=>?_⟩
 ·rcases fA hB with⟨g1,g2⟩ | g
  ·exact h.elim (fun h=>by omega) (fun h=>h (zYA.2 g2))
  ·exact g hl
 ·by_cases e:i=k
  ·subst e;exact⟨h1,zYA.1 h2⟩
  ·exact eA i (by omega)
 ·cases (show k=aA.length by omega);exact(zUn aA bA τ t).1 eA
noncomputable def zb9:zX:=qk (fun q:(zB×Int)×(Int×Int)×Nat×(Nat->Int)×(Nat->Int)=>[woT q.1.1,iT q.1.2,pT q.2.1.1 q.2.1.2,psT q.2.2.1 q.2.2.2.1 q.2.2.2.2]) (fun q=>(zIz q.1.1/\za q.1.1.pool q.2.1.1 q.2.1.2)/\q.2.2.1<=1000000) (fun q=>bR (zD8 q.2.2.1 q.2.2.2.1 q.2.2.2.2 (zB3 (zM q.1.1.pool (zE q.1.1 q.1.2).rs (zE q.1.1 q.1.2).rb) (zM q.1.1.pool q.2.1.1 q.2.1.2))))
theorem zSH(W:zB)(x a b:Int)(n:Nat)(f g:Nat->Int):zb9 [woT W,iT x,pT a b,psT n f g]=some ((zIz W/\za W.pool a b)/\n<=1000000,bR (zD8 n f g (zB3 (zM W.pool (zE W x).rs (zE W x).rb) (zM W.pool a b)))):=zO (fun l=>((zCW (nth l 0),qM (nth l 1 0)),(qM (nth l 2 0),qM (nth l 2 1)),zWS (nth l 3 0))) (fun _=>rfl) ((W,x),(a,b),n,f,g)
theorem zT6:zy Tryz.prog 59 zb9:=by
 refine zQ qA (GOk.cons zDj (zG Tryz.func39 rfl rfl) (GOk.cons zC4 (zG Tryz.func30 rfl rfl) (GOk.cons zJ4 (zG Tryz.func109 rfl rfl) (GOk.cons zRI (zG Tryz.func110 rfl rfl) GOk.nil)))) zz Tryz.func59 rfl Tryz.ntmps59 Tryz.results59 15 ?_;rintro⟨⟨W,x⟩,⟨a,b⟩,n,f,g⟩ ⟨⟨hW,hT⟩,hn⟩;replace hW:zIz W:=hW;replace hT:za W.pool a b:=hT;replace hn:n<=1000000:=hn;have hO:=zNa hW.zeJ x;refine⟨by simp,?_⟩;have hz:=zFA hW.ids x;simp[go_sem,zEJ,zBx,hW.pn,hz,hO,hT,hW.right];obtain⟨bA,cA⟩:∃l,l=zM W.pool a b:=⟨_,rfl⟩;obtain⟨aA,dA⟩:∃l,l=zM W.pool (zE W x).rs (zE W x).rb:=⟨_,rfl⟩;have ln:bA.length<=100:=by have:=qx W.pool a b;rw[cA];omega
 have lo:aA.length<=100:=by have:=qx W.pool (zE W x).rs (zE W x).rb;rw[dA];omega
 rw[<-cA,<-dA];refine yE (fun k:Nat=>⟨[(14,true,.i k),(13,true,.m false [.h 9]),(12,true,.m false [.h 8]),(11,true,.m false [.h 7]),(3,true,.m false [.s .b 2 n (ptrsT f g)])],[(9,.row 2 (zB3 (aA.take k) bA).length (ptL (zB3 (aA.take k) bA))),(8,.row 2 bA.length (ptL bA)),(7,.row 2 aA.length (ptL aA))]⟩) (fun k=>aA.length - k) (fun k=>k<=aA.length) 0 (by simp[go_sem];exact zKJ rfl) (Nat.zero_le _) ?_;rintro k hk;have eA:=zSC aA bA k;simp[go_sem,zG5,zY9,qB (show k<=1000000000 by omega),zSc,show bA.length<=1000000 by omega,hn];refine⟨fun hl=>⟨hl,fun h=>⟨hl,by omega,k+1,by omega,by omega,rfl,?_⟩,fun h=>⟨k+1,by omega,by omega,rfl,?_⟩⟩,fun hl=>?_⟩
 ·refine zDR zE2 ?_;rw[zNB hl h]
 ·rw[zQd hl h];exact TrE.refl _
 ·cases (show k=aA.length by omega);rw[List.take_length];rw[List.take_length]at eA;exact⟨by omega,Iff.rfl⟩
noncomputable def zYr:zX:=qk (fun W:zB=>[woT W]) (fun W=>zIz W/\∀k,k<W.sn->za W.pool (W.zeK k).rs (W.zeK k).rb) (fun W=>bR (∀i,i<memN W->zDa W i))
theorem zWz(W:zB):zYr [woT W]=some (zIz W/\∀k,k<W.sn->za W.pool (W.zeK k).rs (W.zeK k).rb,bR (∀i,i<memN W->zDa W i)):=zO (fun l=>zCW (nth l 0)) (fun _=>rfl) W
theorem zT5:zy Tryz.prog 63 zYr:=by
 refine zQ qA (GOk.cons zQb (zG Tryz.func111 rfl rfl) GOk.nil) zz Tryz.func63 rfl Tryz.ntmps63 Tryz.results63 5 ?_;rintro W ⟨hW,hT⟩;replace hW:zIz W:=hW;have dA:W.sn<=8:=hW.zeM.2.2.1;have cA:W.pn<=20:=hW.zeM.2.2.2.1;refine⟨by simp,?_⟩;simp[go_sem];refine yE (fun k:Nat=>⟨[(1,true,.m false [.p 1 0]),(3,true,.i k)],[(1,.var ((woL W).map Tr.cv))]⟩) (fun k=>W.pn - k) (fun k=>k<=W.pn/\∀i,i<k->zDa W i) 0 (by simp[go_sem]) (by simp) ?_;rintro k ⟨hk,bA⟩;simp[go_sem,zNH,hW,qB (show k<=1000000000 by omega)];refine⟨fun hl=>?_,fun hl=>?_⟩
 ·have e:zI W k=zZP (W.zeJ k):=zx hl;have hb:zDa W k↔zHU (zM W.pool (W.zeJ k).rs (W.zeJ k).rb) (zM W.pool (zE W (W.zeJ k).zeL).rs (zE W (W.zeJ k).zeL).rb) (zE W (W.zeJ k).zeL).time (W.zeJ k).time:=by
   unfold zDa;rw[e];exact Iff.rfl
  refine⟨hl,hW.zeJ k hl,by kernel_rfl,fun h=>⟨k,by unfold memN;omega,fun hh=>h (hb.1 hh)⟩,fun h=>⟨k+1,⟨by omega,yJ hl bA (hb.2 h)⟩,by omega,rfl⟩⟩
 cases (show k=W.pn by omega);refine yE (fun k:Nat=>⟨[(1,true,.m false [.p 1 0]),(4,true,.i k)],[(1,.var ((woL W).map Tr.cv))]⟩) (fun k=>W.sn - k) (fun k=>k<=W.sn/\∀i,i<W.pn+k->zDa W i) 0 (by simp[go_sem]) ⟨Nat.zero_le _,bA⟩ ?_;rintro k ⟨hk,aA⟩;simp[go_sem,zNH,hW,qB (show k<=1000000000 by omega)];refine⟨fun hl=>?_,fun hl i hi=>aA i (by unfold memN at hi;omega)⟩;have e:zI W (W.pn+k)=zUI W.time (W.zeK k):=qN W k;have hb:zDa W (W.pn+k)↔zHU (zM W.pool (W.zeK k).rs (W.zeK k).rb) (zM W.pool (zE W (W.zeK k).zeL).rs (zE W (W.zeK k).zeL).rb) (zE W (W.zeK k).zeL).time W.time:=by
  unfold zDa;rw[e];exact Iff.rfl
 refine⟨hl,hT k hl,by kernel_rfl,fun h=>⟨W.pn+k,by unfold memN;omega,fun hh=>h (hb.1 hh)⟩,fun h=>⟨k+1,⟨by omega,fun i hi=>?_⟩,by omega,rfl⟩⟩;by_cases e:i=W.pn+k
 ·subst e;exact hb.2 h
 ·exact aA i (by omega)
end Go.Proofs.YtjganmlaooofoaaGreatDoor
