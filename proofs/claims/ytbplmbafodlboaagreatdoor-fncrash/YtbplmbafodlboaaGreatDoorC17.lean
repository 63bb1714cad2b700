/- A part of the proof. -/
import Derived.Test.YtbplmbafodlboaaGreatDoorC16
set_option linter.unusedVariables false
set_option maxRecDepth 20000
set_option maxHeartbeats 4000000
namespace Go.Proofs.YtbplmbafodlboaaGreatDoor
open Go.RowKit
set_option linter.unusedSimpArgs false
set_option maxRecDepth 20000
set_option maxHeartbeats 1600000
theorem zML{W:zB}{x:Int}:(zBn W.pn fun k=>(W.zcy k).id=x)<0↔¬zB2 W x:=by
 rcases zL2 (zEq W.pn fun k=>(W.zcy k).id=x)with⟨h,h1,-⟩ | ⟨h,h1⟩
 ·exact⟨fun e=>absurd e (by omega),fun e=>absurd h e⟩
 ·rw[h1];exact⟨fun _=>h,fun _=>by decide⟩
theorem zJP{W:zB}{x:Int}:(0<=zBn W.pn fun k=>(W.zcy k).id=x)↔zB2 W x:=by
 rw[<-Int.not_lt,zML,Classical.not_not]
theorem zCn{W:zB}{x:ByteArray}:(zBn W.sn fun k=>(W.zc1 k).name=x)<0↔¬zBW W x:=by
 rcases zVT (zEq W.sn fun k=>(W.zc1 k).name=x)with⟨h,h1⟩ | ⟨h,h1⟩
 ·exact⟨fun e=>absurd e (by omega),fun e=>absurd h e⟩
 ·rw[h1];exact⟨fun _=>h,fun _=>by decide⟩
theorem zBZ{W:zB}{x:ByteArray}:(0<=zBn W.sn fun k=>(W.zc1 k).name=x)↔zBW W x:=by
 rw[<-Int.not_lt,zCn,Classical.not_not]
theorem zbM{k:Nat}(h:k<=1000000000):IntKind.i64.wrap ((k:Int) - 1)=(k:Int) - 1:=by
 unfold IntKind.wrap;simp[IntKind.signed,IntKind.bits];omega
theorem tn1{k:Nat}:((k:Int) - 1).toNat=k - 1:=by omega
attribute [local go_sem] qX List.map_cons List.map_nil Tr.cv yp qD qs qq yo yn ym qp zAu zAw zAv zAr zAt zAs zCF zCH zCG qH zl qI zm qB qA qM yx zi zj qw qG tmpsOf zAf qv qF zAp yv yr yq yu stpP opds opd opdC kap zAG qC zh coreU bin zAb zB0 get put dlO fgt zA8 zA1 zA5 zA6 tyT yj yi Op.operands Call.operands evLoad evLen evStore evAlloc zAa and_true true_and List.append_nil List.nil_append List.cons_append Ret resCv zBs yQ cellM zBV zBw qY StW StR hpT hpO hpV hpA hpL hpC sg nin zB6 bdO tmW obW AvE CsE CvE Av.tup Av.ids Cv.ids inD ObE Ob.ids TrE.refl qE qt qu qJ qK qL zk ze zb yw zBc zB1 zAy evCall argL argOf qh outOb obO yL zy cvO tot Tr.own rid partsOf fillC zW zBU frz frz1 evBuildSlice zc trs Cv.tr evSlice Option.toArray_none Option.toArray_some evMakeSlice evAppend dstOf srcOf zBC zA7 zA4 zA2 zA3 ikT qn qm ql qk RetP RetN zBd qQ evLd evSt evStoreH zAX evAppendM evAppendT tlOf mvOf rowE shp evTake oOf evC evCallP evCallN evCallO unlast zAW zBB zAU argsF zB5 qy pmC varT vT evField evConv dB0 Option.bind_some Option.bind_none Option.map_some Option.map_none Option.isSome_some Option.isSome_none
attribute [local go_sem] yC zX zAg yI qe zAO zAP zAQ zAR zAS zAT yV yW yX yY yZ yb yd ye qz qV
noncomputable def zav:za:=qZ (fun s:ByteArray=>[sT s]) (fun _=>True) (fun s=>bR (zDb s))
theorem zDj(s:ByteArray):zav [sT s]=some (True,bR (zDb s)):=zO (fun l=>zDn (nth l 0 0)) (fun _=>rfl) s
theorem zEk:zp Tryz.prog 85 zav:=by
 refine zR zs GOk.nil zr Tryz.func85 rfl Tryz.ntmps85 Tryz.results85 5 ?_;rintro s -;refine⟨by simp,?_⟩;simp[go_sem];refine⟨fun h=>?_,fun h1 h2=>?_⟩
 ·exact fun hN=>by have h1:=hN.1;have h2:=hN.2.1;omega
 refine yF (fun k:Nat=>⟨[(0,true,.m false [.v (.string s)]),(3,true,.i k)],[]⟩) (fun k=>s.size - k) (fun k=>k<=s.size/\∀j,(h:j<k)->(h':j<s.size)->zGS j (s[j].toNat:Int)) 0 (by simp[go_sem]) (by simp) ?_;rintro k ⟨hk,aA⟩;simp[go_sem,qN (show k<=1000000000 by omega)];refine⟨fun hl=>?_,fun hl=>⟨by omega,by omega,fun j hj=>aA j (by omega) hj⟩⟩;have e:s[k]?.getD 0=s[k]:=by simp[hl]
 rw[e];obtain⟨c,hc⟩:∃c:Int,c=(s[k].toNat:Int):=⟨_,rfl⟩;have ho:zDb s->zGS k c:=fun hN=>hc▸hN.2.2 k hl
 have hn:zGS k c->∀j,(h:j<k+1)->(h':j<s.size)->zGS j (s[j].toNat:Int):=fun h j hj bA=>by
  by_cases e:j=k
  ·subst e;rw[<-hc];exact h
  ·exact aA j (by omega) bA
 rw[<-hc];unfold zGS at ho;refine⟨hl,fun a b c=>⟨⟨a,b⟩,c⟩,fun a b c=>⟨⟨a,b⟩,c⟩,fun a b=>⟨a,b⟩,fun a b hN=>?_,fun h=>⟨k+1,⟨by omega,hn ?_⟩,by omega,rfl⟩⟩
 ·have:=ho hN;omega
 ·unfold zGS;omega
noncomputable def zXo:za:=qZ (fun W:zB=>[woT W]) (fun W=>W.sn<=1000000/\W.pn<=1000000) (fun W=>bR (zBt W))
theorem zVv(W:zB):zXo [woT W]=some (W.sn<=1000000/\W.pn<=1000000,bR (zBt W)):=zO (fun l=>zCX (nth l 0)) (fun _=>rfl) W
theorem zQ5:zp Tryz.prog 56 zXo:=by
 refine zR zs (GOk.cons zHJ (zF Tryz.func45 rfl rfl) (GOk.cons zDD (zF Tryz.func66 rfl rfl) (GOk.cons zC1 (zF Tryz.func68 rfl rfl) (GOk.cons zEk (zF Tryz.func85 rfl rfl) GOk.nil)))) zr Tryz.func56 rfl Tryz.ntmps56 Tryz.results56 8 ?_;rintro W ⟨hn,hm⟩;refine⟨by simp,?_⟩;simp[go_sem,zMi];refine⟨fun h hN=>?_,fun a1 a2 b1 b2 c1 c2=>?_⟩
 ·obtain⟨h1,h2,h3,h4,-⟩:=hN;unfold zHd at h1 h2;omega
 refine yF (fun k:Nat=>⟨[(1,true,.m false [.p 1 0]),(3,true,.i k)],[(1,.var ((woL W).map Tr.cv))]⟩) (fun k=>W.sn - k) (fun k=>k<=W.sn/\∀i,i<k->zKU W i) 0 (by simp[go_sem]) (by simp) ?_;rintro k ⟨hk,cA⟩;simp[go_sem,qN (show k<=1000000000 by omega),zDj,zCB,zAY,hm,hn,zML,zJP,zCn,zBZ,zbM (show k<=1000000000 by omega),tn1];refine⟨fun hl=>?_,fun hl=>?_⟩
 ·have hS:zBt W->zKU W k:=fun hN=>hN.2.2.2.2.1 k hl
  have hI:zKU W k->∃a':Nat,(a'<=W.sn/\∀i,i<a'->zKU W i)/\W.sn - a'<W.sn - k/\(k:Int)+1=(a':Int):=fun h=>⟨k+1,⟨by omega,yE hl cA h⟩,by omega,rfl⟩
  obtain⟨Q,hQ⟩:∃Q,Q=zKU W k:=⟨_,rfl⟩;rw[<-hQ]at hS hI;unfold zKU zCN at hQ;refine⟨hl,fun _ _=>⟨by omega,by omega⟩,?_,?_,?_,?_,?_,by kernel_rfl,fun h hN=>?_,fun h1 h2 h3 h4=>hI ?_⟩
  ·grind
  ·grind
  ·grind
  ·grind
  ·grind
  ·have:=hS hN
   grind
  ·grind
 cases (show k=W.sn by omega);refine yF (fun k:Nat=>⟨[(1,true,.m false [.p 1 0]),(5,true,.i k)],[(1,.var ((woL W).map Tr.cv))]⟩) (fun k=>W.pn - k) (fun k=>k<=W.pn/\∀i,i<k->zO8 W i) 0 (by simp[go_sem]) (by simp) ?_;rintro k ⟨hk,aA⟩;simp[go_sem,qN (show k<=1000000000 by omega),zDj,zCB,zAY,hm,hn,zML,zJP,zCn,zBZ,zbM (show k<=1000000000 by omega),tn1];refine⟨fun hl=>?_,fun hl=>⟨⟨a1,a2⟩,⟨b1,b2⟩,by omega,by omega,cA,fun i hi=>aA i (by omega)⟩⟩;have hS:zBt W->zO8 W k:=fun hN=>hN.2.2.2.2.2 k hl
 refine⟨hl,fun h hN=>?_,fun s1 s2 s3 s4 s5 s6=>⟨fun _=>⟨by omega,by omega⟩,fun _ _=>⟨by omega,by omega⟩,?_,?_,?_,?_,by kernel_rfl,fun h hN=>?_,fun p1 p2=>?_⟩⟩
 ·obtain⟨q1,q2,q3,q4,q5,q6⟩:=(hS hN).1
  grind
 ·grind
 ·grind
 ·grind
 ·grind
 ·obtain⟨q1,q2⟩:=(hS hN).2.1
  grind
 have hB:zWn W k:=⟨p1,p2⟩;refine yF (fun j:Nat=>⟨[(1,true,.m false [.p 1 0]),(5,true,.i k),(6,true,.m false [.p 6 0]),(7,true,.i j)],[(6,.var [.v (.int .i64 (W.zcy k).id),.v (.string (W.zcy k).name),.v (.string (W.zcy k).set),.v (.int .i64 (W.zcy k).zc2),.v (.int .i64 (W.zcy k).time),.v (.int .i64 (W.zcy k).rs),.v (.int .i64 (W.zcy k).rb),.s .b 2 (W.zcy k).dn (ptrsT (W.zcy k).ds (W.zcy k).db)]),(1,.var ((woL W).map Tr.cv))]⟩) (fun j=>k - j) (fun j=>j<=k/\zWo W k j) 0 (by simp[go_sem]) ⟨Nat.zero_le _,fun j hj=>absurd hj (Nat.not_lt_zero _)⟩ ?_;rintro j ⟨hj,hc⟩;simp[go_sem,qN (show j<=1000000000 by omega),qN (show k<=1000000000 by omega)];refine⟨fun bA=>⟨by omega,fun _=>by omega,by kernel_rfl,fun g1 g2 hN=>(hS hN).2.2 j bA ⟨zCe g1,zCe g2⟩,fun g=>⟨j+1,⟨by omega,fun i hi=>?_⟩,by omega,rfl⟩⟩,fun bA=>⟨k+1,⟨by omega,yE hl aA ⟨⟨s1,s2,s3,s4,s5,s6⟩,hB,fun i hi=>hc i (by omega)⟩⟩,by omega,rfl⟩⟩;by_cases e:i=j
 ·subst e;exact fun h=>g (congrArg ByteArray.toList h.1) (congrArg ByteArray.toList h.2)
 ·exact hc i (by omega)
open Go.Maps
open Classical in
noncomputable def ownN(W:zB)(name:ByteArray):Nat->Nat
 | 0=>0
 | k+1=>ownN W name k+(if (W.zcy k).set=name then 1 else 0)
theorem zM2{W:zB}{name:ByteArray}{k:Nat}(h:(W.zcy k).set=name):ownN W name (k+1)=ownN W name k+1:=by simp[ownN,h]
theorem zPw{W:zB}{name:ByteArray}{k:Nat}(h:¬(W.zcy k).set=name):ownN W name (k+1)=ownN W name k:=by simp[ownN,h]
theorem zLP(W:zB)(name:ByteArray):∀k,ownN W name k<=k
 | 0=>Nat.le_refl _
 | k+1=>by
  have:=zLP W name k;by_cases h:(W.zcy k).set=name
  ·rw[zM2 h];omega
  ·rw[zPw h];omega
inductive Steps (W:zB) (name:ByteArray) (start:Int):Nat->Int->Prop
 | zero:Steps W name start 0 start
 | next {n:Nat} {x:Int} {k:Nat}:Steps W name start n x->zBD W x k->(W.zcy k).set=name->Steps W name start (n+1) (W.zcy k).zc2
def zGu(W:zB)(name:ByteArray)(x:Int):Prop:=∃k,zBD W x k/\(W.zcy k).set=name
def zG2(W:zB)(name:ByteArray)(start origin:Int):Prop:=∃n e,Steps W name start n e/\¬zGu W name e/\n=ownN W name W.pn/\e=origin
theorem Steps.det{W:zB}{name:ByteArray}{start:Int}:∀{n:Nat} {x y:Int},Steps W name start n x->Steps W name start n y->x=y
 | 0,_,_,.zero,.zero=>rfl
 | n+1,_,_,.next h hk _,.next h' hk' _=>by
  have e:=Steps.det h h';subst e;rw[zBD.uniq hk hk']
theorem Steps.less{W:zB}{name:ByteArray}{start:Int}:∀{n m:Nat} {x:Int},Steps W name start m x->n<m->∃y,Steps W name start n y/\zGu W name y
 | n,0,_,_,h=>absurd h (Nat.not_lt_zero _)
 | n,m+1,_,.next (x:=x) h hk hs,hl=>by
  by_cases e:n=m
  ·subst e;exact⟨x,h,_,hk,hs⟩
  ·exact Steps.less h (by omega)
theorem Steps.end{W:zB}{name:ByteArray}{start:Int}{n m:Nat}{x y:Int}(h:Steps W name start n x)(hx:¬zGu W name x)(h':Steps W name start m y)(hy:¬zGu W name y):n=m/\x=y:=by
 have e:n=m:=by
  rcases Nat.lt_trichotomy n m with hl | hl | hl
  ·obtain⟨z,hz,ho⟩:=h'.less hl;rw[h.det hz]at hx;exact absurd ho hx
  ·exact hl
  ·obtain⟨z,hz,ho⟩:=h.less hl;rw[h'.det hz]at hy;exact absurd ho hy
 subst e;exact⟨rfl,h.det h'⟩
theorem zRC{W:zB}{name:ByteArray}{start origin:Int}{n:Nat}{x:Int}(h:Steps W name start n x)(hx:¬zGu W name x):zG2 W name start origin↔n=ownN W name W.pn/\x=origin:=by
 constructor
 ·rintro⟨m,y,hs,hy,h1,h2⟩;obtain⟨rfl,rfl⟩:=h.end hx hs hy;exact⟨h1,h2⟩
 ·rintro⟨h1,h2⟩;exact⟨n,x,h,hx,h1,h2⟩
theorem zB2.no{W:zB}{x:Int}(h:zB2 W x):∃k,zBD W x k:=zKH (Nat.le_refl _) h
structure zE7 (W:zB):Prop where
 ids:∀k,k<W.pn->1<=(W.zcy k).id/\(W.zcy k).id<900000
 zc2:∀k,k<W.pn->(W.zcy k).zc2=0\/zB2 W (W.zcy k).zc2
 less:∀k,k<W.pn->(W.zcy k).zc2<(W.zcy k).id
 zc1:∀k,k<W.sn->(W.zc1 k).zc2=0\/zB2 W (W.zc1 k).zc2
 zc3:∀k,k<W.sn->(W.zc1 k).name.toList.isEmpty=false
theorem zE7.pos{W:zB}(h:zE7 W):zO1 W:=fun k hk=>(h.ids k hk).1
theorem zB2.range{W:zB}(h:zE7 W){x:Int}(hx:zB2 W x):1<=x/\x<900000:=by
 obtain⟨k,hk,rfl⟩:=hx;exact h.ids k hk
theorem zFw{s:ByteArray}(h:zDb s):s.toList.isEmpty=false:=by
 have:=h.1;rw[Go.ByteArray.toList_eq];cases s with
 | mk d=>
  cases hd:d.toList with
  | nil=>
   have h0:d.size=0:=(by rw[<-Array.length_toList,hd];rfl);have h1:1<=d.size:=this;omega
  | cons a l=>simp
theorem zBt.prevOk{W:zB}(h:zBt W):zE7 W where
 ids:=fun k hk=>⟨(h.2.2.2.2.2 k hk).1.1,by have:=(h.2.2.2.2.2 k hk).1.2.1;have:=h.2.1.2;omega⟩
 zc2:=fun k hk=>by
  by_cases e:(W.zcy k).zc2=0
  ·exact Or.inl e
  ·exact Or.inr ((h.2.2.2.2.2 k hk).2.1.2 e).2
 less:=fun k hk=>by
  by_cases e:(W.zcy k).zc2=0
  ·have:=(h.2.2.2.2.2 k hk).1.1;omega
  ·exact((h.2.2.2.2.2 k hk).2.1.2 e).1
 zc1:=fun k hk=>by
  by_cases e:(W.zc1 k).zc2=0
  ·exact Or.inl e
  ·exact Or.inr ((h.2.2.2.2.1 k hk).2.2.1 e)
 zc3:=fun k hk=>zFw (h.2.2.2.2.1 k hk).1
structure zDQ (W:zB) (name:ByteArray) (start:Int) (n:Nat) (x:Int):Prop where
 steps:Steps W name start n x
 there:x=0\/zB2 W x
 least:0<=x
 sum:(n:Int)+x<=900000
theorem zDQ.start{W:zB}(h:zE7 W)(name:ByteArray){x:Int}(hx:x=0\/zB2 W x):zDQ W name x 0 x where
 steps:=.zero
 there:=hx
 least:=by rcases hx with rfl | hx;exact Int.le_refl _;have:=hx.range h;omega
 sum:=by rcases hx with rfl | hx;decide;have:=hx.range h;omega
theorem zDQ.next{W:zB}(h:zE7 W){name:ByteArray}{start:Int}{n:Nat}{x:Int}(hw:zDQ W name start n x){k:Nat}(hk:zBD W x k)(hs:(W.zcy k).set=name):zDQ W name start (n+1) (W.zcy k).zc2 where
 steps:=hw.steps.next hk hs
 there:=h.zc2 k hk.1
 least:=by rcases h.zc2 k hk.1 with e | e;omega;have:=e.range h;omega
 sum:=by have h1:=h.less k hk.1;have h2:=hw.sum;have h3:=hk.2.1;omega
theorem zJd{W:zB}(h:zE7 W)(name:ByteArray):¬zGu W name 0:=fun ⟨k,hk,_⟩=>by
 have:=(h.ids k hk.1).1;have:=hk.2.1;omega
theorem zMx{W:zB}{name:ByteArray}{x:Int}{k:Nat}(hk:zBD W x k)(hs:¬(W.zcy k).set=name):¬zGu W name x:=fun ⟨j,hj,e⟩=>hs (by rw[zBD.uniq hk hj];exact e)
set_option linter.unusedSimpArgs false
set_option maxRecDepth 20000
set_option maxHeartbeats 1600000
def zIx(W:zB)(i:Nat):Prop:=zG2 W (W.zc1 i).name (W.zc1 i).zc2 (W.zc1 i).origin
attribute [local go_sem] qX List.map_cons List.map_nil Tr.cv yp qD qs qq yo yn ym qp zAu zAw zAv zAr zAt zAs zCF zCH zCG qH zl qI zm qB qA qM yx zi zj qw qG tmpsOf zAf qv qF zAp yv yr yq yu stpP opds opd opdC kap zAG qC zh coreU bin zAb zB0 get put dlO fgt zA8 zA1 zA5 zA6 tyT yj yi Op.operands Call.operands evLoad evLen evStore evAlloc zAa and_true true_and List.append_nil List.nil_append List.cons_append Ret resCv zBs yQ cellM zBV zBw qY StW StR hpT hpO hpV hpA hpL hpC sg nin zB6 bdO tmW obW AvE CsE CvE Av.tup Av.ids Cv.ids inD ObE Ob.ids TrE.refl qE qt qu qJ qK qL zk ze zb yw zBc zB1 zAy evCall argL argOf qh outOb obO yL zy cvO tot Tr.own rid partsOf fillC zW zBU frz frz1 evBuildSlice zc trs Cv.tr evSlice Option.toArray_none Option.toArray_some evMakeSlice evAppend dstOf srcOf zBC zA7 zA4 zA2 zA3 ikT qn qm ql qk RetP RetN zBd qQ evLd evSt evStoreH zAX evAppendM evAppendT tlOf mvOf rowE shp evTake oOf evC evCallP evCallN evCallO unlast zAW zBB zAU argsF zB5 qy pmC varT vT evField evConv dB0 Option.bind_some Option.bind_none Option.map_some Option.map_none Option.isSome_some Option.isSome_none
attribute [local go_sem] yC zX zAg yI qe zAO zAP zAQ zAR zAS zAT yV yW yX yY yZ yb yd ye qz qV
noncomputable def zUB:za:=qZ (fun W:zB=>[woT W]) (fun W=>zBt W) (fun W=>bR (∀i,i<W.sn->zIx W i))
theorem zS3(W:zB):zUB [woT W]=some (zBt W,bR (∀i,i<W.sn->zIx W i)):=zO (fun l=>zCX (nth l 0)) (fun _=>rfl) W
theorem zPc:zp Tryz.prog 57 zUB:=by
 refine zR zs (GOk.cons zC1 (zF Tryz.func68 rfl rfl) GOk.nil) zr Tryz.func57 rfl Tryz.ntmps57 Tryz.results57 8 ?_;rintro W hN;replace hN:zBt W:=hN;have eA:W.sn<=8:=hN.2.2.1;have dA:W.pn<=20:=hN.2.2.2.1;have hm:W.pn<=1000000:=by omega
 have hP:=hN.prevOk;refine⟨by simp,?_⟩;simp[go_sem];refine yF (fun k:Nat=>⟨[(1,true,.m false [.p 1 0]),(3,true,.i k)],[(1,.var ((woL W).map Tr.cv))]⟩) (fun k=>W.sn - k) (fun k=>k<=W.sn/\∀i,i<k->zIx W i) 0 (by simp[go_sem]) (by simp) ?_;rintro k ⟨hk,cA⟩;simp[go_sem,qN (show k<=1000000000 by omega)];refine⟨fun hl=>?_,fun hl i hi=>cA i (by omega)⟩;refine yF (fun j:Nat=>⟨[(1,true,.m false [.p 1 0]),(3,true,.i k),(4,true,.m false [.v (.int .i64 0)]),(5,true,.i (ownN W (W.zc1 k).name j)),(6,true,.i j)],[(1,.var ((woL W).map Tr.cv))]⟩) (fun j=>W.pn - j) (fun j=>j<=W.pn) 0 (by simp[go_sem,ownN]) (Nat.zero_le _) ?_;rintro j hj;have ho:=zLP W (W.zc1 k).name j;simp[go_sem,qN (show j<=1000000000 by omega),qN (show ownN W (W.zc1 k).name j<=1000000000 by omega)];refine⟨fun bA=>⟨bA,hl,by kernel_rfl,fun h=>⟨j+1,bA,by omega,by rw[zM2 (zCe h)];rfl,rfl⟩,fun h=>⟨j+1,bA,by omega,by rw[zPw fun e=>h (congrArg ByteArray.toList e)],rfl⟩⟩,fun bA=>⟨hl,?_⟩⟩;cases (show j=W.pn by omega);refine yF (fun q:Nat×Int=>⟨[(1,true,.m false [.p 1 0]),(3,true,.i k),(4,true,.i q.1),(5,true,.i (ownN W (W.zc1 k).name W.pn)),(7,true,.m false [.v (.int .i64 q.2)])],[(1,.var ((woL W).map Tr.cv))]⟩) (fun q=>1000000 - q.1) (fun q=>zDQ W (W.zc1 k).name (W.zc1 k).zc2 q.1 q.2) (0,(W.zc1 k).zc2) (by simp[go_sem]) (zDQ.start hP _ (hP.zc1 k hl)) ?_;rintro⟨a,x⟩ hw;replace hw:zDQ W (W.zc1 k).name (W.zc1 k).zc2 a x:=hw;have ha:a<=900000:=by have:=hw.least;have:=hw.sum;omega
 simp[go_sem,zCB,hm,qN (show a<=1000000000 by omega),qN (show k<=1000000000 by omega)];have aA:¬zGu W (W.zc1 k).name x->(¬(a:Int)=(ownN W (W.zc1 k).name W.pn:Nat)\/¬x=(W.zc1 k).origin->∃x,x<W.sn/\¬zIx W x)/\((a:Int)=(ownN W (W.zc1 k).name W.pn:Nat)->x=(W.zc1 k).origin->∃a':Nat,(a'<=W.sn/\∀i,i<a'->zIx W i)/\W.sn - a'<W.sn - k/\(k:Int)+1=(a':Int)):=fun ho=>by
  have hi:=zRC (origin:=(W.zc1 k).origin) hw.steps ho;refine⟨fun h=>⟨k,hl,fun hc=>?_⟩,fun h1 h2=>⟨k+1,⟨by omega,yE hl cA (hi.2 ⟨by exact_mod_cast h1,h2⟩)⟩,by omega,rfl⟩⟩;obtain⟨g1,g2⟩:=hi.1 hc;exact h.elim (fun h=>h (by exact_mod_cast g1)) (fun h=>h g2)
 by_cases hx:x=0
 ·subst hx;exact⟨fun h=>absurd rfl h,fun h=>absurd rfl h,by kernel_rfl,fun h=>absurd rfl h,fun _=>⟨fun _=>hl,aA (zJd hP _)⟩⟩
 ·obtain⟨q,hq⟩:=(hw.there.resolve_left hx).no;have e:(zBn W.pn fun k=>(W.zcy k).id=x)=q:=zEQ hq.1 hq.2.1 hq.2.2;have:=hq.1;rw[e,Int.toNat_natCast];exact⟨fun _=>⟨by omega,by omega⟩,fun _=>hl,by kernel_rfl,fun _ h=>⟨⟨by omega,by omega⟩,by kernel_rfl,a+1,_,hw.next hP hq (zCe h),by omega,rfl,rfl⟩,fun h=>⟨fun _=>hl,aA (zMx hq fun e=>h hx (congrArg ByteArray.toList e))⟩⟩
set_option maxRecDepth 20000
set_option maxHeartbeats 1600000
attribute [local go_sem] qX List.map_cons List.map_nil Tr.cv yp qD qs qq yo yn ym qp zAu zAw zAv zAr zAt zAs zCF zCH zCG qH zl qI zm qB qA qM yx zi zj qw qG tmpsOf zAf qv qF zAp yv yr yq yu stpP opds opd opdC kap zAG qC zh coreU bin zAb zB0 get put dlO fgt zA8 zA1 zA5 zA6 tyT yj yi Op.operands Call.operands evLoad evLen evStore evAlloc zAa and_true true_and List.append_nil List.nil_append List.cons_append Ret resCv zBs yQ cellM zBV zBw qY StW StR hpT hpO hpV hpA hpL hpC sg nin zB6 bdO tmW obW AvE CsE CvE Av.tup Av.ids Cv.ids inD ObE Ob.ids TrE.refl qE qt qu qJ qK qL zk ze zb yw zBc zB1 zAy evCall argL argOf qh outOb obO yL zy cvO tot Tr.own rid partsOf fillC zW zBU frz frz1 evBuildSlice zc trs Cv.tr evSlice Option.toArray_none Option.toArray_some evMakeSlice evAppend dstOf srcOf zBC zA7 zA4 zA2 zA3 ikT qn qm ql qk RetP RetN zBd qQ evLd evSt evStoreH zAX evAppendM evAppendT tlOf mvOf rowE shp evTake oOf evC evCallP evCallN evCallO unlast zAW zBB zAU argsF zB5 qy pmC varT vT evField evConv dB0 Option.bind_some Option.bind_none Option.map_some Option.map_none Option.isSome_some Option.isSome_none
abbrev psT(n:Nat)(f g:Nat->Int):Bool×List Tr:=(false,[.s .b 2 n (ptrsT f g)])
abbrev psO(l:List (Int×Int)):Bool×List Tr:=(false,[.s .o 2 l.length (ptL l)])
def zVQ(a:Tr):Nat×(Nat->Int)×(Nat->Int):=(zFr a,fun i=>qd (zCf a i 0),fun i=>qd (zCf a i 1))
noncomputable def mIn:za:=qZ (fun q:(Nat×(Nat->Int)×(Nat->Int))×Int×Int=>[psT q.1.1 q.1.2.1 q.1.2.2,pT q.2.1 q.2.2]) (fun q=>q.1.1<=1000000) (fun q=>bR (PIn q.1.1 q.1.2.1 q.1.2.2 q.2.1 q.2.2))
theorem zPg(n:Nat)(f g:Nat->Int)(a b:Int):mIn [psT n f g,pT a b]=some (n<=1000000,bR (PIn n f g a b)):=zO (fun l=>(zVQ (nth l 0 0),qd (nth l 1 0),qd (nth l 1 1))) (fun _=>rfl) ((n,f,g),a,b)
theorem zJW:zp Tryz.prog 65 mIn:=by
 refine zR zs GOk.nil zr Tryz.func65 rfl Tryz.ntmps65 Tryz.results65 6 ?_;rintro⟨⟨n,f,g⟩,a,b⟩ hn;replace hn:n<=1000000:=hn;refine⟨by simp,?_⟩;simp[go_sem];refine yF (fun k:Nat=>⟨[(3,true,.m false [.p 3 0]),(0,true,.m false [.s .b 2 n (ptrsT f g)]),(5,true,.i k)],[(3,.var [.v (.int .i64 a),.v (.int .i64 b)])]⟩) (fun k=>n - k) (fun k=>k<=n/\∀i,i<k->¬(f i=a/\g i=b)) 0 (by simp[go_sem]) (by simp) ?_;rintro k ⟨hk,aA⟩;simp[go_sem,qN (show k<=1000000000 by omega)];refine⟨fun hl=>⟨hl,by kernel_rfl,fun h1 h2=>⟨k,hl,h1,h2⟩,fun h=>⟨k+1,⟨by omega,fun i hi h1 h2=>?_⟩,by omega,rfl⟩⟩,fun hl ⟨j,h1,h2⟩=>aA j (by omega) h2⟩;rcases Nat.lt_succ_iff_lt_or_eq.1 hi with h3 | rfl
 ·exact aA i h3 ⟨h1,h2⟩
 ·exact h h1 h2
noncomputable def zX0:za:=qZ (fun q:(Nat×(Nat->Int)×(Nat->Int))×Int=>[psT q.1.1 q.1.2.1 q.1.2.2,iT q.2]) (fun q=>q.1.1<=1000000) (fun q=>[psO (zAl q.1.2.1 q.1.2.2 q.2 q.1.1),psO (zEj q.1.2.1 q.1.2.2 q.2 q.1.1)])
theorem zF7(n:Nat)(f g:Nat->Int)(t:Int):zX0 [psT n f g,iT t]=some (n<=1000000,[psO (zAl f g t n),psO (zEj f g t n)]):=zO (fun l=>(zVQ (nth l 0 0),qd (nth l 1 0))) (fun _=>rfl) ((n,f,g),t)
theorem zFb:zp Tryz.prog 106 zX0:=by
 refine zR zs GOk.nil zr Tryz.func106 rfl Tryz.ntmps106 Tryz.results106 9 ?_;rintro⟨⟨n,f,g⟩,t⟩ hn;replace hn:n<=1000000:=hn;refine⟨by simp,?_⟩;simp[go_sem];refine yF (fun k:Nat=>⟨[(6,true,.m false [.h 7]),(7,true,.m false [.h 8]),(0,true,.m false [.s .b 2 n (ptrsT f g)]),(1,true,.i t),(8,true,.i k)],[(7,.row 2 (zAl f g t k).length (ptL (zAl f g t k))),(8,.row 2 (zEj f g t k).length (ptL (zEj f g t k)))]⟩) (fun k=>n - k) (fun k=>k<=n) 0 (by simp[go_sem,zAl,zEj];exact zJg rfl) (by simp) ?_;rintro k hk;have hl:=zGN f g t k;simp[go_sem,qN (show k<=1000000000 by omega)];refine⟨fun aA=>⟨aA,fun h=>⟨aA,by omega,k+1,by omega,by omega,by omega,zDL zEo (by simp[zAl,h]),zDM (by simp[zEj,h])⟩,fun h=>⟨aA,by omega,k+1,by omega,by omega,by omega,zDM (by simp[zAl,Int.not_lt.2 h]),zDL zEo (by simp[zEj,Int.not_lt.2 h])⟩⟩,fun aA=>?_⟩;cases (show k=n from by omega);exact⟨⟨zDM rfl,zDK⟩,zDM rfl,zDK⟩
noncomputable def za3:za:=qZ (fun q:Nat×(Nat->Int)×(Nat->Int)=>[psT q.1 q.2.1 q.2.2]) (fun q=>q.1<=1000000) (fun q=>bR (zAD q.1 q.2.1 q.2.2))
theorem zXu(n:Nat)(f g:Nat->Int):za3 [psT n f g]=some (n<=1000000,bR (zAD n f g)):=zO (fun l=>zVQ (nth l 0 0)) (fun _=>rfl) (n,f,g)
theorem zO4:zp Tryz.prog 64 za3:=by
 refine zR zs (GOk.cons zHJ (zF Tryz.func45 rfl rfl) (GOk.cons zHI (zF Tryz.func101 rfl rfl) GOk.nil)) zr Tryz.func64 rfl Tryz.ntmps64 Tryz.results64 5 ?_;rintro⟨n,f,g⟩ hn;replace hn:n<=1000000:=hn;refine⟨by simp,?_⟩;simp[go_sem];refine⟨fun h1 h=>by have:=h.1;omega,fun h1=>?_⟩;refine yF (fun k:Nat=>⟨[(0,true,.m false [.s .b 2 n (ptrsT f g)]),(3,true,.i k)],[]⟩) (fun k=>n - k) (fun k=>k<=n/\∀i,i<k->zG3 (f i) (g i)/\∀j,j<i->f j≠f i) 0 (by simp[go_sem]) (by simp) ?_;rintro k ⟨hk,cA⟩;simp[go_sem,qN (show k<=1000000000 by omega),zMi,zJ6];refine⟨fun hl=>?_,fun hl=>⟨by omega,fun i hi=>(cA i (by omega)).1,fun i hi=>(cA i (by omega)).2⟩⟩;refine⟨hl,fun _ _=>hl,fun h h'=>?_,fun g1 g2 g3=>?_⟩
 ·have:=(h'.2.1 k hl);unfold zG3 at this;unfold zBg at h;omega
 refine yF (fun j:Nat=>⟨[(0,true,.m false [.s .b 2 n (ptrsT f g)]),(3,true,.i k),(4,true,.i j)],[]⟩) (fun j=>k - j) (fun j=>j<=k/\∀i,i<j->f i≠f k) 0 (by simp[go_sem]) (by simp) ?_;rintro j ⟨hj,aA⟩;simp[go_sem,qN (show j<=1000000000 by omega),qN (show k<=1000000000 by omega)];exact⟨fun bA=>⟨by omega,hl,by kernel_rfl,fun h h'=>h'.2.2 k hl j bA h,fun h=>⟨j+1,⟨by omega,yE bA aA h⟩,by omega,rfl⟩⟩,fun bA=>⟨k+1,⟨by omega,yE hl cA ⟨by unfold zG3;unfold zBg at g3;omega,fun i hi=>aA i (by omega)⟩⟩,by omega,rfl⟩⟩
noncomputable def za6:za:=qZ (fun q:(Nat×(Nat->Int)×(Nat->Int))×Nat×(Nat->Int)×(Nat->Int)=>[psT q.1.1 q.1.2.1 q.1.2.2,psT q.2.1 q.2.2.1 q.2.2.2]) (fun q=>q.1.1<=1000000/\q.2.1<=1000000) (fun q=>bR (zF1 q.1.1 q.1.2.1 q.1.2.2 q.2.1 q.2.2.1 q.2.2.2))
theorem zMm(n:Nat)(f g:Nat->Int)(n':Nat)(f' g':Nat->Int):za6 [psT n f g,psT n' f' g']=some (n<=1000000/\n'<=1000000,bR (zF1 n f g n' f' g')):=zO (fun l=>(zVQ (nth l 0 0),zVQ (nth l 1 0))) (fun _=>rfl) ((n,f,g),n',f',g')
theorem zKS:zp Tryz.prog 34 za6:=by
 refine zR zs (GOk.cons zO4 (zF Tryz.func64 rfl rfl) (GOk.cons zJW (zF Tryz.func65 rfl rfl) GOk.nil)) zr Tryz.func34 rfl Tryz.ntmps34 Tryz.results34 6 ?_;rintro⟨⟨n,f,g⟩,n',f',g'⟩ ⟨hn,aA⟩;replace hn:n<=1000000:=hn;replace aA:n'<=1000000:=aA;refine⟨by simp,?_⟩;simp[go_sem,zXu,hn,aA];refine⟨fun h h'=>?_,fun h1 h2 h3=>?_⟩
 ·have:=h'.2.2.1;rcases h with(h | h) | h
  ·exact h h'.1
  ·exact h h'.2.1
  ·omega
 refine yF (fun k:Nat=>⟨[(0,true,.m false [.s .b 2 n (ptrsT f g)]),(1,true,.m false [.s .b 2 n' (ptrsT f' g')]),(5,true,.i k)],[]⟩) (fun k=>n - k) (fun k=>k<=n/\∀i,i<k->PIn n' f' g' (f i) (g i)) 0 (by simp[go_sem]) (by simp) ?_;rintro k ⟨hk,bA⟩;simp[go_sem,qN (show k<=1000000000 by omega),zPg,aA];exact⟨fun hl=>⟨hl,fun h h'=>h (h'.2.2.2 k hl),fun h=>⟨k+1,⟨by omega,yE hl bA h⟩,by omega,rfl⟩⟩,fun hl=>⟨h1,h2,by omega,fun i hi=>bA i (by omega)⟩⟩
theorem zPd{l m:List (Int×Int)}{k:Nat}(hk:k<l.length)(h:(qP l k,qb l k)∈m):zCK (l.take (k+1)) m=zCK (l.take k) m:=by
 unfold qP qb at h;rw[zBT hk]at h;unfold zCK;rw[List.take_succ_eq_append_getElem hk,List.filter_append,List.filter_cons];simp only[List.filter_nil];rw[if_neg (by simp;exact h),List.append_nil]
theorem zMa{l m:List (Int×Int)}{k:Nat}(hk:k<l.length)(h:(qP l k,qb l k)∉m):zCK (l.take (k+1)) m=zCK (l.take k) m ++ [(qP l k,qb l k)]:=by
 unfold qP qb at h ⊢;rw[zBT hk]at h ⊢;unfold zCK;rw[List.take_succ_eq_append_getElem hk,List.filter_append,List.filter_cons];simp only[List.filter_nil];rw[if_pos (by simp;exact h)]
theorem zQ9(l m:List (Int×Int))(k:Nat):(zCK (l.take k) m).length<=k:=by
 unfold zCK;exact Nat.le_trans (List.length_filter_le _ _) (by rw[List.length_take];omega)
def zFm(W:zB)(i:Nat):Prop:=zKQ (treeM W (zK W i)) (oldM W (zK W i)) (zI W (zK W i).zc2).time (zK W i).time
theorem zFY.snap{W:zB}(h:zFY W){k:Nat}(hk:k<W.pn):qT W.pool (W.zcy k).rs (W.zcy k).rb:=by
 have:=h.tree k (by unfold memN;omega);rw[yR hk]at this;exact this
theorem zFY.set{W:zB}(h:zFY W){k:Nat}(hk:k<W.sn):qT W.pool (W.zc1 k).rs (W.zc1 k).rb:=by
 have:=h.tree (W.pn+k) (by unfold memN;omega);rw[zAo]at this;exact this
def zJq(W:zB)(s:Nat):Prop:=∃m,m<memN W/\∃b,((s:Int),b)∈treeM W (zK W m)
def zC3(W:zB)(i:Nat):Int×Int:=if i<W.sn then((W.zc1 i).rs,(W.zc1 i).rb)else((W.zcy (i - W.sn)).rs,(W.zcy (i - W.sn)).rb)
def zEE(W:zB)(n:Nat):List (Int×Int):=(List.range n).map (zC3 W)
theorem zGr(W:zB)(n:Nat):(zEE W n).length=n:=by simp[zEE]
theorem zKz(W:zB)(n:Nat):zEE W (n+1)=zEE W n ++ [zC3 W n]:=by simp[zEE,List.range_succ]
theorem zHw{W:zB}{i:Nat}(h:i<W.sn):zC3 W i=((W.zc1 i).rs,(W.zc1 i).rb):=if_pos h
theorem zGq(W:zB)(i:Nat):zC3 W (W.sn+i)=((W.zcy i).rs,(W.zcy i).rb):=by
 unfold zC3;rw[if_neg (by omega),show W.sn+i - W.sn=i by omega]
theorem zOl{W:zB}{n i:Nat}(h:i<n):qP (zEE W n) i=(zC3 W i).1/\qb (zEE W n) i=(zC3 W i).2:=by
 unfold qP qb;rw[zBT (by rw[zGr];exact h)];simp[zEE]
theorem zYf{W:zB}(hT:zFY W){i:Nat}(hi:i<W.sn+W.pn):qT W.pool (zC3 W i).1 (zC3 W i).2:=by
 by_cases h:i<W.sn
 ·rw[zHw h];exact hT.set h
 ·have:=zGq W (i - W.sn);rw[show W.sn+(i - W.sn)=i by omega]at this;rw[this];exact hT.snap (by omega)
theorem zSm{W:zB}{s:Nat}:zJq W s↔∃i,i<W.sn+W.pn/\∃b,((s:Int),b)∈zN W.pool (zC3 W i).1 (zC3 W i).2:=by
 unfold zJq memN treeM;constructor
 ·rintro⟨m,hm,b,h⟩;by_cases hp:m<W.pn
  ·rw[yR hp]at h;exact⟨W.sn+m,by omega,b,by rw[zGq];exact h⟩
  ·have e:=zAo W (m - W.pn);rw[show W.pn+(m - W.pn)=m by omega]at e;rw[e]at h;exact⟨m - W.pn,by omega,b,by rw[zHw (by omega)];exact h⟩
 ·rintro⟨i,hi,b,h⟩;by_cases hs:i<W.sn
  ·rw[zHw hs]at h;exact⟨W.pn+i,by omega,b,by rw[zAo];exact h⟩
  ·have e:=zGq W (i - W.sn);rw[show W.sn+(i - W.sn)=i by omega]at e;rw[e]at h;exact⟨i - W.sn,by omega,b,by rw[yR (by omega)];exact h⟩
def zaY(W:zB)(k:Nat)(l:List (Int×Int))(j s:Nat):Prop:=(∃i,i<k/\∃b,((s:Int),b)∈zN W.pool (zC3 W i).1 (zC3 W i).2)\/∃q,q<j/\qP l q=(s:Int)
def zLV(W:zB)(k:Nat)(l:List (Int×Int))(j:Nat)(f:Nat->Bool):Prop:=∀s,f s=true↔zaY W k l j s
theorem zTD{W:zB}{k j s:Nat}{l:List (Int×Int)}{f:Nat->Bool}(h:zLV W k l j f)(hs:qP l j=(s:Int)):zLV W k l (j+1) (fun i=>if i=s then true else f i):=by
 intro i;show(if i=s then true else f i)=true↔_;by_cases e:i=s
 ·subst e;rw[if_pos rfl];exact⟨fun _=>Or.inr ⟨j,by omega,hs⟩,fun _=>rfl⟩
 ·rw[if_neg e,h i];constructor
  ·rintro(h | ⟨q,hq,h⟩)
   ·exact Or.inl h
   ·exact Or.inr ⟨q,by omega,h⟩
  ·rintro(h | ⟨q,hq,h⟩)
   ·exact Or.inl h
   ·by_cases eq:q=j
    ·subst eq;exact absurd (by omega) e
    ·exact Or.inr ⟨q,by omega,h⟩
theorem zTE{W:zB}{k:Nat}{l:List (Int×Int)}{f:Nat->Bool}(h:zLV W k l l.length f)(hl:l=zN W.pool (zC3 W k).1 (zC3 W k).2):zLV W (k+1) [] 0 f:=by
 intro s;rw[h s];constructor
 ·rintro(⟨i,hi,h⟩ | ⟨q,hq,e⟩)
  ·exact Or.inl ⟨i,by omega,h⟩
  ·refine Or.inl ⟨k,by omega,(l[q]).2,?_⟩;unfold qP at e;rw[zBT hq]at e;rw[<-hl,<-e];exact List.getElem_mem hq
 ·rintro(⟨i,hi,b,h2⟩ | ⟨q,hq,e⟩)
  ·by_cases e:i=k
   ·subst e;rw[<-hl]at h2;obtain⟨q,hq,e⟩:=List.getElem_of_mem h2;exact Or.inr ⟨q,hq,by unfold qP;rw[zBT hq,e]⟩
   ·exact Or.inl ⟨i,by omega,b,h2⟩
  ·omega
theorem zRv{p:zE}{rs rb:Int}(hR:zq p)(hT:qT p rs rb){j:Nat}(hj:j<(zN p rs rb).length):∃s:Nat,qP (zN p rs rb) j=(s:Int)/\s<p.n:=by
 unfold qP;rw[zBT hj];have:=(zCD hR hT (List.getElem_mem hj)).1;obtain⟨_,h0,h1,_⟩:=this;exact⟨((zN p rs rb)[j]).1.toNat,by omega,by omega⟩
theorem zAM.grown{w w1:World}{b:Nat}{v0 v1 v2 v3 v4 v5:Value}{row:Option Nat}(h:zAM w b v0 v1 v2 v3 v4 v5)(hg:w.grownBy w1 row)(aA:∀q,row=some q->b≠q):zAM w1 b v0 v1 v2 v3 v4 v5:=by
 have hb:b<w.heap.size:=h.1.lt;refine h.zcx (S:=fun k=>row=some k) ⟨hg.os,hg.tape,hg.output,hg.size,fun k hk hs=>hg.block k hk (fun e=>hs e.symm)⟩ (fun e=>aA b e rfl)
def zOy(W:zB)(k:Nat):Prop:=∀i,i<k->∀j,j<i->∀x,x∈zH6 W (zK W i)->∀y,y∈zH6 W (zK W j)->x.1≠y.1
def zFy(W:zB)(k:Nat)(now old:List (Int×Int))(j:Nat):Prop:=∀q,q<j->(qP now q,qb now q)∉old->∀i,i<k->∀y,y∈zH6 W (zK W i)->qP now q≠y.1
def zaZ(W:zB)(k:Nat)(now old:List (Int×Int))(j s:Nat):Prop:=(∃i,i<k/\∃b,((s:Int),b)∈zH6 W (zK W i))\/∃q,q<j/\qP now q=(s:Int)/\(qP now q,qb now q)∉old
def zEc(W:zB)(k:Nat)(now old:List (Int×Int))(j:Nat)(f:Nat->Bool):Prop:=∀s,f s=true↔zaZ W k now old j s
theorem zSP{W:zB}{k:Nat}{aA bA:List (Int×Int)}(h:zOy W k)(hn:aA=treeM W (zK W k))(ho:bA=oldM W (zK W k))(hr:zFy W k aA bA aA.length):zOy W (k+1):=by
 intro i hi j hj x hx y hy;by_cases e:i=k
 ·subst e;obtain⟨h1,h2⟩:=List.mem_filter.1 hx;rw[<-hn]at h1;rw[<-ho]at h2;obtain⟨q,hq,e⟩:=List.getElem_of_mem h1;have:=hr q hq;unfold qP qb at this;rw[zBT hq,e]at this;exact this (by simpa using h2) j hj y hy
 ·exact h i (by omega) j hj x hx y hy
theorem zWJ{W:zB}{k j:Nat}{aA bA:List (Int×Int)}{f:Nat->Bool}(h:zEc W k aA bA j f)(cA:(qP aA j,qb aA j)∈bA):zEc W k aA bA (j+1) f:=by
 intro s;rw[h s];constructor
 ·rintro(h | ⟨q,hq,h⟩)
  ·exact Or.inl h
  ·exact Or.inr ⟨q,by omega,h⟩
 ·rintro(h | ⟨q,hq,h1,h2⟩)
  ·exact Or.inl h
  ·by_cases e:q=j
   ·subst e;exact absurd cA h2
   ·exact Or.inr ⟨q,by omega,h1,h2⟩
theorem zWI{W:zB}{k j s:Nat}{aA bA:List (Int×Int)}{f:Nat->Bool}(h:zEc W k aA bA j f)(hs:qP aA j=(s:Int))(cA:(qP aA j,qb aA j)∉bA):zEc W k aA bA (j+1) (fun i=>if i=s then true else f i):=by
 intro i;show(if i=s then true else f i)=true↔_;by_cases e:i=s
 ·subst e;rw[if_pos rfl];exact⟨fun _=>Or.inr ⟨j,by omega,hs,cA⟩,fun _=>rfl⟩
 ·rw[if_neg e,h i];constructor
  ·rintro(h | ⟨q,hq,h⟩)
   ·exact Or.inl h
   ·exact Or.inr ⟨q,by omega,h⟩
  ·rintro(h | ⟨q,hq,h,h2⟩)
   ·exact Or.inl h
   ·by_cases eq:q=j
    ·subst eq;exact absurd (by omega) e
    ·exact Or.inr ⟨q,by omega,h,h2⟩
theorem zYm{W:zB}{k j:Nat}{aA bA:List (Int×Int)}(h:zFy W k aA bA j)(cA:(qP aA j,qb aA j)∈bA):zFy W k aA bA (j+1):=by
 intro q hq;by_cases e:q=j
 ·subst e;exact fun h=>absurd cA h
 ·exact h q (by omega)
theorem zYi{W:zB}{k j s:Nat}{aA bA:List (Int×Int)}{f:Nat->Bool}(h:zFy W k aA bA j)(hS:zEc W k aA bA j f)(hs:qP aA j=(s:Int))(hf:f s=false):zFy W k aA bA (j+1):=by
 intro q hq;by_cases e:q=j
 ·subst e;intro _ i hi y hy ey;have:f s=true:=(hS s).2 (Or.inl ⟨i,hi,y.2,by rw[<-hs,ey];exact hy⟩);rw[hf]at this;exact absurd this (by simp)
 ·exact h q (by omega)
theorem zWL{W:zB}{k:Nat}{aA bA:List (Int×Int)}{f:Nat->Bool}(h:zEc W k aA bA aA.length f)(hn:aA=treeM W (zK W k))(ho:bA=oldM W (zK W k)):zEc W (k+1) [] [] 0 f:=by
 intro s;rw[h s];constructor
 ·rintro(⟨i,hi,h⟩ | ⟨q,hq,e,h2⟩)
  ·exact Or.inl ⟨i,by omega,h⟩
  ·refine Or.inl ⟨k,by omega,(aA[q]).2,?_⟩;unfold qP qb at h2;unfold qP at e;rw[zBT hq]at e h2;refine List.mem_filter.2 ⟨?_,?_⟩
   ·rw[<-hn,<-e];exact List.getElem_mem hq
   ·rw[<-ho,<-e];simpa using h2
 ·rintro(⟨i,hi,b,h2⟩ | ⟨q,hq,_⟩)
  ·by_cases e:i=k
   ·subst e;obtain⟨h3,h4⟩:=List.mem_filter.1 h2;rw[<-hn]at h3;rw[<-ho]at h4;obtain⟨q,hq,e⟩:=List.getElem_of_mem h3;refine Or.inr ⟨q,hq,?_⟩;unfold qP qb;rw[zBT hq,e];exact⟨rfl,by simpa using h4⟩
   ·exact Or.inl ⟨i,by omega,b,h2⟩
  ·omega
theorem zTL{W:zB}{k:Nat}{f:Nat->Bool}(h:zEc W k [] [] 0 f)(aA bA:List (Int×Int)):zEc W k aA bA 0 f:=by
 intro s;rw[h s];constructor
 ·rintro(h | ⟨q,hq,_⟩)
  ·exact Or.inl h
  ·omega
 ·rintro(h | ⟨q,hq,_⟩)
  ·exact Or.inl h
  ·omega
theorem zTM{W:zB}{k j s:Nat}{aA bA:List (Int×Int)}{f:Nat->Bool}(hT:zFY W)(hk:k<memN W)(hn:aA=treeM W (zK W k))(ho:bA=oldM W (zK W k))(hS:zEc W k aA bA j f)(hj:j<aA.length)(hs:qP aA j=(s:Int))(cA:(qP aA j,qb aA j)∉bA)(hf:f s=true):¬zIL W:=by
 intro hA;rcases(hS s).1 hf with⟨i,hi,b,h⟩ | ⟨q,hq,e,h2⟩
 ·refine hA k hk i hi (qP aA j,qb aA j) ?_ _ h hs;refine List.mem_filter.2 ⟨?_,by rw[<-ho];simpa using cA⟩;rw[<-hn];unfold qP qb;rw[zBT hj];exact List.getElem_mem hj
 ·have dA:=zDX hT.right (l:=aA) (fun x hx=>by rw[hn]at hx;exact(zCD hT.right (hT.tree k hk) hx).1) (by rw[hn];exact zC5 hT.right (hT.tree k hk)) (by rw[hn];have:=yz W.pool (zK W k).rs (zK W k).rb;unfold treeM;omega);exact dA.2.2 j hj q hq (by rw[e,hs])
def zEa(W:zB)(i:Nat):Prop:=zEb (zK W i).dn (zK W i).ds (zK W i).db (zCK (oldM W (zK W i)) (treeM W (zK W i)))
structure zAL (W:zB):Prop where
 right:zq W.pool
 zc3:zBt W
 lines:∀i,i<W.sn->zG2 W (W.zc1 i).name (W.zc1 i).zc2 (W.zc1 i).origin
 zcy:∀i,i<W.pn->qT W.pool (W.zcy i).rs (W.zcy i).rb
 zc1:∀i,i<W.sn->qT W.pool (W.zc1 i).rs (W.zc1 i).rb/\zEa W (W.pn+i)
 dead:∀i,i<W.pn->zEa W i
 reach:zO5 W
 born:∀i,i<memN W->zFm W i
 zc7:zIL W
theorem zPs{W:zB}(h:∀k,k<W.pn->qT W.pool (W.zcy k).rs (W.zcy k).rb)(x:Int):qT W.pool (zI W x).rs (zI W x).rb:=by
 by_cases hx:∃k,zBD W x k
 ·obtain⟨k,hk⟩:=hx;rw[zBO hk];exact h k hk.1
 ·have:zI W x=zA9:=by
   unfold zI;rw[dif_neg hx]
  rw[this];exact Or.inl ⟨rfl,rfl⟩
theorem zJl{W:zB}(hR:zq W.pool)(hN:zBt W)(h1:∀i,i<W.pn->qT W.pool (W.zcy i).rs (W.zcy i).rb)(h2:∀i,i<W.sn->qT W.pool (W.zc1 i).rs (W.zc1 i).rb):zFY W where
 right:=hR
 ids:=hN.prevOk.less
 tree:=fun i hi=>by
  by_cases hp:i<W.pn
  ·rw[yR hp];exact h1 i hp
  ·have e:=zAo W (i - W.pn);rw[show W.pn+(i - W.pn)=i by omega]at e;rw[e];unfold memN at hi;exact h2 _ (by omega)
 time:=fun i hi=>by
  by_cases hp:i<W.pn
  ·rw[yR hp];have:1<=(W.zcy i).time:=(hN.2.2.2.2.2 i hp).1.2.2.1;show 0<=(W.zcy i).time;omega
  ·have e:=zAo W (i - W.pn);rw[show W.pn+(i - W.pn)=i by omega]at e;rw[e];have:1<=W.time:=hN.1.1;show 0<=W.time;omega
set_option linter.unusedSimpArgs false
set_option maxRecDepth 20000
set_option maxHeartbeats 1600000
theorem zEx{W:zB}(h:zO1 W)(x:Int):zDf W x=zI W x:=by
 by_cases h0:x=0
 ·rw[show zDf W x=zA9 from if_pos h0,zIS fun k hk e=>by have:=h k hk;omega]
 ·exact if_neg h0
theorem zQo{l:List (Int×Int)}{i:Nat}:(l[i]?.getD (0,0)).1=qP l i:=by simp[qP,List.getD_eq_getElem?_getD]
theorem zYx{l:List (Int×Int)}{i:Nat}:(l[i]?.getD (0,0)).2=qb l i:=by simp[qb,List.getD_eq_getElem?_getD]
theorem zYW{l:List (Int×Int)}{x y:Int}:PIn l.length (fun i=>qP l i) (fun i=>qb l i) x y↔(x,y)∈l:=zFP
theorem yS{fl:Fl}{k n:Nat}{l:List (Int×Int)}:(Tr.s fl k n (zFT encP (0,0) l)).lend = .s .b k n (ptrsT (fun i=>qP l i) (fun i=>qb l i)):=by
 rw[zX];simp only[zQo,zYx]
theorem zBX{l:List (Int×Int)}{i:Nat}:zFT encP (0,0) l i 0 = .v (.int .i64 (qP l i)):=by rw[<-zQo];rfl
theorem zBY{l:List (Int×Int)}{i:Nat}:zFT encP (0,0) l i 1 = .v (.int .i64 (qb l i)):=by rw[<-zYx];rfl
theorem zW0{p q:Prop} [h:Decidable q]:dB p=decide q↔(p↔q):=by
 by_cases hp:p<;>by_cases hq:q<;>simp[dB,hp,hq]
attribute [local go_sem] qX List.map_cons List.map_nil Tr.cv yp qD qs qq yo yn ym qp zAu zAw zAv zAr zAt zAs zCF zCH zCG qH zl qI zm qB qA qM yx zi zj qw qG tmpsOf zAf qv qF zAp yv yr yq yu stpP opds opd opdC kap zAG qC zh coreU bin zAb zB0 get put dlO fgt zA8 zA1 zA5 zA6 tyT yj yi Op.operands Call.operands evLoad evLen evStore evAlloc zAa and_true true_and List.append_nil List.nil_append List.cons_append Ret resCv zBs yQ cellM zBV zBw qY StW StR hpT hpO hpV hpA hpL hpC sg nin zB6 bdO tmW obW AvE CsE CvE Av.tup Av.ids Cv.ids inD ObE Ob.ids TrE.refl qE qt qu qJ qK qL zk ze zb yw zBc zB1 zAy evCall argL argOf qh outOb obO yL zy cvO tot Tr.own rid partsOf fillC zW zBU frz frz1 evBuildSlice zc trs Cv.tr evSlice Option.toArray_none Option.toArray_some evMakeSlice evAppend dstOf srcOf zBC zA7 zA4 zA2 zA3 ikT qn qm ql qk RetP RetN zBd qQ evLd evSt evStoreH zAX evAppendM evAppendT tlOf mvOf rowE shp evTake oOf evC evCallP evCallN evCallO unlast zAW zBB zAU argsF zB5 qy pmC varT vT evField evConv dB0 Option.bind_some Option.bind_none Option.map_some Option.map_none Option.isSome_some Option.isSome_none
attribute [local go_sem] yC zX zAg yI qe zAO zAP zAQ zAR zAS zAT yV yW yX yY yZ yb yd ye qz qV
attribute [-go_sem] zX
attribute [local go_sem] yS zBX zBY
structure zIR (W:zB):Prop where
 right:zq W.pool
 zc3:zBt W
 zcy:∀k,k<W.pn->qT W.pool (W.zcy k).rs (W.zcy k).rb
theorem zIR.ids{W:zB}(h:zIR W):zO1 W:=fun k hk=>(h.zc3.prevOk.ids k hk).1
theorem zIR.pn{W:zB}(h:zIR W):W.pn<=1000000:=by have:=h.zc3.2.2.2.1;omega
noncomputable def zUA:za:=qZ (fun q:(zB×Int)×(Int×Int)×Int=>[woT q.1.1,iT q.1.2,pT q.2.1.1 q.2.1.2,iT q.2.2]) (fun q=>zIR q.1.1/\qT q.1.1.pool q.2.1.1 q.2.1.2) (fun q=>bR (zKQ (zN q.1.1.pool q.2.1.1 q.2.1.2) (zN q.1.1.pool (zI q.1.1 q.1.2).rs (zI q.1.1 q.1.2).rb) (zI q.1.1 q.1.2).time q.2.2))
theorem zMg(W:zB)(x a b t:Int):zUA [woT W,iT x,pT a b,iT t]=some (zIR W/\qT W.pool a b,bR (zKQ (zN W.pool a b) (zN W.pool (zI W x).rs (zI W x).rb) (zI W x).time t)):=zO (fun l=>((zCX (nth l 0),qd (nth l 1 0)),(qd (nth l 2 0),qd (nth l 2 1)),qd (nth l 3 0))) (fun _=>rfl) ((W,x),(a,b),t)
theorem zPb:zp Tryz.prog 100 zUA:=by
 refine zR zs (GOk.cons zDV (zF Tryz.func98 rfl rfl) (GOk.cons zDR (zF Tryz.func99 rfl rfl) (GOk.cons zJW (zF Tryz.func65 rfl rfl) GOk.nil))) zr Tryz.func100 rfl Tryz.ntmps100 Tryz.results100 14 ?_;rintro⟨⟨W,x⟩,⟨a,b⟩,t⟩ ⟨hW,hT⟩;replace hW:zIR W:=hW;replace hT:qT W.pool a b:=hT;have hO:=zPs hW.zcy x;refine⟨by simp,?_⟩;have hz:=zEx hW.ids x;simp[go_sem,zD3,zEU,hW.pn,hz,hO,hT,hW.right];obtain⟨aA,cA⟩:∃l,l=zN W.pool a b:=⟨_,rfl⟩;obtain⟨bA,dA⟩:∃l,l=zN W.pool (zI W x).rs (zI W x).rb:=⟨_,rfl⟩;have ln:aA.length<=100:=by have:=yz W.pool a b;rw[cA];omega
 have lo:bA.length<=100:=by have:=yz W.pool (zI W x).rs (zI W x).rb;rw[dA];omega
 rw[<-cA,<-dA];obtain⟨τ,hτ⟩:∃τ,τ = (zI W x).time:=⟨_,rfl⟩;rw[<-hτ];refine yF (fun k:Nat=>⟨[(12,true,.m false [.h 8]),(11,true,.m false [.h 7]),(10,true,.m false [.v (.int .i64 τ)]),(3,true,.m false [.v (.int .i64 t)]),(13,true,.i k)],[(8,.row 2 aA.length (ptL aA)),(7,.row 2 bA.length (ptL bA))]⟩) (fun k=>aA.length - k) (fun k=>k<=aA.length/\zaV aA bA τ t k) 0 (by simp[go_sem]) ⟨Nat.zero_le _,fun j hj=>absurd hj (Nat.not_lt_zero _)⟩ ?_;rintro k ⟨hk,eA⟩;simp[go_sem,zPg,qN (show k<=1000000000 by omega),zYW,show bA.length<=1000000 by omega];have fA:zKQ aA bA τ t->qb aA k<=t/\((qP aA k,qb aA k)∈bA↔qb aA k<=τ)\/¬k<aA.length:=fun h=>by
  by_cases hl:k<aA.length
  ·exact .inl ((zTj aA bA τ t).2 h k hl)
  ·exact .inr hl
 refine⟨fun hl=>⟨hl,fun _=>hl,by kernel_rfl,fun h hB=>?_,fun h1 h2=>⟨k+1,⟨by omega,fun i hi=>?_⟩,by omega,rfl⟩⟩,fun hl=>?_⟩
 ·rcases fA hB with⟨g1,g2⟩ | g
  ·exact h.elim (fun h=>by omega) (fun h=>h (zW0.2 g2))
  ·exact g hl
 ·by_cases e:i=k
  ·subst e;exact⟨h1,zW0.1 h2⟩
  ·exact eA i (by omega)
 ·cases (show k=aA.length by omega);exact(zTj aA bA τ t).1 eA
noncomputable def zao:za:=qZ (fun q:(zB×Int)×(Int×Int)×Nat×(Nat->Int)×(Nat->Int)=>[woT q.1.1,iT q.1.2,pT q.2.1.1 q.2.1.2,psT q.2.2.1 q.2.2.2.1 q.2.2.2.2]) (fun q=>(zIR q.1.1/\qT q.1.1.pool q.2.1.1 q.2.1.2)/\q.2.2.1<=1000000) (fun q=>bR (zEb q.2.2.1 q.2.2.2.1 q.2.2.2.2 (zCK (zN q.1.1.pool (zI q.1.1 q.1.2).rs (zI q.1.1 q.1.2).rb) (zN q.1.1.pool q.2.1.1 q.2.1.2))))
theorem zRF(W:zB)(x a b:Int)(n:Nat)(f g:Nat->Int):zao [woT W,iT x,pT a b,psT n f g]=some ((zIR W/\qT W.pool a b)/\n<=1000000,bR (zEb n f g (zCK (zN W.pool (zI W x).rs (zI W x).rb) (zN W.pool a b)))):=zO (fun l=>((zCX (nth l 0),qd (nth l 1 0)),(qd (nth l 2 0),qd (nth l 2 1)),zVQ (nth l 3 0))) (fun _=>rfl) ((W,x),(a,b),n,f,g)
theorem zSy:zp Tryz.prog 59 zao:=by
 refine zR zs (GOk.cons zDV (zF Tryz.func98 rfl rfl) (GOk.cons zDR (zF Tryz.func99 rfl rfl) (GOk.cons zJW (zF Tryz.func65 rfl rfl) (GOk.cons zKS (zF Tryz.func34 rfl rfl) GOk.nil)))) zr Tryz.func59 rfl Tryz.ntmps59 Tryz.results59 15 ?_;rintro⟨⟨W,x⟩,⟨a,b⟩,n,f,g⟩ ⟨⟨hW,hT⟩,hn⟩;replace hW:zIR W:=hW;replace hT:qT W.pool a b:=hT;replace hn:n<=1000000:=hn;have hO:=zPs hW.zcy x;refine⟨by simp,?_⟩;have hz:=zEx hW.ids x;simp[go_sem,zD3,zEU,hW.pn,hz,hO,hT,hW.right];obtain⟨bA,cA⟩:∃l,l=zN W.pool a b:=⟨_,rfl⟩;obtain⟨aA,dA⟩:∃l,l=zN W.pool (zI W x).rs (zI W x).rb:=⟨_,rfl⟩;have ln:bA.length<=100:=by have:=yz W.pool a b;rw[cA];omega
 have lo:aA.length<=100:=by have:=yz W.pool (zI W x).rs (zI W x).rb;rw[dA];omega
 rw[<-cA,<-dA];refine yF (fun k:Nat=>⟨[(14,true,.i k),(13,true,.m false [.h 9]),(12,true,.m false [.h 8]),(11,true,.m false [.h 7]),(3,true,.m false [.s .b 2 n (ptrsT f g)])],[(9,.row 2 (zCK (aA.take k) bA).length (ptL (zCK (aA.take k) bA))),(8,.row 2 bA.length (ptL bA)),(7,.row 2 aA.length (ptL aA))]⟩) (fun k=>aA.length - k) (fun k=>k<=aA.length) 0 (by simp[go_sem];exact zJg rfl) (Nat.zero_le _) ?_;rintro k hk;have eA:=zQ9 aA bA k;simp[go_sem,zPg,zMm,qN (show k<=1000000000 by omega),zYW,show bA.length<=1000000 by omega,hn];refine⟨fun hl=>⟨hl,fun h=>⟨hl,by omega,k+1,by omega,by omega,rfl,?_⟩,fun h=>⟨k+1,by omega,by omega,rfl,?_⟩⟩,fun hl=>?_⟩
 ·refine zDL zEo ?_;rw[zMa hl h]
 ·rw[zPd hl h];exact TrE.refl _
 ·cases (show k=aA.length by omega);rw[List.take_length];rw[List.take_length]at eA;exact⟨by omega,Iff.rfl⟩
noncomputable def zXg:za:=qZ (fun W:zB=>[woT W]) (fun W=>zIR W/\∀k,k<W.sn->qT W.pool (W.zc1 k).rs (W.zc1 k).rb) (fun W=>bR (∀i,i<memN W->zFm W i))
theorem zVs(W:zB):zXg [woT W]=some (zIR W/\∀k,k<W.sn->qT W.pool (W.zc1 k).rs (W.zc1 k).rb,bR (∀i,i<memN W->zFm W i)):=zO (fun l=>zCX (nth l 0)) (fun _=>rfl) W
theorem zSx:zp Tryz.prog 62 zXg:=by
 refine zR zs (GOk.cons zPb (zF Tryz.func100 rfl rfl) GOk.nil) zr Tryz.func62 rfl Tryz.ntmps62 Tryz.results62 5 ?_;rintro W ⟨hW,hT⟩;replace hW:zIR W:=hW;have dA:W.sn<=8:=hW.zc3.2.2.1;have cA:W.pn<=20:=hW.zc3.2.2.2.1;refine⟨by simp,?_⟩;simp[go_sem];refine yF (fun k:Nat=>⟨[(1,true,.m false [.p 1 0]),(3,true,.i k)],[(1,.var ((woL W).map Tr.cv))]⟩) (fun k=>W.pn - k) (fun k=>k<=W.pn/\∀i,i<k->zFm W i) 0 (by simp[go_sem]) (by simp) ?_;rintro k ⟨hk,bA⟩;simp[go_sem,zMg,hW,qN (show k<=1000000000 by omega)];refine⟨fun hl=>?_,fun hl=>?_⟩
 ·have e:zK W k=zZy (W.zcy k):=yR hl;have hb:zFm W k↔zKQ (zN W.pool (W.zcy k).rs (W.zcy k).rb) (zN W.pool (zI W (W.zcy k).zc2).rs (zI W (W.zcy k).zc2).rb) (zI W (W.zcy k).zc2).time (W.zcy k).time:=by
   unfold zFm;rw[e];exact Iff.rfl
  refine⟨hl,hW.zcy k hl,by kernel_rfl,fun h=>⟨k,by unfold memN;omega,fun hh=>h (hb.1 hh)⟩,fun h=>⟨k+1,⟨by omega,yE hl bA (hb.2 h)⟩,by omega,rfl⟩⟩
 cases (show k=W.pn by omega);refine yF (fun k:Nat=>⟨[(1,true,.m false [.p 1 0]),(4,true,.i k)],[(1,.var ((woL W).map Tr.cv))]⟩) (fun k=>W.sn - k) (fun k=>k<=W.sn/\∀i,i<W.pn+k->zFm W i) 0 (by simp[go_sem]) ⟨Nat.zero_le _,bA⟩ ?_;rintro k ⟨hk,aA⟩;simp[go_sem,zMg,hW,qN (show k<=1000000000 by omega)];refine⟨fun hl=>?_,fun hl i hi=>aA i (by unfold memN at hi;omega)⟩;have e:zK W (W.pn+k)=zZz W.time (W.zc1 k):=zAo W k;have hb:zFm W (W.pn+k)↔zKQ (zN W.pool (W.zc1 k).rs (W.zc1 k).rb) (zN W.pool (zI W (W.zc1 k).zc2).rs (zI W (W.zc1 k).zc2).rb) (zI W (W.zc1 k).zc2).time W.time:=by
  unfold zFm;rw[e];exact Iff.rfl
 refine⟨hl,hT k hl,by kernel_rfl,fun h=>⟨W.pn+k,by unfold memN;omega,fun hh=>h (hb.1 hh)⟩,fun h=>⟨k+1,⟨by omega,fun i hi=>?_⟩,by omega,rfl⟩⟩;by_cases e:i=W.pn+k
 ·subst e;exact hb.2 h
 ·exact aA i (by omega)
end Go.Proofs.YtbplmbafodlboaaGreatDoor
