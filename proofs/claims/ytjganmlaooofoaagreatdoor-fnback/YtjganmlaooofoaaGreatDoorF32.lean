/- A part of the proof. -/
import Derived.Test.YtjganmlaooofoaaGreatDoorF30
import Derived.Test.YtjganmlaooofoaaGreatDoorF31
import Derived.Test.YtjganmlaooofoaaGreatDoorRows
import Derived.ChangeSame
import Derived.ChangeVars
import Derived.JoinedOf
import Derived.LaidLaws
import Derived.Stop.LaidTwo
import Derived.Stop.Joined
import Derived.Stop.ErrReads
import Derived.MakeChecks
import Derived.OpenShut
import Derived.ChangeOld
set_option linter.unusedVariables false
set_option maxRecDepth 20000
set_option maxHeartbeats 4000000
namespace Go.Proofs.YtjganmlaooofoaaGreatDoor
open Go.RowKit
set_option linter.unusedSimpArgs false
set_option maxRecDepth 20000
set_option maxHeartbeats 3200000
theorem zbz{p:Prop}{b:Bool}(h:b=true↔¬p):dB p = !b:=by
 cases b
 ·exact zBe.2 (Classical.not_not.1 fun g=>by cases h.2 g)
 ·exact zCH.2 (h.1 rfl)
theorem zQy{W:zB}{x:ByteArray}(h:qG W x):zA2 W x<W.sn/\(W.zeK (zA2 W x)).name=x:=by
 obtain⟨k,hk⟩:=zIR h;rw[zL9 hk];exact⟨hk.1,hk.2.1⟩
theorem zaH{W:zB}(h:qo W){i j:Nat}(hi:i<W.sn)(hj:j<W.sn)(e:(W.zeK i).name=(W.zeK j).name):i=j:=by
 rcases Nat.lt_trichotomy i j with g | g | g
 ·exact absurd e (zKH (zUX h g hj))
 ·exact g
 ·exact absurd e.symm (zKH (zUX h g hi))
theorem zbX{W:zB}(h:qo W){k:Nat}(hk:k<W.sn){y:Int×Int}(hy:y∈zM W.pool (W.zeK k).rs (W.zeK k).rb) :
  ((∀j,j<W.sn->(W.zeK j).name=(W.zeK k).name\/y∉zM W.pool (W.zeK j).rs (W.zeK j).rb)/\∀j,j<W.pn->y∉zM W.pool (W.zeJ j).rs (W.zeJ j).rb)↔(zE W (W.zeK k).zeL).time<y.2:=by
 have hU:=h.toU;have aA:y∈treeM W (zI W (W.pn+k)):=by rw[qN];exact hy
 have hm:y∈zDI W (zI W (W.pn+k))↔(zE W (W.zeK k).zeL).time<y.2:=by
  rw[<-zPa hU hk];unfold zBq;rw[List.mem_filter,decide_eq_true_iff];exact and_iff_right aA
 rw[<-hm];constructor
 ·rintro⟨-,h2⟩;refine zG9.2 ⟨aA,fun ho=>?_⟩;obtain⟨j,hj,g⟩:=zKw ho;rw[zx hj.1]at g;exact h2 j hj.1 g
 ·intro g;refine⟨fun j hj=>?_,fun j hj e=>zEN hU hk g (m:=j) (by unfold memN;omega) (by omega) (y:=y) (by rw[zx hj];exact e) rfl⟩;by_cases e:j=k
  ·subst e;exact .inl rfl
  ·exact .inr fun g2=>zEN hU hk g (m:=W.pn+j) (by unfold memN;omega) (by omega) (y:=y) (by rw[qN];exact g2) rfl
attribute [local go_sem] qg List.map_cons List.map_nil Tr.cv yv qT yF yD yu yr yq yC zBD zBF zBE zBA zBC zBB zCc zCe zCd qY zt qZ zu qR qQ qf zAL zp zq yL qW tmpsOf zAy yK qV zA9 yz yx yw zAA yy stpP opds opd opdC kap zAS qS zo coreU bin zAl zCO get put dlO fgt zBP zBI zBM zBN tyT yp yo Op.operands Call.operands evLoad evLen evStore evAlloc zAn and_true true_and List.append_nil List.nil_append List.cons_append Ret resCv zCB yY cellM zBl zCI qh StW StR hpT hpO hpV hpA hpL hpC sg nin zCT bdO tmW obW AvE CsE CvE Av.tup Av.ids Cv.ids inD ObE Ob.ids TrE.refl qU yH yI qb qd qe zr zf zd zAC zBe zCH zBG evCall argL argOf qq outOb obO yU qK cvO tot Tr.own rid partsOf fillC zU zBj frz frz1 evBuildSlice zc trs Cv.tr evSlice Option.toArray_none Option.toArray_some evMakeSlice evAppend dstOf srcOf zA7 zBO zBL zBJ zBK ikT yB yA qz qy RetP RetN zBs qP evLd evSt evStoreH zAe evAppendM evAppendT tlOf mvOf rowE shp evTake oOf evC evCallP evCallN evCallO unlast zAX zA6 zAZ argsF zCS qu pmC varT vT evField evConv dB0 Option.bind_some Option.bind_none Option.map_some Option.map_none Option.isSome_some Option.isSome_none
attribute [local go_sem] yP zb zA5 yW qw zAs zAt zAu zAv zAw zAx zAD zAE zAF zAG zAH zAI zAJ zAK yR qt
attribute [-go_sem] zb
attribute [local go_sem] zAP zB7 zB8 zAU yb
noncomputable def zcK:zX:=qk (fun q:zB×ByteArray=>[woT q.1,sT q.2]) (fun q=>SmallW q.1/\qo q.1/\qG q.1 q.2) (fun q=>[iT ((zAa q.1 (q.1.zeK (zA2 q.1 q.2))).length:Nat)])
theorem zJ8(W:zB)(x:ByteArray):zcK [woT W,sT x]=some (SmallW W/\qo W/\qG W x,[iT ((zAa W (W.zeK (zA2 W x))).length:Nat)]):=zO (fun l=>(zCW (nth l 0),zDP (nth l 1 0))) (fun _=>rfl) (W,x)
theorem zWv:zy Tryz.prog 12 zcK:=by
 refine zQ qA (GOk.cons zMK (zG Tryz.func9 rfl rfl) (GOk.cons zRK (zG Tryz.func33 rfl rfl) (GOk.cons zbE (zG Tryz.func34 rfl rfl) GOk.nil))) zz Tryz.func12 rfl Tryz.ntmps12 Tryz.results12 11 ?_;rintro⟨W,x⟩ ⟨cW,hS,hx⟩;replace cW:SmallW W:=cW;replace hS:qo W:=hS;replace hx:qG W x:=hx;refine⟨by simp,?_⟩;obtain⟨k0,dA⟩:∃k,zA2 W x=k:=⟨_,rfl⟩;obtain⟨a1,a2⟩:=zQy hx;have hN:=(hS.zeM.2.2.2.2.1 _ a1).1;rw[a2]at hN;have hR:=hS.right;have hD:zEn W x=W.zeK k0:=by rw[<-dA,<-zMA hS a1,a2]
 rw[dA]at a1 a2;have hT:=(hS.zeK k0 a1).1;simp[go_sem,zFF,zBx,cW,hD,hR,hT,dA];obtain⟨L,hL⟩:∃l,zM W.pool (W.zeK k0).rs (W.zeK k0).rb=l:=⟨_,rfl⟩;obtain⟨t,ht⟩:∃t,(zE W (W.zeK k0).zeL).time=t:=⟨_,rfl⟩;have hl:L.length<=100:=by have:=qx W.pool (W.zeK k0).rs (W.zeK k0).rb;rw[hL]at this;omega
 have aA:∀a b,(zM W.pool a b).length<=1000000:=fun a b=>by have:=qx W.pool a b;omega
 have pA:W.sn<=8:=hS.zeM.2.2.1;have mA:W.pn<=20:=hS.zeM.2.2.2.1;obtain⟨C,hC⟩:∃C:Nat->Nat,∀i,C i=(zBq (L.take i) t).length:=⟨_,fun _=>rfl⟩;have iA:∀i,C i<=100:=fun i=>by rw[hC];exact Nat.le_trans (List.length_filter_le _ _) (by rw[List.length_take];omega)
 have cA:(zAa W (W.zeK k0)).length=C L.length:=by
  unfold zAa;rw[hL,ht,zGj,hC,List.take_length]
 rw[hL,cA];refine⟨by kernel_rfl,?_⟩;refine yE (fun i:Nat=>⟨[(7,true,.i i),(6,true,.i (C i)),(5,true,.m false [.h 1017]),(2,true,.m false [.p 2 0]),(1,true,.m false [.v (.string x)])],[(1017,.row 2 L.length (ptL L)),(2,.var ((woL W).map Tr.cv))]⟩) (fun i=>L.length - i) (fun i=>i<=L.length) 0 (by simp[go_sem,hC];rfl) (Nat.zero_le _) ?_;intro i hi;have oA:=iA i;by_cases h2:i<L.length;rotate_left
 ·obtain rfl:i=L.length:=(by omega);simp[go_sem]
 simp[go_sem,h2];obtain⟨y,hy⟩:∃y,(zh L i,zn L i)=y:=⟨_,rfl⟩;have nA:y∈zM W.pool (W.zeK k0).rs (W.zeK k0).rb:=by
  rw[hL,<-hy,show(zh L i,zn L i)=L[i] by unfold zh zn;rw[List.getD_eq_getElem?_getD,List.getElem?_eq_getElem h2];rfl];exact List.getElem_mem h2
 obtain⟨D,hD⟩:∃D:Nat->Bool,∀k,D k=true↔∀j,j<k->(W.zeK j).name=x\/y∉zM W.pool (W.zeK j).rs (W.zeK j).rb:=⟨fun k=>dB _,fun k=>zBe⟩;obtain⟨E,hE⟩:∃E:Nat->Bool,∀k,E k=true↔D W.sn=true/\∀j,j<k->y∉zM W.pool (W.zeJ j).rs (W.zeJ j).rb:=⟨fun k=>dB _,fun k=>zBe⟩;have fA:E W.pn=true↔t<y.2:=by
  rw[hE,hD,<-ht,<-zbX hS a1 nA,a2]
 have jA:D 0=true:=(hD 0).2 fun j hj=>absurd hj (Nat.not_lt_zero _)
 have kA:E 0=D W.sn:=Bool.eq_iff_iff.2 ⟨fun h=>((hE 0).1 h).1,fun h=>(hE 0).2 ⟨h,fun j hj=>absurd hj (Nat.not_lt_zero _)⟩⟩;have eA:C (i+1)=C i+if E W.pn=true then 1 else 0:=by
  rw[hC,hC,zbj h2,hy];unfold zBq;rw[List.filter_append,List.length_append];by_cases h:t<y.2
  ·rw[if_pos (fA.2 h)];simp[h]
  ·rw[if_neg fun e=>h (fA.1 e)];simp[h]
 refine yE (fun k:Nat=>⟨[(9,true,.i k),(8,true,.m false [.v (.bool (D k))]),(7,true,.i i),(6,true,.i (C i)),(5,true,.m false [.h 1017]),(2,true,.m false [.p 2 0]),(1,true,.m false [.v (.string x)])],[(1017,.row 2 L.length (ptL L)),(2,.var ((woL W).map Tr.cv))]⟩) (fun k=>W.sn - k) (fun k=>k<=W.sn) 0 (by simp[go_sem,jA]) (Nat.zero_le _) ?_;intro k hk;by_cases h3:k<W.sn
 ·have bA:za W.pool (W.zeK k).rs (W.zeK k).rb:=(hS.zeK k h3).1;cases hd:D k
  ·simp[go_sem,zBx,zG5,hR,hd,qB (show k<=1000000000 by omega),h3];exact⟨by kernel_rfl,k+1,by omega,by omega,rfl,Bool.eq_false_iff.2 fun h=>by rw[Bool.eq_false_iff]at hd;exact hd ((hD k).2 fun j hj=>(hD _).1 h j (by omega))⟩
  have gA:=(hD k).1 hd;by_cases hn:(W.zeK k).name.toList=x.toList
  ·simp[go_sem,zBx,zG5,hR,hd,hn,qB (show k<=1000000000 by omega),h3];refine⟨by kernel_rfl,k+1,by omega,by omega,rfl,(hD _).2 fun j hj=>?_⟩;rcases Nat.lt_succ_iff_lt_or_eq.1 hj with hj | rfl
   ·exact gA j hj
   ·exact .inl (zCg hn)
  ·have lA:((W.zeK k).name.toList == x.toList)=false:=beq_eq_false_iff_ne.2 hn;simp[go_sem,zBx,zG5,hR,hd,lA,qB (show k<=1000000000 by omega),zSc,aA,h2,h3,bA,hy];refine⟨by kernel_rfl,k+1,by omega,by omega,rfl,zbz ?_⟩;rw[hD];refine⟨fun g=>(g k (Nat.lt_succ_self k)).resolve_left fun e=>hn (congrArg ByteArray.toList e),fun g j hj=>?_⟩;rcases Nat.lt_succ_iff_lt_or_eq.1 hj with hj | rfl
   ·exact gA j hj
   ·exact .inr g
 obtain rfl:k=W.sn:=by omega
 simp[go_sem];refine yE (fun k:Nat=>⟨[(10,true,.i k),(8,true,.m false [.v (.bool (E k))]),(7,true,.i i),(6,true,.i (C i)),(5,true,.m false [.h 1017]),(2,true,.m false [.p 2 0]),(1,true,.m false [.v (.string x)])],[(1017,.row 2 L.length (ptL L)),(2,.var ((woL W).map Tr.cv))]⟩) (fun k=>W.pn - k) (fun k=>k<=W.pn) 0 (by simp[go_sem,kA]) (Nat.zero_le _) ?_;clear h3 hk;intro k hk;by_cases h3:k<W.pn
 ·have bA:za W.pool (W.zeJ k).rs (W.zeJ k).rb:=hS.zeJ k h3;cases hd:E k
  ·simp[go_sem,zBx,zG5,hR,hd,qB (show k<=1000000000 by omega),h3];exact⟨by kernel_rfl,k+1,by omega,by omega,rfl,Bool.eq_false_iff.2 fun h=>by rw[Bool.eq_false_iff]at hd;exact hd ((hE k).2 ⟨((hE _).1 h).1,fun j hj=>((hE _).1 h).2 j (by omega)⟩)⟩
  ·simp[go_sem,zBx,zG5,hR,hd,qB (show k<=1000000000 by omega),zSc,aA,h2,h3,bA,hy];refine⟨by kernel_rfl,k+1,by omega,by omega,rfl,zbz ?_⟩;rw[hE];refine⟨fun g=>g.2 k (Nat.lt_succ_self k),fun g=>⟨((hE k).1 hd).1,fun j hj=>?_⟩⟩;rcases Nat.lt_succ_iff_lt_or_eq.1 hj with hj | rfl
   ·exact((hE k).1 hd).2 j hj
   ·exact g
 obtain rfl:k=W.pn:=by omega
 cases hd:E W.pn
 ·simp[go_sem,hd,qB (show i<=1000000000 by omega)];exact⟨i+1,by omega,by omega,rfl,by rw[eA,if_neg (by rw[hd];exact Bool.false_ne_true)];rfl⟩
 ·simp[go_sem,hd,qB (show i<=1000000000 by omega),qB (show C i<=1000000000 by omega)];exact⟨i+1,by omega,by omega,rfl,by rw[eA,if_pos hd];rfl⟩
theorem zWD{c:Int}(hc:c≠0):zQB (qD c) (qD c):=⟨rfl,rfl,rfl,fun _=>⟨rfl,rfl⟩,fun h=>absurd h hc,zCz (e:=c)⟩
theorem zS4{o:zAk}(h:o.code=0)(hS:qo o.world)(hG:zAz 1 o.world):zQB o o:=⟨rfl,rfl,rfl,fun g=>absurd h g,fun _=>hS,hG⟩
theorem zU6{W V:zB}(hV:qo V){x:ByteArray}{y:Int}
  (h1:∀i,i<W.sn->(W.zeK i).name≠x->(∃j,j<V.sn/\(V.zeK j).name=(W.zeK i).name/\(V.zeK j).rs=(W.zeK i).rs/\(V.zeK j).rb=(W.zeK i).rb)/\zFN W.pool V.pool (W.zeK i).rs (W.zeK i).rb)
  (h2:∀i,i<W.pn->(W.zeJ i).id≠y->(∃j,j<V.pn/\(V.zeJ j).id=(W.zeJ i).id/\(V.zeJ j).rs=(W.zeJ i).rs/\(V.zeJ j).rb=(W.zeJ i).rb)/\zFN W.pool V.pool (W.zeJ i).rs (W.zeJ i).rb):zOd W V x y:=by
 refine⟨fun i hi hn=>?_,fun i hi hn=>?_⟩
 ·obtain⟨⟨j,hj,e1,e2,e3⟩,t⟩:=h1 i hi hn;rw[<-e1,zMA hV hj];exact⟨rfl,fun k hk=>by rw[e2,e3];exact(t.page hk).symm⟩
 ·obtain⟨⟨j,hj,e1,e2,e3⟩,t⟩:=h2 i hi hn;rw[<-e1,zSv hV hj];exact⟨rfl,fun k hk=>by rw[e2,e3];exact(t.page hk).symm⟩
theorem zTV(W:zB)(x:ByteArray):(∃c,c≠0/\zEe W x=qD c)\/(qo W/\qG W x/\(¬∃i,i<W.pn/\(W.zeJ i).set=x)/\zEe W x=⟨zEx W (zA2 W x),0,((zAa W (W.zeK (zA2 W x))).length:Int),0⟩):=by
 unfold zEe;split
 ·exact .inl ⟨2,by decide,rfl⟩
 split
 ·split
  ·split
   ·exact .inl ⟨7,by decide,rfl⟩
   ·rename_i h1 h2 h3 h4
    exact .inr ⟨h2,h3,h4,rfl⟩
  ·exact .inl ⟨4,by decide,rfl⟩
 ·exact .inl ⟨1,by decide,rfl⟩
theorem zUS(W:zB)(x:ByteArray):(∃c,c≠0/\zEl W x=qD c)\/(qo W/\qG W x/\zBU W (W.zeK (zA2 W x)).zeL/\zEl W x=⟨zDo W (zA2 W x),0,((zAa W (W.zeK (zA2 W x))).length:Int),0⟩):=by
 unfold zEl;split
 ·exact .inl ⟨2,by decide,rfl⟩
 split
 ·split
  ·unfold zNm;split
   ·rename_i h1 h2 h3 h4
    refine .inr ⟨h2,h3,h4.1,?_⟩;have ea:=(zJN h4.1).2;show _=(⟨{W with pool:=zT W.pool (zAa W (W.zeK (zA2 W x))),zeK:=fun j=>if j=zA2 W x then {W.zeK (zA2 W x)with rs:=(zE W (W.zeK (zA2 W x)).zeL).rs,rb:=(zE W (W.zeK (zA2 W x)).zeL).rb,dn:=0}else W.zeK j},0,((zAa W (W.zeK (zA2 W x))).length:Int),0⟩:zAk);unfold zAa;rw[ea];rfl
   ·exact .inl ⟨4,by decide,rfl⟩
  ·exact .inl ⟨4,by decide,rfl⟩
 ·exact .inl ⟨1,by decide,rfl⟩
theorem zUT{W:zB}{x:ByteArray}{o:zAk}(e:zEl W x=o):(o.code≠0/\zQB o o)\/(o.code=0/\zQB o o/\(qo W/\qG W x)/\(qo o.world/\zOd W o.world x 0)/\o.many=((zAa W (W.zeK (zA2 W x))).length:Int)/\
  ∀k:Nat,k<64->(k:Int)≠-1->lwD W.pool (zD7 W (zEn W x).zeL).rs (zD7 W (zEn W x).zeL).rb k=lwD o.world.pool (zEn o.world x).rs (zEn o.world x).rb k):=by
 have hG:zAz 1 o.world:=e▸(zKl W x).up;rcases zUS W x with⟨c,hc,h⟩ | ⟨hS,hx,cA,h⟩
 ·rw[h]at e;subst e;exact .inl ⟨hc,zWD hc⟩
 rw[h]at e;obtain⟨k,hk⟩:∃k,zA2 W x=k:=⟨_,rfl⟩;obtain⟨a1,a2⟩:=zQy hx;rw[hk]at e a1 a2 cA;obtain⟨hV,hT⟩:=zXP hS a1;subst e;have bA:∀j,j≠k->(zDo W k).zeK j=W.zeK j:=fun j hj=>if_neg hj
 have eA:(zDo W k).zeK k=zSf W (W.zeK k):=if_pos rfl;have e1:zEn W x=W.zeK k:=by rw[<-a2,zMA hS a1]
 have e2:zEn (zDo W k) x=zSf W (W.zeK k):=by
  have:=zMA hV (i:=k) a1;rw[eA]at this;rw[<-a2];exact this
 obtain⟨j,hj,dA⟩:=cA;have e3:zD7 W (W.zeK k).zeL=W.zeJ j:=by rw[<-dA,zSv hS hj]
 have e4:zE W (W.zeK k).zeL=W.zeJ j:=yQ ⟨hj,dA,fun i hi g=>by have:=zV7 hS hi hj;omega⟩;refine .inr ⟨rfl,zS4 rfl hV hG,⟨hS,hx⟩,⟨hV,zU6 hV (fun i hi hn=>?_) fun i hi _=>?_⟩,by rw[hk],fun n hn _=>?_⟩
 ·have aA:i≠k:=fun g=>hn (by rw[g];exact a2)
  have t:=hT (W.pn+i) (by unfold memN;omega) (by omega);rw[qN]at t;exact⟨⟨i,hi,by rw[bA i aA],by rw[bA i aA],by rw[bA i aA]⟩,t⟩
 ·have t:=hT i (by unfold memN;omega) (by omega);rw[zx hi]at t;exact⟨⟨i,hi,rfl,rfl,rfl⟩,t⟩
 ·rw[e1,e3];show _=lwD (zDo W k).pool (zEn (zDo W k) x).rs (zEn (zDo W k) x).rb n;rw[e2];show _=lwD (zDo W k).pool (zE W (W.zeK k).zeL).rs (zE W (W.zeK k).zeL).rb n;rw[e4];have t:=hT j (by unfold memN;omega) (by omega);rw[zx hj]at t;exact(t.page hn).symm
theorem zTW{W:zB}{x:ByteArray}{o:zAk}(e:zEe W x=o):(o.code≠0/\zQB o o)\/(o.code=0/\zQB o o/\(qo W/\qG W x)/\(qo o.world/\zOd W o.world x 0)/\o.many=((zAa W (W.zeK (zA2 W x))).length:Int)/\¬qG o.world x):=by
 have hG:zAz 1 o.world:=e▸(zKk W x).up;rcases zTV W x with⟨c,hc,h⟩ | ⟨hS,hx,cA,h⟩
 ·rw[h]at e;subst e;exact .inl ⟨hc,zWD hc⟩
 rw[h]at e;obtain⟨k,hk⟩:∃k,zA2 W x=k:=⟨_,rfl⟩;obtain⟨a1,a2⟩:=zQy hx;rw[hk]at e a1 a2;obtain⟨hV,hT⟩:=zWU hS a1 (by rw[a2];exact cA);subst e;have aA:∀j,(zEx W k).zeK j=W.zeK (if j<k then j else j+1):=fun j=>zI4 W.zeK k j
 refine .inr ⟨rfl,zS4 rfl hV hG,⟨hS,hx⟩,⟨hV,zU6 hV (fun i hi hn=>?_) fun i hi _=>?_⟩,by rw[hk],fun ⟨j,hj,g⟩=>?_⟩
 ·have bA:i≠k:=fun g=>hn (by rw[g];exact a2)
  have t:=hT (W.pn+i) (by unfold memN;omega) (by omega);rw[qN]at t;have es:(zEx W k).zeK (if i<k then i else i - 1)=W.zeK i:=(by rw[aA,zQ7 bA]);refine⟨⟨if i<k then i else i - 1,?_,by rw[es],by rw[es],by rw[es]⟩,t⟩;show _<W.sn - 1;split<;>omega
 ·have t:=hT i (by unfold memN;omega) (by omega);rw[zx hi]at t;exact⟨⟨i,hi,rfl,rfl,rfl⟩,t⟩
 ·have dA:j<W.sn - 1:=hj;have g':((zEx W k).zeK j).name=x:=g;rw[aA,<-a2]at g';have:=zaH hS (i:=if j<k then j else j+1) (j:=k) (by split<;>omega) a1 g';split at this<;>omega
open Go.Maps
theorem zOP(v0 v1 v2 v3:Value)(lo hi:Nat)(W:zB)(x:ByteArray)(w:World)(h:yO w lo hi v0 v1 v2 v3 W)(eB:zCs W)(hN:zGm W)(hx:x.size<=maxLen):Calls Tryz.prog 16 #[zA8 v0 v1 v2 v3 W,.string x] w (zXr (zJL W x) w):=by
 have Hp:=zC h;have HN:=zC hN;have rB:=zC eB;have bA:=zC (zJ2 hx);clear h hN eB hx;have bB:∀Wa Wb:World,Wa=w.alloc (.cells #[v0,v1,.int .i64 W.time,.int .i64 W.next,v2,v3] 30)->Wb=Wa.alloc (.cells #[.string ⟨#[]⟩,.int .i64 0,.int .i64 0,.int .i64 0,.int .i64 0,.slice none 0 0] 44)->zAN Wb w.heap.size v0 v1 (.int .i64 W.time) (.int .i64 W.next) v2 v3/\zAN Wb (w.heap.size+1) (.string ⟨#[]⟩) (.int .i64 0) (.int .i64 0) (.int .i64 0) (.int .i64 0) (.slice none 0 0)/\Below w.heap.size w Wb/\Wb.heap.size=w.heap.size+1+1:=by
  rintro Wa Wb ea eb;have ha:=zD w (.cells #[v0,v1,.int .i64 W.time,.int .i64 W.next,v2,v3] 30);have h1:=zAN.new w v0 v1 (.int .i64 W.time) (.int .i64 W.next) v2 v3 30;have z1:Wa.heap.size=w.heap.size+1:=(by rw[ea];exact World.size_alloc _ _);rw[<-ea]at ha h1;have hb:=zD Wa (.cells #[.string ⟨#[]⟩,.int .i64 0,.int .i64 0,.int .i64 0,.int .i64 0,.slice none 0 0] 44);have h2:=zAN.new Wa (.string ⟨#[]⟩) (.int .i64 0) (.int .i64 0) (.int .i64 0) (.int .i64 0) (.slice none 0 0) 44;have z2:Wb.heap.size=w.heap.size+1+1:=(by rw[eb,World.size_alloc,z1]);rw[<-eb,z1]at h2;rw[<-eb]at hb;exact⟨h1.zeF hb,h2,zA ha hb,z2⟩
 obtain⟨hX,hY,kA,cB⟩:=bB _ _ rfl rfl;have HX:=zC hX;have HY:=zC hY;have HS:=zC cB;obtain⟨x0,x1,x2,x3,x4,x5⟩:=HX.out.c;clear bB hX hY cB;go_enter Tryz.func16,Tryz.ntmps16;go_wp2_with fail;generalize (w.alloc (.cells #[v0,v1,.int .i64 W.time,.int .i64 W.next,v2,v3] 30)).alloc (.cells #[.string ⟨#[]⟩,.int .i64 0,.int .i64 0,.int .i64 0,.int .i64 0,.slice none 0 0] 44)=W0 at HX HY HS kA x0 x1 x2 x3 x4 x5 ⊢;refine(zDf v0 v1 v2 v3 lo hi W W0 (Hp.out.zeF kA) rB.out).mono ?_;rintro e w1 ⟨⟨t,rfl,ht⟩,cA⟩;have Ht:=zC (ht.trans (zGi W));have iA:=zA kA cA;have nA:=zC (HX.out.zeF cA);have gA:=zC (HY.out.zeF cA);have mA:=zC (show w.heap.size+1+1<=w1.heap.size by have:=HS.out;have:=cA.size;omega);clear x0 x1 x2 x3 x4 x5 cA kA HX HY HS ht;cases t
 ·have HA:=zC (show zJL W x=zCj from zXW (fun h=>absurd (Ht.out.2 h) (by simp)));obtain⟨⟨y0,sB⟩,⟨y1,tB⟩,⟨y2,vB⟩,⟨y3,aC⟩,⟨y4,bC⟩,⟨y5,cC⟩⟩:=gA.out;go_wp2;have HR:=gA.out.put (.string ⟨#[]⟩) (.int .i64 0) (.int .i64 0) (.int .i64 0) (.int .i64 0) (.slice none 0 0);refine bodyPost_ret (v:=.agg #[.string ⟨#[]⟩,.int .i64 0,.int .i64 0,.int .i64 0,.int .i64 0,.slice none 0 0]) (by simp[results,Tryz.results16,go_sem,HR.1.1,HR.2.1.1,HR.2.2.1.1,HR.2.2.2.1.1,HR.2.2.2.2.1.1,HR.2.2.2.2.2.1]) rfl ?_;rw[HA.out];exact zSV ((iA.trans ((zJ.put6 w1 (w.heap.size+1) (.string ⟨#[]⟩) (.int .i64 0) (.int .i64 0) (.int .i64 0) (.int .i64 0) (.slice none 0 0)).zeF (B:=w.heap.size) (by have:=mA.out;omega) (fun k e=>by omega))))
 ·have HW:=zC (Ht.out.1 rfl);have HA:=zC (show zJL W x=zBy W x from zJM HW.out);have HD:=zC (show(zBy W x).dn<=1048576 from zaE HN.out x);obtain⟨x0,x1,x2,x3,x4,x5⟩:=nA.out.c;go_wp2_with fail;refine(zDA v0 v1 v2 v3 lo hi W w1 (Hp.out.zeF iA) HW.out.zeM.2.2.1).mono ?_;rintro e w2 ⟨vd,rfl,hm,hd,aA⟩;obtain⟨a,c,aB,hp⟩:=zIn (HW.out.zeM.dist) hd x;have pA:=zC aB;have HP:=zC (hp.zeF aA);have HM:=zC hm;have vA:=zA iA aA;have oB:=zC (nA.out.zeF aA);have sA:=zC (gA.out.zeF aA);have eA:=zC (show w.heap.size+1+1<=w2.heap.size by have:=mA.out;have:=aA.size;omega);clear aB hp hm hd x0 x1 x2 x3 x4 x5 aA iA nA gA mA;unfold zHG at pA;generalize zBy W x=S at *;have jA:=zD w2 (.cells #[.string S.name,.int .i64 S.origin,.int .i64 S.zeL,.int .i64 S.rs,.int .i64 S.rb,.slice a S.dn c] 44);have hZ:=zAN.new w2 (.string S.name) (.int .i64 S.origin) (.int .i64 S.zeL) (.int .i64 S.rs) (.int .i64 S.rb) (.slice a S.dn c) 44;have HZ:=zC hZ;have lA:=zC (zA vA jA);have oA:=zC (sA.out.zeF jA);have rA:=zC (HP.out.zeF jA);have fA:=zC (show(w2.alloc (.cells #[.string S.name,.int .i64 S.origin,.int .i64 S.zeL,.int .i64 S.rs,.int .i64 S.rb,.slice a S.dn c] 44)).heap.size=w2.heap.size+1 from World.size_alloc _ _);clear jA hZ;obtain⟨⟨z0,fB⟩,⟨z1,gB⟩,⟨z2,iB⟩,⟨z3,jB⟩,⟨z4,kB⟩,⟨z5,lB⟩⟩:=HZ.out;go_wp2_with (first
   | (at_lookup;refine zFz _ rfl _ _ 78 rfl 9 44 zT8 zNt (zGk _) (w1.heap.size+1) W.sn _ rfl HM.out _ _ rfl bA.out _ pA.out ?_)
   | fail)
  clear z0 fB z1 gB z2 iB z3 jB z4 kB z5 lB;generalize w2.alloc (.cells #[.string S.name,.int .i64 S.origin,.int .i64 S.zeL,.int .i64 S.rs,.int .i64 S.rb,.slice a S.dn c] 44)=W3 at HZ lA oA rA fA ⊢;clear sA oB HP HM pA bA vA;generalize w2.heap.size=V at HZ eA fA ⊢;have hV:V≠w.heap.size+1:=(by have:=eA.out;omega);have dC:w.heap.size+1≠V:=(by have:=eA.out;omega);refine(zId _ S.dn lo hi S.ds S.db W3 rA.out HD.out).mono ?_;rintro e w4 ⟨⟨v',kb,rfl,ho,hk⟩,dA⟩;obtain⟨-,a',c',rfl,-⟩:=id ho;have HO:=zC ho;have HK:=zC hk;have mB:=zC (zA lA.out dA);have pB:=zC (HZ.out.zeF dA);have tA:=zC (oA.out.zeF dA);have nB:=zC (show V+1<=w4.heap.size by have:=dA.size;have:=fA.out;omega);clear ho hk dA lA HZ oA;obtain⟨⟨z0,fB⟩,⟨z1,gB⟩,⟨z2,iB⟩,⟨z3,jB⟩,⟨z4,kB⟩,⟨z5,lB⟩⟩:=pB.out;obtain⟨⟨y0,sB⟩,⟨y1,tB⟩,⟨y2,vB⟩,⟨y3,aC⟩,⟨y4,bC⟩,⟨y5,cC⟩⟩:=tA.out;go_wp2;have eC:=eA.out;have fC:=fA.out;have iC:=nB.out;have T1:=zJ.put w4 V 5 (.slice a' S.dn c');have HR:=(tA.out.zeG T1 (fun e=>absurd e (by omega))).put (.string S.name) (.int .i64 S.origin) (.int .i64 S.zeL) (.int .i64 S.rs) (.int .i64 S.rb) (.slice a' S.dn c');have T2:=zJ.put6 (w4.setCell ⟨V,5,none⟩ (.slice a' S.dn c')) (w.heap.size+1) (.string S.name) (.int .i64 S.origin) (.int .i64 S.zeL) (.int .i64 S.rs) (.int .i64 S.rb) (.slice a' S.dn c');have TT:=(T1.mono (T:=fun k=>k=w.heap.size+1\/k=V) (fun k e=>Or.inr e)).trans (T2.mono (fun k e=>Or.inl e));refine bodyPost_ret (v:=.agg #[.string S.name,.int .i64 S.origin,.int .i64 S.zeL,.int .i64 S.rs,.int .i64 S.rb,.slice a' S.dn c']) (by simp[results,Tryz.results16,go_sem,HR.1.1,HR.2.1.1,HR.2.2.1.1,HR.2.2.2.1.1,HR.2.2.2.2.1.1,HR.2.2.2.2.2.1]) rfl ?_;rw[HA.out];refine⟨.slice a' S.dn c',kb,rfl,HO.out.zeG TT (fun h0 e=>by have h1:=HK.out h0;omega),fun h0=>?_,mB.out.trans (TT.zeF (B:=w.heap.size) (by omega) (fun k e=>by omega))⟩;have h1:=HK.out h0;simp only[World.size_setCell];omega
abbrev seZ(s:qi):Bool×List Tr:=(true,[.v (.string s.name),.v (.int .i64 s.origin),.v (.int .i64 s.zeL),.v (.int .i64 s.rs),.v (.int .i64 s.rb),.s .z 2 s.dn (ptrsT s.ds s.db)])
noncomputable def zVS:zX:=qk (fun q:zB×ByteArray=>[woT q.1,sT q.2]) (fun q=>zAz 1 q.1/\q.2.size<=8000) (fun q=>[seZ (zJL q.1 q.2)])
theorem zNN(W:zB)(x:ByteArray):zVS [woT W,sT x]=some (zAz 1 W/\x.size<=8000,[seZ (zJL W x)]):=zO (fun l=>(zCW (nth l 0),zDP (nth l 1 0))) (fun _=>rfl) (W,x)
theorem zXX:zy Tryz.prog 16 zVS:=fun w=>by
 refine zHI ?_;rintro⟨W,x⟩ ⟨hC,hx⟩ g0 ys hz hy;replace hC:zAz 1 W:=hC;replace hx:x.size<=8000:=hx;obtain⟨y,y',rfl,h1,⟨T,eT,hT⟩⟩:=zCN hy;cases eT;obtain⟨v0,v1,v2,v3,rfl,hA⟩:=zPv (by omega) hC h1;rw[hT.1];refine(zOP v0 v1 v2 v3 0 w.heap.size W x w hA hC.wf (hC.bounds (by omega)).2.2.2 (Nat.le_trans hx (by decide))).mono ?_;rintro e w' ⟨v,b,rfl,ho,hb,hB⟩;refine⟨_,_,rfl,zM5 hz hB,_,⟨_,[],_,rfl,rfl,?_,rfl⟩,rfl⟩;exact⟨_,_,rfl,⟨rfl,rfl⟩,_,_,rfl,⟨rfl,rfl⟩,_,_,rfl,⟨rfl,rfl⟩,_,_,rfl,⟨rfl,rfl⟩,_,_,rfl,⟨rfl,rfl⟩,_,_,rfl,⟨zL3 zR1 (ho.at hb),zGz⟩,rfl⟩
theorem zUz{w w':World}{g g':Nat->Bs}{p:Nat->Addr}(h:zF1 w p)(hz:∀b,∃r,g b = .fz r)(hk:Kp w g w' g'):zF1 w' p:=
 h.zeF ⟨hk.os,hk.tape,hk.output,hk.size,fun b hb=>let ⟨r,hr⟩:=hz b;(hk.fz b r hr hb).1⟩
set_option linter.unusedSimpArgs false
set_option maxRecDepth 20000
set_option maxHeartbeats 3200000
theorem zXb{P:Program}{f:Nat}{ι : Type}{A:ι->List (Bool×List Tr)}{C:ι->Prop}{R:ι->List (Bool×List Tr)}{T:Tb}{Γ : List (Nat×zX)}{w:World}(hT:zF4 P T)(hΓ : ∀g0,(∀b,∃r,g0 b = .fz r)->zPz P Γ w ⟨g0,none⟩)(hm:P.follows .mixedOrders=true){fn:Func}{body:Code}{N:Nat}{rv:Array ResultVar}(hf:P.funcs[f]?=some fn)(hb:fn.body=some body)(hN:fn.ntmps=N)(bA:fn.results=rv)(n:Nat)
  (h:∀x,C x->(A x).length<=N/\ev N T Γ n body ⟨qg 0 (A x),[]⟩ (zWG T rv.toList (R x))):zDX P f (qk A C R) w:=by
 refine zIq hT hΓ hm hf hb hN bA n (fun l c rs aA hc=>?_);unfold qk at aA;split at aA
 ·rename_i hx
  cases aA;have:=h hx.choose hc;rw[hx.choose_spec]at this;exact this
 ·cases aA
def zMC(n:Nat)(f:Nat->Int):Prop:=∀i,i<n->0<=f i/\f i<256
def zJT(w:World)(a:Option Addr)(n:Nat):Prop:=0<n->∃b o,a=some ⟨b,o,none⟩/\b<w.heap.size/\∀i,i<n->∃x:Int,w.cell? ⟨b,o+i,none⟩=some (.int .u8 x)/\0<=x/\x<256
open Classical in
theorem zRX{w:World}{a:Option Addr}{n c:Nat}(h:zJT w a n)(hc:n<=c):∃f,zMC n f/\Sh w (fun _=>.fz none) (.s .z 1 n (zF6 f)) (.slice a n c):=by
 by_cases h0:0<n
 ·obtain⟨b,o,rfl,hb,hx⟩:=h h0;refine⟨fun i=>if hi:i<n then(hx i hi).choose else 0,fun i hi=>?_,_,_,rfl,hc,fun _=>⟨b,o,rfl,hb,.inr (fun l e=>by cases e),fun i j hi hj=>?_⟩⟩
  ·simp only[dif_pos hi];exact(hx i hi).choose_spec.2
  ·cases (show j=0 by omega);refine⟨_,by rw[Nat.mul_one,Nat.add_zero];exact(hx i hi).choose_spec.1,?_,rfl⟩;simp only[dif_pos hi]
 ·exact⟨fun _=>0,fun i hi=>by omega,_,_,rfl,hc,fun h=>absurd h h0⟩
set_option maxRecDepth 20000
set_option maxHeartbeats 3200000
attribute [local go_sem] qg List.map_cons List.map_nil Tr.cv yv qT yF yD yu yr yq yC zBD zBF zBE zBA zBC zBB zCc zCe zCd qY zt qZ zu qR qQ qf zAL zp zq yL qW tmpsOf zAy yK qV zA9 yz yx yw zAA yy stpP opds opd opdC kap zAS qS zo coreU bin zAl zCO get put dlO fgt zBP zBI zBM zBN tyT yp yo Op.operands Call.operands evLoad evLen evStore evAlloc zAn and_true true_and List.append_nil List.nil_append List.cons_append Ret resCv zCB yY cellM zBl zCI qh StW StR hpT hpO hpV hpA hpL hpC sg nin zCT bdO tmW obW AvE CsE CvE Av.tup Av.ids Cv.ids inD ObE Ob.ids TrE.refl qU yH yI qb qd qe zr zf zd zAC zBe zCH zBG evCall argL argOf qq outOb obO yU qK cvO tot Tr.own rid partsOf fillC zU zBj frz frz1 evBuildSlice zc trs Cv.tr evSlice Option.toArray_none Option.toArray_some evMakeSlice evAppend dstOf srcOf zA7 zBO zBL zBJ zBK ikT yB yA qz qy RetP RetN zBs qP evLd evSt evStoreH zAe evAppendM evAppendT tlOf mvOf rowE shp evTake oOf evC evCallP evCallN evCallO unlast zAX zA6 zAZ argsF zCS qu pmC varT vT evField evConv dB0 Option.bind_some Option.bind_none Option.map_some Option.map_none Option.isSome_some Option.isSome_none
attribute [local go_sem] yP zb zA5 yW qw zAs zAt zAu zAv zAw zAx zAD zAE zAF zAG zAH zAI zAJ zAK yR qt
attribute [-go_sem] zb
attribute [local go_sem] zAP zB7 zB8 zAU yb zEC
theorem zLj:zy Tryz.prog 4 zJ7:=by
 refine zQ qA (GOk.keep zJY (zG Tryz.func17 rfl rfl) GOk.nil) zz Tryz.func4 rfl Tryz.ntmps4 Tryz.results4 4 ?_;rintro⟨n,f⟩ hb;replace hb:zFl n f:=hb;refine⟨by simp,?_⟩;simp[go_sem,zDk,hb,qH,zW,zm,qm,qI]
theorem zJX:zy Tryz.prog 13 zJ7:=by
 refine zQ qA (GOk.keep zJY (zG Tryz.func17 rfl rfl) GOk.nil) zz Tryz.func13 rfl Tryz.ntmps13 Tryz.results13 4 ?_;rintro⟨n,f⟩ hb;replace hb:zFl n f:=hb;refine⟨by simp,?_⟩;simp[go_sem,zDk,hb,qH,zW,zm,qm,qI]
noncomputable def zVH:zX:=qk (fun q:(Nat×(Nat->Int))×Nat×(Nat->Int)=>[byT q.1.1 q.1.2,byT q.2.1 q.2.2]) (fun q=>zMC q.1.1 q.1.2/\zMC q.2.1 q.2.2) (fun _=>tT)
theorem zWE{w:World}{p:Nat->Addr}(hE:zF1 w p):zDX Tryz.prog 3 zVH w:=by
 refine zXb qA (fun g0 hz w' g hk=>zB5.putA (by decide) (zZ1 (zUz hE hz hk)) (zG Tryz.func5 rfl rfl) (zB5.putA (by decide) (zYG (zUz hE hz hk)) (zG Tryz.func14 rfl rfl) (zB5.putA (by decide) (zXX _) (zG Tryz.func16 rfl rfl) (zB5.putA (by decide) (zWx _) (zG Tryz.func6 rfl rfl) (zB5.putA (by decide) (zWu _) (zG Tryz.func10 rfl rfl) (zB5.putA (by decide) (zPV _) (zG Tryz.func11 rfl rfl) (zB5.putA (by decide) (zWv _) (zG Tryz.func12 rfl rfl) (zB5.putK (by decide) (zLj _) (zG Tryz.func4 rfl rfl) (zB5.putK (by decide) (zJX _) (zG Tryz.func13 rfl rfl) (zB5.putA (by decide) (zLG _) (zG Tryz.func7 rfl rfl) (zB5.putA (by decide) (zIZ _) (zG Tryz.func15 rfl rfl) (zB5.putA (by decide) (zMK _) (zG Tryz.func9 rfl rfl) (zB5.putA (by decide) (zOg _) (zG Tryz.func8 rfl rfl) zB5.nil))))))))))))) zz Tryz.func3 rfl Tryz.ntmps3 Tryz.results3 12 ?_;rintro⟨⟨n,f⟩,m,h⟩ ⟨h1,h2⟩;replace h1:zMC n f:=h1;replace h2:zMC m h:=h2;refine⟨by simp,?_⟩;by_cases b1:1048576<n
 ·simp[go_sem,show(1048576:Int)<n by omega]
 by_cases b2:1048576<m
 ·simp[go_sem,show ¬(1048576:Int)<n by omega,show(1048576:Int)<m by omega]
 have q1:¬(1048576:Int)<n:=by omega
 have q2:¬(1048576:Int)<m:=by omega
 have hb:zFl n f:=⟨by omega,h1⟩;have aA:zFl m h:=⟨by omega,h2⟩;have hd:∀n f,zFl n f->zAz 1 (zEX n f).1/\(zEX n f).2.size<=8000:=fun n f hb=>⟨(zS8 (zPo hb.1 hb.2)).2,zSU _⟩
 obtain⟨hW,hx⟩:=hd n f hb;obtain⟨hV,hy⟩:=hd m h aA;obtain⟨⟨W,x⟩,eW⟩:∃d,zEX n f=d:=⟨_,rfl⟩;obtain⟨⟨V,y⟩,eV⟩:∃d,zEX m h=d:=⟨_,rfl⟩;rw[eW]at hW hx;rw[eV]at hV hy;replace hW:zAz 1 W:=hW;replace hV:zAz 1 V:=hV;replace hx:x.size<=8000:=hx;replace hy:y.size<=8000:=hy;have cW:=hW.zeP (c:=1) (by omega);have cV:=hV.zeP (c:=1) (by omega);obtain⟨O,eO⟩:∃O,zEl W x=O:=⟨_,rfl⟩;obtain⟨P,eP⟩:∃P,zEe V y=P:=⟨_,rfl⟩;have gO:zAz 1 O.world:=eO▸(zKl W x).up;have gP:zAz 1 P.world:=eP▸(zKk V y).up;have sO:=(gO.zeP (c:=1) (by omega)).toSmallW;have sP:=(gP.zeP (c:=1) (by omega)).toSmallW;rcases zUT eO with⟨o1,o2⟩ | ⟨o1,o2,⟨o3,o4⟩,⟨o5,o6⟩,o7,o8⟩<;>rcases zTW eP with⟨p1,p2⟩ | ⟨p1,p2,⟨p3,p4⟩,⟨p5,p6⟩,p7,p8⟩
 ·simp[go_sem,q1,q2,zDk,zIJ,zIG,zHt,zHq,zEi O O,zEi P P,hb,aA,eW,eV,hW,hV,hx,hy,cW,cV,eO,eP,o1,o2,p1,p2];refine⟨by kernel_rfl,by kernel_rfl,?_⟩;show _=true;kernel_rfl
 ·have tP:=zEi P P;simp only[wuL,p1,p7]at tP;simp[go_sem,q1,q2,zDk,zIJ,zIG,zHt,zHq,zEi O O,tP,zG6 V P.world,zJ8 V y,zNN P.world y,hb,aA,eW,eV,hW,hV,hx,hy,cW,cV,eO,eP,o1,o2,p1,p2,p3,p4,p5,p6,p7,sP,gP,cV.toSmallW];refine⟨by kernel_rfl,by kernel_rfl,by kernel_rfl,?_⟩;rw[zJM p5,zNq p8,Go.ByteArray.toList_eq];rfl
 ·have tO:=zEi O O;simp only[wuL,o1,o7]at tO;obtain⟨D,hD⟩:∃D,zEn W x=D:=⟨_,rfl⟩;obtain⟨E,hE⟩:∃E,zD7 W D.zeL=E:=⟨_,rfl⟩;obtain⟨F,hF⟩:∃F,zEn O.world x=F:=⟨_,rfl⟩;have t1:yf W.pool E.rs E.rb:=⟨o3.right,hE▸zJO o3 _⟩;have t2:yf O.world.pool F.rs F.rb:=⟨o5.right,hF▸zK9 o5 _⟩;rw[hD,hE,hF]at o8;simp[go_sem,q1,q2,zDk,zIJ,zIG,zHt,zHq,tO,zEi P P,zG6 W O.world,zFF W x,zFF O.world x,zJF W,zG7 W.pool E.rs E.rb O.world.pool,zJ8 W x,hb,aA,eW,eV,hW,hV,hx,hy,cW,cV,eO,eP,o1,o2,o3,o4,o5,o6,o7,hD,hE,hF,t1,t2,p1,p2,sO,cW.toSmallW];refine⟨by kernel_rfl,by kernel_rfl,fun k hk=>o8 k hk (by omega),by kernel_rfl,by kernel_rfl,?_⟩;show _=true;kernel_rfl
 ·have tO:=zEi O O;have tP:=zEi P P;simp only[wuL,o1,o7]at tO;simp only[wuL,p1,p7]at tP;obtain⟨D,hD⟩:∃D,zEn W x=D:=⟨_,rfl⟩;obtain⟨E,hE⟩:∃E,zD7 W D.zeL=E:=⟨_,rfl⟩;obtain⟨F,hF⟩:∃F,zEn O.world x=F:=⟨_,rfl⟩;have t1:yf W.pool E.rs E.rb:=⟨o3.right,hE▸zJO o3 _⟩;have t2:yf O.world.pool F.rs F.rb:=⟨o5.right,hF▸zK9 o5 _⟩;rw[hD,hE,hF]at o8;simp[go_sem,q1,q2,zDk,zIJ,zIG,zHt,zHq,tO,tP,zG6 W O.world,zG6 V P.world,zJ8 V y,zNN P.world y,zFF W x,zFF O.world x,zJF W,zG7 W.pool E.rs E.rb O.world.pool,zJ8 W x,hb,aA,eW,eV,hW,hV,hx,hy,cW,cV,eO,eP,o1,o2,o3,o4,o5,o6,o7,hD,hE,hF,t1,t2,p1,p2,p3,p4,p5,p6,p7,sO,sP,gP,cW.toSmallW,cV.toSmallW];refine⟨by kernel_rfl,by kernel_rfl,fun k hk=>o8 k hk (by omega),by kernel_rfl,by kernel_rfl,by kernel_rfl,?_⟩;rw[zJM p5,zNq p8,Go.ByteArray.toList_eq];rfl
theorem zRn{p:Nat->Addr}(a0 a1:Option Addr)(n0 c0 n1 c1:Nat)(w:World)(h0:zJT w a0 n0)(h1:zJT w a1 n1)(aA:n0<=c0)(bA:n1<=c1)(hE:zF1 w p) :
  Calls Tryz.prog 3 #[.slice a0 n0 c0,.slice a1 n1 c1] w fun e w'=>e = .returned (.bool true)/\Below w.heap.size w w':=by
 obtain⟨f,hf,sf⟩:=zRX h0 aA;obtain⟨g,hg,sg⟩:=zRX h1 bA;have fA:zVH [byT n0 f,byT n1 g]=some (zMC n0 f/\zMC n1 g,tT):=zO (fun l=>((zF8 (nth l 0 0),fun i=>match zCh (nth l 0 0) i 0 with | .v (.int _ x)=>x | _=>0),zF8 (nth l 1 0),fun i=>match zCh (nth l 1 0) i 0 with | .v (.int _ x)=>x | _=>0)) (fun _=>rfl) ((n0,f),n1,g);refine(zWE hE _ _ _ fA ⟨hf,hg⟩ (fun _=>.fz none) [.slice a0 n0 c0,.slice a1 n1 c1] (fun b=>⟨none,rfl⟩) (.cons ⟨_,rfl,sf⟩ (.cons ⟨_,rfl,sg⟩ .nil))).mono ?_;rintro e w' ⟨v,k,rfl,hk,ys,hr,hv⟩;obtain⟨y,iA,cs,rfl,dA,cA,eA⟩:=hr;cases eA;cases hv;obtain⟨u,gA,rfl,h2,h3⟩:=cA;cases h3;cases dA;refine⟨by rw[h2.1],⟨hk.os,hk.tape,hk.output,hk.size,fun b hb=>(hk.fz b none rfl hb).1⟩⟩
open Go.ChangeShapes Go.WideShapes
set_option maxRecDepth 100000
abbrev zSD:List (String×DataW Unit):=[("loop.example/g00381/impl.errForm",Rows.laid_loop_example_g00381_impl_errForm),("loop.example/g00381/impl.errSize",Rows.laid_loop_example_g00381_impl_errSize),("loop.example/g00381/impl.errNone",Rows.laid_loop_example_g00381_impl_errNone),("loop.example/g00381/impl.errThere",Rows.laid_loop_example_g00381_impl_errThere),("loop.example/g00381/impl.errFull",Rows.laid_loop_example_g00381_impl_errFull),("loop.example/g00381/impl.errState",Rows.laid_loop_example_g00381_impl_errState),("loop.example/g00381/impl.errRange",Rows.laid_loop_example_g00381_impl_errRange)]
def errN:Nat->String
 | 0=> "loop.example/g00381/impl.errForm"
 | 1=> "loop.example/g00381/impl.errSize"
 | 2=> "loop.example/g00381/impl.errNone"
 | 3=> "loop.example/g00381/impl.errThere"
 | 4=> "loop.example/g00381/impl.errFull"
 | 5=> "loop.example/g00381/impl.errState"
 | _=> "loop.example/g00381/impl.errRange"
theorem zCJ(i:Nat)(h:i<7):Tryz.prog.globalNamed (errN i)=some (zJs i)/\(Tryz.prog.globals[zJs i]?).map (·.type)=some 53:=by
 match i,h with
 | 0,_=>exact⟨by kernel_rfl,by kernel_rfl⟩
 | 1,_=>exact⟨by kernel_rfl,by kernel_rfl⟩
 | 2,_=>exact⟨by kernel_rfl,by kernel_rfl⟩
 | 3,_=>exact⟨by kernel_rfl,by kernel_rfl⟩
 | 4,_=>exact⟨by kernel_rfl,by kernel_rfl⟩
 | 5,_=>exact⟨by kernel_rfl,by kernel_rfl⟩
 | 6,_=>exact⟨by kernel_rfl,by kernel_rfl⟩
theorem zUy : "*" ++ "errors.errorString" = "*errors.errorString" :=by decide
theorem zI6(u:TypeId)(h:Tryz.prog.typeName? 3 u=some "*errors.errorString"):u=218:=
 typeName_ptr_named (nm:= "errors.errorString") (by rw[zUy];kernel_rfl) (by kernel_rfl) (by decide) u (by rw[zUy];exact h)
theorem zFT:Tryz.prog.cellsOf 243=1:=by kernel_rfl
theorem zFg:Tryz.prog.cellsOf 9=1:=by kernel_rfl
theorem zQJ{W:World}(h:laidMetH Tryz.prog zSD W):∃p:Nat->Addr,zF1 W p/\∀i,i<7->W.var? Tryz.prog (errN i)=some #[yg (p i)]:=by
 rw[MakeChecks.laidMetH_plain _ _ _ (by kernel_rfl)]at h;obtain⟨ps,⟨g0,t0,tA,f0,p0,q0,dA,oB,lA,gB,⟨g1,t1,vA,f1,p1,q1,eA,pB,mA,iB,⟨g2,t2,aB,f2,p2,q2,fA,rB,nA,jB,⟨g3,t3,bB,f3,p3,q3,gA,sB,oA,kB,⟨g4,t4,cB,f4,p4,q4,iA,tB,pA,lB,⟨g5,t5,eB,f5,p5,q5,jA,vB,rA,mB,⟨g6,t6,fB,f6,p6,q6,kA,aC,sA,nB,_,e6⟩,e5⟩,e4⟩,e3⟩,e2⟩,e1⟩,e0⟩,bA,aA⟩:=h;obtain rfl:=Option.some.inj ((zCJ 0 (by omega)).1.symm.trans dA);obtain rfl:=Option.some.inj ((zCJ 0 (by omega)).2.symm.trans oB);obtain rfl:=Option.some.inj ((zCJ 1 (by omega)).1.symm.trans eA);obtain rfl:=Option.some.inj ((zCJ 1 (by omega)).2.symm.trans pB);obtain rfl:=Option.some.inj ((zCJ 2 (by omega)).1.symm.trans fA);obtain rfl:=Option.some.inj ((zCJ 2 (by omega)).2.symm.trans rB);obtain rfl:=Option.some.inj ((zCJ 3 (by omega)).1.symm.trans gA);obtain rfl:=Option.some.inj ((zCJ 3 (by omega)).2.symm.trans sB);obtain rfl:=Option.some.inj ((zCJ 4 (by omega)).1.symm.trans iA);obtain rfl:=Option.some.inj ((zCJ 4 (by omega)).2.symm.trans tB);obtain rfl:=Option.some.inj ((zCJ 5 (by omega)).1.symm.trans jA);obtain rfl:=Option.some.inj ((zCJ 5 (by omega)).2.symm.trans vB);obtain rfl:=Option.some.inj ((zCJ 6 (by omega)).1.symm.trans kA);obtain rfl:=Option.some.inj ((zCJ 6 (by omega)).2.symm.trans aC);subst e6;subst e5;subst e4;subst e3;subst e2;subst e1;subst e0;obtain⟨l0⟩:=tA;have bC:∀u v,l0 = [.iface u v]->Value.okWide Tryz.prog W .any 0 u v:=fun u v e=>by
  subst e;exact(aA (zJs 0) 0 (by simp[MemPlace.row])).2 u v (by simpa using World.var?_cell dA lA 0)
 obtain⟨a0,s0,rfl,kC,sC,eD,rfl⟩:=errorString_of_trod Tryz.underlying53 zI6 Tryz.underlying218 Tryz.underlying243 rfl rfl Tryz.underlying9 zFT zFg gB bC;obtain⟨l1⟩:=vA;have cC:∀u v,l1 = [.iface u v]->Value.okWide Tryz.prog W .any 0 u v:=fun u v e=>by
  subst e;exact(aA (zJs 1) 0 (by simp[MemPlace.row])).2 u v (by simpa using World.var?_cell eA mA 0)
 obtain⟨a1,s1,rfl,lC,tC,fD,rfl⟩:=errorString_of_trod Tryz.underlying53 zI6 Tryz.underlying218 Tryz.underlying243 rfl rfl Tryz.underlying9 zFT zFg iB cC;obtain⟨l2⟩:=aB;have dC:∀u v,l2 = [.iface u v]->Value.okWide Tryz.prog W .any 0 u v:=fun u v e=>by
  subst e;exact(aA (zJs 2) 0 (by simp[MemPlace.row])).2 u v (by simpa using World.var?_cell fA nA 0)
 obtain⟨a2,s2,rfl,mC,vC,gD,rfl⟩:=errorString_of_trod Tryz.underlying53 zI6 Tryz.underlying218 Tryz.underlying243 rfl rfl Tryz.underlying9 zFT zFg jB dC;obtain⟨l3⟩:=bB;have eC:∀u v,l3 = [.iface u v]->Value.okWide Tryz.prog W .any 0 u v:=fun u v e=>by
  subst e;exact(aA (zJs 3) 0 (by simp[MemPlace.row])).2 u v (by simpa using World.var?_cell gA oA 0)
 obtain⟨a3,s3,rfl,nC,aD,iD,rfl⟩:=errorString_of_trod Tryz.underlying53 zI6 Tryz.underlying218 Tryz.underlying243 rfl rfl Tryz.underlying9 zFT zFg kB eC;obtain⟨l4⟩:=cB;have fC:∀u v,l4 = [.iface u v]->Value.okWide Tryz.prog W .any 0 u v:=fun u v e=>by
  subst e;exact(aA (zJs 4) 0 (by simp[MemPlace.row])).2 u v (by simpa using World.var?_cell iA pA 0)
 obtain⟨a4,s4,rfl,oC,bD,jD,rfl⟩:=errorString_of_trod Tryz.underlying53 zI6 Tryz.underlying218 Tryz.underlying243 rfl rfl Tryz.underlying9 zFT zFg lB fC;obtain⟨l5⟩:=eB;have iC:∀u v,l5 = [.iface u v]->Value.okWide Tryz.prog W .any 0 u v:=fun u v e=>by
  subst e;exact(aA (zJs 5) 0 (by simp[MemPlace.row])).2 u v (by simpa using World.var?_cell jA rA 0)
 obtain⟨a5,s5,rfl,pC,cD,kD,rfl⟩:=errorString_of_trod Tryz.underlying53 zI6 Tryz.underlying218 Tryz.underlying243 rfl rfl Tryz.underlying9 zFT zFg mB iC;obtain⟨l6⟩:=fB;have jC:∀u v,l6 = [.iface u v]->Value.okWide Tryz.prog W .any 0 u v:=fun u v e=>by
  subst e;exact(aA (zJs 6) 0 (by simp[MemPlace.row])).2 u v (by simpa using World.var?_cell kA sA 0)
 obtain⟨a6,s6,rfl,rC,dD,lD,rfl⟩:=errorString_of_trod Tryz.underlying53 zI6 Tryz.underlying218 Tryz.underlying243 rfl rfl Tryz.underlying9 zFT zFg nB jC;refine⟨fun | 0=>a0 | 1=>a1 | 2=>a2 | 3=>a3 | 4=>a4 | 5=>a5 | _=>a6,⟨fun i hi=>?_,fun i hi=>?_,fun i j hi hj cA he=>?_⟩,fun i hi=>?_⟩
 ·match i,hi with
  | 0,_=>simpa using World.var?_cell dA lA 0
  | 1,_=>simpa using World.var?_cell eA mA 0
  | 2,_=>simpa using World.var?_cell fA nA 0
  | 3,_=>simpa using World.var?_cell gA oA 0
  | 4,_=>simpa using World.var?_cell iA pA 0
  | 5,_=>simpa using World.var?_cell jA rA 0
  | 6,_=>simpa using World.var?_cell kA sA 0
 ·match i,hi with
  | 0,_=>exact(aA a0.block a0.off (by simp[MemPlace.row])).1
  | 1,_=>exact(aA a1.block a1.off (by simp[MemPlace.row])).1
  | 2,_=>exact(aA a2.block a2.off (by simp[MemPlace.row])).1
  | 3,_=>exact(aA a3.block a3.off (by simp[MemPlace.row])).1
  | 4,_=>exact(aA a4.block a4.off (by simp[MemPlace.row])).1
  | 5,_=>exact(aA a5.block a5.off (by simp[MemPlace.row])).1
  | 6,_=>exact(aA a6.block a6.off (by simp[MemPlace.row])).1
 ·simp only[MemPlace.row]at bA
  match i,hi,j,hj with
  | 0,_,0,_=>exact absurd rfl cA
  | 0,_,1,_=>obtain rfl:a0=a1:=he;simp at bA
  | 0,_,2,_=>obtain rfl:a0=a2:=he;simp at bA
  | 0,_,3,_=>obtain rfl:a0=a3:=he;simp at bA
  | 0,_,4,_=>obtain rfl:a0=a4:=he;simp at bA
  | 0,_,5,_=>obtain rfl:a0=a5:=he;simp at bA
  | 0,_,6,_=>obtain rfl:a0=a6:=he;simp at bA
  | 1,_,0,_=>obtain rfl:a1=a0:=he;simp at bA
  | 1,_,1,_=>exact absurd rfl cA
  | 1,_,2,_=>obtain rfl:a1=a2:=he;simp at bA
  | 1,_,3,_=>obtain rfl:a1=a3:=he;simp at bA
  | 1,_,4,_=>obtain rfl:a1=a4:=he;simp at bA
  | 1,_,5,_=>obtain rfl:a1=a5:=he;simp at bA
  | 1,_,6,_=>obtain rfl:a1=a6:=he;simp at bA
  | 2,_,0,_=>obtain rfl:a2=a0:=he;simp at bA
  | 2,_,1,_=>obtain rfl:a2=a1:=he;simp at bA
  | 2,_,2,_=>exact absurd rfl cA
  | 2,_,3,_=>obtain rfl:a2=a3:=he;simp at bA
  | 2,_,4,_=>obtain rfl:a2=a4:=he;simp at bA
  | 2,_,5,_=>obtain rfl:a2=a5:=he;simp at bA
  | 2,_,6,_=>obtain rfl:a2=a6:=he;simp at bA
  | 3,_,0,_=>obtain rfl:a3=a0:=he;simp at bA
  | 3,_,1,_=>obtain rfl:a3=a1:=he;simp at bA
  | 3,_,2,_=>obtain rfl:a3=a2:=he;simp at bA
  | 3,_,3,_=>exact absurd rfl cA
  | 3,_,4,_=>obtain rfl:a3=a4:=he;simp at bA
  | 3,_,5,_=>obtain rfl:a3=a5:=he;simp at bA
  | 3,_,6,_=>obtain rfl:a3=a6:=he;simp at bA
  | 4,_,0,_=>obtain rfl:a4=a0:=he;simp at bA
  | 4,_,1,_=>obtain rfl:a4=a1:=he;simp at bA
  | 4,_,2,_=>obtain rfl:a4=a2:=he;simp at bA
  | 4,_,3,_=>obtain rfl:a4=a3:=he;simp at bA
  | 4,_,4,_=>exact absurd rfl cA
  | 4,_,5,_=>obtain rfl:a4=a5:=he;simp at bA
  | 4,_,6,_=>obtain rfl:a4=a6:=he;simp at bA
  | 5,_,0,_=>obtain rfl:a5=a0:=he;simp at bA
  | 5,_,1,_=>obtain rfl:a5=a1:=he;simp at bA
  | 5,_,2,_=>obtain rfl:a5=a2:=he;simp at bA
  | 5,_,3,_=>obtain rfl:a5=a3:=he;simp at bA
  | 5,_,4,_=>obtain rfl:a5=a4:=he;simp at bA
  | 5,_,5,_=>exact absurd rfl cA
  | 5,_,6,_=>obtain rfl:a5=a6:=he;simp at bA
  | 6,_,0,_=>obtain rfl:a6=a0:=he;simp at bA
  | 6,_,1,_=>obtain rfl:a6=a1:=he;simp at bA
  | 6,_,2,_=>obtain rfl:a6=a2:=he;simp at bA
  | 6,_,3,_=>obtain rfl:a6=a3:=he;simp at bA
  | 6,_,4,_=>obtain rfl:a6=a4:=he;simp at bA
  | 6,_,5,_=>obtain rfl:a6=a5:=he;simp at bA
  | 6,_,6,_=>exact absurd rfl cA
 ·match i,hi with
  | 0,_=>exact lA
  | 1,_=>exact mA
  | 2,_=>exact nA
  | 3,_=>exact oA
  | 4,_=>exact pA
  | 5,_=>exact rA
  | 6,_=>exact sA
theorem zKh{H:Type}(enc:TypeId×Value->H){W:World}{p:Nat->Addr}(h:∀i,i<7->W.var? Tryz.prog (errN i)=some #[yg (p i)])(sp:Nat->Bool):∀l:List Nat,(∀i,i∈l->i<7)->
  DataW.TrodVars enc Tryz.prog W sp (l.map errN) (l.map fun i=>tok enc (yg (p i))) (l.map fun i=>.cell (zJs i) 0)
 | [],_=>rfl
 | i :: l,hl=>⟨zJs i,53,#[yg (p i)],1,[],l.map fun i=>.cell (zJs i) 0,(zCJ i (hl i (List.mem_cons_self ..))).1,(zCJ i (hl i (List.mem_cons_self ..))).2,h i (hl i (List.mem_cons_self ..)),trod_held Tryz.underlying53 (show IsIface (yg (p i))from trivial) 0,zKh enc h sp l fun j hj=>hl j (List.mem_cons_of_mem _ hj),rfl⟩
theorem zUh{W W':World}{n:String}{cs:Array Value}(h:W.var? Tryz.prog n=some cs)(t:Below W.heap.size W W'):W'.var? Tryz.prog n=some cs:=by
 unfold World.var? at h ⊢;cases hg:Tryz.prog.globalNamed n with
 | none=>simp[hg]at h
 | some g=>
  simp only[hg,Option.bind_some]at h ⊢;have aA:g<W.heap.size:=by
   rcases Nat.lt_or_ge g W.heap.size with h' | h'
   ·exact h'
   ·simp[Array.getElem?_eq_none h']at h
  rw[t.block g aA];exact h
noncomputable def zJ5:Nat:=(World.holding Tryz.prog default ⟨#[],#[],[]⟩).heap.size
noncomputable def zPS(os:Os):World:=
 let w0:=World.holding Tryz.prog os ⟨#[.cells #[.string ⟨#[105,116,32,105,115,32,110,111,116,32,114,105,103,104,116]⟩] 243,.cells #[.string ⟨#[105,116,32,105,115,32,116,111,111,32,108,111,110,103]⟩] 243,.cells #[.string ⟨#[116,104,101,114,101,32,105,115,32,110,111,110,101]⟩] 243,.cells #[.string ⟨#[116,104,101,114,101,32,105,115,32,111,110,101,32,97,108,114,101,97,100,121]⟩] 243,.cells #[.string ⟨#[116,104,101,114,101,32,105,115,32,110,111,32,114,111,111,109]⟩] 243,.cells #[.string ⟨#[105,116,32,100,111,101,115,32,110,111,116,32,115,116,97,110,100,32,115,111,32,116,104,97,116,32,116,104,105,115,32,99,97,110,32,98,101,32,100,111,110,101]⟩] 243,.cells #[.string ⟨#[105,116,32,105,115,32,111,117,116,32,111,102,32,114,97,110,103,101]⟩] 243],#[],[]⟩
 {w0 with heap:=((((((((((((((w0.heap).modify 3 fun
   | .cells _ t frozen=>.cells #[yg ⟨zJ5+0,0,none⟩] t frozen
   | o=>o)).modify 2 fun
   | .cells _ t frozen=>.cells #[yg ⟨zJ5+1,0,none⟩] t frozen
   | o=>o)).modify 0 fun
   | .cells _ t frozen=>.cells #[yg ⟨zJ5+2,0,none⟩] t frozen
   | o=>o)).modify 4 fun
   | .cells _ t frozen=>.cells #[yg ⟨zJ5+3,0,none⟩] t frozen
   | o=>o)).modify 5 fun
   | .cells _ t frozen=>.cells #[yg ⟨zJ5+4,0,none⟩] t frozen
   | o=>o)).modify 1 fun
   | .cells _ t frozen=>.cells #[yg ⟨zJ5+5,0,none⟩] t frozen
   | o=>o)).modify 6 fun
   | .cells _ t frozen=>.cells #[yg ⟨zJ5+6,0,none⟩] t frozen
   | o=>o)}
theorem zOT(os:Os)(args:Array Value):laidMetH Tryz.prog zSD ((zPS os).forCall (fun _ _=>0) ⟨#[],args,[]⟩).memory:=by
 rw[MakeChecks.laidMetH_plain _ _ _ (by kernel_rfl)];exact laidMet_of_run (ps:=[.cell 3 0,.cell (zJ5+0) 0,.cell 2 0,.cell (zJ5+1) 0,.cell 0 0,.cell (zJ5+2) 0,.cell 4 0,.cell (zJ5+3) 0,.cell 5 0,.cell (zJ5+4) 0,.cell 1 0,.cell (zJ5+5) 0,.cell 6 0,.cell (zJ5+6) 0]) 8 (by kernel_rfl) (by kernel_rfl) (by kernel_rfl)
end Go.Proofs.YtjganmlaooofoaaGreatDoor
