/- A part of the proof. -/
import Derived.Test.YtginldeebkfbgaaGreatF14
set_option linter.unusedVariables false
set_option maxRecDepth 20000
set_option maxHeartbeats 4000000
namespace Go.Proofs.YtginldeebkfbgaaGreat
open Go.RowKit
set_option linter.unusedSimpArgs false
set_option maxRecDepth 20000
set_option maxHeartbeats 1600000
def setsE(fl:Fl)(s:Nat->zB9):Nat->Nat->Tr:=fun i c=>match c with
 | 0=>.v (.string (s i).name)
 | 1=>.v (.int .i64 (s i).origin)
 | 2=>.v (.int .i64 (s i).zbi)
 | 3=>.v (.int .i64 (s i).rs)
 | 4=>.v (.int .i64 (s i).rb)
 | 5=>.s fl 2 (s i).dn (ptrsT (s i).ds (s i).db)
 | _=>.v (.bool false)
def snapsE(fl:Fl)(s:Nat->yY):Nat->Nat->Tr:=fun i c=>match c with
 | 0=>.v (.int .i64 (s i).id)
 | 1=>.v (.string (s i).name)
 | 2=>.v (.string (s i).set)
 | 3=>.v (.int .i64 (s i).zbi)
 | 4=>.v (.int .i64 (s i).time)
 | 5=>.v (.int .i64 (s i).rs)
 | 6=>.v (.int .i64 (s i).rb)
 | 7=>.s fl 2 (s i).dn (ptrsT (s i).ds (s i).db)
 | _=>.v (.bool false)
section
variable {fl fl' : Fl} {s : Nat -> zB9} {t : Nat -> yY} {i k n : Nat}
theorem zAv:setsE fl s i 0 = .v (.string (s i).name):=rfl
theorem zAw:setsE fl s i 1 = .v (.int .i64 (s i).origin):=rfl
theorem zAx:setsE fl s i 2 = .v (.int .i64 (s i).zbi):=rfl
theorem zAy:setsE fl s i 3 = .v (.int .i64 (s i).rs):=rfl
theorem zAz:setsE fl s i 4 = .v (.int .i64 (s i).rb):=rfl
theorem zA0:setsE fl s i 5 = .s fl 2 (s i).dn (ptrsT (s i).ds (s i).db):=rfl
theorem zAD:snapsE fl t i 0 = .v (.int .i64 (t i).id):=rfl
theorem zAE:snapsE fl t i 1 = .v (.string (t i).name):=rfl
theorem zAF:snapsE fl t i 2 = .v (.string (t i).set):=rfl
theorem zAG:snapsE fl t i 3 = .v (.int .i64 (t i).zbi):=rfl
theorem zAH:snapsE fl t i 4 = .v (.int .i64 (t i).time):=rfl
theorem zAI:snapsE fl t i 5 = .v (.int .i64 (t i).rs):=rfl
theorem zAJ:snapsE fl t i 6 = .v (.int .i64 (t i).rb):=rfl
theorem zAK:snapsE fl t i 7 = .s fl 2 (t i).dn (ptrsT (t i).ds (t i).db):=rfl
theorem yS:(Tr.s fl k n (setsE fl' s)).lend = .s .b k n (setsE .b s):=by
 simp only[Tr.lend];congr 1;funext i c
 match c with
 | 0 | 1 | 2 | 3 | 4=>rfl
 | 5=>exact zb
 | c+6=>rfl
theorem qp:(Tr.s fl k n (snapsE fl' t)).lend = .s .b k n (snapsE .b t):=by
 simp only[Tr.lend];congr 1;funext i c
 match c with
 | 0 | 1 | 2 | 3 | 4 | 5 | 6=>rfl
 | 7=>exact zb
 | c+8=>rfl
end
abbrev woL(W:zB):List Tr:=[.s .b 3 W.pool.n (zY .b W.pool.s),.s .b 1 W.pool.hn (qf W.pool.h),.v (.int .i64 W.time),.v (.int .i64 W.next),.s .b 6 W.sn (setsE .b W.zbh),.s .b 8 W.pn (snapsE .b W.zbg)]
abbrev woT(W:zB):Bool×List Tr:=(true,woL W)
abbrev woO(W:zB):Bool×List Tr:=(true,[.s .o 3 W.pool.n (zY .z W.pool.s),.s .o 1 W.pool.hn (qf W.pool.h),.v (.int .i64 W.time),.v (.int .i64 W.next),.s .o 6 W.sn (setsE .o W.zbh),.s .o 8 W.pn (snapsE .z W.zbg)])
def zaJ(f:Nat->Tr):zB9:=⟨zDJ (f 0),qC (f 1),qC (f 2),qC (f 3),qC (f 4),zEu (f 5),fun i=>qC (zCA (f 5) i 0),fun i=>qC (zCA (f 5) i 1)⟩
def zYP(f:Nat->Tr):yY:=⟨qC (f 0),zDJ (f 1),zDJ (f 2),qC (f 3),qC (f 4),qC (f 5),qC (f 6),zEu (f 7),fun i=>qC (zCA (f 7) i 0),fun i=>qC (zCA (f 7) i 1)⟩
def zB7(f:Nat->Tr):zB:=⟨zEi (f 0) (f 1),qC (f 2),qC (f 3),zEu (f 4),fun i=>zaJ (zCA (f 4) i),zEu (f 5),fun i=>zYP (zCA (f 5) i)⟩
attribute [local go_sem] qX List.map_cons List.map_nil Tr.cv yq qK yA qz yp yo yn qy zBE zBG zBF zBB zBD zBC zCa zCc zCb qP zr qQ zt qI qH qU zAA zo zp yE qO tmpsOf zAo yD qN zBA yw yu yr yx yv stpP opds opd opdC kap zAB qJ zn coreU bin zAe zCK get put dlO fgt zBR zBK zBO zBP tyT yk yj Op.operands Call.operands evLoad evLen evStore evAlloc zAj and_true true_and List.append_nil List.nil_append List.cons_append Ret resCv zB3 yV cellM zBh zCE qV StW StR hpT hpO hpV hpA hpL hpC sg nin zCU bdO tmW obW AvE CsE CvE Av.tup Av.ids Cv.ids inD ObE Ob.ids TrE.refl qM yB yC qR qS qT zq zb zX yz zBa zCL zBH evCall argL argOf qZ outOb obO yM qA cvO tot Tr.own rid partsOf fillC zS zBf frz frz1 evBuildSlice zc trs Cv.tr evSlice Option.toArray_none Option.toArray_some evMakeSlice evAppend dstOf srcOf zA3 zBQ zBN zBL zBM ikT qx qw qv qu RetP RetN zBr qD evLd evSt evStoreH zAh evAppendM evAppendT tlOf mvOf rowE shp evTake oOf evC evCallP evCallN evCallO unlast zAO zA1 zAa argsF zCR qg pmC varT vT evField evConv dB0 Option.bind_some Option.bind_none Option.map_some Option.map_none Option.isSome_some Option.isSome_none
attribute [local go_sem] yL za zA7 yd qr zAv zAw zAx zAy zAz zA0 zAD zAE zAF zAG zAH zAI zAJ zAK yS qp
noncomputable def zA2(n:Nat)(P:Nat->Prop):Int:=@dite _ (∃k,k<n/\P k/\∀j,j<k->¬P j) (Classical.propDecidable _) (fun h=>(h.choose:Int)) (fun _=>-1)
theorem zFU{n k:Nat}{P:Nat->Prop}(h:k<n)(h1:P k)(h2:∀j,j<k->¬P j):zA2 n P=k:=by
 have hx:∃k,k<n/\P k/\∀j,j<k->¬P j:=⟨k,h,h1,h2⟩;unfold zA2;rw[dif_pos hx];obtain⟨-,g1,g2⟩:=hx.choose_spec;rcases Nat.lt_trichotomy hx.choose k with e | e | e
 ·exact absurd g1 (h2 _ e)
 ·exact congrArg _ e
 ·exact absurd h1 (g2 _ e)
theorem zOv{n:Nat}{P:Nat->Prop}(h:∀k,k<n->¬P k):zA2 n P = -1:=dif_neg fun ⟨k,h1,h2,_⟩=>h k h1 h2
theorem zF6(n:Nat)(P:Nat->Prop):zOX n P (zA2 n P):=by
 by_cases hx:∃k,k<n/\P k/\∀j,j<k->¬P j
 ·obtain⟨k,h,h1,h2⟩:=hx;exact .inl ⟨k,h,h1,h2,zFU h h1 h2⟩
 ·have hn:∀m,m<=n->∀j,j<m->¬P j:=fun m=>by
   induction m with
   | zero=>intro _ j hj;omega
   | succ m ih=>
    intro hm j hj hp;by_cases e:j<m
    ·exact ih (by omega) j e hp
    ·cases (show j=m by omega);exact hx ⟨m,by omega,hp,ih (by omega)⟩
  exact .inr ⟨hn n (Nat.le_refl _),zOv (hn n (Nat.le_refl _))⟩
noncomputable def zZw:zR:=qE (fun q:zB×Int=>[woT q.1,iT q.2]) (fun q=>q.1.pn<=1000000) (fun q=>[iT (zA2 q.1.pn fun k=>(q.1.zbg k).id=q.2)])
theorem zBI(W:zB)(x:Int):zZw [woT W,iT x]=some (W.pn<=1000000,[iT (zA2 W.pn fun k=>(W.zbg k).id=x)]):=zK (fun l=>(zB7 (nth l 0),qC (nth l 1 0))) (fun _=>rfl) (W,x)
theorem zCD:zd Tryz.prog 52 zZw:=by
 refine zP zl GOk.nil zk Tryz.func52 rfl Tryz.ntmps52 Tryz.results52 6 ?_;rintro⟨W,x⟩ hn;replace hn:W.pn<=1000000:=hn;refine⟨by simp,?_⟩;simp[go_sem];refine qY (fun k:Nat=>⟨[(2,true,.m false [.p 2 0]),(1,true,.i x),(5,true,.i k)],[(2,.var ((woL W).map Tr.cv))]⟩) (fun k=>W.pn - k) (fun k=>k<=W.pn/\∀i,i<k->(W.zbg i).id≠x) 0 (by simp[go_sem]) (by simp) ?_;rintro k ⟨hk,aA⟩;simp[go_sem,ze (show k<=1000000000 by omega)];refine⟨fun hl=>⟨hl,fun h=>(zFU hl h aA).symm,fun h=>⟨k+1,⟨by omega,qi hl aA h⟩,by omega,rfl⟩⟩,fun hl=>(zOv fun i hi=>aA i (by omega)).symm⟩
noncomputable def zbG:zR:=qE (fun q:zB×ByteArray=>[woT q.1,sT q.2]) (fun q=>q.1.sn<=1000000) (fun q=>[iT (zA2 q.1.sn fun k=>(q.1.zbh k).name=q.2)])
theorem yW(W:zB)(x:ByteArray):zbG [woT W,sT x]=some (W.sn<=1000000,[iT (zA2 W.sn fun k=>(W.zbh k).name=x)]):=zK (fun l=>(zB7 (nth l 0),zDJ (nth l 1 0))) (fun _=>rfl) (W,x)
theorem zCP:zd Tryz.prog 23 zbG:=by
 refine zP zl GOk.nil zk Tryz.func23 rfl Tryz.ntmps23 Tryz.results23 6 ?_;rintro⟨W,x⟩ hn;replace hn:W.sn<=1000000:=hn;refine⟨by simp,?_⟩;simp[go_sem];refine qY (fun k:Nat=>⟨[(2,true,.m false [.p 2 0]),(1,true,.m false [.v (.string x)]),(5,true,.i k)],[(2,.var ((woL W).map Tr.cv))]⟩) (fun k=>W.sn - k) (fun k=>k<=W.sn/\∀i,i<k->(W.zbh i).name≠x) 0 (by simp[go_sem]) (by simp) ?_;rintro k ⟨hk,aA⟩;simp[go_sem,ze (show k<=1000000000 by omega)];refine⟨fun hl=>⟨hl,fun h=>(zFU hl (zCf h) aA).symm,fun h=>⟨k+1,⟨by omega,qi hl aA fun e=>h (congrArg ByteArray.toList e)⟩,by omega,rfl⟩⟩,fun hl=>(zOv fun i hi=>aA i (by omega)).symm⟩
noncomputable def zDS(W:zB)(x:Int):yY:=@ite _ (x=0) (Int.instDecidableEq x 0) zAL (zE W x)
noncomputable def zWa:zR:=qE (fun q:zB×Int=>[woT q.1,iT q.2]) (fun q=>q.1.pn<=1000000) (fun q=>[pT (zDS q.1 q.2).rs (zDS q.1 q.2).rb,iT (zDS q.1 q.2).time])
theorem zDG(W:zB)(x:Int):zWa [woT W,iT x]=some (W.pn<=1000000,[pT (zDS W x).rs (zDS W x).rb,iT (zDS W x).time]):=zK (fun l=>(zB7 (nth l 0),qC (nth l 1 0))) (fun _=>rfl) (W,x)
theorem zCk:zd Tryz.prog 53 zWa:=by
 refine zP zl (GOk.cons zCD (zG Tryz.func52 rfl rfl) GOk.nil) zk Tryz.func53 rfl Tryz.ntmps53 Tryz.results53 7 ?_;rintro⟨W,x⟩ hn;replace hn:W.pn<=1000000:=hn;refine⟨by simp,?_⟩;simp[go_sem,zBI,hn];obtain⟨k,h1,h2,h3,h4⟩ | ⟨h1,h2⟩:=zF6 W.pn fun k=>(W.zbg k).id=x
 ·rw[h4];have ha:zE W x=W.zbg k:=zAc ⟨h1,h2,h3⟩;refine⟨fun h=>?_,fun h0 _=>⟨⟨by omega,by omega⟩,by kernel_rfl,?_⟩⟩
  ·have h0:x=0:=(by omega);rw[show zDS W x=zAL from if_pos h0];exact⟨⟨rfl,rfl⟩,rfl⟩
  ·rw[show zDS W x=zE W x from if_neg h0,ha];exact⟨⟨rfl,rfl⟩,rfl⟩
 ·rw[h2];refine⟨fun _=>?_,fun _ h=>absurd h (by decide)⟩;by_cases h0:x=0
  ·rw[show zDS W x=zAL from if_pos h0];exact⟨⟨rfl,rfl⟩,rfl⟩
  ·rw[show zDS W x=zE W x from if_neg h0,zFx h1];exact⟨⟨rfl,rfl⟩,rfl⟩
def nwW(x:Int):zB:=if 0<=x/\x<=200 then⟨zG8 x.toNat,1,1,0,fun _=>⟨⟨#[]⟩,0,0,0,0,0,fun _=>0,fun _=>0⟩,0,fun _=>zAL⟩else⟨zG8 0,0,0,0,fun _=>⟨⟨#[]⟩,0,0,0,0,0,fun _=>0,fun _=>0⟩,0,fun _=>zAL⟩
noncomputable def zZ2:zR:=qE (fun x:Int=>[iT x]) (fun _=>True) (fun x=>[woO (nwW x)])
theorem zXA(x:Int):zZ2 [iT x]=some (True,[woO (nwW x)]):=zK (fun l=>qC (nth l 0 0)) (fun _=>rfl) x
theorem zPw:zd Tryz.prog 83 zZ2:=by
 refine zP zl (GOk.cons zGy (zG Tryz.func74 rfl rfl) (GOk.cons zRh (zG Tryz.func119 rfl rfl) GOk.nil)) zk Tryz.func83 rfl Tryz.ntmps83 Tryz.results83 4 ?_;rintro x -;refine⟨by simp,?_⟩;simp[go_sem,zL3,zWn];refine⟨fun h=>?_,fun h1 h2=>?_⟩
 ·rw[show nwW x=_ from if_neg fun e=>absurd (h e.1) (by omega)];exact⟨rfl,rfl,rfl,rfl,rfl,rfl⟩
 ·rw[show nwW x=_ from if_pos ⟨h1,h2⟩,show zHs x=x.toNat from if_pos ⟨h1,h2⟩];exact⟨⟨TrE.refl _,zQ⟩,⟨TrE.refl _,zZ⟩,rfl,rfl,rfl,rfl⟩
set_option maxRecDepth 20000
set_option maxHeartbeats 1600000
theorem zJ4{W:zB}{x:Int}:(zA2 W.pn fun k=>(W.zbg k).id=x)<0↔¬zAC W x:=by
 rcases zLY (zF6 W.pn fun k=>(W.zbg k).id=x)with⟨h,h1,-⟩ | ⟨h,h1⟩
 ·exact⟨fun e=>absurd e (by omega),fun e=>absurd h e⟩
 ·rw[h1];exact⟨fun _=>h,fun _=>by decide⟩
theorem zGX{W:zB}{x:Int}:(0<=zA2 W.pn fun k=>(W.zbg k).id=x)↔zAC W x:=by
 rw[<-Int.not_lt,zJ4,Classical.not_not]
theorem zCH{W:zB}{x:ByteArray}:(zA2 W.sn fun k=>(W.zbh k).name=x)<0↔¬zA4 W x:=by
 rcases zUa (zF6 W.sn fun k=>(W.zbh k).name=x)with⟨h,h1⟩ | ⟨h,h1⟩
 ·exact⟨fun e=>absurd e (by omega),fun e=>absurd h e⟩
 ·rw[h1];exact⟨fun _=>h,fun _=>by decide⟩
theorem zAp{W:zB}{x:ByteArray}:(0<=zA2 W.sn fun k=>(W.zbh k).name=x)↔zA4 W x:=by
 rw[<-Int.not_lt,zCH,Classical.not_not]
theorem zZ9{k:Nat}(h:k<=1000000000):IntKind.i64.wrap ((k:Int) - 1)=(k:Int) - 1:=by
 unfold IntKind.wrap;simp[IntKind.signed,IntKind.bits];omega
theorem tn1{k:Nat}:((k:Int) - 1).toNat=k - 1:=by omega
attribute [local go_sem] qX List.map_cons List.map_nil Tr.cv yq qK yA qz yp yo yn qy zBE zBG zBF zBB zBD zBC zCa zCc zCb qP zr qQ zt qI qH qU zAA zo zp yE qO tmpsOf zAo yD qN zBA yw yu yr yx yv stpP opds opd opdC kap zAB qJ zn coreU bin zAe zCK get put dlO fgt zBR zBK zBO zBP tyT yk yj Op.operands Call.operands evLoad evLen evStore evAlloc zAj and_true true_and List.append_nil List.nil_append List.cons_append Ret resCv zB3 yV cellM zBh zCE qV StW StR hpT hpO hpV hpA hpL hpC sg nin zCU bdO tmW obW AvE CsE CvE Av.tup Av.ids Cv.ids inD ObE Ob.ids TrE.refl qM yB yC qR qS qT zq zb zX yz zBa zCL zBH evCall argL argOf qZ outOb obO yM qA cvO tot Tr.own rid partsOf fillC zS zBf frz frz1 evBuildSlice zc trs Cv.tr evSlice Option.toArray_none Option.toArray_some evMakeSlice evAppend dstOf srcOf zA3 zBQ zBN zBL zBM ikT qx qw qv qu RetP RetN zBr qD evLd evSt evStoreH zAh evAppendM evAppendT tlOf mvOf rowE shp evTake oOf evC evCallP evCallN evCallO unlast zAO zA1 zAa argsF zCR qg pmC varT vT evField evConv dB0 Option.bind_some Option.bind_none Option.map_some Option.map_none Option.isSome_some Option.isSome_none
attribute [local go_sem] yL za zA7 yd qr zAv zAw zAx zAy zAz zA0 zAD zAE zAF zAG zAH zAI zAJ zAK yS qp
noncomputable def zZj:zR:=qE (fun s:ByteArray=>[sT s]) (fun _=>True) (fun s=>bR (zDM s))
theorem zDW(s:ByteArray):zZj [sT s]=some (True,bR (zDM s)):=zK (fun l=>zDJ (nth l 0 0)) (fun _=>rfl) s
theorem zEL:zd Tryz.prog 75 zZj:=by
 refine zP zl GOk.nil zk Tryz.func75 rfl Tryz.ntmps75 Tryz.results75 5 ?_;rintro s -;refine⟨by simp,?_⟩;simp[go_sem];refine⟨fun h=>?_,fun h1 h2=>?_⟩
 ·exact fun hN=>by have h1:=hN.1;have h2:=hN.2.1;omega
 refine qY (fun k:Nat=>⟨[(0,true,.m false [.v (.string s)]),(3,true,.i k)],[]⟩) (fun k=>s.size - k) (fun k=>k<=s.size/\∀j,(h:j<k)->(h':j<s.size)->zFu j (s[j].toNat:Int)) 0 (by simp[go_sem]) (by simp) ?_;rintro k ⟨hk,aA⟩;simp[go_sem,ze (show k<=1000000000 by omega)];refine⟨fun hl=>?_,fun hl=>⟨by omega,by omega,fun j hj=>aA j (by omega) hj⟩⟩;have e:s[k]?.getD 0=s[k]:=by simp[hl]
 rw[e];obtain⟨c,hc⟩:∃c:Int,c=(s[k].toNat:Int):=⟨_,rfl⟩;have ho:zDM s->zFu k c:=fun hN=>hc▸hN.2.2 k hl
 have hn:zFu k c->∀j,(h:j<k+1)->(h':j<s.size)->zFu j (s[j].toNat:Int):=fun h j hj bA=>by
  by_cases e:j=k
  ·subst e;rw[<-hc];exact h
  ·exact aA j (by omega) bA
 rw[<-hc];unfold zFu at ho;refine⟨hl,fun a b c=>⟨⟨a,b⟩,c⟩,fun a b c=>⟨⟨a,b⟩,c⟩,fun a b=>⟨a,b⟩,fun a b hN=>?_,fun h=>⟨k+1,⟨by omega,hn ?_⟩,by omega,rfl⟩⟩
 ·have:=ho hN;omega
 ·unfold zFu;omega
noncomputable def zWl:zR:=qE (fun W:zB=>[woT W]) (fun W=>W.sn<=1000000/\W.pn<=1000000) (fun W=>bR (zAU W))
theorem zUt(W:zB):zWl [woT W]=some (W.sn<=1000000/\W.pn<=1000000,bR (zAU W)):=zK (fun l=>zB7 (nth l 0)) (fun _=>rfl) W
theorem zQe:zd Tryz.prog 36 zWl:=by
 refine zP zl (GOk.cons zGy (zG Tryz.func74 rfl rfl) (GOk.cons zCP (zG Tryz.func23 rfl rfl) (GOk.cons zCD (zG Tryz.func52 rfl rfl) (GOk.cons zEL (zG Tryz.func75 rfl rfl) GOk.nil)))) zk Tryz.func36 rfl Tryz.ntmps36 Tryz.results36 8 ?_;rintro W ⟨hn,hm⟩;refine⟨by simp,?_⟩;simp[go_sem,zL3];refine⟨fun h hN=>?_,fun a1 a2 b1 b2 c1 c2=>?_⟩
 ·obtain⟨h1,h2,h3,h4,-⟩:=hN;unfold zHN at h1 h2;omega
 refine qY (fun k:Nat=>⟨[(1,true,.m false [.p 1 0]),(3,true,.i k)],[(1,.var ((woL W).map Tr.cv))]⟩) (fun k=>W.sn - k) (fun k=>k<=W.sn/\∀i,i<k->zK8 W i) 0 (by simp[go_sem]) (by simp) ?_;rintro k ⟨hk,cA⟩;simp[go_sem,ze (show k<=1000000000 by omega),zDW,zBI,yW,hm,hn,zJ4,zGX,zCH,zAp,zZ9 (show k<=1000000000 by omega),tn1];refine⟨fun hl=>?_,fun hl=>?_⟩
 ·have hS:zAU W->zK8 W k:=fun hN=>hN.2.2.2.2.1 k hl
  have hI:zK8 W k->∃a':Nat,(a'<=W.sn/\∀i,i<a'->zK8 W i)/\W.sn - a'<W.sn - k/\(k:Int)+1=(a':Int):=fun h=>⟨k+1,⟨by omega,qi hl cA h⟩,by omega,rfl⟩
  obtain⟨Q,hQ⟩:∃Q,Q=zK8 W k:=⟨_,rfl⟩;rw[<-hQ]at hS hI;unfold zK8 zCW at hQ;refine⟨hl,fun _ _=>⟨by omega,by omega⟩,?_,?_,?_,?_,?_,by kernel_rfl,fun h hN=>?_,fun h1 h2 h3 h4=>hI ?_⟩
  ·grind
  ·grind
  ·grind
  ·grind
  ·grind
  ·have:=hS hN
   grind
  ·grind
 cases (show k=W.sn by omega);refine qY (fun k:Nat=>⟨[(1,true,.m false [.p 1 0]),(5,true,.i k)],[(1,.var ((woL W).map Tr.cv))]⟩) (fun k=>W.pn - k) (fun k=>k<=W.pn/\∀i,i<k->zRl W i) 0 (by simp[go_sem]) (by simp) ?_;rintro k ⟨hk,aA⟩;simp[go_sem,ze (show k<=1000000000 by omega),zDW,zBI,yW,hm,hn,zJ4,zGX,zCH,zAp,zZ9 (show k<=1000000000 by omega),tn1];refine⟨fun hl=>?_,fun hl=>⟨⟨a1,a2⟩,⟨b1,b2⟩,by omega,by omega,cA,fun i hi=>aA i (by omega)⟩⟩;have hS:zAU W->zRl W k:=fun hN=>hN.2.2.2.2.2 k hl
 refine⟨hl,fun h hN=>?_,fun s1 s2 s3 s4 s5 s6=>⟨fun _=>⟨by omega,by omega⟩,fun _ _=>⟨by omega,by omega⟩,?_,?_,?_,?_,by kernel_rfl,fun h hN=>?_,fun p1 p2=>?_⟩⟩
 ·obtain⟨q1,q2,q3,q4,q5,q6⟩:=(hS hN).1
  grind
 ·grind
 ·grind
 ·grind
 ·grind
 ·obtain⟨q1,q2⟩:=(hS hN).2.1
  grind
 have hB:zZO W k:=⟨p1,p2⟩;refine qY (fun j:Nat=>⟨[(1,true,.m false [.p 1 0]),(5,true,.i k),(6,true,.m false [.p 6 0]),(7,true,.i j)],[(6,.var [.v (.int .i64 (W.zbg k).id),.v (.string (W.zbg k).name),.v (.string (W.zbg k).set),.v (.int .i64 (W.zbg k).zbi),.v (.int .i64 (W.zbg k).time),.v (.int .i64 (W.zbg k).rs),.v (.int .i64 (W.zbg k).rb),.s .b 2 (W.zbg k).dn (ptrsT (W.zbg k).ds (W.zbg k).db)]),(1,.var ((woL W).map Tr.cv))]⟩) (fun j=>k - j) (fun j=>j<=k/\zZP W k j) 0 (by simp[go_sem]) ⟨Nat.zero_le _,fun j hj=>absurd hj (Nat.not_lt_zero _)⟩ ?_;rintro j ⟨hj,hc⟩;simp[go_sem,ze (show j<=1000000000 by omega),ze (show k<=1000000000 by omega)];refine⟨fun bA=>⟨by omega,fun _=>by omega,by kernel_rfl,fun g1 g2 hN=>(hS hN).2.2 j bA ⟨zCf g1,zCf g2⟩,fun g=>⟨j+1,⟨by omega,fun i hi=>?_⟩,by omega,rfl⟩⟩,fun bA=>⟨k+1,⟨by omega,qi hl aA ⟨⟨s1,s2,s3,s4,s5,s6⟩,hB,fun i hi=>hc i (by omega)⟩⟩,by omega,rfl⟩⟩;by_cases e:i=j
 ·subst e;exact fun h=>g (congrArg ByteArray.toList h.1) (congrArg ByteArray.toList h.2)
 ·exact hc i (by omega)
open Go.Maps
open Classical in
noncomputable def zDc(W:zB)(name:ByteArray):Nat->Nat
 | 0=>0
 | k+1=>zDc W name k+(if (W.zbg k).set=name then 1 else 0)
theorem zMP{W:zB}{name:ByteArray}{k:Nat}(h:(W.zbg k).set=name):zDc W name (k+1)=zDc W name k+1:=by simp[zDc,h]
theorem zPO{W:zB}{name:ByteArray}{k:Nat}(h:¬(W.zbg k).set=name):zDc W name (k+1)=zDc W name k:=by simp[zDc,h]
theorem zKq(W:zB)(name:ByteArray):∀k,zDc W name k<=k
 | 0=>Nat.le_refl _
 | k+1=>by
  have:=zKq W name k;by_cases h:(W.zbg k).set=name
  ·rw[zMP h];omega
  ·rw[zPO h];omega
inductive Steps (W:zB) (name:ByteArray) (start:Int):Nat->Int->Prop
 | zero:Steps W name start 0 start
 | next {n:Nat} {x:Int} {k:Nat}:Steps W name start n x->zAl W x k->(W.zbg k).set=name->Steps W name start (n+1) (W.zbg k).zbi
def zGT(W:zB)(name:ByteArray)(x:Int):Prop:=∃k,zAl W x k/\(W.zbg k).set=name
def zGh(W:zB)(name:ByteArray)(start origin:Int):Prop:=∃n e,Steps W name start n e/\¬zGT W name e/\n=zDc W name W.pn/\e=origin
theorem Steps.det{W:zB}{name:ByteArray}{start:Int}:∀{n:Nat} {x y:Int},Steps W name start n x->Steps W name start n y->x=y
 | 0,_,_,.zero,.zero=>rfl
 | n+1,_,_,.next h hk _,.next h' hk' _=>by
  have e:=Steps.det h h';subst e;rw[zAl.uniq hk hk']
theorem Steps.less{W:zB}{name:ByteArray}{start:Int}:∀{n m:Nat} {x:Int},Steps W name start m x->n<m->∃y,Steps W name start n y/\zGT W name y
 | n,0,_,_,h=>absurd h (Nat.not_lt_zero _)
 | n,m+1,_,.next (x:=x) h hk hs,hl=>by
  by_cases e:n=m
  ·subst e;exact⟨x,h,_,hk,hs⟩
  ·exact Steps.less h (by omega)
theorem Steps.end{W:zB}{name:ByteArray}{start:Int}{n m:Nat}{x y:Int}(h:Steps W name start n x)(hx:¬zGT W name x)(h':Steps W name start m y)(hy:¬zGT W name y):n=m/\x=y:=by
 have e:n=m:=by
  rcases Nat.lt_trichotomy n m with hl | hl | hl
  ·obtain⟨z,hz,ho⟩:=h'.less hl;rw[h.det hz]at hx;exact absurd ho hx
  ·exact hl
  ·obtain⟨z,hz,ho⟩:=h.less hl;rw[h'.det hz]at hy;exact absurd ho hy
 subst e;exact⟨rfl,h.det h'⟩
theorem zQj{W:zB}{name:ByteArray}{start origin:Int}{n:Nat}{x:Int}(h:Steps W name start n x)(hx:¬zGT W name x):zGh W name start origin↔n=zDc W name W.pn/\x=origin:=by
 constructor
 ·rintro⟨m,y,hs,hy,h1,h2⟩;obtain⟨rfl,rfl⟩:=h.end hx hs hy;exact⟨h1,h2⟩
 ·rintro⟨h1,h2⟩;exact⟨n,x,h,hx,h1,h2⟩
theorem zAC.no{W:zB}{x:Int}(h:zAC W x):∃k,zAl W x k:=zJm (Nat.le_refl _) h
structure zEc (W:zB):Prop where
 ids:∀k,k<W.pn->1<=(W.zbg k).id/\(W.zbg k).id<900000
 zbi:∀k,k<W.pn->(W.zbg k).zbi=0\/zAC W (W.zbg k).zbi
 less:∀k,k<W.pn->(W.zbg k).zbi<(W.zbg k).id
 zbh:∀k,k<W.sn->(W.zbh k).zbi=0\/zAC W (W.zbh k).zbi
 zbj:∀k,k<W.sn->(W.zbh k).name.toList.isEmpty=false
theorem zEc.pos{W:zB}(h:zEc W):zOZ W:=fun k hk=>(h.ids k hk).1
theorem zAC.range{W:zB}(h:zEc W){x:Int}(hx:zAC W x):1<=x/\x<900000:=by
 obtain⟨k,hk,rfl⟩:=hx;exact h.ids k hk
theorem zFH{s:ByteArray}(h:zDM s):s.toList.isEmpty=false:=by
 have:=h.1;rw[Go.ByteArray.toList_eq];cases s with
 | mk d=>
  cases hd:d.toList with
  | nil=>
   have h0:d.size=0:=(by rw[<-Array.length_toList,hd];rfl);have h1:1<=d.size:=this;omega
  | cons a l=>simp
theorem zAU.zbf{W:zB}(h:zAU W):zEc W where
 ids:=fun k hk=>⟨(h.2.2.2.2.2 k hk).1.1,by have:=(h.2.2.2.2.2 k hk).1.2.1;have:=h.2.1.2;omega⟩
 zbi:=fun k hk=>by
  by_cases e:(W.zbg k).zbi=0
  ·exact Or.inl e
  ·exact Or.inr ((h.2.2.2.2.2 k hk).2.1.2 e).2
 less:=fun k hk=>by
  by_cases e:(W.zbg k).zbi=0
  ·have:=(h.2.2.2.2.2 k hk).1.1;omega
  ·exact((h.2.2.2.2.2 k hk).2.1.2 e).1
 zbh:=fun k hk=>by
  by_cases e:(W.zbh k).zbi=0
  ·exact Or.inl e
  ·exact Or.inr ((h.2.2.2.2.1 k hk).2.2.1 e)
 zbj:=fun k hk=>zFH (h.2.2.2.2.1 k hk).1
structure zC7 (W:zB) (name:ByteArray) (start:Int) (n:Nat) (x:Int):Prop where
 steps:Steps W name start n x
 there:x=0\/zAC W x
 least:0<=x
 sum:(n:Int)+x<=900000
theorem zC7.start{W:zB}(h:zEc W)(name:ByteArray){x:Int}(hx:x=0\/zAC W x):zC7 W name x 0 x where
 steps:=.zero
 there:=hx
 least:=by rcases hx with rfl | hx;exact Int.le_refl _;have:=hx.range h;omega
 sum:=by rcases hx with rfl | hx;decide;have:=hx.range h;omega
theorem zC7.next{W:zB}(h:zEc W){name:ByteArray}{start:Int}{n:Nat}{x:Int}(hw:zC7 W name start n x){k:Nat}(hk:zAl W x k)(hs:(W.zbg k).set=name):zC7 W name start (n+1) (W.zbg k).zbi where
 steps:=hw.steps.next hk hs
 there:=h.zbi k hk.1
 least:=by rcases h.zbi k hk.1 with e | e;omega;have:=e.range h;omega
 sum:=by have h1:=h.less k hk.1;have h2:=hw.sum;have h3:=hk.2.1;omega
theorem zI0{W:zB}(h:zEc W)(name:ByteArray):¬zGT W name 0:=fun ⟨k,hk,_⟩=>by
 have:=(h.ids k hk.1).1;have:=hk.2.1;omega
theorem zMG{W:zB}{name:ByteArray}{x:Int}{k:Nat}(hk:zAl W x k)(hs:¬(W.zbg k).set=name):¬zGT W name x:=fun ⟨j,hj,e⟩=>hs (by rw[zAl.uniq hk hj];exact e)
set_option linter.unusedSimpArgs false
set_option maxRecDepth 20000
set_option maxHeartbeats 1600000
def zIQ(W:zB)(i:Nat):Prop:=zGh W (W.zbh i).name (W.zbh i).zbi (W.zbh i).origin
attribute [local go_sem] qX List.map_cons List.map_nil Tr.cv yq qK yA qz yp yo yn qy zBE zBG zBF zBB zBD zBC zCa zCc zCb qP zr qQ zt qI qH qU zAA zo zp yE qO tmpsOf zAo yD qN zBA yw yu yr yx yv stpP opds opd opdC kap zAB qJ zn coreU bin zAe zCK get put dlO fgt zBR zBK zBO zBP tyT yk yj Op.operands Call.operands evLoad evLen evStore evAlloc zAj and_true true_and List.append_nil List.nil_append List.cons_append Ret resCv zB3 yV cellM zBh zCE qV StW StR hpT hpO hpV hpA hpL hpC sg nin zCU bdO tmW obW AvE CsE CvE Av.tup Av.ids Cv.ids inD ObE Ob.ids TrE.refl qM yB yC qR qS qT zq zb zX yz zBa zCL zBH evCall argL argOf qZ outOb obO yM qA cvO tot Tr.own rid partsOf fillC zS zBf frz frz1 evBuildSlice zc trs Cv.tr evSlice Option.toArray_none Option.toArray_some evMakeSlice evAppend dstOf srcOf zA3 zBQ zBN zBL zBM ikT qx qw qv qu RetP RetN zBr qD evLd evSt evStoreH zAh evAppendM evAppendT tlOf mvOf rowE shp evTake oOf evC evCallP evCallN evCallO unlast zAO zA1 zAa argsF zCR qg pmC varT vT evField evConv dB0 Option.bind_some Option.bind_none Option.map_some Option.map_none Option.isSome_some Option.isSome_none
attribute [local go_sem] yL za zA7 yd qr zAv zAw zAx zAy zAz zA0 zAD zAE zAF zAG zAH zAI zAJ zAK yS qp
noncomputable def zTY:zR:=qE (fun W:zB=>[woT W]) (fun W=>zAU W) (fun W=>bR (∀i,i<W.sn->zIQ W i))
theorem zSZ(W:zB):zTY [woT W]=some (zAU W,bR (∀i,i<W.sn->zIQ W i)):=zK (fun l=>zB7 (nth l 0)) (fun _=>rfl) W
theorem zO7:zd Tryz.prog 37 zTY:=by
 refine zP zl (GOk.cons zCD (zG Tryz.func52 rfl rfl) GOk.nil) zk Tryz.func37 rfl Tryz.ntmps37 Tryz.results37 8 ?_;rintro W hN;replace hN:zAU W:=hN;have eA:W.sn<=8:=hN.2.2.1;have dA:W.pn<=20:=hN.2.2.2.1;have hm:W.pn<=1000000:=by omega
 have hP:=hN.zbf;refine⟨by simp,?_⟩;simp[go_sem];refine qY (fun k:Nat=>⟨[(1,true,.m false [.p 1 0]),(3,true,.i k)],[(1,.var ((woL W).map Tr.cv))]⟩) (fun k=>W.sn - k) (fun k=>k<=W.sn/\∀i,i<k->zIQ W i) 0 (by simp[go_sem]) (by simp) ?_;rintro k ⟨hk,cA⟩;simp[go_sem,ze (show k<=1000000000 by omega)];refine⟨fun hl=>?_,fun hl i hi=>cA i (by omega)⟩;refine qY (fun j:Nat=>⟨[(1,true,.m false [.p 1 0]),(3,true,.i k),(4,true,.m false [.v (.int .i64 0)]),(5,true,.i (zDc W (W.zbh k).name j)),(6,true,.i j)],[(1,.var ((woL W).map Tr.cv))]⟩) (fun j=>W.pn - j) (fun j=>j<=W.pn) 0 (by simp[go_sem,zDc]) (Nat.zero_le _) ?_;rintro j hj;have ho:=zKq W (W.zbh k).name j;simp[go_sem,ze (show j<=1000000000 by omega),ze (show zDc W (W.zbh k).name j<=1000000000 by omega)];refine⟨fun bA=>⟨bA,hl,by kernel_rfl,fun h=>⟨j+1,bA,by omega,by rw[zMP (zCf h)];rfl,rfl⟩,fun h=>⟨j+1,bA,by omega,by rw[zPO fun e=>h (congrArg ByteArray.toList e)],rfl⟩⟩,fun bA=>⟨hl,?_⟩⟩;cases (show j=W.pn by omega);refine qY (fun q:Nat×Int=>⟨[(1,true,.m false [.p 1 0]),(3,true,.i k),(4,true,.i q.1),(5,true,.i (zDc W (W.zbh k).name W.pn)),(7,true,.m false [.v (.int .i64 q.2)])],[(1,.var ((woL W).map Tr.cv))]⟩) (fun q=>1000000 - q.1) (fun q=>zC7 W (W.zbh k).name (W.zbh k).zbi q.1 q.2) (0,(W.zbh k).zbi) (by simp[go_sem]) (zC7.start hP _ (hP.zbh k hl)) ?_;rintro⟨a,x⟩ hw;replace hw:zC7 W (W.zbh k).name (W.zbh k).zbi a x:=hw;have ha:a<=900000:=by have:=hw.least;have:=hw.sum;omega
 simp[go_sem,zBI,hm,ze (show a<=1000000000 by omega),ze (show k<=1000000000 by omega)];have aA:¬zGT W (W.zbh k).name x->(¬(a:Int)=(zDc W (W.zbh k).name W.pn:Nat)\/¬x=(W.zbh k).origin->∃x,x<W.sn/\¬zIQ W x)/\((a:Int)=(zDc W (W.zbh k).name W.pn:Nat)->x=(W.zbh k).origin->∃a':Nat,(a'<=W.sn/\∀i,i<a'->zIQ W i)/\W.sn - a'<W.sn - k/\(k:Int)+1=(a':Int)):=fun ho=>by
  have hi:=zQj (origin:=(W.zbh k).origin) hw.steps ho;refine⟨fun h=>⟨k,hl,fun hc=>?_⟩,fun h1 h2=>⟨k+1,⟨by omega,qi hl cA (hi.2 ⟨by exact_mod_cast h1,h2⟩)⟩,by omega,rfl⟩⟩;obtain⟨g1,g2⟩:=hi.1 hc;exact h.elim (fun h=>h (by exact_mod_cast g1)) (fun h=>h g2)
 by_cases hx:x=0
 ·subst hx;exact⟨fun h=>absurd rfl h,fun h=>absurd rfl h,by kernel_rfl,fun h=>absurd rfl h,fun _=>⟨fun _=>hl,aA (zI0 hP _)⟩⟩
 ·obtain⟨q,hq⟩:=(hw.there.resolve_left hx).no;have e:(zA2 W.pn fun k=>(W.zbg k).id=x)=q:=zFU hq.1 hq.2.1 hq.2.2;have:=hq.1;rw[e,Int.toNat_natCast];exact⟨fun _=>⟨by omega,by omega⟩,fun _=>hl,by kernel_rfl,fun _ h=>⟨⟨by omega,by omega⟩,by kernel_rfl,a+1,_,hw.next hP hq (zCf h),by omega,rfl,rfl⟩,fun h=>⟨fun _=>hl,aA (zMG hq fun e=>h hx (congrArg ByteArray.toList e))⟩⟩
set_option maxRecDepth 20000
set_option maxHeartbeats 1600000
attribute [local go_sem] qX List.map_cons List.map_nil Tr.cv yq qK yA qz yp yo yn qy zBE zBG zBF zBB zBD zBC zCa zCc zCb qP zr qQ zt qI qH qU zAA zo zp yE qO tmpsOf zAo yD qN zBA yw yu yr yx yv stpP opds opd opdC kap zAB qJ zn coreU bin zAe zCK get put dlO fgt zBR zBK zBO zBP tyT yk yj Op.operands Call.operands evLoad evLen evStore evAlloc zAj and_true true_and List.append_nil List.nil_append List.cons_append Ret resCv zB3 yV cellM zBh zCE qV StW StR hpT hpO hpV hpA hpL hpC sg nin zCU bdO tmW obW AvE CsE CvE Av.tup Av.ids Cv.ids inD ObE Ob.ids TrE.refl qM yB yC qR qS qT zq zb zX yz zBa zCL zBH evCall argL argOf qZ outOb obO yM qA cvO tot Tr.own rid partsOf fillC zS zBf frz frz1 evBuildSlice zc trs Cv.tr evSlice Option.toArray_none Option.toArray_some evMakeSlice evAppend dstOf srcOf zA3 zBQ zBN zBL zBM ikT qx qw qv qu RetP RetN zBr qD evLd evSt evStoreH zAh evAppendM evAppendT tlOf mvOf rowE shp evTake oOf evC evCallP evCallN evCallO unlast zAO zA1 zAa argsF zCR qg pmC varT vT evField evConv dB0 Option.bind_some Option.bind_none Option.map_some Option.map_none Option.isSome_some Option.isSome_none
abbrev psT(n:Nat)(f g:Nat->Int):Bool×List Tr:=(false,[.s .b 2 n (ptrsT f g)])
abbrev psO(l:List (Int×Int)):Bool×List Tr:=(false,[.s .o 2 l.length (ptL l)])
def zUW(a:Tr):Nat×(Nat->Int)×(Nat->Int):=(zEu a,fun i=>qC (zCA a i 0),fun i=>qC (zCA a i 1))
noncomputable def mIn:zR:=qE (fun q:(Nat×(Nat->Int)×(Nat->Int))×Int×Int=>[psT q.1.1 q.1.2.1 q.1.2.2,pT q.2.1 q.2.2]) (fun q=>q.1.1<=1000000) (fun q=>bR (PIn q.1.1 q.1.2.1 q.1.2.2 q.2.1 q.2.2))
theorem zGH(n:Nat)(f g:Nat->Int)(a b:Int):mIn [psT n f g,pT a b]=some (n<=1000000,bR (PIn n f g a b)):=zK (fun l=>(zUW (nth l 0 0),qC (nth l 1 0),qC (nth l 1 1))) (fun _=>rfl) ((n,f,g),a,b)
theorem zGz:zd Tryz.prog 54 mIn:=by
 refine zP zl GOk.nil zk Tryz.func54 rfl Tryz.ntmps54 Tryz.results54 6 ?_;rintro⟨⟨n,f,g⟩,a,b⟩ hn;replace hn:n<=1000000:=hn;refine⟨by simp,?_⟩;simp[go_sem];refine qY (fun k:Nat=>⟨[(3,true,.m false [.p 3 0]),(0,true,.m false [.s .b 2 n (ptrsT f g)]),(5,true,.i k)],[(3,.var [.v (.int .i64 a),.v (.int .i64 b)])]⟩) (fun k=>n - k) (fun k=>k<=n/\∀i,i<k->¬(f i=a/\g i=b)) 0 (by simp[go_sem]) (by simp) ?_;rintro k ⟨hk,aA⟩;simp[go_sem,ze (show k<=1000000000 by omega)];refine⟨fun hl=>⟨hl,by kernel_rfl,fun h1 h2=>⟨k,hl,h1,h2⟩,fun h=>⟨k+1,⟨by omega,fun i hi h1 h2=>?_⟩,by omega,rfl⟩⟩,fun hl ⟨j,h1,h2⟩=>aA j (by omega) h2⟩;rcases Nat.lt_succ_iff_lt_or_eq.1 hi with h3 | rfl
 ·exact aA i h3 ⟨h1,h2⟩
 ·exact h h1 h2
noncomputable def zW0:zR:=qE (fun q:(Nat×(Nat->Int)×(Nat->Int))×Int=>[psT q.1.1 q.1.2.1 q.1.2.2,iT q.2]) (fun q=>q.1.1<=1000000) (fun q=>[psO (zAP q.1.2.1 q.1.2.2 q.2 q.1.1),psO (zEI q.1.2.1 q.1.2.2 q.2 q.1.1)])
theorem zFY(n:Nat)(f g:Nat->Int)(t:Int):zW0 [psT n f g,iT t]=some (n<=1000000,[psO (zAP f g t n),psO (zEI f g t n)]):=zK (fun l=>(zUW (nth l 0 0),qC (nth l 1 0))) (fun _=>rfl) ((n,f,g),t)
theorem zE4:zd Tryz.prog 146 zW0:=by
 refine zP zl GOk.nil zk Tryz.func146 rfl Tryz.ntmps146 Tryz.results146 9 ?_;rintro⟨⟨n,f,g⟩,t⟩ hn;replace hn:n<=1000000:=hn;refine⟨by simp,?_⟩;simp[go_sem];refine qY (fun k:Nat=>⟨[(6,true,.m false [.h 7]),(7,true,.m false [.h 8]),(0,true,.m false [.s .b 2 n (ptrsT f g)]),(1,true,.i t),(8,true,.i k)],[(7,.row 2 (zAP f g t k).length (ptL (zAP f g t k))),(8,.row 2 (zEI f g t k).length (ptL (zEI f g t k)))]⟩) (fun k=>n - k) (fun k=>k<=n) 0 (by simp[go_sem,zAP,zEI];exact zET rfl) (by simp) ?_;rintro k hk;have hl:=zFr f g t k;simp[go_sem,ze (show k<=1000000000 by omega)];refine⟨fun aA=>⟨aA,fun h=>⟨aA,by omega,k+1,by omega,by omega,by omega,zC4 zEP (by simp[zAP,h]),zBv (by simp[zEI,h])⟩,fun h=>⟨aA,by omega,k+1,by omega,by omega,by omega,zBv (by simp[zAP,Int.not_lt.2 h]),zC4 zEP (by simp[zEI,Int.not_lt.2 h])⟩⟩,fun aA=>?_⟩;cases (show k=n from by omega);exact⟨⟨zBv rfl,zCh⟩,zBv rfl,zCh⟩
noncomputable def zZr:zR:=qE (fun q:Nat×(Nat->Int)×(Nat->Int)=>[psT q.1 q.2.1 q.2.2]) (fun q=>q.1<=1000000) (fun q=>bR (zAs q.1 q.2.1 q.2.2))
theorem zWs(n:Nat)(f g:Nat->Int):zZr [psT n f g]=some (n<=1000000,bR (zAs n f g)):=zK (fun l=>zUW (nth l 0 0)) (fun _=>rfl) (n,f,g)
theorem zOc:zd Tryz.prog 112 zZr:=by
 refine zP zl (GOk.cons zGy (zG Tryz.func74 rfl rfl) (GOk.cons zGx (zG Tryz.func110 rfl rfl) GOk.nil)) zk Tryz.func112 rfl Tryz.ntmps112 Tryz.results112 5 ?_;rintro⟨n,f,g⟩ hn;replace hn:n<=1000000:=hn;refine⟨by simp,?_⟩;simp[go_sem];refine⟨fun h1 h=>by have:=h.1;omega,fun h1=>?_⟩;refine qY (fun k:Nat=>⟨[(0,true,.m false [.s .b 2 n (ptrsT f g)]),(3,true,.i k)],[]⟩) (fun k=>n - k) (fun k=>k<=n/\∀i,i<k->zGi (f i) (g i)/\∀j,j<i->f j≠f i) 0 (by simp[go_sem]) (by simp) ?_;rintro k ⟨hk,cA⟩;simp[go_sem,ze (show k<=1000000000 by omega),zL3,zJb];refine⟨fun hl=>?_,fun hl=>⟨by omega,fun i hi=>(cA i (by omega)).1,fun i hi=>(cA i (by omega)).2⟩⟩;refine⟨hl,fun _ _=>hl,fun h h'=>?_,fun g1 g2 g3=>?_⟩
 ·have:=(h'.2.1 k hl);unfold zGi at this;unfold zBT at h;omega
 refine qY (fun j:Nat=>⟨[(0,true,.m false [.s .b 2 n (ptrsT f g)]),(3,true,.i k),(4,true,.i j)],[]⟩) (fun j=>k - j) (fun j=>j<=k/\∀i,i<j->f i≠f k) 0 (by simp[go_sem]) (by simp) ?_;rintro j ⟨hj,aA⟩;simp[go_sem,ze (show j<=1000000000 by omega),ze (show k<=1000000000 by omega)];exact⟨fun bA=>⟨by omega,hl,by kernel_rfl,fun h h'=>h'.2.2 k hl j bA h,fun h=>⟨j+1,⟨by omega,qi bA aA h⟩,by omega,rfl⟩⟩,fun bA=>⟨k+1,⟨by omega,qi hl cA ⟨by unfold zGi;unfold zBT at g3;omega,fun i hi=>aA i (by omega)⟩⟩,by omega,rfl⟩⟩
noncomputable def zZu:zR:=qE (fun q:(Nat×(Nat->Int)×(Nat->Int))×Nat×(Nat->Int)×(Nat->Int)=>[psT q.1.1 q.1.2.1 q.1.2.2,psT q.2.1 q.2.2.1 q.2.2.2]) (fun q=>q.1.1<=1000000/\q.2.1<=1000000) (fun q=>bR (zGU q.1.1 q.1.2.1 q.1.2.2 q.2.1 q.2.2.1 q.2.2.2))
theorem zWx(n:Nat)(f g:Nat->Int)(n':Nat)(f' g':Nat->Int):zZu [psT n f g,psT n' f' g']=some (n<=1000000/\n'<=1000000,bR (zGU n f g n' f' g')):=zK (fun l=>(zUW (nth l 0 0),zUW (nth l 1 0))) (fun _=>rfl) ((n,f,g),n',f',g')
theorem zPq:zd Tryz.prog 78 zZu:=by
 refine zP zl (GOk.cons zOc (zG Tryz.func112 rfl rfl) (GOk.cons zGz (zG Tryz.func54 rfl rfl) GOk.nil)) zk Tryz.func78 rfl Tryz.ntmps78 Tryz.results78 6 ?_;rintro⟨⟨n,f,g⟩,n',f',g'⟩ ⟨hn,aA⟩;replace hn:n<=1000000:=hn;replace aA:n'<=1000000:=aA;refine⟨by simp,?_⟩;simp[go_sem,zWs,hn,aA];refine⟨fun h h'=>?_,fun h1 h2 h3=>?_⟩
 ·have:=h'.2.2.1;rcases h with(h | h) | h
  ·exact h h'.1
  ·exact h h'.2.1
  ·omega
 refine qY (fun k:Nat=>⟨[(0,true,.m false [.s .b 2 n (ptrsT f g)]),(1,true,.m false [.s .b 2 n' (ptrsT f' g')]),(5,true,.i k)],[]⟩) (fun k=>n - k) (fun k=>k<=n/\∀i,i<k->PIn n' f' g' (f i) (g i)) 0 (by simp[go_sem]) (by simp) ?_;rintro k ⟨hk,bA⟩;simp[go_sem,ze (show k<=1000000000 by omega),zGH,aA];exact⟨fun hl=>⟨hl,fun h h'=>h (h'.2.2.2 k hl),fun h=>⟨k+1,⟨by omega,qi hl bA h⟩,by omega,rfl⟩⟩,fun hl=>⟨h1,h2,by omega,fun i hi=>bA i (by omega)⟩⟩
theorem zO8{l m:List (Int×Int)}{k:Nat}(hk:k<l.length)(h:(zi l k,zu l k)∈m):zBy (l.take (k+1)) m=zBy (l.take k) m:=by
 unfold zi zu at h;rw[zAu hk]at h;unfold zBy;rw[List.take_succ_eq_append_getElem hk,List.filter_append,List.filter_cons];simp only[List.filter_nil];rw[if_neg (by simp;exact h),List.append_nil]
theorem zLw{l m:List (Int×Int)}{k:Nat}(hk:k<l.length)(h:(zi l k,zu l k)∉m):zBy (l.take (k+1)) m=zBy (l.take k) m ++ [(zi l k,zu l k)]:=by
 unfold zi zu at h ⊢;rw[zAu hk]at h ⊢;unfold zBy;rw[List.take_succ_eq_append_getElem hk,List.filter_append,List.filter_cons];simp only[List.filter_nil];rw[if_pos (by simp;exact h)]
theorem zQh(l m:List (Int×Int))(k:Nat):(zBy (l.take k) m).length<=k:=by
 unfold zBy;exact Nat.le_trans (List.length_filter_le _ _) (by rw[List.length_take];omega)
def zFs(W:zB)(i:Nat):Prop:=zJt (zBn W (zI W i)) (zFd W (zI W i)) (zE W (zI W i).zbi).time (zI W i).time
theorem zEz.snap{W:zB}(h:zEz W){k:Nat}(hk:k<W.pn):zW W.pool (W.zbg k).rs (W.zbg k).rb:=by
 have:=h.tree k (by unfold zj;omega);rw[qq hk]at this;exact this
theorem zEz.set{W:zB}(h:zEz W){k:Nat}(hk:k<W.sn):zW W.pool (W.zbh k).rs (W.zbh k).rb:=by
 have:=h.tree (W.pn+k) (by unfold zj;omega);rw[zAi]at this;exact this
def zJH(W:zB)(s:Nat):Prop:=∃m,m<zj W/\∃b,((s:Int),b)∈zBn W (zI W m)
def zCn(W:zB)(i:Nat):Int×Int:=if i<W.sn then((W.zbh i).rs,(W.zbh i).rb)else((W.zbg (i - W.sn)).rs,(W.zbg (i - W.sn)).rb)
def zDu(W:zB)(n:Nat):List (Int×Int):=(List.range n).map (zCn W)
theorem zGQ(W:zB)(n:Nat):(zDu W n).length=n:=by simp[zDu]
theorem zKI(W:zB)(n:Nat):zDu W (n+1)=zDu W n ++ [zCn W n]:=by simp[zDu,List.range_succ]
theorem zHa{W:zB}{i:Nat}(h:i<W.sn):zCn W i=((W.zbh i).rs,(W.zbh i).rb):=if_pos h
theorem zGP(W:zB)(i:Nat):zCn W (W.sn+i)=((W.zbg i).rs,(W.zbg i).rb):=by
 unfold zCn;rw[if_neg (by omega),show W.sn+i - W.sn=i by omega]
theorem zOH{W:zB}{n i:Nat}(h:i<n):zi (zDu W n) i=(zCn W i).1/\zu (zDu W n) i=(zCn W i).2:=by
 unfold zi zu;rw[zAu (by rw[zGQ];exact h)];simp[zDu]
theorem zXe{W:zB}(hT:zEz W){i:Nat}(hi:i<W.sn+W.pn):zW W.pool (zCn W i).1 (zCn W i).2:=by
 by_cases h:i<W.sn
 ·rw[zHa h];exact hT.set h
 ·have:=zGP W (i - W.sn);rw[show W.sn+(i - W.sn)=i by omega]at this;rw[this];exact hT.snap (by omega)
theorem zSF{W:zB}{s:Nat}:zJH W s↔∃i,i<W.sn+W.pn/\∃b,((s:Int),b)∈zH W.pool (zCn W i).1 (zCn W i).2:=by
 unfold zJH zj zBn;constructor
 ·rintro⟨m,hm,b,h⟩;by_cases hp:m<W.pn
  ·rw[qq hp]at h;exact⟨W.sn+m,by omega,b,by rw[zGP];exact h⟩
  ·have e:=zAi W (m - W.pn);rw[show W.pn+(m - W.pn)=m by omega]at e;rw[e]at h;exact⟨m - W.pn,by omega,b,by rw[zHa (by omega)];exact h⟩
 ·rintro⟨i,hi,b,h⟩;by_cases hs:i<W.sn
  ·rw[zHa hs]at h;exact⟨W.pn+i,by omega,b,by rw[zAi];exact h⟩
  ·have e:=zGP W (i - W.sn);rw[show W.sn+(i - W.sn)=i by omega]at e;rw[e]at h;exact⟨i - W.sn,by omega,b,by rw[qq (by omega)];exact h⟩
def zZL(W:zB)(k:Nat)(l:List (Int×Int))(j s:Nat):Prop:=(∃i,i<k/\∃b,((s:Int),b)∈zH W.pool (zCn W i).1 (zCn W i).2)\/∃q,q<j/\zi l q=(s:Int)
def zKx(W:zB)(k:Nat)(l:List (Int×Int))(j:Nat)(f:Nat->Bool):Prop:=∀s,f s=true↔zZL W k l j s
theorem zSg{W:zB}{k j s:Nat}{l:List (Int×Int)}{f:Nat->Bool}(h:zKx W k l j f)(hs:zi l j=(s:Int)):zKx W k l (j+1) (fun i=>if i=s then true else f i):=by
 intro i;show(if i=s then true else f i)=true↔_;by_cases e:i=s
 ·subst e;rw[if_pos rfl];exact⟨fun _=>Or.inr ⟨j,by omega,hs⟩,fun _=>rfl⟩
 ·rw[if_neg e,h i];constructor
  ·rintro(h | ⟨q,hq,h⟩)
   ·exact Or.inl h
   ·exact Or.inr ⟨q,by omega,h⟩
  ·rintro(h | ⟨q,hq,h⟩)
   ·exact Or.inl h
   ·by_cases eq:q=j
    ·subst eq;exact absurd (by omega) e
    ·exact Or.inr ⟨q,by omega,h⟩
theorem zSh{W:zB}{k:Nat}{l:List (Int×Int)}{f:Nat->Bool}(h:zKx W k l l.length f)(hl:l=zH W.pool (zCn W k).1 (zCn W k).2):zKx W (k+1) [] 0 f:=by
 intro s;rw[h s];constructor
 ·rintro(⟨i,hi,h⟩ | ⟨q,hq,e⟩)
  ·exact Or.inl ⟨i,by omega,h⟩
  ·refine Or.inl ⟨k,by omega,(l[q]).2,?_⟩;unfold zi at e;rw[zAu hq]at e;rw[<-hl,<-e];exact List.getElem_mem hq
 ·rintro(⟨i,hi,b,h2⟩ | ⟨q,hq,e⟩)
  ·by_cases e:i=k
   ·subst e;rw[<-hl]at h2;obtain⟨q,hq,e⟩:=List.getElem_of_mem h2;exact Or.inr ⟨q,hq,by unfold zi;rw[zAu hq,e]⟩
   ·exact Or.inl ⟨i,by omega,b,h2⟩
  ·omega
theorem zRL{p:zF}{rs rb:Int}(hR:zf p)(hT:zW p rs rb){j:Nat}(hj:j<(zH p rs rb).length):∃s:Nat,zi (zH p rs rb) j=(s:Int)/\s<p.n:=by
 unfold zi;rw[zAu hj];have:=(zB6 hR hT (List.getElem_mem hj)).1;obtain⟨_,h0,h1,_⟩:=this;exact⟨((zH p rs rb)[j]).1.toNat,by omega,by omega⟩
theorem zAb.grown{w w1:World}{b:Nat}{v0 v1 v2 v3 v4 v5:Value}{row:Option Nat}(h:zAb w b v0 v1 v2 v3 v4 v5)(hg:w.grownBy w1 row)(aA:∀q,row=some q->b≠q):zAb w1 b v0 v1 v2 v3 v4 v5:=by
 have hb:b<w.heap.size:=h.1.lt;refine h.turned (S:=fun k=>row=some k) ⟨hg.os,hg.tape,hg.output,hg.size,fun k hk hs=>hg.block k hk (fun e=>hs e.symm)⟩ (fun e=>aA b e rfl)
def zOV(W:zB)(k:Nat):Prop:=∀i,i<k->∀j,j<i->∀x,x∈zIF W (zI W i)->∀y,y∈zIF W (zI W j)->x.1≠y.1
def zFK(W:zB)(k:Nat)(now old:List (Int×Int))(j:Nat):Prop:=∀q,q<j->(zi now q,zu now q)∉old->∀i,i<k->∀y,y∈zIF W (zI W i)->zi now q≠y.1
def zZM(W:zB)(k:Nat)(now old:List (Int×Int))(j s:Nat):Prop:=(∃i,i<k/\∃b,((s:Int),b)∈zIF W (zI W i))\/∃q,q<j/\zi now q=(s:Int)/\(zi now q,zu now q)∉old
def zEF(W:zB)(k:Nat)(now old:List (Int×Int))(j:Nat)(f:Nat->Bool):Prop:=∀s,f s=true↔zZM W k now old j s
theorem zRq{W:zB}{k:Nat}{aA bA:List (Int×Int)}(h:zOV W k)(hn:aA=zBn W (zI W k))(ho:bA=zFd W (zI W k))(hr:zFK W k aA bA aA.length):zOV W (k+1):=by
 intro i hi j hj x hx y hy;by_cases e:i=k
 ·subst e;obtain⟨h1,h2⟩:=List.mem_filter.1 hx;rw[<-hn]at h1;rw[<-ho]at h2;obtain⟨q,hq,e⟩:=List.getElem_of_mem h1;have:=hr q hq;unfold zi zu at this;rw[zAu hq,e]at this;exact this (by simpa using h2) j hj y hy
 ·exact h i (by omega) j hj x hx y hy
theorem zVH{W:zB}{k j:Nat}{aA bA:List (Int×Int)}{f:Nat->Bool}(h:zEF W k aA bA j f)(cA:(zi aA j,zu aA j)∈bA):zEF W k aA bA (j+1) f:=by
 intro s;rw[h s];constructor
 ·rintro(h | ⟨q,hq,h⟩)
  ·exact Or.inl h
  ·exact Or.inr ⟨q,by omega,h⟩
 ·rintro(h | ⟨q,hq,h1,h2⟩)
  ·exact Or.inl h
  ·by_cases e:q=j
   ·subst e;exact absurd cA h2
   ·exact Or.inr ⟨q,by omega,h1,h2⟩
theorem zVG{W:zB}{k j s:Nat}{aA bA:List (Int×Int)}{f:Nat->Bool}(h:zEF W k aA bA j f)(hs:zi aA j=(s:Int))(cA:(zi aA j,zu aA j)∉bA):zEF W k aA bA (j+1) (fun i=>if i=s then true else f i):=by
 intro i;show(if i=s then true else f i)=true↔_;by_cases e:i=s
 ·subst e;rw[if_pos rfl];exact⟨fun _=>Or.inr ⟨j,by omega,hs,cA⟩,fun _=>rfl⟩
 ·rw[if_neg e,h i];constructor
  ·rintro(h | ⟨q,hq,h⟩)
   ·exact Or.inl h
   ·exact Or.inr ⟨q,by omega,h⟩
  ·rintro(h | ⟨q,hq,h,h2⟩)
   ·exact Or.inl h
   ·by_cases eq:q=j
    ·subst eq;exact absurd (by omega) e
    ·exact Or.inr ⟨q,by omega,h,h2⟩
theorem zXj{W:zB}{k j:Nat}{aA bA:List (Int×Int)}(h:zFK W k aA bA j)(cA:(zi aA j,zu aA j)∈bA):zFK W k aA bA (j+1):=by
 intro q hq;by_cases e:q=j
 ·subst e;exact fun h=>absurd cA h
 ·exact h q (by omega)
theorem zXg{W:zB}{k j s:Nat}{aA bA:List (Int×Int)}{f:Nat->Bool}(h:zFK W k aA bA j)(hS:zEF W k aA bA j f)(hs:zi aA j=(s:Int))(hf:f s=false):zFK W k aA bA (j+1):=by
 intro q hq;by_cases e:q=j
 ·subst e;intro _ i hi y hy ey;have:f s=true:=(hS s).2 (Or.inl ⟨i,hi,y.2,by rw[<-hs,ey];exact hy⟩);rw[hf]at this;exact absurd this (by simp)
 ·exact h q (by omega)
theorem zVJ{W:zB}{k:Nat}{aA bA:List (Int×Int)}{f:Nat->Bool}(h:zEF W k aA bA aA.length f)(hn:aA=zBn W (zI W k))(ho:bA=zFd W (zI W k)):zEF W (k+1) [] [] 0 f:=by
 intro s;rw[h s];constructor
 ·rintro(⟨i,hi,h⟩ | ⟨q,hq,e,h2⟩)
  ·exact Or.inl ⟨i,by omega,h⟩
  ·refine Or.inl ⟨k,by omega,(aA[q]).2,?_⟩;unfold zi zu at h2;unfold zi at e;rw[zAu hq]at e h2;refine List.mem_filter.2 ⟨?_,?_⟩
   ·rw[<-hn,<-e];exact List.getElem_mem hq
   ·rw[<-ho,<-e];simpa using h2
 ·rintro(⟨i,hi,b,h2⟩ | ⟨q,hq,_⟩)
  ·by_cases e:i=k
   ·subst e;obtain⟨h3,h4⟩:=List.mem_filter.1 h2;rw[<-hn]at h3;rw[<-ho]at h4;obtain⟨q,hq,e⟩:=List.getElem_of_mem h3;refine Or.inr ⟨q,hq,?_⟩;unfold zi zu;rw[zAu hq,e];exact⟨rfl,by simpa using h4⟩
   ·exact Or.inl ⟨i,by omega,b,h2⟩
  ·omega
theorem zSr{W:zB}{k:Nat}{f:Nat->Bool}(h:zEF W k [] [] 0 f)(aA bA:List (Int×Int)):zEF W k aA bA 0 f:=by
 intro s;rw[h s];constructor
 ·rintro(h | ⟨q,hq,_⟩)
  ·exact Or.inl h
  ·omega
 ·rintro(h | ⟨q,hq,_⟩)
  ·exact Or.inl h
  ·omega
theorem zSs{W:zB}{k j s:Nat}{aA bA:List (Int×Int)}{f:Nat->Bool}(hT:zEz W)(hk:k<zj W)(hn:aA=zBn W (zI W k))(ho:bA=zFd W (zI W k))(hS:zEF W k aA bA j f)(hj:j<aA.length)(hs:zi aA j=(s:Int))(cA:(zi aA j,zu aA j)∉bA)(hf:f s=true):¬zHx W:=by
 intro hA;rcases(hS s).1 hf with⟨i,hi,b,h⟩ | ⟨q,hq,e,h2⟩
 ·refine hA k hk i hi (zi aA j,zu aA j) ?_ _ h hs;refine List.mem_filter.2 ⟨?_,by rw[<-ho];simpa using cA⟩;rw[<-hn];unfold zi zu;rw[zAu hj];exact List.getElem_mem hj
 ·have dA:=zDH hT.right (l:=aA) (fun x hx=>by rw[hn]at hx;exact(zB6 hT.right (hT.tree k hk) hx).1) (by rw[hn];exact zCo hT.right (hT.tree k hk)) (by rw[hn];have:=qc W.pool (zI W k).rs (zI W k).rb;unfold zBn;omega);exact dA.2.2 j hj q hq (by rw[e,hs])
def zFt(W:zB)(i:Nat):Prop:=zED (zI W i).dn (zI W i).ds (zI W i).db (zBy (zFd W (zI W i)) (zBn W (zI W i)))
structure ql (W:zB):Prop where
 right:zf W.pool
 zbj:zAU W
 lines:∀i,i<W.sn->zGh W (W.zbh i).name (W.zbh i).zbi (W.zbh i).origin
 zbg:∀i,i<W.pn->zW W.pool (W.zbg i).rs (W.zbg i).rb
 zbh:∀i,i<W.sn->zW W.pool (W.zbh i).rs (W.zbh i).rb/\zFt W (W.pn+i)
 dead:∀i,i<W.pn->zFt W i
 reach:zS7 W
 born:∀i,i<zj W->zFs W i
 apart:zHx W
theorem zHB{W:zB}(h:∀k,k<W.pn->zW W.pool (W.zbg k).rs (W.zbg k).rb)(x:Int):zW W.pool (zE W x).rs (zE W x).rb:=by
 by_cases hx:∃k,zAl W x k
 ·obtain⟨k,hk⟩:=hx;rw[zAc hk];exact h k hk.1
 ·have:zE W x=zAL:=by
   unfold zE;rw[dif_neg hx]
  rw[this];exact Or.inl ⟨rfl,rfl⟩
theorem zJB{W:zB}(hR:zf W.pool)(hN:zAU W)(h1:∀i,i<W.pn->zW W.pool (W.zbg i).rs (W.zbg i).rb)(h2:∀i,i<W.sn->zW W.pool (W.zbh i).rs (W.zbh i).rb):zEz W where
 right:=hR
 ids:=hN.zbf.less
 tree:=fun i hi=>by
  by_cases hp:i<W.pn
  ·rw[qq hp];exact h1 i hp
  ·have e:=zAi W (i - W.pn);rw[show W.pn+(i - W.pn)=i by omega]at e;rw[e];unfold zj at hi;exact h2 _ (by omega)
 time:=fun i hi=>by
  by_cases hp:i<W.pn
  ·rw[qq hp];have:1<=(W.zbg i).time:=(hN.2.2.2.2.2 i hp).1.2.2.1;show 0<=(W.zbg i).time;omega
  ·have e:=zAi W (i - W.pn);rw[show W.pn+(i - W.pn)=i by omega]at e;rw[e];have:1<=W.time:=hN.1.1;show 0<=W.time;omega
end Go.Proofs.YtginldeebkfbgaaGreat
