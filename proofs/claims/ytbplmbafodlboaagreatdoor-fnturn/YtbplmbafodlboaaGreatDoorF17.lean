/- A part of the proof. -/
import Derived.Test.YtbplmbafodlboaaGreatDoorF16
set_option linter.unusedVariables false
set_option maxRecDepth 20000
set_option maxHeartbeats 4000000
namespace Go.Proofs.YtbplmbafodlboaaGreatDoor
open Go.RowKit Go.Maps
def zF6(W:zC)(i:Nat):Prop:=zKL (zBu W (zL W i)) (zFv W (zL W i)) (zI W (zL W i).zcD).time (zL W i).time
theorem zFF.snap{W:zC}(h:zFF W){k:Nat}(hk:k<W.pn):qd W.pool (W.zb9 k).rs (W.zb9 k).rb:=by
 have:=h.tree k (by unfold zt;omega);rw[yW hk]at this;exact this
theorem zFF.set{W:zC}(h:zFF W){k:Nat}(hk:k<W.sn):qd W.pool (W.zcC k).rs (W.zcC k).rb:=by
 have:=h.tree (W.pn+k) (by unfold zt;omega);rw[zBF]at this;exact this
def zJk(W:zC)(s:Nat):Prop:=∃m,m<zt W/\∃b,((s:Int),b)∈zBu W (zL W m)
def zCt(W:zC)(i:Nat):Int×Int:=if i<W.sn then((W.zcC i).rs,(W.zcC i).rb)else((W.zb9 (i - W.sn)).rs,(W.zb9 (i - W.sn)).rb)
def zD1(W:zC)(n:Nat):List (Int×Int):=(List.range n).map (zCt W)
theorem zGb(W:zC)(n:Nat):(zD1 W n).length=n:=by simp[zD1]
theorem zKh(W:zC)(n:Nat):zD1 W (n+1)=zD1 W n ++ [zCt W n]:=by simp[zD1,List.range_succ]
theorem zHj{W:zC}{i:Nat}(h:i<W.sn):zCt W i=((W.zcC i).rs,(W.zcC i).rb):=if_pos h
theorem zGa(W:zC)(i:Nat):zCt W (W.sn+i)=((W.zb9 i).rs,(W.zb9 i).rb):=by
 unfold zCt;rw[if_neg (by omega),show W.sn+i - W.sn=i by omega]
theorem zOa{W:zC}{n i:Nat}(h:i<n):zx (zD1 W n) i=(zCt W i).1/\qS (zD1 W n) i=(zCt W i).2:=by
 unfold zx qS;rw[zBL (by rw[zGb];exact h)];simp[zD1]
theorem zXs{W:zC}(hT:zFF W){i:Nat}(hi:i<W.sn+W.pn):qd W.pool (zCt W i).1 (zCt W i).2:=by
 by_cases h:i<W.sn
 ·rw[zHj h];exact hT.set h
 ·have:=zGa W (i - W.sn);rw[show W.sn+(i - W.sn)=i by omega]at this;rw[this];exact hT.snap (by omega)
theorem zSL{W:zC}{s:Nat}:zJk W s↔∃i,i<W.sn+W.pn/\∃b,((s:Int),b)∈zN W.pool (zCt W i).1 (zCt W i).2:=by
 unfold zJk zt zBu;constructor
 ·rintro⟨m,hm,b,h⟩;by_cases hp:m<W.pn
  ·rw[yW hp]at h;exact⟨W.sn+m,by omega,b,by rw[zGa];exact h⟩
  ·have e:=zBF W (m - W.pn);rw[show W.pn+(m - W.pn)=m by omega]at e;rw[e]at h;exact⟨m - W.pn,by omega,b,by rw[zHj (by omega)];exact h⟩
 ·rintro⟨i,hi,b,h⟩;by_cases hs:i<W.sn
  ·rw[zHj hs]at h;exact⟨W.pn+i,by omega,b,by rw[zBF];exact h⟩
  ·have e:=zGa W (i - W.sn);rw[show W.sn+(i - W.sn)=i by omega]at e;rw[e]at h;exact⟨i - W.sn,by omega,b,by rw[yW (by omega)];exact h⟩
def zZh(W:zC)(k:Nat)(l:List (Int×Int))(j s:Nat):Prop:=(∃i,i<k/\∃b,((s:Int),b)∈zN W.pool (zCt W i).1 (zCt W i).2)\/∃q,q<j/\zx l q=(s:Int)
def zLI(W:zC)(k:Nat)(l:List (Int×Int))(j:Nat)(f:Nat->Bool):Prop:=∀s,f s=true↔zZh W k l j s
theorem zSl{W:zC}{k j s:Nat}{l:List (Int×Int)}{f:Nat->Bool}(h:zLI W k l j f)(hs:zx l j=(s:Int)):zLI W k l (j+1) (fun i=>if i=s then true else f i):=by
 intro i;show(if i=s then true else f i)=true↔_;by_cases e:i=s
 ·subst e;rw[if_pos rfl];exact⟨fun _=>Or.inr ⟨j,by omega,hs⟩,fun _=>rfl⟩
 ·rw[if_neg e,h i];constructor
  ·rintro(h | ⟨q,hq,h⟩)
   ·exact Or.inl h
   ·exact Or.inr ⟨q,by omega,h⟩
  ·rintro(h | ⟨q,hq,h⟩)
   ·exact Or.inl h
   ·by_cases eq:q=j
    ·subst eq;exact absurd (by omega) e
    ·exact Or.inr ⟨q,by omega,h⟩
theorem zSm{W:zC}{k:Nat}{l:List (Int×Int)}{f:Nat->Bool}(h:zLI W k l l.length f)(hl:l=zN W.pool (zCt W k).1 (zCt W k).2):zLI W (k+1) [] 0 f:=by
 intro s;rw[h s];constructor
 ·rintro(⟨i,hi,h⟩ | ⟨q,hq,e⟩)
  ·exact Or.inl ⟨i,by omega,h⟩
  ·refine Or.inl ⟨k,by omega,(l[q]).2,?_⟩;unfold zx at e;rw[zBL hq]at e;rw[<-hl,<-e];exact List.getElem_mem hq
 ·rintro(⟨i,hi,b,h2⟩ | ⟨q,hq,e⟩)
  ·by_cases e:i=k
   ·subst e;rw[<-hl]at h2;obtain⟨q,hq,e⟩:=List.getElem_of_mem h2;exact Or.inr ⟨q,hq,by unfold zx;rw[zBL hq,e]⟩
   ·exact Or.inl ⟨i,by omega,b,h2⟩
  ·omega
theorem zRT{p:zF}{rs rb:Int}(hR:zz p)(hT:qd p rs rb){j:Nat}(hj:j<(zN p rs rb).length):∃s:Nat,zx (zN p rs rb) j=(s:Int)/\s<p.n:=by
 unfold zx;rw[zBL hj];have:=(zCZ hR hT (List.getElem_mem hj)).1;obtain⟨_,h0,h1,_⟩:=this;exact⟨((zN p rs rb)[j]).1.toNat,by omega,by omega⟩
theorem zAC.grown{w w1:World}{b:Nat}{v0 v1 v2 v3 v4 v5:Value}{row:Option Nat}(h:zAC w b v0 v1 v2 v3 v4 v5)(hg:w.grownBy w1 row)(aA:∀q,row=some q->b≠q):zAC w1 b v0 v1 v2 v3 v4 v5:=by
 have hb:b<w.heap.size:=h.1.lt;refine h.zb8 (S:=fun k=>row=some k) ⟨hg.os,hg.tape,hg.output,hg.size,fun k hk hs=>hg.block k hk (fun e=>hs e.symm)⟩ (fun e=>aA b e rfl)
def zOn(W:zC)(k:Nat):Prop:=∀i,i<k->∀j,j<i->∀x,x∈zIe W (zL W i)->∀y,y∈zIe W (zL W j)->x.1≠y.1
def zFc(W:zC)(k:Nat)(now old:List (Int×Int))(j:Nat):Prop:=∀q,q<j->(zx now q,qS now q)∉old->∀i,i<k->∀y,y∈zIe W (zL W i)->zx now q≠y.1
def zZi(W:zC)(k:Nat)(now old:List (Int×Int))(j s:Nat):Prop:=(∃i,i<k/\∃b,((s:Int),b)∈zIe W (zL W i))\/∃q,q<j/\zx now q=(s:Int)/\(zx now q,qS now q)∉old
def zEO(W:zC)(k:Nat)(now old:List (Int×Int))(j:Nat)(f:Nat->Bool):Prop:=∀s,f s=true↔zZi W k now old j s
theorem zRv{W:zC}{k:Nat}{aA bA:List (Int×Int)}(h:zOn W k)(hn:aA=zBu W (zL W k))(ho:bA=zFv W (zL W k))(hr:zFc W k aA bA aA.length):zOn W (k+1):=by
 intro i hi j hj x hx y hy;by_cases e:i=k
 ·subst e;obtain⟨h1,h2⟩:=List.mem_filter.1 hx;rw[<-hn]at h1;rw[<-ho]at h2;obtain⟨q,hq,e⟩:=List.getElem_of_mem h1;have:=hr q hq;unfold zx qS at this;rw[zBL hq,e]at this;exact this (by simpa using h2) j hj y hy
 ·exact h i (by omega) j hj x hx y hy
theorem zVZ{W:zC}{k j:Nat}{aA bA:List (Int×Int)}{f:Nat->Bool}(h:zEO W k aA bA j f)(cA:(zx aA j,qS aA j)∈bA):zEO W k aA bA (j+1) f:=by
 intro s;rw[h s];constructor
 ·rintro(h | ⟨q,hq,h⟩)
  ·exact Or.inl h
  ·exact Or.inr ⟨q,by omega,h⟩
 ·rintro(h | ⟨q,hq,h1,h2⟩)
  ·exact Or.inl h
  ·by_cases e:q=j
   ·subst e;exact absurd cA h2
   ·exact Or.inr ⟨q,by omega,h1,h2⟩
theorem zVY{W:zC}{k j s:Nat}{aA bA:List (Int×Int)}{f:Nat->Bool}(h:zEO W k aA bA j f)(hs:zx aA j=(s:Int))(cA:(zx aA j,qS aA j)∉bA):zEO W k aA bA (j+1) (fun i=>if i=s then true else f i):=by
 intro i;show(if i=s then true else f i)=true↔_;by_cases e:i=s
 ·subst e;rw[if_pos rfl];exact⟨fun _=>Or.inr ⟨j,by omega,hs,cA⟩,fun _=>rfl⟩
 ·rw[if_neg e,h i];constructor
  ·rintro(h | ⟨q,hq,h⟩)
   ·exact Or.inl h
   ·exact Or.inr ⟨q,by omega,h⟩
  ·rintro(h | ⟨q,hq,h,h2⟩)
   ·exact Or.inl h
   ·by_cases eq:q=j
    ·subst eq;exact absurd (by omega) e
    ·exact Or.inr ⟨q,by omega,h,h2⟩
theorem zXz{W:zC}{k j:Nat}{aA bA:List (Int×Int)}(h:zFc W k aA bA j)(cA:(zx aA j,qS aA j)∈bA):zFc W k aA bA (j+1):=by
 intro q hq;by_cases e:q=j
 ·subst e;exact fun h=>absurd cA h
 ·exact h q (by omega)
theorem zXv{W:zC}{k j s:Nat}{aA bA:List (Int×Int)}{f:Nat->Bool}(h:zFc W k aA bA j)(hS:zEO W k aA bA j f)(hs:zx aA j=(s:Int))(hf:f s=false):zFc W k aA bA (j+1):=by
 intro q hq;by_cases e:q=j
 ·subst e;intro _ i hi y hy ey;have:f s=true:=(hS s).2 (Or.inl ⟨i,hi,y.2,by rw[<-hs,ey];exact hy⟩);rw[hf]at this;exact absurd this (by simp)
 ·exact h q (by omega)
theorem zVb{W:zC}{k:Nat}{aA bA:List (Int×Int)}{f:Nat->Bool}(h:zEO W k aA bA aA.length f)(hn:aA=zBu W (zL W k))(ho:bA=zFv W (zL W k)):zEO W (k+1) [] [] 0 f:=by
 intro s;rw[h s];constructor
 ·rintro(⟨i,hi,h⟩ | ⟨q,hq,e,h2⟩)
  ·exact Or.inl ⟨i,by omega,h⟩
  ·refine Or.inl ⟨k,by omega,(aA[q]).2,?_⟩;unfold zx qS at h2;unfold zx at e;rw[zBL hq]at e h2;refine List.mem_filter.2 ⟨?_,?_⟩
   ·rw[<-hn,<-e];exact List.getElem_mem hq
   ·rw[<-ho,<-e];simpa using h2
 ·rintro(⟨i,hi,b,h2⟩ | ⟨q,hq,_⟩)
  ·by_cases e:i=k
   ·subst e;obtain⟨h3,h4⟩:=List.mem_filter.1 h2;rw[<-hn]at h3;rw[<-ho]at h4;obtain⟨q,hq,e⟩:=List.getElem_of_mem h3;refine Or.inr ⟨q,hq,?_⟩;unfold zx qS;rw[zBL hq,e];exact⟨rfl,by simpa using h4⟩
   ·exact Or.inl ⟨i,by omega,b,h2⟩
  ·omega
theorem zSu{W:zC}{k:Nat}{f:Nat->Bool}(h:zEO W k [] [] 0 f)(aA bA:List (Int×Int)):zEO W k aA bA 0 f:=by
 intro s;rw[h s];constructor
 ·rintro(h | ⟨q,hq,_⟩)
  ·exact Or.inl h
  ·omega
 ·rintro(h | ⟨q,hq,_⟩)
  ·exact Or.inl h
  ·omega
theorem zSv{W:zC}{k j s:Nat}{aA bA:List (Int×Int)}{f:Nat->Bool}(hT:zFF W)(hk:k<zt W)(hn:aA=zBu W (zL W k))(ho:bA=zFv W (zL W k))(hS:zEO W k aA bA j f)(hj:j<aA.length)(hs:zx aA j=(s:Int))(cA:(zx aA j,qS aA j)∉bA)(hf:f s=true):¬zIB W:=by
 intro hA;rcases(hS s).1 hf with⟨i,hi,b,h⟩ | ⟨q,hq,e,h2⟩
 ·refine hA k hk i hi (zx aA j,qS aA j) ?_ _ h hs;refine List.mem_filter.2 ⟨?_,by rw[<-ho];simpa using cA⟩;rw[<-hn];unfold zx qS;rw[zBL hj];exact List.getElem_mem hj
 ·have dA:=zDO hT.right (l:=aA) (fun x hx=>by rw[hn]at hx;exact(zCZ hT.right (hT.tree k hk) hx).1) (by rw[hn];exact zCw hT.right (hT.tree k hk)) (by rw[hn];have:=yR W.pool (zL W k).rs (zL W k).rb;unfold zBu;omega);exact dA.2.2 j hj q hq (by rw[e,hs])
def zF8(W:zC)(i:Nat):Prop:=zEN (zL W i).dn (zL W i).ds (zL W i).db (zB7 (zFv W (zL W i)) (zBu W (zL W i)))
structure zB9 (W:zC):Prop where
 right:zz W.pool
 zcE:zBk W
 lines:∀i,i<W.sn->zGo W (W.zcC i).name (W.zcC i).zcD (W.zcC i).origin
 zb9:∀i,i<W.pn->qd W.pool (W.zb9 i).rs (W.zb9 i).rb
 zcC:∀i,i<W.sn->qd W.pool (W.zcC i).rs (W.zcC i).rb/\zF8 W (W.pn+i)
 dead:∀i,i<W.pn->zF8 W i
 reach:zTC W
 born:∀i,i<zt W->zF6 W i
 zcI:zIB W
theorem zPa{W:zC}(h:∀k,k<W.pn->qd W.pool (W.zb9 k).rs (W.zb9 k).rb)(x:Int):qd W.pool (zI W x).rs (zI W x).rb:=by
 by_cases hx:∃k,zBQ W x k
 ·obtain⟨k,hk⟩:=hx;rw[zBr hk];exact h k hk.1
 ·have:zI W x=zBE:=by
   unfold zI;rw[dif_neg hx]
  rw[this];exact Or.inl ⟨rfl,rfl⟩
theorem zNF{W:zC}(hR:zz W.pool)(hN:zBk W)(h1:∀i,i<W.pn->qd W.pool (W.zb9 i).rs (W.zb9 i).rb)(h2:∀i,i<W.sn->qd W.pool (W.zcC i).rs (W.zcC i).rb):zFF W where
 right:=hR
 ids:=hN.prevOk.less
 tree:=fun i hi=>by
  by_cases hp:i<W.pn
  ·rw[yW hp];exact h1 i hp
  ·have e:=zBF W (i - W.pn);rw[show W.pn+(i - W.pn)=i by omega]at e;rw[e];unfold zt at hi;exact h2 _ (by omega)
 time:=fun i hi=>by
  by_cases hp:i<W.pn
  ·rw[yW hp];have:1<=(W.zb9 i).time:=(hN.2.2.2.2.2 i hp).1.2.2.1;show 0<=(W.zb9 i).time;omega
  ·have e:=zBF W (i - W.pn);rw[show W.pn+(i - W.pn)=i by omega]at e;rw[e];have:1<=W.time:=hN.1.1;show 0<=W.time;omega
set_option linter.unusedSimpArgs false
set_option maxRecDepth 20000
set_option maxHeartbeats 1600000
theorem zEc{W:zC}(h:zOq W)(x:Int):zDY W x=zI W x:=by
 by_cases h0:x=0
 ·rw[show zDY W x=zBE from if_pos h0,zIH fun k hk e=>by have:=h k hk;omega]
 ·exact if_neg h0
theorem zQW{l:List (Int×Int)}{i:Nat}:(l[i]?.getD (0,0)).1=zx l i:=by simp[zx,List.getD_eq_getElem?_getD]
theorem zX7{l:List (Int×Int)}{i:Nat}:(l[i]?.getD (0,0)).2=qS l i:=by simp[qS,List.getD_eq_getElem?_getD]
theorem zXk{l:List (Int×Int)}{x y:Int}:PIn l.length (fun i=>zx l i) (fun i=>qS l i) x y↔(x,y)∈l:=zE3
theorem yV{fl:Fl}{k n:Nat}{l:List (Int×Int)}:(Tr.s fl k n (zFA encP (0,0) l)).lend = .s .b k n (ptrsT (fun i=>zx l i) (fun i=>qS l i)):=by
 rw[zY];simp only[zQW,zX7]
theorem zBi{l:List (Int×Int)}{i:Nat}:zFA encP (0,0) l i 0 = .v (.int .i64 (zx l i)):=by rw[<-zQW];rfl
theorem zBj{l:List (Int×Int)}{i:Nat}:zFA encP (0,0) l i 1 = .v (.int .i64 (qS l i)):=by rw[<-zX7];rfl
theorem zWD{p q:Prop} [h:Decidable q]:dB p=decide q↔(p↔q):=by
 by_cases hp:p<;>by_cases hq:q<;>simp[dB,hp,hq]
attribute [local go_sem] qW List.map_cons List.map_nil Tr.cv yo qG qw qv yn ym yk qu zAv zAx zAw zAs zAu zAt zCK zCM zCL qK zn qL zo qE qD qP yx zk zl yB qJ tmpsOf zAf yA qI zAr yu yq yp yr stpP opds opd opdC kap zAE qF zj coreU bin zAY zB6 get put dlO fgt zA6 zAz zA3 zA4 tyT yj yi Op.operands Call.operands evLoad evLen evStore evAlloc zAZ and_true true_and List.append_nil List.nil_append List.cons_append Ret resCv zBx yP cellM zBT zB3 qX StW StR hpT hpO hpV hpA hpL hpC sg nin zCD bdO tmW obW AvE CsE CvE Av.tup Av.ids Cv.ids inD ObE Ob.ids TrE.refl qH qx qy qM qN qO zm zb za yw zBd zCB zAy evCall argL argOf qj outOb obO yM zy cvO tot Tr.own rid partsOf fillC zT zBS frz frz1 evBuildSlice zc trs Cv.tr evSlice Option.toArray_none Option.toArray_some evMakeSlice evAppend dstOf srcOf zAq zA5 zA2 zA0 zA1 ikT qt qs qq qp RetP RetN zBe qR evLd evSt evStoreH zAP evAppendM evAppendT tlOf mvOf rowE shp evTake oOf evC evCallP evCallN evCallO unlast zAK zAp zAO argsF zCA qn pmC varT vT evField evConv dB0 Option.bind_some Option.bind_none Option.map_some Option.map_none Option.isSome_some Option.isSome_none
attribute [local go_sem] yF zY zAk yN qk zAS zAT zAU zAV zAW zAX yX yY yZ yb yd ye yf yg yG qe
attribute [-go_sem] zY
attribute [local go_sem] yV zBi zBj
structure zIG (W:zC):Prop where
 right:zz W.pool
 zcE:zBk W
 zb9:∀k,k<W.pn->qd W.pool (W.zb9 k).rs (W.zb9 k).rb
theorem zIG.ids{W:zC}(h:zIG W):zOq W:=fun k hk=>(h.zcE.prevOk.ids k hk).1
theorem zIG.pn{W:zC}(h:zIG W):W.pn<=1000000:=by have:=h.zcE.2.2.2.1;omega
noncomputable def zTg:zW:=qZ (fun q:(zC×Int)×(Int×Int)×Int=>[woT q.1.1,iT q.1.2,pT q.2.1.1 q.2.1.2,iT q.2.2]) (fun q=>zIG q.1.1/\qd q.1.1.pool q.2.1.1 q.2.1.2) (fun q=>bR (zKL (zN q.1.1.pool q.2.1.1 q.2.1.2) (zN q.1.1.pool (zI q.1.1 q.1.2).rs (zI q.1.1 q.1.2).rb) (zI q.1.1 q.1.2).time q.2.2))
theorem zMV(W:zC)(x a b t:Int):zTg [woT W,iT x,pT a b,iT t]=some (zIG W/\qd W.pool a b,bR (zKL (zN W.pool a b) (zN W.pool (zI W x).rs (zI W x).rb) (zI W x).time t)):=zO (fun l=>((zC1 (nth l 0),qg (nth l 1 0)),(qg (nth l 2 0),qg (nth l 2 1)),qg (nth l 3 0))) (fun _=>rfl) ((W,x),(a,b),t)
theorem zPM:zw Tryz.prog 100 zTg:=by
 refine zQ zs (GOk.cons zDM (zE Tryz.func98 rfl rfl) (GOk.cons zDH (zE Tryz.func99 rfl rfl) (GOk.cons zJK (zE Tryz.func65 rfl rfl) GOk.nil))) zr Tryz.func100 rfl Tryz.ntmps100 Tryz.results100 14 ?_;rintro⟨⟨W,x⟩,⟨a,b⟩,t⟩ ⟨hW,hT⟩;replace hW:zIG W:=hW;replace hT:qd W.pool a b:=hT;have hO:=zPa hW.zb9 x;refine⟨by simp,?_⟩;have hz:=zEc hW.ids x;simp[go_sem,zDu,zEG,hW.pn,hz,hO,hT,hW.right];obtain⟨aA,cA⟩:∃l,l=zN W.pool a b:=⟨_,rfl⟩;obtain⟨bA,dA⟩:∃l,l=zN W.pool (zI W x).rs (zI W x).rb:=⟨_,rfl⟩;have ln:aA.length<=100:=by have:=yR W.pool a b;rw[cA];omega
 have lo:bA.length<=100:=by have:=yR W.pool (zI W x).rs (zI W x).rb;rw[dA];omega
 rw[<-cA,<-dA];obtain⟨τ,hτ⟩:∃τ,τ = (zI W x).time:=⟨_,rfl⟩;rw[<-hτ];refine yE (fun k:Nat=>⟨[(12,true,.m false [.h 8]),(11,true,.m false [.h 7]),(10,true,.m false [.v (.int .i64 τ)]),(3,true,.m false [.v (.int .i64 t)]),(13,true,.i k)],[(8,.row 2 aA.length (ptL aA)),(7,.row 2 bA.length (ptL bA))]⟩) (fun k=>aA.length - k) (fun k=>k<=aA.length/\zZe aA bA τ t k) 0 (by simp[go_sem]) ⟨Nat.zero_le _,fun j hj=>absurd hj (Nat.not_lt_zero _)⟩ ?_;rintro k ⟨hk,eA⟩;simp[go_sem,zPQ,qB (show k<=1000000000 by omega),zXk,show bA.length<=1000000 by omega];have fA:zKL aA bA τ t->qS aA k<=t/\((zx aA k,qS aA k)∈bA↔qS aA k<=τ)\/¬k<aA.length:=fun h=>by
  by_cases hl:k<aA.length
  ·exact .inl ((zTE aA bA τ t).2 h k hl)
  ·exact .inr hl
 refine⟨fun hl=>⟨hl,fun _=>hl,by kernel_rfl,fun h hB=>?_,fun h1 h2=>⟨k+1,⟨by omega,fun i hi=>?_⟩,by omega,rfl⟩⟩,fun hl=>?_⟩
 ·rcases fA hB with⟨g1,g2⟩ | g
  ·exact h.elim (fun h=>by omega) (fun h=>h (zWD.2 g2))
  ·exact g hl
 ·by_cases e:i=k
  ·subst e;exact⟨h1,zWD.1 h2⟩
  ·exact eA i (by omega)
 ·cases (show k=aA.length by omega);exact(zTE aA bA τ t).1 eA
noncomputable def zZy:zW:=qZ (fun q:(zC×Int)×(Int×Int)×Nat×(Nat->Int)×(Nat->Int)=>[woT q.1.1,iT q.1.2,pT q.2.1.1 q.2.1.2,psT q.2.2.1 q.2.2.2.1 q.2.2.2.2]) (fun q=>(zIG q.1.1/\qd q.1.1.pool q.2.1.1 q.2.1.2)/\q.2.2.1<=1000000) (fun q=>bR (zEN q.2.2.1 q.2.2.2.1 q.2.2.2.2 (zB7 (zN q.1.1.pool (zI q.1.1 q.1.2).rs (zI q.1.1 q.1.2).rb) (zN q.1.1.pool q.2.1.1 q.2.1.2))))
theorem zQw(W:zC)(x a b:Int)(n:Nat)(f g:Nat->Int):zZy [woT W,iT x,pT a b,psT n f g]=some ((zIG W/\qd W.pool a b)/\n<=1000000,bR (zEN n f g (zB7 (zN W.pool (zI W x).rs (zI W x).rb) (zN W.pool a b)))):=zO (fun l=>((zC1 (nth l 0),qg (nth l 1 0)),(qg (nth l 2 0),qg (nth l 2 1)),zUm (nth l 3 0))) (fun _=>rfl) ((W,x),(a,b),n,f,g)
theorem zSY:zw Tryz.prog 59 zZy:=by
 refine zQ zs (GOk.cons zDM (zE Tryz.func98 rfl rfl) (GOk.cons zDH (zE Tryz.func99 rfl rfl) (GOk.cons zJK (zE Tryz.func65 rfl rfl) (GOk.cons zKN (zE Tryz.func34 rfl rfl) GOk.nil)))) zr Tryz.func59 rfl Tryz.ntmps59 Tryz.results59 15 ?_;rintro⟨⟨W,x⟩,⟨a,b⟩,n,f,g⟩ ⟨⟨hW,hT⟩,hn⟩;replace hW:zIG W:=hW;replace hT:qd W.pool a b:=hT;replace hn:n<=1000000:=hn;have hO:=zPa hW.zb9 x;refine⟨by simp,?_⟩;have hz:=zEc hW.ids x;simp[go_sem,zDu,zEG,hW.pn,hz,hO,hT,hW.right];obtain⟨bA,cA⟩:∃l,l=zN W.pool a b:=⟨_,rfl⟩;obtain⟨aA,dA⟩:∃l,l=zN W.pool (zI W x).rs (zI W x).rb:=⟨_,rfl⟩;have ln:bA.length<=100:=by have:=yR W.pool a b;rw[cA];omega
 have lo:aA.length<=100:=by have:=yR W.pool (zI W x).rs (zI W x).rb;rw[dA];omega
 rw[<-cA,<-dA];refine yE (fun k:Nat=>⟨[(14,true,.i k),(13,true,.m false [.h 9]),(12,true,.m false [.h 8]),(11,true,.m false [.h 7]),(3,true,.m false [.s .b 2 n (ptrsT f g)])],[(9,.row 2 (zB7 (aA.take k) bA).length (ptL (zB7 (aA.take k) bA))),(8,.row 2 bA.length (ptL bA)),(7,.row 2 aA.length (ptL aA))]⟩) (fun k=>aA.length - k) (fun k=>k<=aA.length) 0 (by simp[go_sem];exact zJa rfl) (Nat.zero_le _) ?_;rintro k hk;have eA:=zQr aA bA k;simp[go_sem,zPQ,zMb,qB (show k<=1000000000 by omega),zXk,show bA.length<=1000000 by omega,hn];refine⟨fun hl=>⟨hl,fun h=>⟨hl,by omega,k+1,by omega,by omega,rfl,?_⟩,fun h=>⟨k+1,by omega,by omega,rfl,?_⟩⟩,fun hl=>?_⟩
 ·refine zDC zEW ?_;rw[zMR hl h]
 ·rw[zPO hl h];exact TrE.refl _
 ·cases (show k=aA.length by omega);rw[List.take_length];rw[List.take_length]at eA;exact⟨by omega,Iff.rfl⟩
noncomputable def zWt:zW:=qZ (fun W:zC=>[woT W]) (fun W=>zIG W/\∀k,k<W.sn->qd W.pool (W.zcC k).rs (W.zcC k).rb) (fun W=>bR (∀i,i<zt W->zF6 W i))
theorem zVB(W:zC):zWt [woT W]=some (zIG W/\∀k,k<W.sn->qd W.pool (W.zcC k).rs (W.zcC k).rb,bR (∀i,i<zt W->zF6 W i)):=zO (fun l=>zC1 (nth l 0)) (fun _=>rfl) W
theorem zSX:zw Tryz.prog 62 zWt:=by
 refine zQ zs (GOk.cons zPM (zE Tryz.func100 rfl rfl) GOk.nil) zr Tryz.func62 rfl Tryz.ntmps62 Tryz.results62 5 ?_;rintro W ⟨hW,hT⟩;replace hW:zIG W:=hW;have dA:W.sn<=8:=hW.zcE.2.2.1;have cA:W.pn<=20:=hW.zcE.2.2.2.1;refine⟨by simp,?_⟩;simp[go_sem];refine yE (fun k:Nat=>⟨[(1,true,.m false [.p 1 0]),(3,true,.i k)],[(1,.var ((woL W).map Tr.cv))]⟩) (fun k=>W.pn - k) (fun k=>k<=W.pn/\∀i,i<k->zF6 W i) 0 (by simp[go_sem]) (by simp) ?_;rintro k ⟨hk,bA⟩;simp[go_sem,zMV,hW,qB (show k<=1000000000 by omega)];refine⟨fun hl=>?_,fun hl=>?_⟩
 ·have e:zL W k=zY7 (W.zb9 k):=yW hl;have hb:zF6 W k↔zKL (zN W.pool (W.zb9 k).rs (W.zb9 k).rb) (zN W.pool (zI W (W.zb9 k).zcD).rs (zI W (W.zb9 k).zcD).rb) (zI W (W.zb9 k).zcD).time (W.zb9 k).time:=by
   unfold zF6;rw[e];exact Iff.rfl
  refine⟨hl,hW.zb9 k hl,by kernel_rfl,fun h=>⟨k,by unfold zt;omega,fun hh=>h (hb.1 hh)⟩,fun h=>⟨k+1,⟨by omega,qz hl bA (hb.2 h)⟩,by omega,rfl⟩⟩
 cases (show k=W.pn by omega);refine yE (fun k:Nat=>⟨[(1,true,.m false [.p 1 0]),(4,true,.i k)],[(1,.var ((woL W).map Tr.cv))]⟩) (fun k=>W.sn - k) (fun k=>k<=W.sn/\∀i,i<W.pn+k->zF6 W i) 0 (by simp[go_sem]) ⟨Nat.zero_le _,bA⟩ ?_;rintro k ⟨hk,aA⟩;simp[go_sem,zMV,hW,qB (show k<=1000000000 by omega)];refine⟨fun hl=>?_,fun hl i hi=>aA i (by unfold zt at hi;omega)⟩;have e:zL W (W.pn+k)=zY8 W.time (W.zcC k):=zBF W k;have hb:zF6 W (W.pn+k)↔zKL (zN W.pool (W.zcC k).rs (W.zcC k).rb) (zN W.pool (zI W (W.zcC k).zcD).rs (zI W (W.zcC k).zcD).rb) (zI W (W.zcC k).zcD).time W.time:=by
  unfold zF6;rw[e];exact Iff.rfl
 refine⟨hl,hT k hl,by kernel_rfl,fun h=>⟨W.pn+k,by unfold zt;omega,fun hh=>h (hb.1 hh)⟩,fun h=>⟨k+1,⟨by omega,fun i hi=>?_⟩,by omega,rfl⟩⟩;by_cases e:i=W.pn+k
 ·subst e;exact hb.2 h
 ·exact aA i (by omega)
set_option maxRecDepth 20000
set_option maxHeartbeats 1600000
def zCG(h:Nat->Bool):Nat->Nat->Tr:=fun i _=>.v (.bool (h i))
theorem zAA{h:Nat->Bool}{i j:Nat}:zCG h i j = .v (.bool (h i)):=rfl
theorem yO{fl:Fl}{k n:Nat}{h:Nat->Bool}:(Tr.s fl k n (zCG h)).lend = .s .b k n (zCG h):=rfl
theorem zSO{n:Nat}{h:Nat->Bool}:(Tr.s .o 1 n (zCG h)).kept:=⟨by simp,fun i j _ _=>trivial⟩
theorem zNw{fl:Fl}{n:Nat}{F:Nat->Nat->Tr}{h:Nat->Bool}(hF:∀i j,i<n->j<1->F i j = .v (.bool (h i))):TrE (.s fl 1 n F) (.s fl 1 n (zCG h)):=zD2 fun i j hi hj=>hF i j hi hj
theorem zEq{fl:Fl}{n:Nat}{f h:Nat->Bool}(hF:∀i,i<n->f i=h i):TrE (.s fl 1 n (zCG f)) (.s fl 1 n (zCG h)):=zD2 fun i j hi hj=>congrArg (fun b=>Tr.v (.bool b)) (hF i hi)
theorem zNx{fl:Fl}{n k:Nat}{f h:Nat->Bool}(hF:∀i,i<n->h i=if i=k then true else f i):TrE (.s fl 1 n (yK (zCG f) k 0 [.v (.bool true)])) (.s fl 1 n (zCG h)):=zD2 fun i j hi hj=>by
 cases (show j=0 by omega);rw[show zCG h i 0 = .v (.bool (h i))from rfl,hF i hi];by_cases e:i=k
 ·subst e;simp[yK]
 ·simp[yK,e,zCG]
theorem zWE{p q:Prop}:dB p=dB q↔(p↔q):=by
 by_cases hp:p<;>by_cases hq:q<;>simp[dB,hp,hq]
attribute [local go_sem] qW List.map_cons List.map_nil Tr.cv yo qG qw qv yn ym yk qu zAv zAx zAw zAs zAu zAt zCK zCM zCL qK zn qL zo qE qD qP yx zk zl yB qJ tmpsOf zAf yA qI zAr yu yq yp yr stpP opds opd opdC kap zAE qF zj coreU bin zAY zB6 get put dlO fgt zA6 zAz zA3 zA4 tyT yj yi Op.operands Call.operands evLoad evLen evStore evAlloc zAZ and_true true_and List.append_nil List.nil_append List.cons_append Ret resCv zBx yP cellM zBT zB3 qX StW StR hpT hpO hpV hpA hpL hpC sg nin zCD bdO tmW obW AvE CsE CvE Av.tup Av.ids Cv.ids inD ObE Ob.ids TrE.refl qH qx qy qM qN qO zm zb za yw zBd zCB zAy evCall argL argOf qj outOb obO yM zy cvO tot Tr.own rid partsOf fillC zT zBS frz frz1 evBuildSlice zc trs Cv.tr evSlice Option.toArray_none Option.toArray_some evMakeSlice evAppend dstOf srcOf zAq zA5 zA2 zA0 zA1 ikT qt qs qq qp RetP RetN zBe qR evLd evSt evStoreH zAP evAppendM evAppendT tlOf mvOf rowE shp evTake oOf evC evCallP evCallN evCallO unlast zAK zAp zAO argsF zCA qn pmC varT vT evField evConv dB0 Option.bind_some Option.bind_none Option.map_some Option.map_none Option.isSome_some Option.isSome_none
attribute [local go_sem] yF zY zAk yN qk zAS zAT zAU zAV zAW zAX yX yY yZ yb yd ye yf yg yG qe
attribute [-go_sem] zY
attribute [local go_sem] yV zBi zBj zAA yO
structure zIz (W:zC):Prop extends zIG W where
 zcC:∀k,k<W.sn->qd W.pool (W.zcC k).rs (W.zcC k).rb
theorem zIz.trees{W:zC}(h:zIz W):zFF W:=zNF h.right h.zcE h.zb9 h.zcC
noncomputable def zKC(W:zC)(s:Nat):Bool:=dB (zJk W s)
noncomputable def zW8:zW:=qZ (fun W:zC=>[woT W]) (fun W=>zIz W) (fun W=>[(false,[.s .o 1 W.pool.n (zCG (zKC W))])])
theorem zVH(W:zC):zW8 [woT W]=some (zIz W,[(false,[.s .o 1 W.pool.n (zCG (zKC W))])]):=zO (fun l=>zC1 (nth l 0)) (fun _=>rfl) W
noncomputable def zMd(W:zC)(k:Nat)(l:List (Int×Int))(j s:Nat):Bool:=dB (zZh W k l j s)
theorem zQp:zw Tryz.prog 60 zW8:=by
 refine zQ zs (GOk.cons zDH (zE Tryz.func99 rfl rfl) GOk.nil) zr Tryz.func60 rfl Tryz.ntmps60 Tryz.results60 10 ?_;intro W hW;replace hW:zIz W:=hW;have jA:W.sn<=8:=hW.zcE.2.2.1;have gA:W.pn<=20:=hW.zcE.2.2.2.1;have hn:W.pool.n<=200:=hW.right.1;refine⟨by simp,?_⟩;simp[go_sem];refine⟨by omega,?_⟩;refine yE (fun k:Nat=>⟨[(1,true,.m false [.p 1 0]),(3,true,.m false [.h 7]),(4,true,.m false [.h 8]),(5,true,.i k)],[(8,.row 2 (zD1 W k).length (ptL (zD1 W k))),(7,.row 1 W.pool.n (zCG fun _=>false)),(1,.var ((woL W).map Tr.cv))]⟩) (fun k=>W.sn - k) (fun k=>k<=W.sn) 0 ?_ (Nat.zero_le _) ?_
 ·simp[go_sem];refine⟨zJa rfl,zNw fun i j _ hj=>?_⟩;cases (show j=0 by omega);rfl
 intro k hk;have eA:=zGb W k;simp[go_sem,qB (show k<=1000000000 by omega)];refine⟨fun hl=>?_,fun hl=>?_⟩
 ·refine⟨hl,by omega,k+1,by omega,by omega,rfl,zDC zEW ?_⟩;rw[zKh,zHj hl]
 cases (show k=W.sn by omega);refine yE (fun k:Nat=>⟨[(1,true,.m false [.p 1 0]),(3,true,.m false [.h 7]),(4,true,.m false [.h 8]),(6,true,.i k)],[(8,.row 2 (zD1 W (W.sn+k)).length (ptL (zD1 W (W.sn+k)))),(7,.row 1 W.pool.n (zCG fun _=>false)),(1,.var ((woL W).map Tr.cv))]⟩) (fun k=>W.pn - k) (fun k=>k<=W.pn) 0 (by simp[go_sem]) (Nat.zero_le _) ?_;intro k hk;have eA:=zGb W (W.sn+k);simp[go_sem,qB (show k<=1000000000 by omega)];refine⟨fun hl=>?_,fun hl=>?_⟩
 ·refine⟨hl,by omega,k+1,by omega,by omega,rfl,zDC zEW ?_⟩;rw[<-Nat.add_assoc,zKh,zGa]
 cases (show k=W.pn by omega);obtain⟨R,hR⟩:∃R,R=zD1 W (W.sn+W.pn):=⟨_,rfl⟩;rw[<-hR];have fA:R.length=W.sn+W.pn:=by rw[hR];exact zGb _ _
 refine yE (fun k:Nat=>⟨[(1,true,.m false [.p 1 0]),(3,true,.m false [.h 7]),(4,true,.m false [.h 8]),(7,true,.i k)],[(8,.row 2 R.length (ptL R)),(7,.row 1 W.pool.n (zCG (zMd W k [] 0))),(1,.var ((woL W).map Tr.cv))]⟩) (fun k=>R.length - k) (fun k=>k<=R.length) 0 ?_ (Nat.zero_le _) ?_
 ·simp[go_sem];refine zEq fun i _=>?_
  symm;rw[zMd,zCB];rintro(⟨i,hi,_⟩ | ⟨q,hq,_⟩)
  ·omega
  ·omega
 intro k hk;simp[go_sem,qB (show k<=1000000000 by omega),zEG,hW.right];refine⟨fun dA=>?_,fun dA=>?_⟩
 ·have cA:k<W.sn+W.pn:=(by omega);have e1:zx R k=(zCt W k).1:=(by rw[hR];exact(zOa cA).1);have e2:qS R k=(zCt W k).2:=(by rw[hR];exact(zOa cA).2);have hT:qd W.pool (zCt W k).1 (zCt W k).2:=zXs hW.trees cA;rw[e1,e2];refine⟨dA,hT,by kernel_rfl,?_⟩;obtain⟨l,aA⟩:∃l,l=zN W.pool (zCt W k).1 (zCt W k).2:=⟨_,rfl⟩;have ll:l.length<=100:=(by have:=yR W.pool (zCt W k).1 (zCt W k).2;rw[aA];omega);rw[<-aA];refine yE (fun j:Nat=>⟨[(9,true,.i j),(8,true,.m false [.h 60]),(1,true,.m false [.p 1 0]),(3,true,.m false [.h 7]),(4,true,.m false [.h 8]),(7,true,.i k)],[(60,.row 2 l.length (ptL l)),(8,.row 2 R.length (ptL R)),(7,.row 1 W.pool.n (zCG (zMd W k l j))),(1,.var ((woL W).map Tr.cv))]⟩) (fun j=>l.length - j) (fun j=>j<=l.length) 0 ?_ (Nat.zero_le _) ?_
  ·simp[go_sem];refine zEq fun i _=>?_
   rw[zMd,zMd,zWE];exact⟨fun h=>h.elim Or.inl fun ⟨q,hq,_⟩=>by omega,fun h=>h.elim Or.inl fun ⟨q,hq,_⟩=>by omega⟩
  intro j hj;simp[go_sem,qB (show j<=1000000000 by omega),qB (show k<=1000000000 by omega)];have hm:zLI W k l j (zMd W k l j):=fun s=>zBd
  refine⟨fun bA=>?_,fun bA=>⟨k+1,dA,by omega,rfl,?_⟩⟩
  ·obtain⟨q,hq,iA⟩:=zRT hW.right hT (j:=j) (by rw[<-aA];exact bA);rw[<-aA]at hq;rw[hq];refine⟨bA,⟨by omega,by omega⟩,by simpa using iA,j+1,bA,by omega,rfl,zNx fun i _=>?_⟩;exact Bool.eq_iff_iff.2 (zBd.trans (zSl hm hq i).symm)
  ·cases (show j=l.length by omega);refine zEq fun i _=>?_
   exact Bool.eq_iff_iff.2 ((zSm hm aA i).trans zBd.symm)
 ·cases (show k=R.length by omega);refine⟨zEq fun i _=>?_,zSO⟩;rw[zMd,zKC,zWE,zSL,fA];exact⟨fun h=>h.elim id fun ⟨q,hq,_⟩=>by omega,Or.inl⟩
set_option maxRecDepth 20000
set_option maxHeartbeats 1600000
theorem zYM{a b:Nat}(h:a+b<=1000000000):IntKind.i64.wrap ((a:Int)+(b:Int))=(a:Int)+(b:Int):=by
 unfold IntKind.wrap;simp[IntKind.signed,IntKind.bits];omega
theorem zbz{a b:Nat}(h:a<=1000000000)(h':b<=1000000000):IntKind.i64.wrap ((a:Int) - (b:Int))=(a:Int) - (b:Int):=by
 unfold IntKind.wrap;simp[IntKind.signed,IntKind.bits];omega
theorem tnS{a b:Nat}:((a:Int) - (b:Int)).toNat=a - b:=by omega
attribute [local go_sem] qW List.map_cons List.map_nil Tr.cv yo qG qw qv yn ym yk qu zAv zAx zAw zAs zAu zAt zCK zCM zCL qK zn qL zo qE qD qP yx zk zl yB qJ tmpsOf zAf yA qI zAr yu yq yp yr stpP opds opd opdC kap zAE qF zj coreU bin zAY zB6 get put dlO fgt zA6 zAz zA3 zA4 tyT yj yi Op.operands Call.operands evLoad evLen evStore evAlloc zAZ and_true true_and List.append_nil List.nil_append List.cons_append Ret resCv zBx yP cellM zBT zB3 qX StW StR hpT hpO hpV hpA hpL hpC sg nin zCD bdO tmW obW AvE CsE CvE Av.tup Av.ids Cv.ids inD ObE Ob.ids TrE.refl qH qx qy qM qN qO zm zb za yw zBd zCB zAy evCall argL argOf qj outOb obO yM zy cvO tot Tr.own rid partsOf fillC zT zBS frz frz1 evBuildSlice zc trs Cv.tr evSlice Option.toArray_none Option.toArray_some evMakeSlice evAppend dstOf srcOf zAq zA5 zA2 zA0 zA1 ikT qt qs qq qp RetP RetN zBe qR evLd evSt evStoreH zAP evAppendM evAppendT tlOf mvOf rowE shp evTake oOf evC evCallP evCallN evCallO unlast zAK zAp zAO argsF zCA qn pmC varT vT evField evConv dB0 Option.bind_some Option.bind_none Option.map_some Option.map_none Option.isSome_some Option.isSome_none
attribute [local go_sem] yF zY zAk yN qk zAS zAT zAU zAV zAW zAX yX yY yZ yb yd ye yf yg yG qe
attribute [-go_sem] zY
attribute [local go_sem] yV zBi zBj zAA yO
noncomputable def zOc(W:zC)(k:Nat)(now old:List (Int×Int))(j s:Nat):Bool:=dB (zZi W k now old j s)
noncomputable def zWr:zW:=qZ (fun W:zC=>[woT W]) (fun W=>zIz W) (fun W=>bR (zIB W))
theorem zVA(W:zC):zWr [woT W]=some (zIz W,bR (zIB W)):=zO (fun l=>zC1 (nth l 0)) (fun _=>rfl) W
theorem zQm:zw Tryz.prog 63 zWr:=by
 refine zQ zs (GOk.cons zDM (zE Tryz.func98 rfl rfl) (GOk.cons zDH (zE Tryz.func99 rfl rfl) (GOk.cons zJK (zE Tryz.func65 rfl rfl) GOk.nil))) zr Tryz.func63 rfl Tryz.ntmps63 Tryz.results63 12 ?_;intro W hW;replace hW:zIz W:=hW;have sA:W.sn<=8:=hW.zcE.2.2.1;have pA:W.pn<=20:=hW.zcE.2.2.2.1;have hn:W.pool.n<=200:=hW.right.1;refine⟨by simp,?_⟩;simp[go_sem];refine⟨by omega,?_⟩;refine yE (fun k:Nat=>⟨[(1,true,.m false [.p 1 0]),(3,true,.m false [.h 61]),(4,true,.i k)],[(61,.row 1 W.pool.n (zCG (zOc W k [] [] 0))),(1,.var ((woL W).map Tr.cv))]⟩) (fun k=>zt W - k) (fun k=>k<=zt W/\zOn W k) 0 ?_ ⟨Nat.zero_le _,fun i hi=>by omega⟩ ?_
 ·simp[go_sem];refine zNw fun i j _ hj=>?_
  cases (show j=0 by omega);have:zOc W 0 [] [] 0 i=false:=by
   rw[zOc,zCB];rintro(⟨i,hi,_⟩ | ⟨q,hq,_⟩)<;>omega
  simp[this]
 rintro k ⟨hk,hA⟩;have rA:zt W=W.pn+W.sn:=rfl;by_cases hl:k<zt W;rotate_left
 ·have h1:¬(k:Int)<(W.pn:Int)+(W.sn:Int):=(by omega);simp[go_sem,zYM (show W.pn+W.sn<=1000000000 by omega),h1];cases (show k=zt W by omega);exact hA
 have h1:(k:Int)<(W.pn:Int)+(W.sn:Int):=by omega
 have gA:qd W.pool (zL W k).rs (zL W k).rb:=hW.trees.tree k hl;have iA:=zPa hW.zb9 (zL W k).zcD;have hz:=zEc hW.ids (zL W k).zcD;by_cases hs:k<W.pn
 case' pos=>
  have e:zL W k=zY7 (W.zb9 k):=yW hs;rw[e]at gA iA hz;replace gA:qd W.pool (W.zb9 k).rs (W.zb9 k).rb:=gA;replace iA:qd W.pool (zI W (W.zb9 k).zcD).rs (zI W (W.zb9 k).zcD).rb:=iA;replace hz:zDY W (W.zb9 k).zcD=zI W (W.zb9 k).zcD:=hz;obtain⟨bA,aA⟩:∃l,l=zN W.pool (W.zb9 k).rs (W.zb9 k).rb:=⟨_,rfl⟩;obtain⟨fA,cA⟩:∃l,l=zN W.pool (zI W (W.zb9 k).zcD).rs (zI W (W.zb9 k).zcD).rb:=⟨_,rfl⟩;have dA:bA=zBu W (zL W k):=(by rw[e];exact aA);have eA:fA=zFv W (zL W k):=(by rw[e];exact cA);simp[go_sem,zYM (show W.pn+W.sn<=1000000000 by omega),h1,hs,zDu,zEG,hW.pn,hW.right,hz,iA,gA,<-aA,<-cA]
 case' neg=>
  have e:zL W k=zY8 W.time (W.zcC (k - W.pn)):=by
   have:=zBF W (k - W.pn)
   rwa [show W.pn+(k - W.pn)=k by omega]at this
  rw[e]at gA iA hz;replace gA:qd W.pool (W.zcC (k - W.pn)).rs (W.zcC (k - W.pn)).rb:=gA;replace iA:qd W.pool (zI W (W.zcC (k - W.pn)).zcD).rs (zI W (W.zcC (k - W.pn)).zcD).rb:=iA;replace hz:zDY W (W.zcC (k - W.pn)).zcD=zI W (W.zcC (k - W.pn)).zcD:=hz;obtain⟨bA,aA⟩:∃l,l=zN W.pool (W.zcC (k - W.pn)).rs (W.zcC (k - W.pn)).rb:=⟨_,rfl⟩;obtain⟨fA,cA⟩:∃l,l=zN W.pool (zI W (W.zcC (k - W.pn)).zcD).rs (zI W (W.zcC (k - W.pn)).zcD).rb:=⟨_,rfl⟩;have dA:bA=zBu W (zL W k):=(by rw[e];exact aA);have eA:fA=zFv W (zL W k):=(by rw[e];exact cA);simp[go_sem,zYM (show W.pn+W.sn<=1000000000 by omega),zbz (show k<=1000000000 by omega) (show W.pn<=1000000000 by omega),tnS,h1,hs,zDu,zEG,hW.pn,hW.right,hz,iA,gA,<-aA,<-cA];refine⟨⟨by omega,by omega⟩,?_⟩
 all_goals
  have ln:bA.length<=100:=(by rw[aA];exact Nat.le_trans (yR ..) (by omega));have lo:fA.length<=100:=(by rw[cA];exact Nat.le_trans (yR ..) (by omega));have mA:∀j,j<bA.length->∃s:Nat,zx bA j=(s:Int)/\s<W.pool.n:=fun j hj=>by
   rw[aA];exact zRT hW.right gA (by rw[<-aA];exact hj)
  clear aA cA gA iA hz e h1 hs;refine yE (fun j:Nat=>⟨[(11,true,.i j),(10,true,.m false [.h 63]),(9,true,.m false [.h 62]),(1,true,.m false [.p 1 0]),(3,true,.m false [.h 61]),(4,true,.i k)],[(63,.row 2 bA.length (ptL bA)),(62,.row 2 fA.length (ptL fA)),(61,.row 1 W.pool.n (zCG (zOc W k bA fA j))),(1,.var ((woL W).map Tr.cv))]⟩) (fun j=>bA.length - j) (fun j=>j<=bA.length/\zFc W k bA fA j) 0 ?_ ⟨Nat.zero_le _,fun i hi=>absurd hi (Nat.not_lt_zero _)⟩ ?_
  ·simp[go_sem];have h0:zEO W k [] [] 0 (zOc W k [] [] 0):=fun s=>zBd
   exact zEq fun i _=>Bool.eq_iff_iff.2 ((zSu h0 bA fA i).trans zBd.symm)
  rintro j ⟨hj,kA⟩;have hS:zEO W k bA fA j (zOc W k bA fA j):=fun s=>zBd
  have oA:fA.length<=1000000:=(by omega);simp[go_sem,zPQ,qB (show j<=1000000000 by omega),qB (show k<=1000000000 by omega),zXk,oA];refine⟨fun jA=>⟨jA,fun lA=>⟨j+1,⟨jA,zXz kA lA⟩,by omega,rfl,?_⟩,fun lA=>?_⟩,fun jA=>?_⟩
  ·exact zEq fun i _=>Bool.eq_iff_iff.2 ((zVZ hS lA i).trans zBd.symm)
  ·obtain⟨s,hs,nA⟩:=mA j jA;rw[hs];refine⟨jA,⟨by omega,by omega⟩,by simpa using nA,fun hf=>?_,fun hf=>⟨jA,⟨by omega,by omega⟩,by simpa using nA,j+1,⟨jA,?_⟩,by omega,rfl,?_⟩⟩
   ·rw[Int.toNat_natCast]at hf;exact zSv hW.trees hl dA eA hS jA hs lA hf
   ·rw[Int.toNat_natCast]at hf;exact zXv kA hS hs hf
   ·rw[Int.toNat_natCast];exact zNx fun i _=>Bool.eq_iff_iff.2 (zBd.trans (zVY hS hs lA i).symm)
  ·cases (show j=bA.length by omega);refine⟨k+1,⟨hl,zRv hA dA eA kA⟩,by omega,rfl,zEq fun i _=>?_⟩;exact Bool.eq_iff_iff.2 ((zVb hS dA eA i).trans zBd.symm)
set_option maxRecDepth 20000
set_option maxHeartbeats 3200000
attribute [local go_sem] qW List.map_cons List.map_nil Tr.cv yo qG qw qv yn ym yk qu zAv zAx zAw zAs zAu zAt zCK zCM zCL qK zn qL zo qE qD qP yx zk zl yB qJ tmpsOf zAf yA qI zAr yu yq yp yr stpP opds opd opdC kap zAE qF zj coreU bin zAY zB6 get put dlO fgt zA6 zAz zA3 zA4 tyT yj yi Op.operands Call.operands evLoad evLen evStore evAlloc zAZ and_true true_and List.append_nil List.nil_append List.cons_append Ret resCv zBx yP cellM zBT zB3 qX StW StR hpT hpO hpV hpA hpL hpC sg nin zCD bdO tmW obW AvE CsE CvE Av.tup Av.ids Cv.ids inD ObE Ob.ids TrE.refl qH qx qy qM qN qO zm zb za yw zBd zCB zAy evCall argL argOf qj outOb obO yM zy cvO tot Tr.own rid partsOf fillC zT zBS frz frz1 evBuildSlice zc trs Cv.tr evSlice Option.toArray_none Option.toArray_some evMakeSlice evAppend dstOf srcOf zAq zA5 zA2 zA0 zA1 ikT qt qs qq qp RetP RetN zBe qR evLd evSt evStoreH zAP evAppendM evAppendT tlOf mvOf rowE shp evTake oOf evC evCallP evCallN evCallO unlast zAK zAp zAO argsF zCA qn pmC varT vT evField evConv dB0 Option.bind_some Option.bind_none Option.map_some Option.map_none Option.isSome_some Option.isSome_none
attribute [local go_sem] yF zY zAk yN qk zAS zAT zAU zAV zAW zAX yX yY yZ yb yd ye yf yg yG qe
attribute [-go_sem] zY
attribute [local go_sem] yV zBi zBj zAA yO
structure SmallW (W:zC):Prop where
 n:W.pool.n<=1000000
 hn:W.pool.hn<=1000000
 sn:W.sn<=1000000
 pn:W.pn<=1000000
 sd:∀i,i<W.sn->(W.zcC i).dn<=1000000
 pd:∀i,i<W.pn->(W.zb9 i).dn<=1000000
theorem zaf{W:zC}{k:Nat}(h:k<W.pn):zF8 W k↔zEN (W.zb9 k).dn (W.zb9 k).ds (W.zb9 k).db (zB7 (zN W.pool (zI W (W.zb9 k).zcD).rs (zI W (W.zb9 k).zcD).rb) (zN W.pool (W.zb9 k).rs (W.zb9 k).rb)):=by
 unfold zF8;rw[yW h];exact Iff.rfl
theorem zag{W:zC}{k:Nat}:zF8 W (W.pn+k)↔zEN (W.zcC k).dn (W.zcC k).ds (W.zcC k).db (zB7 (zN W.pool (zI W (W.zcC k).zcD).rs (zI W (W.zcC k).zcD).rb) (zN W.pool (W.zcC k).rs (W.zcC k).rb)):=by
 unfold zF8;rw[zBF];exact Iff.rfl
noncomputable def mWR:zW:=qZ (fun W:zC=>[woT W]) (fun W=>SmallW W) (fun W=>bR (zB9 W))
theorem zBC(W:zC):mWR [woT W]=some (SmallW W,bR (zB9 W)):=zO (fun l=>zC1 (nth l 0)) (fun _=>rfl) W
theorem zA8:zw Tryz.prog 32 mWR:=by
 refine zQ zs (GOk.cons zEz (zE Tryz.func28 rfl rfl) (GOk.cons zEU (zE Tryz.func55 rfl rfl) (GOk.cons zQn (zE Tryz.func56 rfl rfl) (GOk.cons zPN (zE Tryz.func57 rfl rfl) (GOk.cons zKa (zE Tryz.func58 rfl rfl) (GOk.cons zSY (zE Tryz.func59 rfl rfl) (GOk.cons zQp (zE Tryz.func60 rfl rfl) (GOk.cons zFo (zE Tryz.func61 rfl rfl) (GOk.cons zSX (zE Tryz.func62 rfl rfl) (GOk.cons zQm (zE Tryz.func63 rfl rfl) GOk.nil)))))))))) zr Tryz.func32 rfl Tryz.ntmps32 Tryz.results32 8 ?_;intro W hW;replace hW:SmallW W:=hW;refine⟨by simp,?_⟩;simp[go_sem,zHe,zVE,zSc,hW.n,hW.hn,hW.sn,hW.pn];refine⟨fun h hS=>?_,fun hR hN hC=>?_⟩
 ·rcases h with(h | h) | ⟨x,hx,h⟩
  ·exact h hS.right
  ·exact h hS.zcE
  ·exact h (hS.lines x hx)
 have jA:W.sn<=8:=hN.2.2.1;have iA:W.pn<=20:=hN.2.2.2.1;refine yE (fun k:Nat=>⟨[(1,true,.m false [.p 1 0]),(3,true,.i k)],[(1,.var ((woL W).map Tr.cv))]⟩) (fun k=>W.pn - k) (fun k=>k<=W.pn/\∀i,i<k->qd W.pool (W.zb9 i).rs (W.zb9 i).rb) 0 (by simp[go_sem]) (by simp) ?_;rintro k ⟨hk,eA⟩;simp[go_sem,qB (show k<=1000000000 by omega),zSj,hR];refine⟨fun hl=>⟨hl,by kernel_rfl,fun h hS=>h (hS.zb9 k hl),fun h=>⟨k+1,⟨by omega,qz hl eA h⟩,by omega,rfl⟩⟩,fun hl=>?_⟩;cases (show k=W.pn by omega);have dA:zIG W:=⟨hR,hN,eA⟩;refine yE (fun k:Nat=>⟨[(1,true,.m false [.p 1 0]),(4,true,.i k)],[(1,.var ((woL W).map Tr.cv))]⟩) (fun k=>W.sn - k) (fun k=>k<=W.sn/\∀i,i<k->qd W.pool (W.zcC i).rs (W.zcC i).rb/\zF8 W (W.pn+i)) 0 (by simp[go_sem]) (by simp) ?_;rintro k ⟨hk,aA⟩;simp[go_sem,qB (show k<=1000000000 by omega),zSj,zQw,hR,dA,<-zag];refine⟨fun hl=>⟨hl,fun _=>hl,fun h=>⟨h,hW.sd k hl⟩,by kernel_rfl,fun h hS=>?_,fun h1 h2=>⟨k+1,⟨by omega,qz hl aA ⟨h1,h2⟩⟩,by omega,rfl⟩⟩,fun hl=>?_⟩
 ·exact h.elim (fun h=>h (hS.zcC k hl).1) (fun h=>h (hS.zcC k hl).2)
 cases (show k=W.sn by omega);have fA:zIz W:=⟨dA,fun i hi=>(aA i hi).1⟩;refine yE (fun k:Nat=>⟨[(1,true,.m false [.p 1 0]),(5,true,.i k)],[(1,.var ((woL W).map Tr.cv))]⟩) (fun k=>W.pn - k) (fun k=>k<=W.pn/\∀i,i<k->zF8 W i) 0 (by simp[go_sem]) (by simp) ?_;rintro k ⟨hk,bA⟩;by_cases hl:k<W.pn
 ·have hT:=eA k hl;have hd:=hW.pd k hl;simp[go_sem,qB (show k<=1000000000 by omega),zQw,dA,hl,hT,hd,<-zaf hl];refine⟨by kernel_rfl,fun h hS=>h (hS.dead k hl),fun h=>⟨k+1,⟨by omega,qz hl bA h⟩,by omega,rfl⟩⟩
 simp[go_sem,qB (show k<=1000000000 by omega),hl,zVH,fA];cases (show k=W.pn by omega);refine yE (fun k:Nat=>⟨[(1,true,.m false [.p 1 0]),(6,true,.m false [.h 61]),(7,true,.i k)],[(61,.row 1 W.pool.n (zCG (zKC W))),(1,.var ((woL W).map Tr.cv))]⟩) (fun k=>W.pool.n - k) (fun k=>k<=W.pool.n/\∀i,i<k->(zJk W i↔(¬yh (W.pool.s i)/\¬Has W.pool.hn W.pool.h i))) 0 (by simp[go_sem]) (by simp) ?_;rintro k ⟨hk,cA⟩;have gA:W.pool.n<=200:=hR.1;simp[go_sem,qB (show k<=1000000000 by omega),zFp,zHd,zVB,zVA,fA,dA,hW.hn];have hq:zKC W k=(!dB (yh (W.pool.s k)) && !dB (Has W.pool.hn W.pool.h (k:Int)))↔(zJk W k↔(¬yh (W.pool.s k)/\¬Has W.pool.hn W.pool.h k)):=by
  unfold zKC;by_cases h1:zJk W k<;>by_cases h2:yh (W.pool.s k)<;>by_cases h3:Has W.pool.hn W.pool.h (k:Int)<;>simp[dB,h1,h2,h3]
 rw[hq];refine⟨fun hl=>⟨hl,by kernel_rfl,fun h hS=>h (hS.reach k hl),fun h=>⟨k+1,⟨by omega,qz hl cA h⟩,by omega,rfl⟩⟩,fun hl=>⟨fA.zcC,fun h=>?_,fun hS=>⟨hS.born,hS.zcI⟩⟩⟩;cases (show k=W.pool.n by omega);exact⟨hR,hN,hC,eA,aA,bA,cA,h.1,h.2⟩
end Go.Proofs.YtbplmbafodlboaaGreatDoor
