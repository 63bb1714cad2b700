/- A part of the proof. -/
import Derived.Test.YtginldeebkfbgaaGreatF24
set_option linter.unusedVariables false
set_option maxRecDepth 20000
set_option maxHeartbeats 4000000
namespace Go.Proofs.YtginldeebkfbgaaGreat
open Go.RowKit
set_option linter.unusedSimpArgs false
set_option maxRecDepth 20000
set_option maxHeartbeats 3200000
attribute [local go_sem] qX List.map_cons List.map_nil Tr.cv yq qK yA qz yp yo yn qy zBE zBG zBF zBB zBD zBC zCa zCc zCb qP zr qQ zt qI qH qU zAA zo zp yE qO tmpsOf zAo yD qN zBA yw yu yr yx yv stpP opds opd opdC kap zAB qJ zn coreU bin zAe zCK get put dlO fgt zBR zBK zBO zBP tyT yk yj Op.operands Call.operands evLoad evLen evStore evAlloc zAj and_true true_and List.append_nil List.nil_append List.cons_append Ret resCv zB3 yV cellM zBh zCE qV StW StR hpT hpO hpV hpA hpL hpC sg nin zCU bdO tmW obW AvE CsE CvE Av.tup Av.ids Cv.ids inD ObE Ob.ids TrE.refl qM yB yC qR qS qT zq zb zX yz zBa zCL zBH evCall argL argOf qZ outOb obO yM qA cvO tot Tr.own rid partsOf fillC zS zBf frz frz1 evBuildSlice zc trs Cv.tr evSlice Option.toArray_none Option.toArray_some evMakeSlice evAppend dstOf srcOf zA3 zBQ zBN zBL zBM ikT qx qw qv qu RetP RetN zBr qD evLd evSt evStoreH zAh evAppendM evAppendT tlOf mvOf rowE shp evTake oOf evC evCallP evCallN evCallO unlast zAO zA1 zAa argsF zCR qg pmC varT vT evField evConv dB0 Option.bind_some Option.bind_none Option.map_some Option.map_none Option.isSome_some Option.isSome_none
attribute [local go_sem] yL za zA7 yd qr zAv zAw zAx zAy zAz zA0 zAD zAE zAF zAG zAH zAI zAJ zAK yS qp
attribute [-go_sem] za
attribute [local go_sem] zAV zCF zCG zAf yy
theorem zHA(f g:Nat->Int)(t:Int)(n:Nat):(zEI f g t n).length<=n:=by
 have:=zFr f g t n;omega
theorem zHb{n:Nat}{f g:Nat->Int}:(zDd n f g).length=n:=by simp[zDd]
theorem zYV{n:Nat}{f g:Nat->Int}{l:List (Int×Int)}{i:Nat}:zi (zDd n f g ++ l) i=if i<n then f i else zi l (i - n):=by
 unfold zi zDd;simp only[List.getD_eq_getElem?_getD,List.getElem?_append,List.length_map,List.length_range];split
 ·rename_i h;simp[h]
 ·rfl
theorem zY9{n:Nat}{f g:Nat->Int}{l:List (Int×Int)}{i:Nat}:zu (zDd n f g ++ l) i=if i<n then g i else zu l (i - n):=by
 unfold zu zDd;simp only[List.getD_eq_getElem?_getD,List.getElem?_append,List.length_map,List.length_range];split
 ·rename_i h;simp[h]
 ·rfl
theorem zIh{n m:Nat}{f g:Nat->Int}{l:List (Int×Int)}{F:Nat->Nat->Tr}(hm:m=n+l.length)(hF:∀i j,i<m->j<2->F i j=if i<n then ptrsT f g i j else zEv encP (0,0) l (i - n) j):TrE (.s .o 2 m F) (.s .o 2 (zDd n f g ++ l).length (ptrsT (zi (zDd n f g ++ l)) (zu (zDd n f g ++ l)))):=by
 refine⟨.inl rfl,rfl,by rw[hm,List.length_append,zHb],fun i j hi hj=>TrE.of_eq ?_⟩;rw[hF i j hi hj]
 match j,hj with
 | 0,_=>simp only[ptrsT,zYV,zCF];split<;>rfl
 | 1,_=>simp only[ptrsT,zY9,zCG];split<;>rfl
theorem zbT(f:Nat->Nat->Tr)(k:Nat)(a b:Tr):qn f k 3 [a,b] k 5=f k 5:=by simp[qn]
abbrev toV(t:zD4):List Tr:=[.s .o 3 t.pool.n (zY .z t.pool.s),.s .o 1 t.pool.hn (qf t.pool.h),.v (.int .i64 t.rs),.v (.int .i64 t.rb),.s .o 2 t.old.length (ptL t.old),.v (.int .i64 t.code)]
noncomputable def zW6:zR:=qE (fun q:(zB×Int)×zD4=>[woT q.1.1,iT q.1.2,(true,toV q.2)]) (fun q=>yU q.1.1/\ql q.1.1/\(0<=q.1.2/\q.1.2<q.1.1.sn)/\(q.2.code=0->q.2.pool.hn+q.2.old.length<=1000000)) (fun q=>[wuO (zFF q.1.1 q.1.2.toNat q.2)])
theorem zYO(l:List (Int×Int)):zUV (.s .o 2 l.length (ptL l))=l:=by
 refine Eq.trans ?_ (zOo l);unfold zUV;congr 1
theorem zN5(W:zB)(k:Int)(t:zD4):zW6 [woT W,iT k,(true,toV t)]=some (yU W/\ql W/\(0<=k/\k<W.sn)/\(t.code=0->t.pool.hn+t.old.length<=1000000),[wuO (zFF W k.toNat t)]):=
 zK (fun m=>((zB7 (nth m 0),qC (nth m 1 0)),⟨zEi (nth m 2 0) (nth m 2 1),qC (nth m 2 2),qC (nth m 2 3),zUV (nth m 2 4),qC (nth m 2 5)⟩)) (fun q=>by exact congrArg (fun l=>(q.1,(⟨q.2.pool,q.2.rs,q.2.rb,l,q.2.code⟩:zD4))) (zYO q.2.old)) ((W,k),t)
theorem zLv:zOg Tryz.prog 142 zW6:=by
 refine zVR (A:=fun q:(zB×Int)×zD4=>[woT q.1.1,iT q.1.2]) (V:=fun q=>toV q.2) zl (GOk.cons zCC (zG Tryz.func117 rfl rfl) (GOk.cons zCQ (zG Tryz.func115 rfl rfl) (GOk.cons zCk (zG Tryz.func53 rfl rfl) (GOk.cons zE4 (zG Tryz.func146 rfl rfl) (GOk.ptr zIB (zG Tryz.func147 rfl rfl) GOk.nil))))) zk Tryz.func142 rfl Tryz.ntmps142 Tryz.results142 13 ?_;rintro⟨⟨W,k'⟩,t⟩ hW;obtain⟨hW,hR,⟨h0,hk⟩,ht⟩:yU W/\ql W/\(0<=k'/\k'<W.sn)/\(t.code=0->t.pool.hn+t.old.length<=1000000):=hW;have hs:=hW.sn;have hp:=hW.pn;obtain⟨k,rfl⟩:=Int.eq_ofNat_of_zero_le h0;have aA:k<W.sn:=by omega
 refine⟨by simp,?_⟩;show ev _ _ _ _ _ _ (zVh _ _ [wuO (zFF W k t)]);by_cases hc:t.code=0;rotate_left
 ·simp[go_sem,qh,hc];exact qj (if_neg hc)
 have hz:=zDi (fun k hk=>(hR.zbj.zbf.ids k hk).1) (W.zbh k).zbi;have eL:zFF W k t=⟨za5 W k t,0,((zYg W k t).length:Int),0⟩:=if_pos hc;simp[go_sem,qh,yf,zDG,zFY,zL2 ⟨t.pool,W.time,W.next,W.sn,W.zbh,W.pn,W.zbg⟩,hW,hs,hp,hc,hz,aA,ze (show k<=1000000000 by omega),zbT,zQW,zLj,zQV,zJ2,eL];have hl:=ht hc;have hy:=zBo (fun i=>zi t.old i) (fun i=>zu t.old i) (zE W (W.zbh k).zbi).time t.old.length;have ho:=zHA (fun i=>zi t.old i) (fun i=>zu t.old i) (zE W (W.zbh k).zbi).time t.old.length;have hd:=hW.sd k aA;refine⟨by kernel_rfl,by omega,by omega,by omega,by kernel_rfl,⟨TrE.refl _,zQ⟩,⟨TrE.refl _,zZ⟩,rfl,rfl,⟨⟨.inl rfl,rfl,rfl,fun i j hi hj=>?_⟩,qG⟩,⟨TrE.refl _,zx⟩,rfl⟩;show TrE _ (setsE .o (fun j=>if j=k then zLx W k t else W.zbh j) i j);by_cases e:i=k
 ·subst e
  match j,hj with
  | 0,_ | 1,_ | 2,_ | 3,_ | 4,_=>exact TrE.of_eq (by simp[qn,setsE,zLx])
  | 5,_=>
   simp[qn,setsE,zLx];exact zIh rfl fun a b ha hb=>by
    unfold yH;split
    ·rfl
    ·match b,hb with
     | 0,_ | 1,_=>rfl
 ·exact TrE.of_eq (by unfold setsE;simp[qn,e])
open Classical in
noncomputable def zHL(W:zB)(x:ByteArray)(page:Int)(d:ByteArray):zDR:=if 8000<x.size\/8000<d.size then qa 2 else if ql W then(if zA4 W x then zFF W (zB4 W x) (zC0 W.pool (W.zbh (zB4 W x)).rs (W.zbh (zB4 W x)).rb page d W.time)else qa 4)else qa 1
open Classical in
noncomputable def zKN(W:zB)(x:ByteArray)(page:Int):zDR:=if 8000<x.size then qa 2 else if ql W then(if zA4 W x then zFF W (zB4 W x) (zGc W.pool (W.zbh (zB4 W x)).rs (W.zbh (zB4 W x)).rb page W.time)else qa 4)else qa 1
noncomputable def zXC:zR:=qE (fun q:(zB×ByteArray)×Int×ByteArray=>[woT q.1.1,sT q.1.2,iT q.2.1,sT q.2.2]) (fun q=>yU q.1.1) (fun q=>[wuO (zHL q.1.1 q.1.2 q.2.1 q.2.2)])
theorem zU0(W:zB)(x:ByteArray)(aA:Int)(d:ByteArray):zXC [woT W,sT x,iT aA,sT d]=some (yU W,[wuO (zHL W x aA d)]):=zK (fun l=>((zB7 (nth l 0),zDJ (nth l 1 0)),qC (nth l 2 0),zDJ (nth l 3 0))) (fun _=>rfl) ((W,x),aA,d)
theorem zPs:zd Tryz.prog 130 zXC:=by
 refine zP zl (GOk.cons yO (zG Tryz.func8 rfl rfl) (GOk.cons zCP (zG Tryz.func23 rfl rfl) (GOk.cons zCQ (zG Tryz.func115 rfl rfl) (GOk.cons zOj (zG Tryz.func149 rfl rfl) (GOk.own zLv (zG Tryz.func142 rfl rfl) GOk.nil))))) zk Tryz.func130 rfl Tryz.ntmps130 Tryz.results130 10 ?_;rintro⟨⟨W,x⟩,aA,d⟩ hW;replace hW:yU W:=hW;have hs:=hW.sn;have hp:=hW.n;have hh:=hW.hn;refine⟨by simp,?_⟩;by_cases h8:8000<x.size\/8000<d.size
 ·rcases Nat.lt_or_ge 8000 x.size with h | h
  ·simp[go_sem,qh,show(8000:Int)<x.size by omega];exact qj (if_pos h8)
  ·simp[go_sem,qh,show ¬(8000:Int)<x.size by omega,show(8000:Int)<d.size by omega];exact qj (if_pos h8)
 have bA:¬(8000:Int)<x.size:=by omega
 have cA:¬(8000:Int)<d.size:=by omega
 by_cases hR:ql W;rotate_left
 ·simp[go_sem,yX,yW,qh,hW,hW.toSmallW,hs,hp,bA,cA,hR];exact qj ((if_neg h8).trans (if_neg hR))
 by_cases hH:zA4 W x;rotate_left
 ·simp[go_sem,yX,yW,qh,hW,hW.toSmallW,hs,hp,zCH,zAp,bA,cA,hR,hH];exact qj ((if_neg h8).trans ((if_pos hR).trans (if_neg hH)))
 have hk:=zHG hH;have iA:=zAp.2 hH;have eA:zB4 W x<W.sn:=by show(zA2 W.sn fun k=>(W.zbh k).name=x).toNat<W.sn;omega
 obtain⟨k,dA⟩:∃k,k=zB4 W x:=⟨_,rfl⟩;have fA:(zA2 W.sn fun k=>(W.zbh k).name=x)=(k:Int):=by rw[dA];show _=((zA2 W.sn fun k=>(W.zbh k).name=x).toNat:Int);omega
 have gA:¬(k:Int)<0:=by omega
 have eR:zHL W x aA d=zFF W k (zC0 W.pool (W.zbh k).rs (W.zbh k).rb aA d W.time):=by
  unfold zHL;rw[if_neg h8,if_pos hR,if_pos hH,<-dA]
 rw[<-dA]at eA;have hz:=zHM W.pool (W.zbh k).rs (W.zbh k).rb aA d W.time;obtain⟨t,ht⟩:∃t,t=zC0 W.pool (W.zbh k).rs (W.zbh k).rb aA d W.time:=⟨_,rfl⟩;rw[<-ht]at hz eR;have hb:t.pool.hn+t.old.length<=1000000:=by
  have:=zE8 hR.right;have h1:=hz.1;have h2:=hz.2;have h3:t.pool.hn<=yI t.pool:=Nat.le_add_left ..;omega
 have eT:=zaU W.pool (W.zbh k).rs (W.zbh k).rb aA d W.time;rw[<-ht]at eT;simp[go_sem,yX,yW,qh,eT,zN5 W k t,hW,hW.toSmallW,hs,hp,hh,fA,gA,bA,cA,hR,eA,eR,hb];exact⟨by kernel_rfl,zQ,zZ,qG,zx⟩
noncomputable def zZ0:zR:=qE (fun q:(zB×ByteArray)×Int=>[woT q.1.1,sT q.1.2,iT q.2]) (fun q=>yU q.1.1) (fun q=>[wuO (zKN q.1.1 q.1.2 q.2)])
theorem zW5(W:zB)(x:ByteArray)(aA:Int):zZ0 [woT W,sT x,iT aA]=some (yU W,[wuO (zKN W x aA)]):=zK (fun l=>((zB7 (nth l 0),zDJ (nth l 1 0)),qC (nth l 2 0))) (fun _=>rfl) ((W,x),aA)
theorem zRj:zd Tryz.prog 121 zZ0:=by
 refine zP zl (GOk.cons yO (zG Tryz.func8 rfl rfl) (GOk.cons zCP (zG Tryz.func23 rfl rfl) (GOk.cons zCQ (zG Tryz.func115 rfl rfl) (GOk.cons zPu (zG Tryz.func143 rfl rfl) (GOk.own zLv (zG Tryz.func142 rfl rfl) GOk.nil))))) zk Tryz.func121 rfl Tryz.ntmps121 Tryz.results121 8 ?_;rintro⟨⟨W,x⟩,aA⟩ hW;replace hW:yU W:=hW;have hs:=hW.sn;have hp:=hW.n;have hh:=hW.hn;refine⟨by simp,?_⟩;by_cases h8:8000<x.size
 ·simp[go_sem,qh,show(8000:Int)<x.size by omega];exact qj (if_pos h8)
 have bA:¬(8000:Int)<x.size:=by omega
 by_cases hR:ql W;rotate_left
 ·simp[go_sem,yX,yW,qh,hW,hW.toSmallW,hs,hp,bA,hR];exact qj ((if_neg h8).trans (if_neg hR))
 by_cases hH:zA4 W x;rotate_left
 ·simp[go_sem,yX,yW,qh,hW,hW.toSmallW,hs,hp,zCH,zAp,bA,hR,hH];exact qj ((if_neg h8).trans ((if_pos hR).trans (if_neg hH)))
 have hk:=zHG hH;have gA:=zAp.2 hH;have dA:zB4 W x<W.sn:=by show(zA2 W.sn fun k=>(W.zbh k).name=x).toNat<W.sn;omega
 obtain⟨k,cA⟩:∃k,k=zB4 W x:=⟨_,rfl⟩;have eA:(zA2 W.sn fun k=>(W.zbh k).name=x)=(k:Int):=by rw[cA];show _=((zA2 W.sn fun k=>(W.zbh k).name=x).toNat:Int);omega
 have fA:¬(k:Int)<0:=by omega
 have eR:zKN W x aA=zFF W k (zGc W.pool (W.zbh k).rs (W.zbh k).rb aA W.time):=by
  unfold zKN;rw[if_neg h8,if_pos hR,if_pos hH,<-cA]
 rw[<-cA]at dA;have hz:=zIK W.pool (W.zbh k).rs (W.zbh k).rb aA W.time;obtain⟨t,ht⟩:∃t,t=zGc W.pool (W.zbh k).rs (W.zbh k).rb aA W.time:=⟨_,rfl⟩;rw[<-ht]at hz eR;have hb:t.pool.hn+t.old.length<=1000000:=by
  have:=zE8 hR.right;have h1:=hz.1;have h2:=hz.2;have h3:t.pool.hn<=yI t.pool:=Nat.le_add_left ..;omega
 have eT:=zaT W.pool (W.zbh k).rs (W.zbh k).rb aA W.time;rw[<-ht]at eT;simp[go_sem,yX,yW,qh,eT,zN5 W k t,hW,hW.toSmallW,hs,hp,hh,eA,fA,bA,hR,dA,eR,hb];exact⟨by kernel_rfl,zQ,zZ,qG,zx⟩
open Go.Maps
def zF0(f:Nat->Int)(x:Int):Nat->Nat
 | 0=>0
 | k+1=>zF0 f x k+(if f k=x then 1 else 0)
theorem zQE{f:Nat->Int}{x:Int}{k:Nat}(h:f k=x):zF0 f x (k+1)=zF0 f x k+1:=by simp[zF0,h]
theorem zTD{f:Nat->Int}{x:Int}{k:Nat}(h:¬f k=x):zF0 f x (k+1)=zF0 f x k:=by simp[zF0,h]
def zTo(W:zB)(x:Int):Nat:=zF0 (fun i=>(W.zbh i).zbi) x W.sn+zF0 (fun i=>(W.zbg i).zbi) x W.pn
def del{α : Type}(f:Nat->α)(k:Nat):Nat->α:=fun i=>if i<k then f i else f (i+1)
def zVl(W:zB)(x:Int)(i:Nat):Prop:=i<W.pn/\(W.zbg i).zbi=x/\(∀j,j<W.pn->j≠i->(W.zbg j).zbi≠x)/\∀j,j<W.sn->(W.zbh j).zbi≠x
def zVm(W:zB)(x:Int)(i:Nat):Prop:=i<W.sn/\(W.zbh i).zbi=x/\(∀j,j<W.sn->j≠i->(W.zbh j).zbi≠x)/\∀j,j<W.pn->(W.zbg j).zbi≠x
theorem zFS{f:Nat->Int}{x:Int}:∀{n:Nat},zF0 f x n=0->∀j,j<n->f j≠x
 | 0,_,j,hj=>absurd hj (Nat.not_lt_zero _)
 | n+1,h,j,hj=>by
  by_cases e:f n=x
  ·rw[zQE e]at h;omega
  ·rw[zTD e]at h;by_cases aA:j=n
   ·rw[aA];exact e
   ·exact zFS h j (by omega)
theorem zQD{f:Nat->Int}{x:Int}{n i:Nat}(hi:i<n)(h:f i=x):1<=zF0 f x n:=by
 rcases Nat.eq_zero_or_pos (zF0 f x n)with h0 | h0
 ·exact absurd h (zFS h0 i hi)
 ·exact h0
theorem zLJ{f:Nat->Int}{x:Int}:∀{n:Nat},zF0 f x n=1->∃i,i<n/\f i=x/\∀j,j<n->j≠i->f j≠x
 | 0,h=>absurd h (by simp[zF0])
 | n+1,h=>by
  by_cases e:f n=x
  ·rw[zQE e]at h;exact⟨n,by omega,e,fun j hj aA=>zFS (n:=n) (by omega) j (by omega)⟩
  ·rw[zTD e]at h;obtain⟨i,hi,h1,h2⟩:=zLJ h;refine⟨i,by omega,h1,fun j hj aA=>?_⟩;by_cases bA:j=n
   ·rw[bA];exact e
   ·exact h2 j (by omega) aA
theorem zYy{W:zB}{x:Int}(h:zTo W x=1):(∃i,zVl W x i)\/∃i,zVm W x i:=by
 unfold zTo at h;rcases Nat.eq_zero_or_pos (zF0 (fun i=>(W.zbh i).zbi) x W.sn)with h0 | h0
 ·rw[h0,Nat.zero_add]at h;obtain⟨i,hi,h1,h2⟩:=zLJ h;exact Or.inl ⟨i,hi,h1,h2,zFS h0⟩
 ·obtain⟨i,hi,h1,h2⟩:=zLJ (f:=fun i=>(W.zbh i).zbi) (x:=x) (n:=W.sn) (by omega);exact Or.inr ⟨i,hi,h1,h2,zFS (f:=fun i=>(W.zbg i).zbi) (n:=W.pn) (by omega)⟩
noncomputable def sdY(W:zB)(g:yY)(n:Nat)(f h:Nat->Int):List (Int×Int):=zAP f h (zE W g.zbi).time n
noncomputable def sdO(W:zB)(g:yY)(n:Nat)(f h:Nat->Int):List (Int×Int):=zEI f h (zE W g.zbi).time n
noncomputable def sdD(W:zB)(g:yY)(n:Nat)(f h:Nat->Int):List (Int×Int):=zDd g.dn g.ds g.db ++ sdO W g n f h
noncomputable def zPU(W:zB)(g s:yY):yY:={s with zbi:=g.zbi,dn:=(sdD W g s.dn s.ds s.db).length,ds:=zi (sdD W g s.dn s.ds s.db),db:=zu (sdD W g s.dn s.ds s.db)}
noncomputable def zUA(W:zB)(g:yY)(s:zB9):zB9:={s with zbi:=g.zbi,dn:=(sdD W g s.dn s.ds s.db).length,ds:=zi (sdD W g s.dn s.ds s.db),db:=zu (sdD W g s.dn s.ds s.db)}
noncomputable def zaf(W:zB)(k i:Nat):Nat->yY:=fun j=>if j=i then zPU W (W.zbg k) (W.zbg i)else W.zbg j
noncomputable def zag(W:zB)(k i:Nat):Nat->zB9:=fun j=>if j=i then zUA W (W.zbg k) (W.zbh i)else W.zbh j
noncomputable def zRF(W:zB)(k i:Nat):List (Int×Int):=sdY W (W.zbg k) (W.zbg i).dn (W.zbg i).ds (W.zbg i).db
noncomputable def zM8(W:zB)(k i:Nat):List (Int×Int):=sdY W (W.zbg k) (W.zbh i).dn (W.zbh i).ds (W.zbh i).db
noncomputable def zbP(W:zB)(k i:Nat):zB:={W with pool:=qe W.pool (zRF W k i),pn:=W.pn - 1,zbg:=del (zaf W k i) k}
noncomputable def zbQ(W:zB)(k i:Nat):zB:={W with pool:=qe W.pool (zM8 W k i),zbh:=zag W k i,pn:=W.pn - 1,zbg:=del W.zbg k}
theorem zVE{n:Nat}{f g:Nat->Int}{x:Int×Int}(h:x∈zDd n f g):∃j,j<n/\f j=x.1/\g j=x.2:=by
 unfold zDd at h;obtain⟨j,hj,rfl⟩:=List.mem_map.1 h;exact⟨j,List.mem_range.1 hj,rfl,rfl⟩
theorem zNb{W:zB}(hS:ql W){i:Nat}(hi:i<zj W)(t:Int):zAs (zI W i).dn (zI W i).ds (zI W i).db/\zKw W.pool (zAP (zI W i).ds (zI W i).db t (zI W i).dn):=by
 have hD:zFt W i:=by
  by_cases hp:i<W.pn
  ·exact hS.dead i hp
  ·have:=(hS.zbh (i - W.pn) (by unfold zj at hi;omega)).2
   rwa [show W.pn+(i - W.pn)=i by omega]at this
 obtain⟨h1,-,-,bA⟩:=hD;refine⟨h1,?_⟩;have hH:zKw W.pool (zDd (zI W i).dn (zI W i).ds (zI W i).db):=by
  refine⟨hS.right,fun x hx=>?_,?_⟩
  ·obtain⟨j,hj,e1,e2⟩:=zVE hx;have hm:=zC3.1 (bA j hj);rw[e1,e2]at hm;unfold zBy at hm;have:=zB6 hS.right (zHB hS.zbg (zI W i).zbi) (List.mem_filter.1 hm).1;exact⟨this.1,this.2.2⟩
  ·unfold zDd;rw[List.map_map];unfold List.Nodup;rw[List.pairwise_map];refine List.pairwise_iff_getElem.2 fun a b ha hb aA=>?_
   rw[List.length_range]at ha hb;rw[List.getElem_range,List.getElem_range];exact fun e=>h1.2.2 b hb a aA e
 exact hH.sub (zJr _ _ _ _)
set_option linter.unusedSimpArgs false
set_option maxRecDepth 20000
set_option maxHeartbeats 3200000
open Classical in
noncomputable def sdK(W:zB)(x:Int)(k:Nat):zDR:=if h:∃i,zVm W x i then⟨zbQ W k h.choose,0,((zM8 W k h.choose).length:Int),0⟩else if h:∃i,zVl W x i then⟨zbP W k h.choose,0,((zRF W k h.choose).length:Int),0⟩else⟨{W with pn:=W.pn - 1,zbg:=del W.zbg k},0,0,0⟩
open Classical in
noncomputable def sdE(W:zB)(x:Int):zDR:=if ql W then(if zAC W x then(if 1<zGM W x W.sn+zG9 W x W.pn then qa 7 else sdK W x (zHv W x))else qa 4)else qa 1
structure zav (W:zB) (x:Int) (k:Nat) (o:zDR) (VP:Nat->zF) (VS:Nat->Nat->zB9) (m:Nat->Nat) (UP:Nat->zF) (US:Nat->Nat->yY) (l:Nat->Nat):Prop where
 v0:VP 0=W.pool/\VS 0=W.zbh/\m 0=0
 vn:∀j,(VP j).n=W.pool.n/\m j<=1000000
 cur:∀j,VS j j=W.zbh j
 no:∀j,j<W.sn->(W.zbh j).zbi≠x->VP (j+1)=VP j/\VS (j+1)=VS j/\m (j+1)=m j
 yes:∀j,j<W.sn->(W.zbh j).zbi=x->VP (j+1)=qe (VP j) (zM8 W k j)/\VS (j+1)=(fun i=>if i=j then zUA W (W.zbg k) (W.zbh j)else VS j i)/\m (j+1)=m j+(zM8 W k j).length/\(VP j).hn<=W.pool.hn
 u0:UP 0=VP W.sn/\US 0=W.zbg/\l 0=m W.sn
 un:∀j,(UP j).n=W.pool.n/\l j<=1000000
 cur2:∀j,US j j=W.zbg j
 no2:∀j,j<W.pn->(W.zbg j).zbi≠x->UP (j+1)=UP j/\US (j+1)=US j/\l (j+1)=l j
 yes2:∀j,j<W.pn->(W.zbg j).zbi=x->UP (j+1)=qe (UP j) (zRF W k j)/\US (j+1)=(fun i=>if i=j then zPU W (W.zbg k) (W.zbg j)else US j i)/\l (j+1)=l j+(zRF W k j).length/\(UP j).hn<=W.pool.hn
 fin:o=⟨⟨UP W.pn,W.time,W.next,W.sn,VS W.sn,W.pn - 1,del (US W.pn) k⟩,0,l W.pn,0⟩
theorem zRG{W:zB}(h:ql W):(∀j,j<W.sn->(W.zbh j).dn<=200)/\∀j,j<W.pn->(W.zbg j).dn<=200:=by
 refine⟨fun j hj=>?_,fun j hj=>?_⟩
 ·have:=(zNb h (i:=W.pn+j) (by unfold zj;omega) 0).1.1
  rwa [zAi]at this
 ·have:=(zNb h (i:=j) (by unfold zj;omega) 0).1.1
  rwa [qq hj]at this
theorem zTu(W:zB)(x:Int):∀n,zGM W x n=zF0 (fun i=>(W.zbh i).zbi) x n
 | 0=>rfl
 | n+1=>by rw[zGM,zF0,zTu]
theorem zTs(W:zB)(x:Int):∀n,zG9 W x n=zF0 (fun i=>(W.zbg i).zbi) x n
 | 0=>rfl
 | n+1=>by rw[zG9,zF0,zTs]
theorem zah{W:zB}{x:Int}{k:Nat}(hs:∀i,i<W.sn->(W.zbh i).dn<=1000000)(hp:∀i,i<W.pn->(W.zbg i).dn<=1000000)(h1:¬1<zGM W x W.sn+zG9 W x W.pn):∃VP VS m UP US l,zav W x k (sdK W x k) VP VS m UP US l:=by
 have eT:∀i,i<W.sn->(zM8 W k i).length<=1000000:=fun i hi=>Nat.le_trans (zBo ..) (hs i hi)
 have eS:∀i,i<W.pn->(zRF W k i).length<=1000000:=fun i hi=>Nat.le_trans (zBo ..) (hp i hi)
 rw[zTu,zTs]at h1;unfold sdK;by_cases hT:∃i,zVm W x i
 ·rw[dif_pos hT];obtain⟨hi,h2,h3,h4⟩:=hT.choose_spec;generalize hT.choose=i at *;refine⟨fun j=>if j<=i then W.pool else qe W.pool (zM8 W k i),fun j=>if j<=i then W.zbh else zag W k i,fun j=>if j<=i then 0 else(zM8 W k i).length,fun _=>qe W.pool (zM8 W k i),fun _=>W.zbg,fun _=>(zM8 W k i).length,⟨by simp,fun j=>?_,fun j=>?_,fun j hj e=>?_,fun j hj e=>?_,?_,fun j=>⟨(zBu _ _).1,eT i hi⟩,fun _=>rfl,fun j hj e=>⟨rfl,rfl,rfl⟩,fun j hj e=>absurd e (h4 j hj),?_⟩⟩
  ·split
   ·exact⟨rfl,by omega⟩
   ·exact⟨(zBu _ _).1,eT i hi⟩
  ·split
   ·rfl
   ·unfold zag;rw[if_neg (by omega)]
  ·have:j≠i:=fun h=>e (by rw[h];exact h2)
   have e1:(j+1<=i)↔(j<=i):=(by omega);simp[e1]
  ·have:j=i:=Classical.not_not.1 fun h=>h3 j hj h e
   subst this;have n1:¬j+1<=j:=(by omega);simp[n1];rfl
  ·simp[show ¬W.sn<=i by omega]
  ·simp[show ¬W.sn<=i by omega,zbQ]
 rw[dif_neg hT];by_cases hS:∃i,zVl W x i
 ·rw[dif_pos hS];obtain⟨hi,h2,h3,h4⟩:=hS.choose_spec;generalize hS.choose=i at *;refine⟨fun _=>W.pool,fun _=>W.zbh,fun _=>0,fun j=>if j<=i then W.pool else qe W.pool (zRF W k i),fun j=>if j<=i then W.zbg else zaf W k i,fun j=>if j<=i then 0 else(zRF W k i).length,⟨by simp,fun j=>⟨rfl,by simp⟩,fun j=>rfl,fun j hj e=>⟨rfl,rfl,rfl⟩,fun j hj e=>absurd e (h4 j hj),by simp,fun j=>?_,fun j=>?_,fun j hj e=>?_,fun j hj e=>?_,?_⟩⟩
  ·split
   ·exact⟨rfl,by omega⟩
   ·exact⟨(zBu _ _).1,eS i hi⟩
  ·split
   ·rfl
   ·unfold zaf;rw[if_neg (by omega)]
  ·have:j≠i:=fun h=>e (by rw[h];exact h2)
   have e1:(j+1<=i)↔(j<=i):=(by omega);simp[e1]
  ·have:j=i:=Classical.not_not.1 fun h=>h3 j hj h e
   subst this;have n1:¬j+1<=j:=(by omega);simp[n1];rfl
  ·simp[show ¬W.pn<=i by omega,zbP]
 rw[dif_neg hS];have z0:zTo W x≠1:=fun e=>(zYy e).elim hS hT
 unfold zTo at z0;have z1:∀j,j<W.sn->(W.zbh j).zbi≠x:=fun j hj e=>by
  have:=zQD (f:=fun i=>(W.zbh i).zbi) hj e;omega
 have z2:∀j,j<W.pn->(W.zbg j).zbi≠x:=fun j hj e=>by
  have:=zQD (f:=fun i=>(W.zbg i).zbi) hj e;omega
 exact⟨fun _=>W.pool,fun _=>W.zbh,fun _=>0,fun _=>W.pool,fun _=>W.zbg,fun _=>0,⟨by simp,fun j=>⟨rfl,by simp⟩,fun j=>rfl,fun j hj e=>⟨rfl,rfl,rfl⟩,fun j hj e=>absurd e (z1 j hj),by simp,fun j=>⟨rfl,by simp⟩,fun j=>rfl,fun j hj e=>⟨rfl,rfl,rfl⟩,fun j hj e=>absurd e (z2 j hj),rfl⟩⟩
attribute [local go_sem] qX List.map_cons List.map_nil Tr.cv yq qK yA qz yp yo yn qy zBE zBG zBF zBB zBD zBC zCa zCc zCb qP zr qQ zt qI qH qU zAA zo zp yE qO tmpsOf zAo yD qN zBA yw yu yr yx yv stpP opds opd opdC kap zAB qJ zn coreU bin zAe zCK get put dlO fgt zBR zBK zBO zBP tyT yk yj Op.operands Call.operands evLoad evLen evStore evAlloc zAj and_true true_and List.append_nil List.nil_append List.cons_append Ret resCv zB3 yV cellM zBh zCE qV StW StR hpT hpO hpV hpA hpL hpC sg nin zCU bdO tmW obW AvE CsE CvE Av.tup Av.ids Cv.ids inD ObE Ob.ids TrE.refl qM yB yC qR qS qT zq zb zX yz zBa zCL zBH evCall argL argOf qZ outOb obO yM qA cvO tot Tr.own rid partsOf fillC zS zBf frz frz1 evBuildSlice zc trs Cv.tr evSlice Option.toArray_none Option.toArray_some evMakeSlice evAppend dstOf srcOf zA3 zBQ zBN zBL zBM ikT qx qw qv qu RetP RetN zBr qD evLd evSt evStoreH zAh evAppendM evAppendT tlOf mvOf rowE shp evTake oOf evC evCallP evCallN evCallO unlast zAO zA1 zAa argsF zCR qg pmC varT vT evField evConv dB0 Option.bind_some Option.bind_none Option.map_some Option.map_none Option.isSome_some Option.isSome_none
attribute [local go_sem] yL za zA7 yd qr zAv zAw zAx zAy zAz zA0 zAD zAE zAF zAG zAH zAI zAJ zAK yS qp
attribute [-go_sem] za
attribute [local go_sem] zAV zCF zCG zAf yy
noncomputable def zWi:zR:=qE (fun q:((zF×Int×Int)×(Nat×(Nat->Nat->Tr))×(Nat×(Nat->Nat->Tr)))×List (Int×Int)=>(true,[.s .o 3 q.1.1.1.n (zY .z q.1.1.1.s),.s .o 1 q.1.1.1.hn (qf q.1.1.1.h),.v (.int .i64 q.1.1.2.1),.v (.int .i64 q.1.1.2.2),.s .o 6 q.1.2.1.1 q.1.2.1.2,.s .o 8 q.1.2.2.1 q.1.2.2.2]) :: [psL q.2]) (fun q=>q.1.1.1.hn+q.2.length<=1000000/\(Tr.s .o 6 q.1.2.1.1 q.1.2.1.2).kept/\(Tr.s .o 8 q.1.2.2.1 q.1.2.2.2).kept) (fun q=>[(true,[.s .o 3 q.1.1.1.n (zY .z q.1.1.1.s),.s .o 1 (qe q.1.1.1 q.2).hn (qf (qe q.1.1.1 q.2).h),.v (.int .i64 q.1.1.2.1),.v (.int .i64 q.1.1.2.2),.s .o 6 q.1.2.1.1 q.1.2.1.2,.s .o 8 q.1.2.2.1 q.1.2.2.2]),iT q.2.length])
theorem zN2(p:zF)(a b:Int)(n:Nat)(F:Nat->Nat->Tr)(n':Nat)(G:Nat->Nat->Tr)(l:List (Int×Int)):zWi ((true,[.s .o 3 p.n (zY .z p.s),.s .o 1 p.hn (qf p.h),.v (.int .i64 a),.v (.int .i64 b),.s .o 6 n F,.s .o 8 n' G]) :: [psL l])=some (p.hn+l.length<=1000000/\(Tr.s .o 6 n F).kept/\(Tr.s .o 8 n' G).kept,[(true,[.s .o 3 p.n (zY .z p.s),.s .o 1 (qe p l).hn (qf (qe p l).h),.v (.int .i64 a),.v (.int .i64 b),.s .o 6 n F,.s .o 8 n' G]),iT l.length]):=
 zK (fun m=>(((zEi (nth m 0 0) (nth m 0 1),qC (nth m 0 2),qC (nth m 0 3)),(zEu (nth m 0 4),zCA (nth m 0 4)),(zEu (nth m 0 5),zCA (nth m 0 5))),zUV (nth m 1 0))) (fun q=>by exact congrArg (Prod.mk q.1) (zOo q.2)) (((p,a,b),(n,F),(n',G)),l)
theorem zWD:zBd Tryz.prog 147 zWi:=by
 refine zA8 zl GOk.nil zk Tryz.func147 rfl Tryz.ntmps147 Tryz.results147 6 ?_;rintro⟨⟨⟨p0,a,b⟩,⟨n,F⟩,n',G⟩,l⟩ hn;obtain⟨hn,kF,kG⟩:p0.hn+l.length<=1000000/\(Tr.s .o 6 n F).kept/\(Tr.s .o 8 n' G).kept:=hn;refine⟨by simp,?_⟩;simp[go_sem];refine qY (fun k:Nat=>⟨[(5,true,.i k),(0,true,.m false [.p 0 0]),(1,true,.m false [.s .b 2 l.length (ptrsT (fun i=>zi l i) (fun i=>zu l i))])],[(0,.var [.h 1000,.h 2000,.v (.int .i64 a),.v (.int .i64 b),.h 5000,.h 6000]),(1000,.row 3 p0.n (zY .z p0.s)),(2000,.row 1 (qe p0 (l.take k)).hn (qf (qe p0 (l.take k)).h)),(5000,.row 6 n F),(6000,.row 8 n' G)]⟩) (fun k=>l.length - k) (fun k=>k<=l.length) 0 (by simp[go_sem,qe]) (Nat.zero_le _) ?_;intro k hk;obtain⟨p,hp⟩:∃p,p=qe p0 (l.take k):=⟨_,rfl⟩;have bA:p.hn=p0.hn+k:=by rw[hp,(zBu _ _).2.2,List.length_take,Nat.min_eq_left hk]
 have aA:k<l.length->qe p0 (l.take (k+1))=zGv p (zi l k):=fun h=>by
  rw[hp,List.take_succ_eq_append_getElem h,zF8,<-zQQ];simp[h]
 rw[<-hp];simp[go_sem,ze (show k<=1000000000 by omega)];refine⟨fun hl=>⟨hl,by omega,by kernel_rfl,k+1,hl,by omega,rfl,?_⟩,fun hl=>?_⟩
 ·rw[aA hl];exact zJX
 ·cases (show k=l.length by omega);rw[List.take_length]at hp;subst hp;exact⟨zQ,⟨TrE.refl _,zZ⟩,kF,kG⟩
theorem zWS{fl:Fl}{k n a j:Nat}{F:Nat->Nat->Tr}{T:Tr}(h:(Tr.s fl k n F).kept)(hT:T.kept):(Tr.s fl k n (qn F a j [T])).kept:=by
 refine⟨h.1,fun i q hi hq=>?_⟩;unfold qn;split
 ·rename_i e
  have:q - j=0:=(by have:=e.2.2;simp at this;omega);rw[this];exact hT
 ·exact h.2 i q hi hq
theorem zY6{n j m:Nat}{S:Nat->zB9}{s:zB9}{z:Tr}{F:Nat->Nat->Tr}(h:s.name=(S j).name/\s.origin=(S j).origin/\s.rs=(S j).rs/\s.rb=(S j).rb)(hd:TrE (.s .o 2 m F) (.s .o 2 s.dn (ptrsT s.ds s.db))):TrE (.s .o 6 n (qn (qn (qn (setsE .o S) j 5 [z]) j 5 [.s .o 2 m F]) j 2 [.v (.int .i64 s.zbi)])) (.s .o 6 n (setsE .o fun i=>if i=j then s else S i)):=by
 refine⟨.inl rfl,rfl,rfl,fun i c hi hc=>?_⟩;by_cases e:i=j
 ·subst e;obtain⟨h1,h2,h3,h4⟩:=h
  match c,hc with
  | 0,_ | 1,_ | 2,_ | 3,_ | 4,_=>exact TrE.of_eq (by simp[qn,setsE, *])
  | 5,_=>simpa[qn,setsE]using hd
 ·exact TrE.of_eq (by unfold setsE;simp[qn,e])
theorem zXl{n j m:Nat}{S:Nat->yY}{s:yY}{F:Nat->Nat->Tr}(h:s.id=(S j).id/\s.name=(S j).name/\s.set=(S j).set/\s.time=(S j).time/\s.rs=(S j).rs/\s.rb=(S j).rb)(hd:TrE (.s .o 2 m F) (.s .o 2 s.dn (ptrsT s.ds s.db))):TrE (.s .o 8 n (qn (qn (snapsE .z S) j 7 [.s .o 2 m F]) j 3 [.v (.int .i64 s.zbi)])) (.s .o 8 n (snapsE .z fun i=>if i=j then s else S i)):=by
 refine⟨.inl rfl,rfl,rfl,fun i c hi hc=>?_⟩;by_cases e:i=j
 ·subst e;obtain⟨h1,h2,h3,h4,h5,h6⟩:=h
  match c,hc with
  | 0,_ | 1,_ | 2,_ | 3,_ | 4,_ | 5,_ | 6,_=>exact TrE.of_eq (by simp[qn,snapsE, *])
  | 7,_=>
   simp[qn,snapsE];exact⟨.inr ⟨rfl,rfl⟩,hd.2⟩
 ·exact TrE.of_eq (by unfold snapsE;simp[qn,e])
theorem zZ7{a b:Nat}(h:a<=1000000)(h':b<=1000000):IntKind.i64.wrap ((a:Int)+(b:Int))=((a+b:Nat):Int):=by
 simp[IntKind.wrap,IntKind.bits];omega
noncomputable def mSd:zR:=qE (fun q:zB×Int=>[woT q.1,iT q.2]) (fun q=>yU q.1) (fun q=>[wuO (sdE q.1 q.2)])
theorem zaS(W:zB)(x:Int):mSd [woT W,iT x]=some (yU W,[wuO (sdE W x)]):=zK (fun l=>(zB7 (nth l 0),qC (nth l 1 0))) (fun _=>rfl) (W,x)
theorem zK9:zd Tryz.prog 124 mSd:=by
 refine zP zl (GOk.cons zCC (zG Tryz.func117 rfl rfl) (GOk.cons yO (zG Tryz.func8 rfl rfl) (GOk.cons zCD (zG Tryz.func52 rfl rfl) (GOk.cons zCQ (zG Tryz.func115 rfl rfl) (GOk.cons zCk (zG Tryz.func53 rfl rfl) (GOk.cons zQf (zG Tryz.func145 rfl rfl) (GOk.cons zE4 (zG Tryz.func146 rfl rfl) (GOk.ptr zWD (zG Tryz.func147 rfl rfl) GOk.nil)))))))) zk Tryz.func124 rfl Tryz.ntmps124 Tryz.results124 17 ?_;rintro⟨W,x⟩ hW;replace hW:yU W:=hW;have hs:=hW.sn;have hp:=hW.pn;refine⟨by simp,?_⟩;by_cases hR:ql W;rotate_left
 ·simp[go_sem,yX,zBI,qh,hW,hW.toSmallW,hs,hp,hR];exact qj (if_neg hR)
 by_cases hH:zAC W x;rotate_left
 ·simp[go_sem,yX,zBI,qh,hW,hW.toSmallW,hs,hp,zJ4,zGX,hR,hH];exact qj ((if_pos hR).trans (if_neg hH))
 have hk:=zNs hH;have jA:=zGX.2 hH;have bA:zHv W x<W.pn:=by show(zA2 W.pn fun k=>(W.zbg k).id=x).toNat<W.pn;omega
 obtain⟨k,dA⟩:∃k,k=zHv W x:=⟨_,rfl⟩;have eA:(zA2 W.pn fun k=>(W.zbg k).id=x)=(k:Int):=by rw[dA];show _=((zA2 W.pn fun k=>(W.zbg k).id=x).toNat:Int);omega
 have gA:¬(k:Int)<0:=by omega
 rw[<-dA]at bA;by_cases h1:1<zGM W x W.sn+zG9 W x W.pn
 ·simp[go_sem,yX,zBI,qh,zN4,hW,hW.toSmallW,hs,hp,eA,gA,hR,show(1:Int)<(zGM W x W.sn:Int)+(zG9 W x W.pn:Int)by omega];exact qj ((if_pos hR).trans ((if_pos hH).trans (if_pos h1)))
 have eR:sdE W x=sdK W x k:=by
  unfold sdE;rw[if_pos hR,if_pos hH,if_neg h1,<-dA]
 obtain⟨VP,VS,m,UP,US,l,run⟩:=zah (k:=k) hW.sd hW.pd h1;rw[<-eR]at run;have hz:=zDi (fun k hk=>(hR.zbj.zbf.ids k hk).1) (W.zbg k).zbi;have iA:¬(1:Int)<(zGM W x W.sn:Int)+(zG9 W x W.pn:Int):=by omega
 simp[go_sem,yX,zBI,qh,zN4,yf,zDG,hW,hW.toSmallW,hs,hp,eA,gA,hR,iA,bA,hz];have q0:=run.v0;refine qY (fun j:Nat=>⟨[(11,true,.i j),(10,true,.i (m j)),(9,true,.i (zE W (W.zbg k).zbi).time),(7,true,.m false [.p 7 0]),(6,true,.m false [.p 6 0]),(5,true,.i k),(4,true,.m false [.p 4 0]),(1,true,.i x)],[(7,.var [.v (.int .i64 (W.zbg k).id),.v (.string (W.zbg k).name),.v (.string (W.zbg k).set),.v (.int .i64 (W.zbg k).zbi),.v (.int .i64 (W.zbg k).time),.v (.int .i64 (W.zbg k).rs),.v (.int .i64 (W.zbg k).rb),.s .z 2 (W.zbg k).dn (ptrsT (W.zbg k).ds (W.zbg k).db)]),(6,.var [.h 61,.h 62,.v (.int .i64 W.time),.v (.int .i64 W.next),.h 63,.h 64]),(64,.row 8 W.pn (snapsE .z W.zbg)),(63,.row 6 W.sn (setsE .o (VS j))),(62,.row 1 (VP j).hn (qf (VP j).h)),(61,.row 3 (VP j).n (zY .z (VP j).s)),(4,.var [.v n0,.v n0,.v i0,.v i0,.v n0,.v n0,.v i0,.v i0,.v i0])]⟩) (fun j=>W.sn - j) (fun j=>j<=W.sn) 0 (by rw[q0.1,q0.2.1,q0.2.2];simp[go_sem]) (Nat.zero_le _) ?_;intro j hj;have hc:=run.cur j;simp[go_sem,ze (show j<=1000000000 by omega),hc];refine⟨fun hl=>⟨hl,?_⟩,fun hl=>?_⟩
 ·by_cases hx:(W.zbh j).zbi=x
  ·simp[go_sem,hx,hl,hc,ze (show j<=1000000000 by omega),zFY,zN2,zGn,zGL];obtain⟨e1,e2,e3,e4⟩:=run.yes j hl hx;have hd:=(zRG hR).1 j hl;have hy:(zAP (W.zbh j).ds (W.zbh j).db (zE W (W.zbg k).zbi).time (W.zbh j).dn).length<=(W.zbh j).dn:=zBo ..;have ho:(zEI (W.zbh j).ds (W.zbh j).db (zE W (W.zbg k).zbi).time (W.zbh j).dn).length<=(W.zbh j).dn:=zHA ..;have hg:=(zRG hR).2 k bA;have hh:=zEl hR.right;refine⟨by omega,⟨by omega,zWS qG ⟨by simp,fun p q _ _=>by unfold ptrsT;split<;>trivial⟩,zx⟩,by omega,by omega,by kernel_rfl,j+1,hl,by omega,⟨rfl,?_⟩,?_,?_,?_⟩
   ·rw[e3];exact zZ7 (run.vn j).2 (by omega)
   ·rw[e2,<-hc];refine zY6 (s:=zUA W (W.zbg k) (VS j j)) ⟨rfl,rfl,rfl,rfl⟩ (zIh rfl fun a b ha hb=>?_);unfold yH;split
    ·rfl
    ·match b,hb with
     | 0,_ | 1,_=>rfl
   ·rw[e1];exact TrE.refl _
   ·rw[e1,(zBu _ _).1,(zBu _ _).2.1];exact TrE.refl _
  ·obtain⟨e1,e2,e3⟩:=run.no j hl hx;simp[go_sem,hx,ze (show j<=1000000000 by omega)];exact⟨j+1,hl,by omega,⟨rfl,by rw[e3]⟩,by rw[e2];exact TrE.refl _,by rw[e1];exact TrE.refl _,by rw[e1];exact TrE.refl _⟩
 cases (show j=W.sn by omega);have q1:=run.u0;refine qY (fun i:Nat=>⟨[(14,true,.i i),(10,true,.i (l i)),(9,true,.i (zE W (W.zbg k).zbi).time),(7,true,.m false [.p 7 0]),(6,true,.m false [.p 6 0]),(5,true,.i k),(4,true,.m false [.p 4 0]),(1,true,.i x)],[(7,.var [.v (.int .i64 (W.zbg k).id),.v (.string (W.zbg k).name),.v (.string (W.zbg k).set),.v (.int .i64 (W.zbg k).zbi),.v (.int .i64 (W.zbg k).time),.v (.int .i64 (W.zbg k).rs),.v (.int .i64 (W.zbg k).rb),.s .z 2 (W.zbg k).dn (ptrsT (W.zbg k).ds (W.zbg k).db)]),(6,.var [.h 61,.h 62,.v (.int .i64 W.time),.v (.int .i64 W.next),.h 63,.h 64]),(64,.row 8 W.pn (snapsE .z (US i))),(63,.row 6 W.sn (setsE .o (VS W.sn))),(62,.row 1 (UP i).hn (qf (UP i).h)),(61,.row 3 (UP i).n (zY .z (UP i).s)),(4,.var [.v n0,.v n0,.v i0,.v i0,.v n0,.v n0,.v i0,.v i0,.v i0])]⟩) (fun i=>W.pn - i) (fun i=>i<=W.pn) 0 (by rw[q1.1,q1.2.1,q1.2.2];simp[go_sem]) (Nat.zero_le _) ?_;intro i hi;have cA:=run.cur2 i;simp[go_sem,ze (show i<=1000000000 by omega),cA];refine⟨fun aA=>⟨aA,?_⟩,fun aA=>?_⟩
 ·by_cases hx:(W.zbg i).zbi=x
  ·simp[go_sem,hx,aA,cA,ze (show i<=1000000000 by omega),zFY,zN2,zGn,zGL];obtain⟨e1,e2,e3,e4⟩:=run.yes2 i aA hx;have hd:=(zRG hR).2 i aA;have hy:(zAP (W.zbg i).ds (W.zbg i).db (zE W (W.zbg k).zbi).time (W.zbg i).dn).length<=(W.zbg i).dn:=zBo ..;have ho:(zEI (W.zbg i).ds (W.zbg i).db (zE W (W.zbg k).zbi).time (W.zbg i).dn).length<=(W.zbg i).dn:=zHA ..;have hg:=(zRG hR).2 k bA;have hh:=zEl hR.right;refine⟨by omega,⟨by omega,qG,zx⟩,by omega,by omega,by kernel_rfl,i+1,aA,by omega,⟨rfl,?_⟩,?_,?_,?_⟩
   ·rw[e3];exact zZ7 (run.un i).2 (by omega)
   ·rw[e2,<-cA];refine zXl (s:=zPU W (W.zbg k) (US i i)) ⟨rfl,rfl,rfl,rfl,rfl,rfl⟩ (zIh rfl fun a b ha hb=>?_);unfold yH;split
    ·rfl
    ·match b,hb with
     | 0,_ | 1,_=>rfl
   ·rw[e1];exact TrE.refl _
   ·rw[e1,(zBu _ _).1,(zBu _ _).2.1];exact TrE.refl _
  ·obtain⟨e1,e2,e3⟩:=run.no2 i aA hx;simp[go_sem,hx,ze (show i<=1000000000 by omega)];exact⟨i+1,aA,by omega,⟨rfl,by rw[e3]⟩,by rw[e2];exact TrE.refl _,by rw[e1];exact TrE.refl _,by rw[e1];exact TrE.refl _⟩
 cases (show i=W.pn by omega);rw[run.fin,ze (show k<=1000000000 by omega)];refine⟨by omega,⟨by omega,by omega⟩,⟨by omega,by omega⟩,⟨by omega,by omega⟩,by kernel_rfl,⟨TrE.refl _,zQ⟩,⟨TrE.refl _,zZ⟩,rfl,rfl,⟨TrE.refl _,qG⟩,⟨?_,zx⟩,by simp⟩;refine⟨.inl rfl,rfl,by show k+(W.pn - (k+1))=W.pn - 1;omega,fun i c hi hc=>TrE.of_eq ?_⟩;show _=snapsE .z (del (US W.pn) k) i c;have e:∀p,(snapsE .z (US W.pn) p c).nt=snapsE .z (US W.pn) p c:=fun p=>by
  match c,hc with
  | 0,_ | 1,_ | 2,_ | 3,_ | 4,_ | 5,_ | 6,_ | 7,_=>rfl
 have e2:snapsE .z (del (US W.pn) k) i c=snapsE .z (US W.pn) (if i<k then i else i+1) c:=by
  have:del (US W.pn) k i=US W.pn (if i<k then i else i+1):=(by unfold del;split<;>rfl);unfold snapsE;rw[this]
 rw[e2];unfold yH;by_cases fA:i<k
 ·simp[fA,e]
 ·simp[fA,e,show k+1+(i - k)=i+1 by omega]
set_option maxRecDepth 20000
set_option maxHeartbeats 3200000
attribute [local go_sem] qX List.map_cons List.map_nil Tr.cv yq qK yA qz yp yo yn qy zBE zBG zBF zBB zBD zBC zCa zCc zCb qP zr qQ zt qI qH qU zAA zo zp yE qO tmpsOf zAo yD qN zBA yw yu yr yx yv stpP opds opd opdC kap zAB qJ zn coreU bin zAe zCK get put dlO fgt zBR zBK zBO zBP tyT yk yj Op.operands Call.operands evLoad evLen evStore evAlloc zAj and_true true_and List.append_nil List.nil_append List.cons_append Ret resCv zB3 yV cellM zBh zCE qV StW StR hpT hpO hpV hpA hpL hpC sg nin zCU bdO tmW obW AvE CsE CvE Av.tup Av.ids Cv.ids inD ObE Ob.ids TrE.refl qM yB yC qR qS qT zq zb zX yz zBa zCL zBH evCall argL argOf qZ outOb obO yM qA cvO tot Tr.own rid partsOf fillC zS zBf frz frz1 evBuildSlice zc trs Cv.tr evSlice Option.toArray_none Option.toArray_some evMakeSlice evAppend dstOf srcOf zA3 zBQ zBN zBL zBM ikT qx qw qv qu RetP RetN zBr qD evLd evSt evStoreH zAh evAppendM evAppendT tlOf mvOf rowE shp evTake oOf evC evCallP evCallN evCallO unlast zAO zA1 zAa argsF zCR qg pmC varT vT evField evConv dB0 Option.bind_some Option.bind_none Option.map_some Option.map_none Option.isSome_some Option.isSome_none
attribute [local go_sem] yL za zA7 yd qr zAv zAw zAx zAy zAz zA0 zAD zAE zAF zAG zAH zAI zAJ zAK yS qp
attribute [-go_sem] za zAe
attribute [local go_sem] zAV zCF zCG zAf yy zKl zKm zNS zNQ zNR zJN zJO zJP zNL zNP zNO zNN zNM zDk
def zE7(s:yi)(p:zF):yi×Int×Int:=if nV s 8=0\/p.n=0 then(nS (nS (nS s 8) 14) 4,zQH (nS s 8),nV (nS (nS s 8) 14) 4)else(nS (nS s 8) p.n,nV (nS s 8) p.n,(p.s (nV (nS s 8) p.n).toNat).birth)
noncomputable def zZq:zR:=qE (fun q:yi×zF=>(true,srV q.1) :: [poT q.2.n q.2.s q.2.hn q.2.h]) (fun q=>qd q.1/\q.2.n<=1000000) (fun q=>[(true,srV (zE7 q.1 q.2).1),pT (zE7 q.1 q.2).2.1 (zE7 q.1 q.2).2.2])
theorem zWr(s:yi)(p:zF):zZq ((true,srV s) :: [poT p.n p.s p.hn p.h])=some (qd s/\p.n<=1000000,[(true,srV (zE7 s p).1),pT (zE7 s p).2.1 (zE7 s p).2.2]):=zK (fun l=>(zGq (nth l 0),zEi (nth l 1 0) (nth l 1 1))) (fun _=>rfl) (s,p)
theorem zUm:zBd Tryz.prog 87 zZq:=by
 refine zA8 zl (GOk.ptr zPG (zG Tryz.func84 rfl rfl) (GOk.ptr zPM (zG Tryz.func86 rfl rfl) (GOk.ptr zTI (zG Tryz.func132 rfl rfl) GOk.nil))) zk Tryz.func87 rfl Tryz.ntmps87 Tryz.results87 6 ?_;rintro⟨s,p⟩ hs;obtain⟨hs,hp⟩:qd s/\p.n<=1000000:=hs;have h1:=zAk hs 8;have h2:=zAk h1 14;refine⟨by simp,?_⟩;by_cases h0:nV s 8=0
 ·simp[go_sem,zCl,zBp,zG3,hs,h1,h2,h0,zE7,zh]
 by_cases hn:p.n=0
 ·simp[go_sem,zCl,zBp,zG3,hs,h1,h2,h0,hn,zE7,zh]
 have hv:=zIz (nS s 8) (m:=p.n) (by omega);simp[go_sem,zCl,zBp,zG3,hs,h1,h2,h0,hn,zE7,zh];exact⟨by omega,hv.1,by omega⟩
noncomputable def stepAt(s:yi)(W:zB)(x:ByteArray)(a:Int):Nat->yi×zDR
 | 0=>(s,zDz W x)
 | 1=>(zKc s,zKN W x (zQ4 s))
 | 2 | 3 | 4=>(nS s 3,zEB W x ([⟨#[115,49]⟩,⟨#[115,50]⟩,⟨#[115,51]⟩].getD (nV s 3).toNat ⟨#[]⟩))
 | 5=>(s,sdE W a)
 | 6 | 7=>(nS s 3,zEW W a ([⟨#[98]⟩,⟨#[99]⟩,⟨#[100]⟩].getD (nV s 3).toNat ⟨#[]⟩))
 | 8=>(s,zJz W x)
 | 9=>(s,zKH W x)
 | 10=>(s,zRA W x)
 | 11=>(s,⟨{W with pool:=zKM W.pool},0,0,0⟩)
 | _=>(zTF (zKc s),zHL W x (zQ4 s) (zTG (zKc s)))
noncomputable def zB5(s:yi)(W:zB):yi×zDR:=stepAt (nS (nS (nS s (max 1 W.next)) 5) 16) W (zKC (nS s (max 1 W.next))) (1+nV s (max 1 W.next)) (nV (nS (nS s (max 1 W.next)) 5) 16).toNat
noncomputable def zZy:zR:=qE (fun q:yi×zB=>(true,srV q.1) :: [woT q.2]) (fun q=>qd q.1/\yU q.2/\q.2.next<=1000000000) (fun q=>[(true,srV (zB5 q.1 q.2).1),wuO (zB5 q.1 q.2).2])
theorem zQu(s:yi)(W:zB):zZy ((true,srV s) :: [woT W])=some (qd s/\yU W/\W.next<=1000000000,[(true,srV (zB5 s W).1),wuO (zB5 s W).2]):=zK (fun l=>(zGq (nth l 0),zB7 (nth l 1))) (fun _=>rfl) (s,W)
theorem zSX:zBd Tryz.prog 85 zZy:=by
 refine zA8 zl (GOk.cons zCC (zG Tryz.func117 rfl rfl) (GOk.cons zPp (zG Tryz.func129 rfl rfl) (GOk.ptr zPG (zG Tryz.func84 rfl rfl) (GOk.cons zNG (zG Tryz.func82 rfl rfl) (GOk.cons zUl (zG Tryz.func120 rfl rfl) (GOk.ptr zLu (zG Tryz.func58 rfl rfl) (GOk.cons zRj (zG Tryz.func121 rfl rfl) (GOk.ptr zRx (zG Tryz.func122 rfl rfl) (GOk.cons zRk (zG Tryz.func123 rfl rfl) (GOk.ptr zT5 (zG Tryz.func88 rfl rfl) (GOk.cons zK9 (zG Tryz.func124 rfl rfl) (GOk.cons zPg (zG Tryz.func125 rfl rfl) (GOk.cons zMu (zG Tryz.func126 rfl rfl) (GOk.cons zPr (zG Tryz.func127 rfl rfl) (GOk.cons zRi (zG Tryz.func128 rfl rfl) (GOk.cons zPs (zG Tryz.func130 rfl rfl) (GOk.ptr zSO (zG Tryz.func131 rfl rfl) GOk.nil))))))))))))))))) zk Tryz.func85 rfl Tryz.ntmps85 Tryz.results85 70 ?_;rintro⟨s,W⟩ hs;obtain⟨hs,hW,hx⟩:qd s/\yU W/\W.next<=1000000000:=hs;have hm:max 1 W.next<=1000000000000000000:=by omega
 have hi:=zIz s hm;have hw:IntKind.i64.wrap (1+nV s (max 1 W.next))=1+nV s (max 1 W.next):=zCN (by omega) (by omega);obtain⟨t,ht⟩:∃t,zB5 s W=t:=⟨_,rfl⟩;obtain⟨a,ea⟩:∃a,1+nV s (max 1 W.next)=a:=⟨_,rfl⟩;rw[ea]at hw;obtain⟨s1,e1⟩:∃s1,nS s (max 1 W.next)=s1:=⟨_,rfl⟩;obtain⟨x,ex⟩:∃x,zKC s1=x:=⟨_,rfl⟩;obtain⟨s2,e2⟩:∃s2,nS s1 5=s2:=⟨_,rfl⟩;obtain⟨s3,e3⟩:∃s3,nS s2 16=s3:=⟨_,rfl⟩;obtain⟨v,hv⟩:∃v:Nat,nV s2 16=v:=⟨_,(Int.toNat_of_nonneg (zIz s2 (m:=16) (by omega)).1).symm⟩;have h1:qd s1:=e1▸zAk hs _;have h2:qd s2:=e2▸zAk h1 5;have h3:qd s3:=e3▸zAk h2 16;have hn:=hW.n;have hh:=hW.hn;have hk:(∀i,i<W.pool.n->(W.pool.s i).kn<=1000000)↔True:=⟨fun _=>trivial,fun _=>hW.kn⟩;have hq:t=stepAt s3 W x a v:=by
  rw[<-ht];unfold zB5;rw[e1,e2,e3,ex,ea,hv];rfl
 have q0:v=0->t=(s3,zDz W x):=fun h=>by rw[hq,h];rfl
 have q1:v=1->t=(zKc s3,zKN W x (zQ4 s3)):=fun h=>by rw[hq,h];rfl
 have q2:v=2\/v=3\/v=4->t=(nS s3 3,zEB W x ([⟨#[115,49]⟩,⟨#[115,50]⟩,⟨#[115,51]⟩].getD (nV s3 3).toNat ⟨#[]⟩)):=fun h=>by rcases h with h | h | h<;>(rw[hq,h];rfl)
 have q5:v=5->t=(s3,sdE W a):=fun h=>by rw[hq,h];rfl
 have q6:v=6\/v=7->t=(nS s3 3,zEW W a ([⟨#[98]⟩,⟨#[99]⟩,⟨#[100]⟩].getD (nV s3 3).toNat ⟨#[]⟩)):=fun h=>by rcases h with h | h<;>(rw[hq,h];rfl)
 have q8:v=8->t=(s3,zJz W x):=fun h=>by rw[hq,h];rfl
 have q9:v=9->t=(s3,zKH W x):=fun h=>by rw[hq,h];rfl
 have aA:v=10->t=(s3,zRA W x):=fun h=>by rw[hq,h];rfl
 have bA:v=11->t=(s3,⟨{W with pool:=zKM W.pool},0,0,0⟩):=fun h=>by rw[hq,h];rfl
 have cA:12<=v->t=(zTF (zKc s3),zHL W x (zQ4 s3) (zTG (zKc s3))):=fun h=>by
  obtain⟨w,rfl⟩:∃w,v=w+12:=⟨v - 12,by omega⟩;rw[hq];rfl
 clear hq;refine⟨by simp,?_⟩;show ev _ _ _ _ _ _ (zPj _ _ [(true,srV (zB5 s W).1),wuO (zB5 s W).2]);rw[ht];simp[go_sem,zYj,zCl,zN3,zYk,zWf,zUv,zL6,zW5,zU0,zQt,zUs,zaS,zWg,zWu,zYl,yf,zW1,hs,hW,h1,h2,h3,e1,e2,e3,ex,ea,hm,hw,hv,hn,hh,hk,zPJ h3]
 repeat' first | refine⟨fun _=>?_,fun _=>?_⟩ | fail
 all_goals first
  | (exfalso;omega)
  | rw[q0 (by omega)]
  | rw[q1 (by omega)]
  | rw[q2 (by omega)]
  | rw[q5 (by omega)]
  | rw[q6 (by omega)]
  | rw[q8 (by omega)]
  | rw[q9 (by omega)]
  | rw[aA (by omega)]
  | rw[bA (by omega)]
  | rw[cA (by omega)]
 all_goals first
  | exact⟨⟨⟨TrE.refl _,zh⟩,rfl,rfl,rfl⟩,⟨TrE.refl _,zQ⟩,⟨TrE.refl _,zZ⟩,rfl,rfl,⟨TrE.refl _,qG⟩,⟨TrE.refl _,zx⟩,rfl,rfl,rfl⟩
  | exact⟨by as_aux_lemma=>kernel_rfl,⟨⟨TrE.refl _,zh⟩,rfl,rfl,rfl⟩,⟨TrE.refl _,zQ⟩,⟨TrE.refl _,zZ⟩,rfl,rfl,⟨TrE.refl _,qG⟩,⟨TrE.refl _,zx⟩,rfl,rfl,rfl⟩
end Go.Proofs.YtginldeebkfbgaaGreat
