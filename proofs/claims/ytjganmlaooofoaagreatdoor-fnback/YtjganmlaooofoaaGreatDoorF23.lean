/- A part of the proof. -/
import Derived.Test.YtjganmlaooofoaaGreatDoorF22
import Derived.WideKeyEntry
set_option linter.unusedVariables false
set_option maxRecDepth 20000
set_option maxHeartbeats 4000000
namespace Go.Proofs.YtjganmlaooofoaaGreatDoor
open Go.RowKit
set_option linter.unusedSimpArgs false
set_option maxRecDepth 20000
set_option maxHeartbeats 3200000
attribute [local go_sem] qg List.map_cons List.map_nil Tr.cv yv qT yF yD yu yr yq yC zBD zBF zBE zBA zBC zBB zCc zCe zCd qY zt qZ zu qR qQ qf zAL zp zq yL qW tmpsOf zAy yK qV zA9 yz yx yw zAA yy stpP opds opd opdC kap zAS qS zo coreU bin zAl zCO get put dlO fgt zBP zBI zBM zBN tyT yp yo Op.operands Call.operands evLoad evLen evStore evAlloc zAn and_true true_and List.append_nil List.nil_append List.cons_append Ret resCv zCB yY cellM zBl zCI qh StW StR hpT hpO hpV hpA hpL hpC sg nin zCT bdO tmW obW AvE CsE CvE Av.tup Av.ids Cv.ids inD ObE Ob.ids TrE.refl qU yH yI qb qd qe zr zf zd zAC zBe zCH zBG evCall argL argOf qq outOb obO yU qK cvO tot Tr.own rid partsOf fillC zU zBj frz frz1 evBuildSlice zc trs Cv.tr evSlice Option.toArray_none Option.toArray_some evMakeSlice evAppend dstOf srcOf zA7 zBO zBL zBJ zBK ikT yB yA qz qy RetP RetN zBs qP evLd evSt evStoreH zAe evAppendM evAppendT tlOf mvOf rowE shp evTake oOf evC evCallP evCallN evCallO unlast zAX zA6 zAZ argsF zCS qu pmC varT vT evField evConv dB0 Option.bind_some Option.bind_none Option.map_some Option.map_none Option.isSome_some Option.isSome_none
attribute [local go_sem] yP zb zA5 yW qw zAs zAt zAu zAv zAw zAx zAD zAE zAF zAG zAH zAI zAJ zAK yR qt
attribute [-go_sem] zb
attribute [local go_sem] zAP zB7 zB8 zAU yb
theorem zHx(f g:Nat->Int)(t:Int)(n:Nat):(zD4 f g t n).length<=n:=by
 have:=zFJ f g t n;omega
theorem zIP{n:Nat}{f g:Nat->Int}:(zD6 n f g).length=n:=by simp[zD6]
theorem za2{n:Nat}{f g:Nat->Int}{l:List (Int×Int)}{i:Nat}:zh (zD6 n f g ++ l) i=if i<n then f i else zh l (i - n):=by
 unfold zh zD6;simp only[List.getD_eq_getElem?_getD,List.getElem?_append,List.length_map,List.length_range];split
 ·rename_i h;simp[h]
 ·rfl
theorem zbe{n:Nat}{f g:Nat->Int}{l:List (Int×Int)}{i:Nat}:zn (zD6 n f g ++ l) i=if i<n then g i else zn l (i - n):=by
 unfold zn zD6;simp only[List.getD_eq_getElem?_getD,List.getElem?_append,List.length_map,List.length_range];split
 ·rename_i h;simp[h]
 ·rfl
theorem zJp{n m:Nat}{f g:Nat->Int}{l:List (Int×Int)}{F:Nat->Nat->Tr}(hm:m=n+l.length)(hF:∀i j,i<m->j<2->F i j=if i<n then ptrsT f g i j else zFj encP (0,0) l (i - n) j):TrE (.s .o 2 m F) (.s .o 2 (zD6 n f g ++ l).length (ptrsT (zh (zD6 n f g ++ l)) (zn (zD6 n f g ++ l)))):=by
 refine⟨.inl rfl,rfl,by rw[hm,List.length_append,zIP],fun i j hi hj=>TrE.of_eq ?_⟩;rw[hF i j hi hj]
 match j,hj with
 | 0,_=>simp only[ptrsT,za2,zB7];split<;>rfl
 | 1,_=>simp only[ptrsT,zbe,zB8];split<;>rfl
theorem zd4(f:Nat->Nat->Tr)(k:Nat)(a b:Tr):yN f k 3 [a,b] k 5=f k 5:=by simp[yN]
abbrev toV(t:zEd):List Tr:=[.s .o 3 t.pool.n (zk .z t.pool.s),.s .o 1 t.pool.hn (yT t.pool.h),.v (.int .i64 t.rs),.v (.int .i64 t.rb),.s .o 2 t.old.length (ptL t.old),.v (.int .i64 t.code)]
noncomputable def zZJ:zX:=qk (fun q:(zB×Int)×zEd=>[woT q.1.1,iT q.1.2,(true,toV q.2)]) (fun q=>ym q.1.1/\qo q.1.1/\(0<=q.1.2/\q.1.2<q.1.1.sn)/\(q.2.code=0->q.2.pool.hn+q.2.old.length<=1000000)) (fun q=>[wuO (zGB q.1.1 q.1.2.toNat q.2)])
theorem zav(l:List (Int×Int)):zWR (.s .o 2 l.length (ptL l))=l:=by
 refine Eq.trans ?_ (zQH l);unfold zWR;congr 1
theorem zPZ(W:zB)(k:Int)(t:zEd):zZJ [woT W,iT k,(true,toV t)]=some (ym W/\qo W/\(0<=k/\k<W.sn)/\(t.code=0->t.pool.hn+t.old.length<=1000000),[wuO (zGB W k.toNat t)]):=
 zO (fun m=>((zCW (nth m 0),qM (nth m 1 0)),⟨zEu (nth m 2 0) (nth m 2 1),qM (nth m 2 2),qM (nth m 2 3),zWR (nth m 2 4),qM (nth m 2 5)⟩)) (fun q=>by exact congrArg (fun l=>(q.1,(⟨q.2.pool,q.2.rs,q.2.rb,l,q.2.code⟩:zEd))) (zav q.2.old)) ((W,k),t)
theorem zNA:zP9 Tryz.prog 171 zZJ:=by
 refine zXd (A:=fun q:(zB×Int)×zEd=>[woT q.1.1,iT q.1.2]) (V:=fun q=>toV q.2) qA (GOk.cons zCY (zG Tryz.func28 rfl rfl) (GOk.cons zCl (zG Tryz.func25 rfl rfl) (GOk.cons zDj (zG Tryz.func39 rfl rfl) (GOk.cons zFs (zG Tryz.func29 rfl rfl) (GOk.ptr zJC (zG Tryz.func31 rfl rfl) GOk.nil))))) zz Tryz.func171 rfl Tryz.ntmps171 Tryz.results171 13 ?_;rintro⟨⟨W,k'⟩,t⟩ hW;obtain⟨hW,hR,⟨h0,hk⟩,ht⟩:ym W/\qo W/\(0<=k'/\k'<W.sn)/\(t.code=0->t.pool.hn+t.old.length<=1000000):=hW;have hs:=hW.sn;have hp:=hW.pn;obtain⟨k,rfl⟩:=Int.eq_ofNat_of_zero_le h0;have aA:k<W.sn:=by omega
 refine⟨by simp,?_⟩;show ev _ _ _ _ _ _ (zWG _ _ [wuO (zGB W k t)]);by_cases hc:t.code=0;rotate_left
 ·simp[go_sem,yG,hc];exact yM (if_neg hc)
 have hz:=zFA (fun k hk=>(hR.zeM.zeI.ids k hk).1) (W.zeK k).zeL;have eL:zGB W k t=⟨zdd W k t,0,((zbC W k t).length:Int),0⟩:=if_pos hc;simp[go_sem,yG,zAQ,zEJ,zGS,zNI ⟨t.pool,W.time,W.next,W.sn,W.zeK,W.pn,W.zeJ⟩,hW,hs,hp,hc,hz,aA,qB (show k<=1000000000 by omega),zd4,zRv,zMt,zRu,zLN,eL];have hl:=ht hc;have hy:=zB0 (fun i=>zh t.old i) (fun i=>zn t.old i) (zE W (W.zeK k).zeL).time t.old.length;have ho:=zHx (fun i=>zh t.old i) (fun i=>zn t.old i) (zE W (W.zeK k).zeL).time t.old.length;have hd:=hW.sd k aA;refine⟨by kernel_rfl,by omega,by omega,by omega,by kernel_rfl,⟨TrE.refl _,zW⟩,⟨TrE.refl _,zm⟩,rfl,rfl,⟨⟨.inl rfl,rfl,rfl,fun i j hi hj=>?_⟩,qm⟩,⟨TrE.refl _,qI⟩,rfl⟩;show TrE _ (setsE .o (fun j=>if j=k then zNC W k t else W.zeK j) i j);by_cases e:i=k
 ·subst e
  match j,hj with
  | 0,_ | 1,_ | 2,_ | 3,_ | 4,_=>exact TrE.of_eq (by simp[yN,setsE,zNC])
  | 5,_=>
   simp[yN,setsE,zNC];exact zJp rfl fun a b ha hb=>by
    unfold yX;split
    ·rfl
    ·match b,hb with
     | 0,_ | 1,_=>rfl
 ·exact TrE.of_eq (by unfold setsE;simp[yN,e])
open Classical in
noncomputable def zH4(W:zB)(x:ByteArray)(page:Int)(d:ByteArray):zAk:=if 8000<x.size\/8000<d.size then qD 2 else if qo W then(if qG W x then zGB W (zA2 W x) (zDN W.pool (W.zeK (zA2 W x)).rs (W.zeK (zA2 W x)).rb page d W.time)else qD 4)else qD 1
open Classical in
noncomputable def zLg(W:zB)(x:ByteArray)(page:Int):zAk:=if 8000<x.size then qD 2 else if qo W then(if qG W x then zGB W (zA2 W x) (zHP W.pool (W.zeK (zA2 W x)).rs (W.zeK (zA2 W x)).rb page W.time)else qD 4)else qD 1
noncomputable def zZN:zX:=qk (fun q:(zB×ByteArray)×Int×ByteArray=>[woT q.1.1,sT q.1.2,iT q.2.1,sT q.2.2]) (fun q=>ym q.1.1) (fun q=>[wuO (zH4 q.1.1 q.1.2 q.2.1 q.2.2)])
theorem zW6(W:zB)(x:ByteArray)(aA:Int)(d:ByteArray):zZN [woT W,sT x,iT aA,sT d]=some (ym W,[wuO (zH4 W x aA d)]):=zO (fun l=>((zCW (nth l 0),zDP (nth l 1 0)),qM (nth l 2 0),zDP (nth l 3 0))) (fun _=>rfl) ((W,x),aA,d)
theorem zRJ:zy Tryz.prog 136 zZN:=by
 refine zQ qA (GOk.cons zAW (zG Tryz.func23 rfl rfl) (GOk.cons zDH (zG Tryz.func26 rfl rfl) (GOk.cons zCl (zG Tryz.func25 rfl rfl) (GOk.cons zQD (zG Tryz.func175 rfl rfl) (GOk.own zNA (zG Tryz.func171 rfl rfl) GOk.nil))))) zz Tryz.func136 rfl Tryz.ntmps136 Tryz.results136 10 ?_;rintro⟨⟨W,x⟩,aA,d⟩ hW;replace hW:ym W:=hW;have hs:=hW.sn;have hp:=hW.n;have hh:=hW.hn;refine⟨by simp,?_⟩;by_cases h8:8000<x.size\/8000<d.size
 ·rcases Nat.lt_or_ge 8000 x.size with h | h
  ·simp[go_sem,yG,show(8000:Int)<x.size by omega];exact yM (if_pos h8)
  ·simp[go_sem,yG,show ¬(8000:Int)<x.size by omega,show(8000:Int)<d.size by omega];exact yM (if_pos h8)
 have bA:¬(8000:Int)<x.size:=by omega
 have cA:¬(8000:Int)<d.size:=by omega
 by_cases hR:qo W;rotate_left
 ·simp[go_sem,zAp,zAR,yG,hW,hW.toSmallW,hs,hp,bA,cA,hR];exact yM ((if_neg h8).trans (if_neg hR))
 by_cases hH:qG W x;rotate_left
 ·simp[go_sem,zAp,zAR,yG,hW,hW.toSmallW,hs,hp,zCq,zBT,bA,cA,hR,hH];exact yM ((if_neg h8).trans ((if_pos hR).trans (if_neg hH)))
 have hk:=zH1 hH;have iA:=zBT.2 hH;have eA:zA2 W x<W.sn:=by show(zBb W.sn fun k=>(W.zeK k).name=x).toNat<W.sn;omega
 obtain⟨k,dA⟩:∃k,k=zA2 W x:=⟨_,rfl⟩;have fA:(zBb W.sn fun k=>(W.zeK k).name=x)=(k:Int):=by rw[dA];show _=((zBb W.sn fun k=>(W.zeK k).name=x).toNat:Int);omega
 have gA:¬(k:Int)<0:=by omega
 have eR:zH4 W x aA d=zGB W k (zDN W.pool (W.zeK k).rs (W.zeK k).rb aA d W.time):=by
  unfold zH4;rw[if_neg h8,if_pos hR,if_pos hH,<-dA]
 rw[<-dA]at eA;have hz:=zH5 W.pool (W.zeK k).rs (W.zeK k).rb aA d W.time;obtain⟨t,ht⟩:∃t,t=zDN W.pool (W.zeK k).rs (W.zeK k).rb aA d W.time:=⟨_,rfl⟩;rw[<-ht]at hz eR;have hb:t.pool.hn+t.old.length<=1000000:=by
  have:=zEk hR.right;have h1:=hz.1;have h2:=hz.2;have h3:t.pool.hn<=qs t.pool:=Nat.le_add_left ..;omega
 have eT:=zc4 W.pool (W.zeK k).rs (W.zeK k).rb aA d W.time;rw[<-ht]at eT;simp[go_sem,zAp,zAR,yG,eT,zPZ W k t,hW,hW.toSmallW,hs,hp,hh,fA,gA,bA,cA,hR,eA,eR,hb];exact⟨by kernel_rfl,zW,zm,qm,qI⟩
noncomputable def zcZ:zX:=qk (fun q:(zB×ByteArray)×Int=>[woT q.1.1,sT q.1.2,iT q.2]) (fun q=>ym q.1.1) (fun q=>[wuO (zLg q.1.1 q.1.2 q.2)])
theorem zZI(W:zB)(x:ByteArray)(aA:Int):zcZ [woT W,sT x,iT aA]=some (ym W,[wuO (zLg W x aA)]):=zO (fun l=>((zCW (nth l 0),zDP (nth l 1 0)),qM (nth l 2 0))) (fun _=>rfl) ((W,x),aA)
theorem zTH:zy Tryz.prog 129 zcZ:=by
 refine zQ qA (GOk.cons zAW (zG Tryz.func23 rfl rfl) (GOk.cons zDH (zG Tryz.func26 rfl rfl) (GOk.cons zCl (zG Tryz.func25 rfl rfl) (GOk.cons zRL (zG Tryz.func172 rfl rfl) (GOk.own zNA (zG Tryz.func171 rfl rfl) GOk.nil))))) zz Tryz.func129 rfl Tryz.ntmps129 Tryz.results129 8 ?_;rintro⟨⟨W,x⟩,aA⟩ hW;replace hW:ym W:=hW;have hs:=hW.sn;have hp:=hW.n;have hh:=hW.hn;refine⟨by simp,?_⟩;by_cases h8:8000<x.size
 ·simp[go_sem,yG,show(8000:Int)<x.size by omega];exact yM (if_pos h8)
 have bA:¬(8000:Int)<x.size:=by omega
 by_cases hR:qo W;rotate_left
 ·simp[go_sem,zAp,zAR,yG,hW,hW.toSmallW,hs,hp,bA,hR];exact yM ((if_neg h8).trans (if_neg hR))
 by_cases hH:qG W x;rotate_left
 ·simp[go_sem,zAp,zAR,yG,hW,hW.toSmallW,hs,hp,zCq,zBT,bA,hR,hH];exact yM ((if_neg h8).trans ((if_pos hR).trans (if_neg hH)))
 have hk:=zH1 hH;have gA:=zBT.2 hH;have dA:zA2 W x<W.sn:=by show(zBb W.sn fun k=>(W.zeK k).name=x).toNat<W.sn;omega
 obtain⟨k,cA⟩:∃k,k=zA2 W x:=⟨_,rfl⟩;have eA:(zBb W.sn fun k=>(W.zeK k).name=x)=(k:Int):=by rw[cA];show _=((zBb W.sn fun k=>(W.zeK k).name=x).toNat:Int);omega
 have fA:¬(k:Int)<0:=by omega
 have eR:zLg W x aA=zGB W k (zHP W.pool (W.zeK k).rs (W.zeK k).rb aA W.time):=by
  unfold zLg;rw[if_neg h8,if_pos hR,if_pos hH,<-cA]
 rw[<-cA]at dA;have hz:=zJQ W.pool (W.zeK k).rs (W.zeK k).rb aA W.time;obtain⟨t,ht⟩:∃t,t=zHP W.pool (W.zeK k).rs (W.zeK k).rb aA W.time:=⟨_,rfl⟩;rw[<-ht]at hz eR;have hb:t.pool.hn+t.old.length<=1000000:=by
  have:=zEk hR.right;have h1:=hz.1;have h2:=hz.2;have h3:t.pool.hn<=qs t.pool:=Nat.le_add_left ..;omega
 have eT:=zc3 W.pool (W.zeK k).rs (W.zeK k).rb aA W.time;rw[<-ht]at eT;simp[go_sem,zAp,zAR,yG,eT,zPZ W k t,hW,hW.toSmallW,hs,hp,hh,eA,fA,bA,hR,dA,eR,hb];exact⟨by kernel_rfl,zW,zm,qm,qI⟩
open Go.Maps
def zGt(f:Nat->Int)(x:Int):Nat->Nat
 | 0=>0
 | k+1=>zGt f x k+(if f k=x then 1 else 0)
theorem zRa{f:Nat->Int}{x:Int}{k:Nat}(h:f k=x):zGt f x (k+1)=zGt f x k+1:=by simp[zGt,h]
theorem zUq{f:Nat->Int}{x:Int}{k:Nat}(h:¬f k=x):zGt f x (k+1)=zGt f x k:=by simp[zGt,h]
def zVe(W:zB)(x:Int):Nat:=zGt (fun i=>(W.zeK i).zeL) x W.sn+zGt (fun i=>(W.zeJ i).zeL) x W.pn
def zB2(w:World)(v:Value)(n:Nat)(f:Nat->ByteArray):Prop:=
 n<=1000/\∃a c,v = .slice a n c/\(∀i,i<n->(f i).size<=maxLen)/\(0<n->∃b off,a=some ⟨b,off,none⟩/\∀i,i<n->w.cell? ⟨b,off+i,none⟩=some (.string (f i)))
theorem zB2.zeF{w w':World}{v:Value}{n:Nat}{f:Nat->ByteArray}(h:zB2 w v n f)(t:Below w.heap.size w w'):zB2 w' v n f:=by
 obtain⟨m,a,c,hv,hs,hx⟩:=h;refine⟨m,a,c,hv,hs,fun h0=>?_⟩;obtain⟨b,off,ha,hc⟩:=hx h0;exact⟨b,off,ha,fun i hi=>(t.cell (zH (hc i hi))).trans (hc i hi)⟩
theorem zB2.cells{w:World}{a:Option Addr}{c n:Nat}{f:Nat->ByteArray}(h:zB2 w (.slice a n c) n f){i:Nat}(hi:i<n):∃b off,a=some ⟨b,off,none⟩/\w.cell? ⟨b,off+i,none⟩=some (.string (f i)):=by
 obtain⟨m,a0,c0,hv,hs,hx⟩:=h;simp only[Value.slice.injEq,true_and]at hv;obtain⟨rfl,rfl⟩:=hv;obtain⟨b,off,ha,hc⟩:=hx (by omega);exact⟨b,off,ha,hc i hi⟩
theorem zWt(s:ByteArray)(w:World)(hs:s.size<=maxLen):Calls Tryz.prog 96 #[.string s] w fun e w'=>zL (8000<s.size) e/\Below w.heap.size w w':=by
 unfold maxLen at hs;by_cases h:8000<s.size
 ·have h':(8000:Int)<(s.size:Int):=(by omega);have H:=zR h;clear h;go_enter Tryz.func96,Tryz.ntmps96;go_wp2;go_ret;exact⟨zL.yes H.out,Below.refl _ _⟩
 ·have h':¬(8000:Int)<(s.size:Int):=(by omega);have H:=zR h;clear h;go_enter Tryz.func96,Tryz.ntmps96;go_wp2;go_ret;exact⟨zL.no H.out,Below.refl _ _⟩
theorem zX5(s:ByteArray)(w:World)(hs:s.size<=maxLen):Calls Tryz.prog 97 #[.string s] w fun e w'=>zL (¬zA0 s) e/\Below w.heap.size w w':=by
 go_enter Tryz.func97,Tryz.ntmps97;go_wp2_with fail;refine(zGx s w hs).mono ?_;rintro e w1 ⟨⟨t,rfl,ht⟩,rfl⟩;by_cases hf:zA0 s
 ·obtain rfl:t=true:=ht.2 hf;have HF:=zR hf;clear ht hf;go_wp2;go_ret;exact⟨zL.no (fun h=>h HF.out),Below.refl _ _⟩
 ·obtain rfl:t=false:=qj ht hf;have HF:=zR hf;clear ht hf;go_wp2;go_ret;exact⟨zL.yes HF.out,Below.refl _ _⟩
theorem zRx(v:Value)(n:Nat)(f:Nat->ByteArray)(w:World)(h:zB2 w v n f) :
  Calls Tryz.prog 142 #[v,.func (.func 96) #[] #[]] w fun e w'=>((∃i:Nat,i<n/\8000<(f i).size/\e = .returned (.int .i64 (i:Int)))\/((∀j,j<n->¬8000<(f j).size)/\e = .returned (.int .i64 (-1))))/\Below w.heap.size w w':=by
 have Hp:=zR h;obtain⟨m1,a,c,rfl,hs,-⟩:=h;have Hs:=zR hs;clear hs;go_enter Tryz.func142,Tryz.ntmps142;go_wp2
 go_loopw [8] (fun i wr=>∃k:Nat,k<=n/\i = .int .i64 k/\(∀j,j<k->¬8000<(f j).size)/\Below w.heap.size w wr) (fun i _=>n - (intOf i).toNat)
 case atStart=>exact⟨0,Nat.zero_le _,rfl,fun j hj=>absurd hj (Nat.not_lt_zero _),Below.refl _ _⟩
 case round=>
  obtain⟨k,hk,rfl,bA,hb⟩:=hrel;have aA:=zR bA;clear bA;by_cases cA:k<n
  ·have fA:(k:Int)<(n:Int):=(by omega);obtain⟨b,off,rfl,q0⟩:=(Hp.out.zeF hb).cells cA;have gA:=Hs.out k cA;go_wp2_with fail;refine(zWt (f k) _ gA).mono ?_;rintro e w1 ⟨⟨t,rfl,ht⟩,dA⟩;have eA:=zA hb dA;clear dA q0;by_cases hf:8000<(f k).size
   ·obtain rfl:t=true:=ht.2 hf;have HF:=zR hf;clear ht hf;go_wp2;go_ret;exact⟨Or.inl ⟨k,cA,HF.out,rfl⟩,eA⟩
   ·obtain rfl:t=false:=qj ht hf;have HF:=zR hf;clear ht hf;go_wp2;go_roundw
    case rel=>
     refine⟨k+1,by omega,by go_num,fun j hj=>?_,eA⟩;by_cases e:j=k
     ·subst e;exact HF.out
     ·exact aA.out j (by omega)
    case measure=>simp[intOf];omega
  ·obtain rfl:k=n:=(by omega);go_wp2;go_ret;exact⟨Or.inr ⟨aA.out,rfl⟩,hb⟩
theorem zWe(v:Value)(n:Nat)(f:Nat->ByteArray)(w:World)(h:zB2 w v n f) :
  Calls Tryz.prog 95 #[v,.func (.func 96) #[] #[]] w fun e w'=>zL (∃i,i<n/\8000<(f i).size) e/\Below w.heap.size w w':=by
 have Hp:=zR h;obtain⟨m1,a,c,rfl,hs,-⟩:=h;go_enter Tryz.func95,Tryz.ntmps95;go_wp2_with fail;refine(zRx _ n f w Hp.out).mono ?_;rintro e w1 ⟨hr,aA⟩;rcases hr with⟨i,hi,hP,rfl⟩ | ⟨bA,rfl⟩
 ·have HP:=zR (show ∃i,i<n/\8000<(f i).size from⟨i,hi,hP⟩);have h0:(0:Int)<=(i:Int):=(by omega);clear hP;go_wp2;go_ret;exact⟨zL.yes HP.out,aA⟩
 ·have HP:=zR bA;clear bA;go_wp2;go_ret;exact⟨zL.no fun ⟨i,hi,hq⟩=>HP.out i hi hq,aA⟩
theorem zRy(v:Value)(n:Nat)(f:Nat->ByteArray)(w:World)(h:zB2 w v n f) :
  Calls Tryz.prog 142 #[v,.func (.func 97) #[] #[]] w fun e w'=>((∃i:Nat,i<n/\¬zA0 (f i)/\e = .returned (.int .i64 (i:Int)))\/((∀j,j<n->¬¬zA0 (f j))/\e = .returned (.int .i64 (-1))))/\Below w.heap.size w w':=by
 have Hp:=zR h;obtain⟨m1,a,c,rfl,hs,-⟩:=h;have Hs:=zR hs;clear hs;go_enter Tryz.func142,Tryz.ntmps142;go_wp2
 go_loopw [8] (fun i wr=>∃k:Nat,k<=n/\i = .int .i64 k/\(∀j,j<k->¬¬zA0 (f j))/\Below w.heap.size w wr) (fun i _=>n - (intOf i).toNat)
 case atStart=>exact⟨0,Nat.zero_le _,rfl,fun j hj=>absurd hj (Nat.not_lt_zero _),Below.refl _ _⟩
 case round=>
  obtain⟨k,hk,rfl,bA,hb⟩:=hrel;have aA:=zR bA;clear bA;by_cases cA:k<n
  ·have fA:(k:Int)<(n:Int):=(by omega);obtain⟨b,off,rfl,q0⟩:=(Hp.out.zeF hb).cells cA;have gA:=Hs.out k cA;go_wp2_with fail;refine(zX5 (f k) _ gA).mono ?_;rintro e w1 ⟨⟨t,rfl,ht⟩,dA⟩;have eA:=zA hb dA;clear dA q0;by_cases hf:¬zA0 (f k)
   ·obtain rfl:t=true:=ht.2 hf;have HF:=zR hf;clear ht hf;go_wp2;go_ret;exact⟨Or.inl ⟨k,cA,HF.out,rfl⟩,eA⟩
   ·obtain rfl:t=false:=qj ht hf;have HF:=zR hf;clear ht hf;go_wp2;go_roundw
    case rel=>
     refine⟨k+1,by omega,by go_num,fun j hj=>?_,eA⟩;by_cases e:j=k
     ·subst e;exact HF.out
     ·exact aA.out j (by omega)
    case measure=>simp[intOf];omega
  ·obtain rfl:k=n:=(by omega);go_wp2;go_ret;exact⟨Or.inr ⟨aA.out,rfl⟩,hb⟩
theorem zWf(v:Value)(n:Nat)(f:Nat->ByteArray)(w:World)(h:zB2 w v n f) :
  Calls Tryz.prog 95 #[v,.func (.func 97) #[] #[]] w fun e w'=>zL (∃i,i<n/\¬zA0 (f i)) e/\Below w.heap.size w w':=by
 have Hp:=zR h;obtain⟨m1,a,c,rfl,hs,-⟩:=h;go_enter Tryz.func95,Tryz.ntmps95;go_wp2_with fail;refine(zRy _ n f w Hp.out).mono ?_;rintro e w1 ⟨hr,aA⟩;rcases hr with⟨i,hi,hP,rfl⟩ | ⟨bA,rfl⟩
 ·have HP:=zR (show ∃i,i<n/\¬zA0 (f i)from⟨i,hi,hP⟩);have h0:(0:Int)<=(i:Int):=(by omega);clear hP;go_wp2;go_ret;exact⟨zL.yes HP.out,aA⟩
 ·have HP:=zR bA;clear bA;go_wp2;go_ret;exact⟨zL.no fun ⟨i,hi,hq⟩=>HP.out i hi hq,aA⟩
open Go.ChangeMaps Go.MapKept
open Go.WideElems (Fit rd rg pl rd_val elemAt findIdx_arr findIdx_born modify_last set_self)
open Go.WideMaps (KeyLaw)
theorem zNr(w:World)(b:Nat)(o o':Obj):setBlock (setBlock w b o) b o'=setBlock w b o':=by simp[setBlock]
theorem zOY{w:World}{b:Nat}{o:Obj}(h:w.heap[b]?=some o):setBlock w b o=w:=by
 have e:w.heap.setIfInBounds b o=w.heap:=by
  apply Array.ext_getElem?;intro i;by_cases hi:i=b
  ·subst hi;rw[Array.getElem?_setIfInBounds_self_of_lt (Array.getElem?_eq_some_iff.1 h).1];exact h.symm
  ·rw[Array.getElem?_setIfInBounds_ne (fun e=>hi e.symm)]
 unfold setBlock;rw[e]
theorem zMs{w:World}{b:Nat}{es aA:Array MapEntry}{c c':Nat}(hb:w.heap[b]?=some (.map es c)):w.grownBy (setBlock w b (.map aA c')) (some b):=
 ⟨rfl,rfl,rfl,by simp[setBlock],fun i _ hi=>heap_setBlock_other hb _ (fun e=>hi (by rw[e]))⟩
theorem zO5{P:Program}{k e t:TypeId}{w:World}{b n:Nat}{D:DataW Value}(h:w.ownsMap P k zE7 b n D)(K0:KeyLaw P k)(ht:P.underlying t=some (.map k e))(hn:n<maxLen){z:Value}(hz:∀u:World,(zeroValue e).run P u = .ok z u)
  {key val v:Value} {kl:Lit} (aA:keyOf P k key=some kl) (oA:D.atKey kl (.held z) = .held v) :
  ∃(v0:Value) (st:Nat) (w1 w2:World),(Instr.mapEntry t (.map (some b)) key).run P w = .ok (.tuple #[v0,goInt st]) w1/\(Instr.lookup t (.map (some b)) key false).run P w1 = .ok v w1/\(Instr.entryStore t (.map (some b)) (goInt st) val).run P w1 = .ok () w2/\w2.ownsMap P k zE7 b (n+1) (D.put kl (.held val))/\w.grownBy w1 (some b)/\w.grownBy w2 (some b):=by
 have K:=Keyed.of_law K0;obtain⟨w',lA,fA,rA⟩:=h.update K ht hn aA (zD2 val);obtain⟨wz,kA,gA,jB⟩:=h.update K ht hn aA (zD2 z);have eA:=h.lookup K ht (hz w) (zD2 z) aA;obtain⟨es,bA,hb,F,hs,hD⟩:=h;obtain⟨v0,st,dA,c1,cA,kB,cB⟩:=WideElems.entry_then_store K0 ht hz hb F aA;have pA:(setBlock w b (.map dA c1)).heap[b]?=some (.map dA c1):=heap_setBlock_same hb _;obtain⟨nA,c2,bB,eB⟩:=cB _ val pA;have e2:setBlock (setBlock w b (.map dA c1)) b (.map nA c2)=w':=by
  rw[zNr];rw[eB]at lA;injection lA
 refine⟨v0,st,setBlock w b (.map dA c1),w',cA,?_,by rw[<-e2];exact bB,fA,zMs hb,rA⟩;obtain⟨v',ps,hl,fB⟩:=eA;have ev:v'=v:=by
  have e1:=zGY fB;rw[oA]at e1;injection e1 with e1;exact e1.symm
 subst ev
 suffices hh:∀ww:World,ww=setBlock w b (.map dA c1)->(Instr.lookup t (.map (some b)) key false).run P ww = .ok v' ww from hh _ rfl
 intro ww mA;rcases K0.find w aA es.toList F.keys with⟨h1,h2⟩ | ⟨j,e0,h1,h2,h3⟩
 ·
  have iB:setBlock w b (.map dA c1)=wz:=by
   have hm:(Instr.mapEntry t (.map (some b)) key).run P w = .ok (.tuple #[z,goInt bA]) (setBlock w b (.map (es.push ⟨key,z,bA⟩) (bA+1))):=by
    simp[Instr.mapEntry,run_underlying ht,MapKept.run_getObj_map hb,K0.check w false aA,h1,hz,MapKept.run_setObj_map _ hb,Result.andThen,setBlock]
   have hu:(Instr.mapUpdate t (.map (some b)) key z).run P w = .ok () (setBlock w b (.map (es.push ⟨key,z,bA⟩) (bA+1))):=by
    simp[Instr.mapUpdate,run_underlying ht,MapKept.run_getObj_map hb,K0.check w false aA,h1,MapKept.run_setObj_map _ hb,Result.andThen,setBlock]
   rw[cA]at hm;rw[kA]at hu;injection hm with _ hm;injection hu with _ hu;rw[hm,hu]
  obtain rfl:ww=wz:=mA.trans iB;obtain⟨v2,lB,vA,gB⟩:=gA.lookup K ht (hz _) (zD2 z) aA;have e3:=zGY gB;rw[atKey_put_same (show IsMap D from⟨_,hD⟩) (K.key aA)]at e3;replace e3:=DataW.held.inj e3;have e4:v'=z:=by
   have tA:(Instr.lookup t (.map (some b)) key false).run P w = .ok z w:=by
    rcases Maps.fit_look false K ht (hz w) hb F aA with⟨jA,_,_⟩ | ⟨e0,y,aB,sA,_,_,_,_⟩
    ·exact jA
    ·exact absurd sA (h2 e0 aB)
   rw[tA]at hl;injection hl with hl _;exact hl.symm
  subst e3;subst e4;exact vA
 ·
  have hj:es[j]?=some e0:=(by simpa using h2);have iA:es.modify j (fun e=>{e with key:=key})=es:=by
   apply Array.ext';rw[Array.toList_modify,modify_eq_set _ _ _ _ h2];have:({e0 with key:=key}:MapEntry)=e0:=(by rw[<-h3]);rw[this];exact set_self _ _ _ h2
  have hm:(Instr.mapEntry t (.map (some b)) key).run P w = .ok (.tuple #[e0.val,goInt e0.born]) (setBlock w b (.map es bA)):=by
   simp[Instr.mapEntry,run_underlying ht,MapKept.run_getObj_map hb,K0.check w false aA,h1,hj,h3,K0.stays w aA,iA,MapKept.run_setObj_map _ hb,Result.andThen,setBlock]
  rw[cA,zOY hb]at hm;obtain rfl:ww=w:=mA.trans (Result.ok.inj hm).2;exact hl
theorem zN9 (W : zB) (m : zF3) : (zBR W m).length <= 73 := by
  unfold zBR zBq treeM;exact Nat.le_trans (List.length_filter_le _ _) (qx _ _ _)
theorem zPI (W : zB) : ∀ k, (zw W k).length <= 73 * k
  | 0 => by simp[zw]
  | k + 1 => by
    have h1 := zPI W k;have h2 := zN9 W (zI W k);unfold zw;rw[List.length_append];omega
theorem zPJ (W : zB) {k : Nat} : ∀ {n : Nat}, k <= n -> ∃ l, zw W n = zw W k ++ l
  | 0, h => ⟨[], by obtain rfl : k = 0 := by omega
                    simp⟩
  | n + 1, h => by
    by_cases e : k = n + 1
    · subst e;exact ⟨[], by simp⟩
    · obtain ⟨l, hl⟩ := zPJ W (k := k) (n := n) (by omega)
      exact ⟨l ++ zBR W (zI W n), by rw[show zw W (n + 1) = zw W n ++ zBR W (zI W n) from rfl, hl, List.append_assoc]⟩
theorem zYQ (W : zB) {k n j : Nat} (hk : k < n) (hj : j < (zBR W (zI W k)).length) : (zw W k).length + j < (zw W n).length /\ (zw W n).getD ((zw W k).length + j) (0, 0) = (zBR W (zI W k)).getD j (0, 0) := by
  obtain ⟨l, hl⟩ := zPJ W (k := k + 1) (n := n) (by omega);rw[hl, show zw W (k + 1) = zw W k ++ zBR W (zI W k) from rfl];constructor
  · simp only[List.length_append];omega
  · rw[List.getD_eq_getElem?_getD, List.getD_eq_getElem?_getD, List.append_assoc, List.getElem?_append_right (by omega), show (zw W k).length + j - (zw W k).length = j by omega, List.getElem?_append_left hj]
def zSb (x : Int × Int) : Value := .agg #[.int .i64 x.1, .int .i64 x.2]
/-- The keys of the homes, one behind the other. -/
structure zBu (W : zB) (key : Nat -> Lit) : Prop where
  ok : zF2 key
  at_ : ∀ i, i < (zw W (memN W)).length -> keyOf Tryz.prog 38 (zSb ((zw W (memN W)).getD i (0, 0))) = some (key i)
theorem zQU {W : zB} (hR : zg W.pool) (hT : ∀ i, i < memN W -> za W.pool (zI W i).rs (zI W i).rb) {x : Int × Int} (hx : x ∈ zw W (memN W)) : qp W.pool x.1 x.2 := by
  obtain ⟨i, hi, h⟩ := zGT.1 hx;unfold zBR zBq treeM at h;exact (zBc hR (hT i hi) (List.mem_filter.1 h).1).1
theorem zYK {l : List (Int × Int)} {i : Nat} (h : i < l.length) : l.getD i (0, 0) ∈ l := by
  rw[List.getD_eq_getElem?_getD, List.getElem?_eq_getElem h, Option.getD_some];exact List.getElem_mem h
theorem zWh {W : zB} (hR : zg W.pool) (hT : ∀ i, i < memN W -> za W.pool (zI W i).rs (zI W i).rb) : ∃ key, zBu W key := by
  have aA : ∀ i, ∃ l, WideAt.IsKeyLit l /\ (i < (zw W (memN W)).length -> keyOf Tryz.prog 38 (zSb ((zw W (memN W)).getD i (0, 0))) = some l) := fun i => by
    by_cases bA : i < (zw W (memN W)).length
    · have hp := zQU hR hT (zYK bA)
      generalize (zw W (memN W)).getD i (0, 0) = x at hp ⊢;have hf := (zAg hR hp).1;have cA := hR.1;obtain ⟨h1, h2, h3, h4⟩ := hp;rw[h4]at hf;obtain ⟨f1, f2⟩ := hf;obtain ⟨l, hl⟩ := za9 (x := x.1) (y := x.2) (WalkArith.wf_i64 (by omega)) (WalkArith.wf_i64 (by omega));exact ⟨l, zc0.key hl, fun _ => hl⟩
    · exact ⟨.string [], trivial, fun h => absurd h bA⟩
  exact ⟨fun i => (aA i).choose, fun i => (aA i).choose_spec.1, fun i => (aA i).choose_spec.2⟩
theorem zXC {x y : Int × Int} (h : zSb x = zSb y) : x = y := by
  unfold zSb at h;simp only[Value.agg.injEq, Array.mk.injEq, List.cons.injEq, Value.int.injEq, true_and, and_true]at h;exact Prod.ext h.1 h.2
theorem zBu.same {W : zB} {key : Nat -> Lit} (h : zBu W key) {i j : Nat} (hi : i < (zw W (memN W)).length) (hj : j < (zw W (memN W)).length) : key i = key j ↔ (zw W (memN W)).getD i (0, 0) = (zw W (memN W)).getD j (0, 0) := by
  have h1 := h.at_ i hi;have h2 := h.at_ j hj;constructor
  · intro e
    rw[e]at h1;exact zXC (zc0.inj h1 h2)
  · intro e
    rw[e, h2]at h1;exact (Option.some.inj h1).symm
theorem zBu.dist {W : zB} {key : Nat -> Lit} (h : zBu W key) : zJW (zw W (memN W)).length key ↔ (zw W (memN W)).Nodup := by
  rw[List.Nodup, List.pairwise_iff_getElem];have hg : ∀ i (hi : i < (zw W (memN W)).length), (zw W (memN W)).getD i (0, 0) = (zw W (memN W))[i] := fun i hi => by rw[List.getD_eq_getElem?_getD, List.getElem?_eq_getElem hi, Option.getD_some]
  constructor
  · intro hd i j hi hj aA e
    refine hd j hj i aA ((h.same hi hj).2 ?_);rw[hg i hi, hg j hj];exact e
  · intro hd i hi k hk e
    have := (h.same (by omega) hi).1 e;rw[hg k (by omega), hg i hi]at this;exact hd k i (by omega) hi hk this
/-- The map behind the first p homes. -/
def zPF (key : Nat -> Lit) (p : Nat) : DataW Value := putD key (fun _ => .int .i64 1) p
theorem zBu.new {W : zB} {key : Nat -> Lit} {p : Nat} (hn : ∀ i, i < p -> key i ≠ key p) (h : zBu W key) : (zPF key p).atKey (key p) (.held (.int .i64 0)) = .held (.int .i64 0) := zIM h.ok _ hn _
theorem zBu.old {W : zB} {key : Nat -> Lit} {p i : Nat} (hi : i < p) (he : key i = key p) (hd : zJW p key) (h : zBu W key) : (zPF key p).atKey (key p) (.held (.int .i64 0)) = .held (.int .i64 1) := by
  rw[<- he];exact zL7 h.ok _ _ p i hi (fun j h1 h2 e => hd j h2 i h1 e.symm)
theorem zBu.put {W : zB} {key : Nat -> Lit} (h : zBu W key) (p : Nat) (v : Value) : ((zPF key p).put (key p) (.held v)).atKey (key p) (.held (.int .i64 0)) = .held v := atKey_put_same (zFH h.ok _ p).isMap (h.ok p) _ _
theorem zBu.not_nodup {W : zB} {key : Nat -> Lit} {p i : Nat} (hi : i < p) (hp : p < (zw W (memN W)).length) (he : key i = key p) (h : zBu W key) : ¬ (zw W (memN W)).Nodup := fun hn => h.dist.2 hn p hp i hi he
theorem zBu.size {W : zB} {key : Nat -> Lit} (h : zBu W key) {p : Nat} (hd : zJW p key) : Maps.size (zPF key p) = p := (zK1 h.ok _ p).2.2 hd
theorem zKo(v0 v1:Value)(lo hi:Nat)(p:zF)(w:World)(h1:zCG w lo hi v0 v1 p) :
  Calls Tryz.prog 122 #[.agg #[v0,v1]] w fun e w'=>e = .returned (.int .i64 (zV0 p))/\Below w.heap.size w w':=by
 have Hp:Hid (zCG w lo hi v0 v1 p):=h1;obtain⟨⟨m1,a,c,rfl,mc,g1⟩,⟨m2,a',c',rfl,kA,g2⟩⟩:=h1;unfold maxLen at m1 m2;clear g1 g2;have ha:=zD w (.cells #[.slice a p.n c,.slice a' p.hn c'] 26);go_enter Tryz.func122,Tryz.ntmps122;go_wp2_with fail;refine(zCt _ _ lo hi p _ (Hp.out.zeF ha)).mono ?_;rintro e w1 ⟨⟨t,rfl,ht⟩,aA⟩;have Hx:Hid (zAT w1 w.heap.size (.slice a p.n c) (.slice a' p.hn c')):=(zAT.new w _ _ _).zeF aA;have cA:=zA ha aA;clear ha aA;by_cases hR:zg p
 ·obtain rfl:t=true:=ht.2 hR;have HR:Hid (zg p):=hR;have eA:(p.n:Int)<=200:=(by have:=hR.1;omega);clear ht hR;obtain⟨⟨y0,y1⟩,⟨y2,y3⟩⟩:=Hx.out;have fA:Hid (zV0 p=(roomN p.s p.n:Int)):=if_pos HR.out;have HB:Hid (Below w.heap.size w w1):=cA;go_wp2;clear y0 y1 y2 y3 cA
  go_loopw [3,12] (fun m i wr=>∃k:Nat,k<=p.n/\i = .int .i64 k/\m = .int .i64 (roomN p.s k:Int)/\Below w.heap.size w wr) (fun _ i _=>p.n - (intOf i).toNat)
  case atStart=>exact⟨0,Nat.zero_le _,rfl,rfl,HB.out⟩
  case round=>
   obtain⟨k,hk,rfl,rfl,hb⟩:=hrel;have jA:=zKI p.s k;by_cases gA:k<p.n
   ·have iA:(k:Int)<(p.n:Int):=(by omega);obtain⟨b,off,ka,kc,rfl,hs⟩:=(Hp.out.1.zeF hb).cells gA;have Hs:Hid (zEA wr b (off+k*3) lo hi ka kc (p.s k)):=hs;obtain⟨q0,q1,q2,_⟩:=hs;go_wp2_with fail;have bA:=zD wr (.cells #[.int .i64 (p.s k).birth,.slice ka (p.s k).kn kc,.string (p.s k).data] 101);refine(zGy _ _ _ lo hi (p.s k) _ (Hs.out.slot.zeF bA)).mono ?_;rintro e w2 ⟨⟨t,rfl,ht⟩,aA⟩;have dA:=zA hb (zA bA aA);clear aA q0 q1 q2 Hs bA;by_cases hf:zAO (p.s k)
    ·obtain rfl:t=true:=ht.2 hf;have HF:Hid (zAO (p.s k)):=hf;clear ht hf;go_wp2;go_roundw
     case rel=>exact⟨k+1,by omega,by go_num,congrArg (Value.int .i64) (by rw[zEP HF.out];omega),dA⟩
     case measure=>simp[intOf];omega
    ·obtain rfl:t=false:=qj ht hf;have HF:Hid (¬zAO (p.s k)):=hf;clear ht hf;go_wp2;go_roundw
     case rel=>exact⟨k+1,by omega,by go_num,congrArg (Value.int .i64) (by rw[zEm HF.out]),dA⟩
     case measure=>simp[intOf];omega
   ·obtain rfl:k=p.n:=(by omega);go_wp2;go_ret;exact⟨by rw[fA.out];rfl,hb⟩
 ·obtain rfl:t=false:=qj ht hR;have HR:Hid (¬zg p):=hR;clear ht hR;go_wp2;go_ret;refine⟨?_,cA⟩;have e:zV0 p=0:=if_neg HR.out;rw[e];rfl
theorem zED{P:Program}{k:TypeId}{w w1:World}{M n g o:Nat}{D:DataW Value}{v:Value}(hg:w.grownBy w1 (some M))(hm:w.ownsMap P k zE7 M n D)(h:w.cell? ⟨g,o,none⟩=some v):w1.cell? ⟨g,o,none⟩=some v:=by
 refine(hg.cell_far ⟨g,o,none⟩ (zH h) ?_).trans h;intro e;simp only[Option.some.injEq]at e;subst e;obtain⟨es,aA,hb,-⟩:=hm;simp[World.cell?,hb]at h
theorem zEG{w w1 w2:World}{row:Option Nat}(h:w.grownBy w1 row)(k:w1.grownBy w2 row):w.grownBy w2 row:=
 ⟨k.os.trans h.os,k.tape.trans h.tape,k.output.trans h.output,Nat.le_trans h.size k.size,fun i hi aA=>(k.block i (Nat.lt_of_lt_of_le hi h.size) aA).trans (h.block i hi aA)⟩
theorem zIv.side{P:Program}{kt:TypeId}{w w1:World}{M n lo hi:Nat}{D:DataW Value}{v:Value}{W:zB}{vd:Nat->Value}(h:zIv w lo hi v W vd)(hg:w.grownBy w1 (some M))(hm:w.ownsMap P kt zE7 M n D)(i:Nat)(aA:i<memN W) :
  ∃g c,v = .slice (some ⟨g,0,none⟩) (memN W) c/\w1.cell? ⟨g,i*5,none⟩=some (.int .i64 (zI W i).zeL)/\w1.cell? ⟨g,i*5+1,none⟩=some (.int .i64 (zI W i).time)/\w1.cell? ⟨g,i*5+2,none⟩=some (.int .i64 (zI W i).rs)/\w1.cell? ⟨g,i*5+3,none⟩=some (.int .i64 (zI W i).rb)/\w1.cell? ⟨g,i*5+4,none⟩=some (vd i):=by
 obtain⟨g,c,e,h0,h1,h2,h3,h4⟩:=h.cells i aA;exact⟨g,c,e,zED hg hm h0,zED hg hm h1,zED hg hm h2,zED hg hm h3,zED hg hm h4⟩
theorem zAN.side{w w1:World}{M b:Nat}{a0 a1 a2 a3 a4 a5:Value}(h:zAN w b a0 a1 a2 a3 a4 a5)(hg:w.grownBy w1 (some M))(aA:b≠M):zAN w1 b a0 a1 a2 a3 a4 a5:=by
 obtain⟨h0,h1,h2,h3,h4,h5⟩:=h;have hc:∀{o:Nat} {v:Value},zY w b o v->zY w1 b o v:=fun hc=>⟨(hg.cell_far _ (zH hc.1) (fun e=>aA (Option.some.inj e))).trans hc.1,(hg.frozen_far _ (zH hc.1) (fun e=>aA (Option.some.inj e))).trans hc.2⟩
 exact⟨hc h0,hc h1,hc h2,hc h3,hc h4,hc h5⟩
theorem zTg(v:Value)(s:zl)(w:World):(Instr.field 41 (zCi v s) 4).run Tryz.prog w = .ok (.int .i64 s.time) w:=by kernel_rfl
theorem zb5:Go.WideMaps.KeyLaw Tryz.prog 38:=deep_law_laid zYk (m:=5) (by decide) (zYm (by kernel_rfl)) (by kernel_rfl) (by kernel_rfl)
theorem zMw:Tryz.prog.underlying 146=some (.map 38 2):=by kernel_rfl
theorem zaZ(w:World):(zeroValue 2).run Tryz.prog w = .ok (.int .i64 0) w:=by kernel_rfl
theorem wrap_small{n:Int}(h0:-9223372036854775808<=n)(h1:n<9223372036854775808):IntKind.i64.wrap n=n:=by
 unfold IntKind.wrap;simp only[IntKind.signed,IntKind.bits,Bool.true_and];split
 ·rename_i hc
  have aA:=of_decide_eq_true hc;omega
 ·rename_i hc
  have aA:=of_decide_eq_false (Bool.eq_false_iff.2 hc);omega
theorem zTn{N n r h:Nat}(hr:r<=n)(hn:n<=200)(hh:h<=9223372036854775807):((N:Int) == IntKind.i64.wrap (IntKind.i64.wrap ((n:Int) - (r:Int)) - (h:Int)))=true↔N+r+h=n:=by
 have e1:IntKind.i64.wrap ((n:Int) - (r:Int))=(n:Int) - (r:Int):=wrap_small (by omega) (by omega);rw[e1];have e2:IntKind.i64.wrap ((n:Int) - (r:Int) - (h:Int))=(n:Int) - (r:Int) - (h:Int):=wrap_small (by omega) (by omega);rw[e2,beq_iff_eq];omega
theorem zJw{w:World}{b n:Nat}{D:DataW Value}{ky v:Value}{kl:Lit}(h:w.ownsMap Tryz.prog 38 zE7 b n D)(aA:keyOf Tryz.prog 38 ky=some kl)(cA:D.atKey kl (.held (.int .i64 0)) = .held v):(Instr.lookup 146 (.map (some b)) ky false).run Tryz.prog w = .ok v w:=by
 obtain⟨v',ps,bA,hv⟩:=h.lookup zc0 zMw (zaZ w) (zD2 _) aA;have e1:=zGY hv;rw[cA]at e1;obtain rfl:=DataW.held.inj e1;exact bA
theorem zMv(v0 v1 v2 v3:Value)(lo hi:Nat)(W:zB)(A:Nat)(w:World)(h:yO w lo hi v0 v1 v2 v3 W)(hs:W.sn<=8)(hp:W.pn<=20)(hA:zDT w lo hi W A)(hD:zEU W)(cE:zCs W)(hR:zg W.pool)(hT:zQA W)(tC:∀i,i<memN W->za W.pool (zI W i).rs (zI W i).rb) :
  Calls Tryz.prog 72 #[zA8 v0 v1 v2 v3 W,zKc A] w fun e w'=>zL (zJa W) e/\Below w.heap.size w w':=by
 obtain⟨key,hK⟩:=zWh hR tC;have HK:=zC hK;have Hp:=zC h;have HA:=zC hA;have HD:=zC hD;have oE:=zC cE;have HR:=zC hR;have gE:=zC hT;have iE:=zC tC;clear h hA hD cE hR hT tC hK;have ha:=zD w (.cells #[v0,v1,.int .i64 W.time,.int .i64 W.next,v2,v3] 30);have HB:=zC (zAN.new w v0 v1 (.int .i64 W.time) (.int .i64 W.next) v2 v3 30);have iD:(w.alloc (.cells #[v0,v1,.int .i64 W.time,.int .i64 W.next,v2,v3] 30)).heap.size=w.heap.size+1:=World.size_alloc _ _;have hm:=World.ownsMap_made (w.alloc (.cells #[v0,v1,.int .i64 W.time,.int .i64 W.next,v2,v3] 30)) Tryz.prog 38 zE7;rw[iD]at hm;have HM:=zC hm;have rB:=zC (HB.out.zeF (zD _ (.map #[] 0)));have sB:=zC (zA ha (zD _ (.map #[] 0)));have pF:=@run_makeMap Tryz.prog;obtain⟨x0,x2,x4,x6,x8,iF⟩:=rB.out.c;clear hm;go_enter Tryz.func72,Tryz.ntmps72;go_wp2_with fail;go_step3;go_wp2_with fail;go_step3;go_wp2_with fail;clear x0 x2 x4 x6 x8 iF ha HB;have sC:=zC (show((w.alloc (.cells #[v0,v1,.int .i64 W.time,.int .i64 W.next,v2,v3] 30)).alloc (.map #[] 0)).heap.size=w.heap.size+2 by rw[World.size_alloc,iD]);clear iD;generalize (w.alloc (.cells #[v0,v1,.int .i64 W.time,.int .i64 W.next,v2,v3] 30)).alloc (.map #[] 0)=W0 at HM rB sB sC ⊢;refine(zGC v0 v1 v2 v3 lo hi W W0 (Hp.out.zeF sB.out) hs hp).mono ?_;rintro e w1 ⟨vm,vd,rfl,hm,jB⟩;have kD:=zC hm;have lD:=zC (rB.out.zeF jB);have jD:=zC (HM.out.kept (zC0 jB none) (by simp));have sE:=zA sB.out jB;have hz:w.heap.size+2<=w1.heap.size:=by have h1:=jB.size;have h2:=sC.out;omega
 obtain⟨am,cm,rfl,mF⟩:=id hm.zeQ;have rF:memN W<=28:=by unfold memN;omega
 clear jB hm rB sB HM sC;go_wp2
 go_loopw [6,15] (fun s i wr=>∃k:Nat,k<=memN W/\s = .bool true/\i = .int .i64 k/\wr.ownsMap Tryz.prog 38 zE7 (w.heap.size+1) (zw W k).length (zPF key (zw W k).length)/\zJW (zw W k).length key/\w1.grownBy wr (some (w.heap.size+1))/\Below w.heap.size w wr) (fun _ i _=>memN W - (intOf i).toNat)
 case atStart=>exact⟨0,Nat.zero_le _,rfl,rfl,jD.out,fun i hi=>absurd hi (Nat.not_lt_zero _),World.grownBy.refl _ _,sE⟩
 case round=>
  obtain⟨k,hk,rfl,rfl,lA,tA,lB,hb⟩:=hrel;have bA:=zC lA;have gA:=zC tA;have fA:=zC lB;clear lA tA lB;by_cases nB:k<memN W;rotate_left
  ·obtain rfl:k=memN W:=(by omega);obtain⟨⟨m0,a0,c0,rfl,bG,-⟩,⟨m1,a1,c1,rfl,cG,-⟩⟩:=id Hp.out.pool;have gD:=HK.out.size gA.out;have tD:=(bA.out.kept (zC0 ((Below.refl _ _).drew) none) (by simp)).len zMw 3;rw[gD]at tD;have nE:=zC gD;clear gD;have vA:=zKI W.pool.s W.pool.n;have iB:=HR.out.1;unfold maxLen at m0 m1;have mA:=zC (lD.out.side fA.out (by omega));obtain⟨x0,x1,x2,x3,x4,x5⟩:=mA.out.c;have eE:=zC (HK.out.dist.1 gA.out);have fF:zV0 W.pool=(roomN W.pool.s W.pool.n:Int):=if_pos HR.out;generalize hN:(zw W (memN W)).length=N at *;have HN:=zC hN;clear hN;go_wp2_with fail;go_region_held3 (fun w'=>w'.cell? ⟨w.heap.size,0,none⟩=some (.slice a0 W.pool.n c0)/\w'.cell? ⟨w.heap.size,1,none⟩=some (.slice a1 W.pool.hn c1)/\(Builtin.len_ #[146] 3 #[.map (some (w.heap.size+1))]).run Tryz.prog w' = .ok (.int .i64 (N:Nat)) w') (go_keep)
    (first
     | (go_at_call 122;refine(zKo _ _ lo hi W.pool _ ((Hp.out.zeF hb).pool.zeF (Below.refl _ _).drew)).mono ?_;rintro e w5 ⟨rfl,bC⟩;have rA:=qF bC;obtain⟨⟨k0,_⟩,⟨k1,_⟩,_⟩:=mA.out.zeF rA;have sD:=(bA.out.kept (zC0 rA none) (by simp)).len zMw 3;rw[nE.out]at sD))
   have oB:=zTn (N:=N) vA iB (by omega:W.pool.hn<=9223372036854775807);have oC:=zC oB;have tE:=zA hb rA;clear oB tD sD fF vA iB;go_wp2
   try rw[Exit.noGoto_ret]
   go_ret;refine⟨⟨_,rfl,?_⟩,tE⟩;rw[oC.out];unfold zJa;rw[HN.out];exact⟨fun hx=>⟨eE.out,hx⟩,fun hx=>hx.2⟩
  have dF:(k:Int)<(memN W:Int):=(by omega);obtain⟨g,cg,e,q0,q1,q2,q3,q4⟩:=kD.out.side fA.out jD.out k nB;obtain⟨-,ad,cd,bE,-,-⟩:=id (kD.out.dead k nB);rw[bE]at q4;cases e;have nA:=zD wr (.cells #[.int .i64 (zI W k).zeL,.int .i64 (zI W k).time,.int .i64 (zI W k).rs,.int .i64 (zI W k).rb,.slice ad (zI W k).dn cd] 143);have HV:=zC (zHV.new wr (.int .i64 (zI W k).zeL) (.int .i64 (zI W k).time) (.int .i64 (zI W k).rs) (.int .i64 (zI W k).rb) (.slice ad (zI W k).dn cd) 143);have mA:=zC ((lD.out.side fA.out (by omega)).zeF nA);have aC:=zA hb nA;have iA:=zC (bA.out.kept (zC0 nA none) (by simp));have pA:=zC (zEG fA.out (zC0 nA (some (w.heap.size+1))));have fC:=zC (HA.out.zeF aC);have nC:=zC (Hp.out.zeF aC);have pE:=zC (oE.out k nB);have jC:=zC (iE.out k nB);have pC:=zC (gE.out (zI W k).zeL);have rC:=zC (show zBR W (zI W k)=zBq (zM W.pool (zI W k).rs (zI W k).rb) (zE W (zI W k).zeL).time from rfl);have fB:=zC (show(zw W (k+1)).length=(zw W k).length+(zBR W (zI W k)).length from List.length_append);have jE:=zC (fun (j:Nat) (hj:j<(zBR W (zI W k)).length)=>zYQ W (k:=k) (n:=memN W) nB hj);have rE:=zC (zN9 W (zI W k));have lE:=zC (zPI W k);clear bE nA fA bA;generalize zI W k=mk at *;go_wp2_with fail;clear q0 q1 q2 q3 q4;have aB:=zC (show w.heap.size+2<=(wr.alloc (.cells #[.int .i64 mk.zeL,.int .i64 mk.time,.int .i64 mk.rs,.int .i64 mk.rb,.slice ad mk.dn cd] 143)).heap.size from Nat.le_trans hz pA.out.size);generalize wr.alloc (.cells #[.int .i64 mk.zeL,.int .i64 mk.time,.int .i64 mk.rs,.int .i64 mk.rb,.slice ad mk.dn cd] 143)=W2 at HV mA fC nC aC iA pA aB ⊢;generalize wr.heap.size=V at HV ⊢;obtain⟨⟨y0,-⟩,⟨y1,-⟩,⟨y2,-⟩,⟨y3,-⟩,⟨y4,-⟩⟩:=HV.out;obtain⟨x0,x1,x2,x3,x4,x5⟩:=mA.out.c;have gF:=qx W.pool mk.rs mk.rb;have iC:=zC (show zA4 (zM W.pool mk.rs mk.rb).length (zh (zM W.pool mk.rs mk.rb)) (zn (zM W.pool mk.rs mk.rb))from zDn HR.out (fun x hx=>(zBc HR.out jC.out hx).1) (zDB HR.out jC.out) (by omega));have vE:=zGv;have aF:=zTg;generalize nD:zE W mk.zeL=S at pC rC ⊢;have dE:=zC nD;clear nD;generalize oD:zM W.pool mk.rs mk.rb=tree at iC gF rC ⊢;have fE:=zC oD;clear oD;go_region_held3 (fun w'=>w'.cell? ⟨w.heap.size,0,none⟩=some v0/\w'.cell? ⟨w.heap.size,1,none⟩=some v1/\w'.cell? ⟨w.heap.size,2,none⟩=some (.int .i64 W.time)/\w'.cell? ⟨w.heap.size,3,none⟩=some (.int .i64 W.next)/\w'.cell? ⟨w.heap.size,4,none⟩=some v2/\w'.cell? ⟨w.heap.size,5,none⟩=some v3/\w'.cell? ⟨V,0,none⟩=some (.int .i64 mk.zeL)/\w'.cell? ⟨V,2,none⟩=some (.int .i64 mk.rs)/\w'.cell? ⟨V,3,none⟩=some (.int .i64 mk.rb)) (go_keep)
   (first
    | (go_at_call 121;refine(zEO v0 v1 v2 v3 lo hi W mk.rs mk.rb _ ?_ HR.out jC.out).mono ?_;(exact nC.out.zeF (Below.refl _ _).drew);rintro e w5 ⟨vt,rfl,eC,bC⟩;rw[fE.out]at eC;obtain⟨kF,lF,rfl,-⟩:=zs eC;have rA:=qF bC;obtain⟨⟨k0,_⟩,⟨k1,_⟩,⟨k2,_⟩,⟨k3,_⟩,⟨k4,_⟩,⟨k5,_⟩⟩:=mA.out.zeF rA;obtain⟨⟨l0,_⟩,_,⟨l2,_⟩,⟨l3,_⟩,_⟩:=HV.out.zeF rA)
    | (go_at_call 89;refine(zDh lo hi W A mk.zeL _ (fC.out.zeF rA) HD.out pE.out hp).mono ?_;rintro e w6 ⟨aa,ca,rfl,eF,vC⟩;rw[dE.out];have vB:=zA rA vC;obtain⟨⟨f0,_⟩,⟨f1,_⟩,⟨f2,_⟩,⟨f3,_⟩,⟨f4,_⟩,⟨f5,_⟩⟩:=mA.out.zeF vB;obtain⟨⟨g0,_⟩,_,⟨g2,_⟩,⟨g3,_⟩,_⟩:=HV.out.zeF vB)
    | (go_at_call 120;refine(zDQ _ tree.length 0 _ (zh tree) (zn tree) S.time _ ((eC.zeF vC).atW (by omega))).mono ?_;rintro e w7 ⟨vy,vz,ly,lz,rfl,hY,-,hy,-,-,pD⟩;rw[(hY.1 ⟨iC.out,pC.out⟩).trans (zGj tree S.time)]at hy;rw[<-rC.out]at hy;obtain⟨ay,cy,rfl,nF⟩:=zs hy;have sA:=zA vB pD;obtain⟨⟨m0,_⟩,⟨m1,_⟩,⟨m2,_⟩,⟨m3,_⟩,⟨m4,_⟩,⟨m5,_⟩⟩:=mA.out.zeF sA;obtain⟨⟨n0,_⟩,_,⟨n2,_⟩,⟨n3,_⟩,_⟩:=HV.out.zeF sA))
  have HY:=zC hy;have jA:=zC (iA.out.kept (zC0 sA none) (by simp));have kC:=zC (zEG pA.out (zC0 sA (some (w.heap.size+1))));have jF:=zC (mA.out.zeF sA);have bB:=zA aC sA;have aG:w.heap.size+2<=w7.heap.size:=Nat.le_trans aB.out sA.size;have vF:=rE.out;have oF:=lE.out;clear hy sA pD vB vC rA bC eC eF hY mA HV fC nC iA pA aB iC pC vE aF x0 x1 x2 x3 x4 x5 y0 y1 y2 y3 y4 k0 k1 k2 k3 k4 k5 l0 l2 l3 f0 f1 f2 f3 f4 f5 g0 g2 g3 m0 m1 m2 m3 m4 m5 n0 n2 n3;generalize tF:zBR W mk=yl at *;go_wp2_with fail
  go_loopw [6,31] (fun s i wr=>∃j:Nat,j<=yl.length/\s = .bool true/\i = .int .i64 j/\wr.ownsMap Tryz.prog 38 zE7 (w.heap.size+1) ((zw W k).length+j) (zPF key ((zw W k).length+j))/\zJW ((zw W k).length+j) key/\w7.grownBy wr (some (w.heap.size+1))/\Below w.heap.size w wr) (fun _ i _=>yl.length - (intOf i).toNat)
  case atStart=>exact⟨0,Nat.zero_le _,rfl,rfl,jA.out,gA.out,World.grownBy.refl _ _,bB⟩
  case round=>
   clear bB;obtain⟨j,hj,rfl,rfl,lA,rD,lB,bB⟩:=hrel;have bA:=zC lA;have tB:=zC rD;have fA:=zC lB;clear lA rD lB;by_cases cD:j<yl.length;rotate_left
   ·obtain rfl:j=yl.length:=(by omega);go_wp2;go_roundw
    case rel=>
     refine⟨k+1,by omega,rfl,by go_num,?_,?_,zEG kC.out fA.out,bB⟩
     ·rw[fB.out];exact bA.out
     ·rw[fB.out];exact tB.out
    case measure=>simp[intOf];omega
   have bF:(j:Int)<(yl.length:Int):=(by omega);obtain⟨-,a7,c7,e7,-,kB⟩:=id (HY.out.atW (by omega));cases e7;obtain⟨b7,o7,rfl,-,-,kB⟩:=kB (by omega);have q0:=zED fA.out jA.out (kB j cD).1;have q1:=zED fA.out jA.out (kB j cD).2;clear kB;obtain⟨fD,vD⟩:=jE.out j cD;have mB:keyOf Tryz.prog 38 (.agg #[.int .i64 (zh yl j),.int .i64 (zn yl j)])=some (key ((zw W k).length+j)):=by
    have:=HK.out.at_ _ fD;rw[vD]at this;exact this
   have mE:=zC fD;have dA:=zC mB;clear vD fD mB;have nA:=zD wr (.cells #[.int .i64 (zh yl j),.int .i64 (zn yl j)] 38);have HV:=zC (zAT.new wr (.int .i64 (zh yl j)) (.int .i64 (zn yl j)) 38);have cA:=zC ((bA.out.kept (zC0 nA none) (by simp)).kept (zC0 ((Below.refl _ _).drew) none) (by simp));have eB:=zC (zEG fA.out (zC0 nA (some (w.heap.size+1))));have cB:=zA bB nA;have kA:=zC (show w.heap.size+1<wr.heap.size by have:=fA.out.size;omega);clear nA fA bA;have sF:(zw W k).length+j<=3000:=(by omega);generalize aE:(zw W k).length+j=p at *;have mD:=zC aE;clear aE;generalize zh yl j=xs at *;generalize zn yl j=xb at *;go_wp2_with fail;clear q0 q1;generalize wr.alloc (.cells #[.int .i64 xs,.int .i64 xb] 38)=W3 at HV cA eB cB ⊢;generalize wr.heap.size=V at HV kA ⊢;by_cases eA:∀i,i<p->key i≠key p
   ·have dD:=zJw cA.out dA.out (HK.out.new eA);obtain⟨ev,st,wa,wb,he,eD,pB,aA,bD,oA⟩:=zO5 cA.out zb5 zMw (by unfold maxLen;omega) zaZ dA.out (HK.out.new eA) (val:=.int .i64 1);obtain⟨⟨y0,-⟩,⟨y1,-⟩⟩:=HV.out.zeF ((Below.refl _ _).drew);have z0:=(oA.cell_far _ (zH y0) (fun e=>by have h1:=Option.some.inj e;have h2:=kA.out;simp only at h1;omega)).trans y0;have z1:=(oA.cell_far _ (zH y1) (fun e=>by have h1:=Option.some.inj e;have h2:=kA.out;simp only at h1;omega)).trans y1;have cF:=zJw aA dA.out (HK.out.put p _);have gB:=zC aA;have kE:=zC (zEG (zEG eB.out (zC0 ((Below.refl _ _).drew) (some (w.heap.size+1)))) oA);have aD:=cB.drew.grown oA (Nat.le_trans cB.size (Nat.le_refl _)) (fun q e=>by cases e;omega);have lC:=zC eA;clear aA bD oA eA cB bB;unfold goInt at he pB;go_region;clear dD eD he pB y0 y1;go_wp2;go_roundw
    case rel=>exact⟨j+1,by omega,rfl,by go_num,by rw[show(zw W k).length+(j+1)=p+1 by have:=mD.out;omega];exact gB.out,by rw[show(zw W k).length+(j+1)=p+1 by have:=mD.out;omega];exact zI5.2 ⟨tB.out,lC.out⟩,kE.out,aD⟩
    case measure=>simp[intOf];omega
   ·obtain⟨i0,dC,cC⟩:∃i,i<p/\key i=key p:=by
     by_cases hx:∃i,i<p/\key i=key p
     ·exact hx
     ·exact absurd (fun i hi e=>hx ⟨i,hi,e⟩) eA
    have mC:=zC (HK.out.not_nodup dC mE.out cC);have dD:=zJw cA.out dA.out (HK.out.old dC cC tB.out);obtain⟨ev,st,wa,wb,he,eD,pB,aA,bD,oA⟩:=zO5 cA.out zb5 zMw (by unfold maxLen;omega) zaZ dA.out (HK.out.old dC cC tB.out) (val:=.int .i64 2);obtain⟨⟨y0,-⟩,⟨y1,-⟩⟩:=HV.out.zeF ((Below.refl _ _).drew);have z0:=(oA.cell_far _ (zH y0) (fun e=>by have h1:=Option.some.inj e;have h2:=kA.out;simp only at h1;omega)).trans y0;have z1:=(oA.cell_far _ (zH y1) (fun e=>by have h1:=Option.some.inj e;have h2:=kA.out;simp only at h1;omega)).trans y1;have cF:=zJw aA dA.out (HK.out.put p _);have aD:=cB.drew.grown oA (Nat.le_trans cB.size (Nat.le_refl _)) (fun q e=>by cases e;omega);clear aA bD oA eA cB bB dC cC;unfold goInt at he pB;go_region;clear dD eD he pB y0 y1;go_wp2_with fail;go_region;go_wp2;rw[Exit.noGoto_ret];go_ret;exact⟨zL.no fun hx=>mC.out hx.1,aD.drew⟩
theorem zDf(v0 v1 v2 v3:Value)(lo hi:Nat)(W:zB)(w:World)(h:yO w lo hi v0 v1 v2 v3 W)(aB:zCs W) :
  Calls Tryz.prog 24 #[zA8 v0 v1 v2 v3 W] w fun e w'=>zL (zCa W) e/\Below w.heap.size w w':=by
 have Hp:=zC h;have cA:=zC aB;clear h aB;have ha:=zD w (.cells #[v0,v1,.int .i64 W.time,.int .i64 W.next,v2,v3] 30);have HB:=zC (zAN.new w v0 v1 (.int .i64 W.time) (.int .i64 W.next) v2 v3 30);obtain⟨x0,x1,x2,x3,x4,x5⟩:=HB.out.c;go_enter Tryz.func24,Tryz.ntmps24;go_wp2_with fail;generalize w.alloc (.cells #[v0,v1,.int .i64 W.time,.int .i64 W.next,v2,v3] 30)=W0 at ha HB x0 x1 x2 x3 x4 x5 ⊢;refine(zHd W.time W0).mono ?_;rintro e w1 ⟨⟨t1,rfl,bA⟩,rfl⟩;have aA:=zC bA;clear bA;cases t1
 ·have Hn:=zC (show ¬zCa W from fun hI=>absurd (aA.out.2 hI.zeM.time) (by simp));clear aA;go_wp2;go_ret;exact⟨zL.no Hn.out,ha⟩
 have H1:=zC (aA.out.1 rfl);clear aA;go_wp2_with fail;refine(zHd W.next _).mono ?_;rintro e w1 ⟨⟨t1,rfl,bA⟩,rfl⟩;have aA:=zC bA;clear bA;cases t1
 ·have Hn:=zC (show ¬zCa W from fun hI=>absurd (aA.out.2 hI.zeM.next) (by simp));clear aA;go_wp2;go_ret;exact⟨zL.no Hn.out,ha⟩
 have H2:=zC (aA.out.1 rfl);clear aA;go_wp2_with fail;refine(zOa v2 W.sn lo hi W.zeK _ (Hp.out.zeF ha).zeK).mono ?_;rintro e w2 ⟨⟨t1,rfl,bA⟩,hc⟩;have aA:=zC bA;have dA:=zA ha hc;have nA:=zC (HB.out.zeF hc);clear bA hc x0 x1 x2 x3 x4 x5;obtain⟨x0,x1,x2,x3,x4,x5⟩:=nA.out.c;cases t1
 ·have Hn:=zC (show ¬zCa W from fun hI=>absurd (aA.out.2 hI.zeM.zeK) (by simp));clear aA;go_wp2;go_ret;exact⟨zL.no Hn.out,dA⟩
 have H3:=zC (aA.out.1 rfl);clear aA;have hs:=H3.out.1;go_wp2_with fail;refine(zNy v0 v1 v2 v3 lo hi W _ (Hp.out.zeF dA) hs).mono ?_;rintro e w3 ⟨⟨t1,rfl,bA⟩,hc⟩;have aA:=zC bA;have eA:=zA dA hc;have oA:=zC (nA.out.zeF hc);clear bA hc x0 x1 x2 x3 x4 x5;obtain⟨x0,x1,x2,x3,x4,x5⟩:=oA.out.c;cases t1
 ·have Hn:=zC (show ¬zCa W from fun hI=>absurd (aA.out.2 hI.zeM.zeJ) (by simp));clear aA;go_wp2;go_ret;exact⟨zL.no Hn.out,eA⟩
 have H4:=zC (aA.out.1 rfl);clear aA;have hp:=H4.out.1;have HN:=zC (show zEc W from⟨H1.out,H2.out,H3.out,H4.out⟩);go_wp2_with fail;refine(zCt v0 v1 lo hi W.pool _ (Hp.out.zeF eA).pool).mono ?_;rintro e w4 ⟨⟨t1,rfl,bA⟩,hc⟩;have aA:=zC bA;have fA:=zA eA hc;have pA:=zC (oA.out.zeF hc);clear bA hc x0 x1 x2 x3 x4 x5;obtain⟨x0,x1,x2,x3,x4,x5⟩:=pA.out.c;cases t1
 ·have Hn:=zC (show ¬zCa W from fun hI=>absurd (aA.out.2 hI.right) (by simp));clear aA;go_wp2;go_ret;exact⟨zL.no Hn.out,fA⟩
 have H5:=zC (aA.out.1 rfl);clear aA;go_wp2_with fail;refine(zFp v0 v1 v2 v3 lo hi W _ (Hp.out.zeF fA) hp HN.out.idsWf).mono ?_;rintro e w5 ⟨A,rfl,hA,hc⟩;have kA:=zC hA;have vA:=zA fA hc;have rA:=zC (pA.out.zeF hc);clear hA hc x0 x1 x2 x3 x4 x5;obtain⟨x0,x1,x2,x3,x4,x5⟩:=rA.out.c;go_wp2_with fail;refine(zNi v0 v1 v2 v3 lo hi W A _ (Hp.out.zeF vA) hs hp kA.out HN.out.dist cA.out).mono ?_;rintro e w6 ⟨⟨t1,rfl,bA⟩,hc⟩;have aA:=zC bA;have gA:=zA vA hc;have sA:=zC (rA.out.zeF hc);have lA:=zC (kA.out.zeF hc);clear bA hc x0 x1 x2 x3 x4 x5;obtain⟨x0,x1,x2,x3,x4,x5⟩:=sA.out.c;cases t1
 ·have Hn:=zC (show ¬zCa W from fun hI=>absurd (aA.out.2 hI.prevs) (by simp));clear aA;go_wp2;go_ret;exact⟨zL.no Hn.out,gA⟩
 have H7:=zC (aA.out.1 rfl);clear aA;go_wp2_with fail;refine(zNE v0 v1 v2 v3 lo hi W A _ (Hp.out.zeF gA) hp hs lA.out HN.out.dist (HN.out.zeI H7.out)).mono ?_;rintro e w7 ⟨⟨t1,rfl,bA⟩,hc⟩;have aA:=zC bA;have iA:=zA gA hc;have tA:=zC (sA.out.zeF hc);have mA:=zC (lA.out.zeF hc);clear bA hc x0 x1 x2 x3 x4 x5;obtain⟨x0,x1,x2,x3,x4,x5⟩:=tA.out.c;cases t1
 ·have Hn:=zC (show ¬zCa W from fun hI=>absurd (aA.out.2 hI.lines) (by simp));clear aA;go_wp2;go_ret;exact⟨zL.no Hn.out,iA⟩
 have H8:=zC (aA.out.1 rfl);clear aA;go_wp2_with fail;refine(zN4 v0 v1 v2 v3 lo hi W A _ (Hp.out.zeF iA) hs hp mA.out HN.out.dist cA.out H5.out HN.out.times).mono ?_;rintro e w8 ⟨⟨t1,rfl,bA⟩,hc⟩;have aA:=zC bA;have jA:=zA iA hc;have cB:=zC (tA.out.zeF hc);have bB:=zC (mA.out.zeF hc);clear bA hc x0 x1 x2 x3 x4 x5;obtain⟨x0,x1,x2,x3,x4,x5⟩:=cB.out.c;cases t1
 ·have Hn:=zC (show ¬zCa W from fun hI=>absurd (aA.out.2 hI.trees) (by simp));clear aA;go_wp2;go_ret;exact⟨zL.no Hn.out,jA⟩
 have H9:=zC (aA.out.1 rfl);clear aA;go_wp2_with fail;refine(zMv v0 v1 v2 v3 lo hi W A _ (Hp.out.zeF jA) hs hp bB.out HN.out.dist cA.out H5.out HN.out.times H9.out.1).mono ?_;rintro e w9 ⟨⟨t1,rfl,bA⟩,hc⟩;have aA:=zC bA;have eB:=zA jA hc;clear bA hc;have Hn:=zC (show t1=true↔zCa W from⟨fun e=>⟨HN.out,H5.out,H7.out,H8.out,H9.out,aA.out.1 e⟩,fun hI=>aA.out.2 hI.homes⟩);clear aA;go_wp2;go_ret;exact⟨⟨t1,rfl,Hn.out⟩,eB⟩
end Go.Proofs.YtjganmlaooofoaaGreatDoor
