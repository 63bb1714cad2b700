/- A part of the proof. -/
import Derived.Test.YtjganmlaooofoaaGreatDoorF25
set_option linter.unusedVariables false
set_option maxRecDepth 20000
set_option maxHeartbeats 4000000
namespace Go.Proofs.YtjganmlaooofoaaGreatDoor
open Go.RowKit
set_option linter.unusedSimpArgs false
set_option maxRecDepth 20000
set_option maxHeartbeats 3200000
open Classical in
noncomputable def sdK(W:zB)(x:Int)(k:Nat):zAk:=if h:∃i,zXt W x i then⟨zd1 W k h.choose,0,((zOX W k h.choose).length:Int),0⟩else if h:∃i,zXs W x i then⟨zd0 W k h.choose,0,((zSl W k h.choose).length:Int),0⟩else⟨{W with pn:=W.pn - 1,zeJ:=del W.zeJ k},0,0,0⟩
open Classical in
noncomputable def sdE(W:zB)(x:Int):zAk:=if qo W then(if zBU W x then(if 1<zHC W x W.sn+zHw W x W.pn then qD 7 else sdK W x (zH3 W x))else qD 4)else qD 1
structure zdT (W:zB) (x:Int) (k:Nat) (o:zAk) (VP:Nat->zF) (VS:Nat->Nat->qi) (m:Nat->Nat) (UP:Nat->zF) (US:Nat->Nat->zl) (l:Nat->Nat):Prop where
 v0:VP 0=W.pool/\VS 0=W.zeK/\m 0=0
 vn:∀j,(VP j).n=W.pool.n/\m j<=1000000
 cur:∀j,VS j j=W.zeK j
 no:∀j,j<W.sn->(W.zeK j).zeL≠x->VP (j+1)=VP j/\VS (j+1)=VS j/\m (j+1)=m j
 yes:∀j,j<W.sn->(W.zeK j).zeL=x->VP (j+1)=zT (VP j) (zOX W k j)/\VS (j+1)=(fun i=>if i=j then zV4 W (W.zeJ k) (W.zeK j)else VS j i)/\m (j+1)=m j+(zOX W k j).length/\(VP j).hn<=W.pool.hn
 u0:UP 0=VP W.sn/\US 0=W.zeJ/\l 0=m W.sn
 un:∀j,(UP j).n=W.pool.n/\l j<=1000000
 cur2:∀j,US j j=W.zeJ j
 no2:∀j,j<W.pn->(W.zeJ j).zeL≠x->UP (j+1)=UP j/\US (j+1)=US j/\l (j+1)=l j
 yes2:∀j,j<W.pn->(W.zeJ j).zeL=x->UP (j+1)=zT (UP j) (zSl W k j)/\US (j+1)=(fun i=>if i=j then zQx W (W.zeJ k) (W.zeJ j)else US j i)/\l (j+1)=l j+(zSl W k j).length/\(UP j).hn<=W.pool.hn
 fin:o=⟨⟨UP W.pn,W.time,W.next,W.sn,VS W.sn,W.pn - 1,del (US W.pn) k⟩,0,l W.pn,0⟩
theorem zSm{W:zB}(h:qo W):(∀j,j<W.sn->(W.zeK j).dn<=200)/\∀j,j<W.pn->(W.zeJ j).dn<=200:=by
 refine⟨fun j hj=>?_,fun j hj=>?_⟩
 ·have:=(zO2 h (i:=W.pn+j) (by unfold memN;omega) 0).1.1
  rwa [qN]at this
 ·have:=(zO2 h (i:=j) (by unfold memN;omega) 0).1.1
  rwa [zx hj]at this
theorem zVl(W:zB)(x:Int):∀n,zHC W x n=zGt (fun i=>(W.zeK i).zeL) x n
 | 0=>rfl
 | n+1=>by rw[zHC,zGt,zVl]
theorem zVj(W:zB)(x:Int):∀n,zHw W x n=zGt (fun i=>(W.zeJ i).zeL) x n
 | 0=>rfl
 | n+1=>by rw[zHw,zGt,zVj]
theorem zdI{W:zB}{x:Int}{k:Nat}(hs:∀i,i<W.sn->(W.zeK i).dn<=1000000)(hp:∀i,i<W.pn->(W.zeJ i).dn<=1000000)(h1:¬1<zHC W x W.sn+zHw W x W.pn):∃VP VS m UP US l,zdT W x k (sdK W x k) VP VS m UP US l:=by
 have eT:∀i,i<W.sn->(zOX W k i).length<=1000000:=fun i hi=>Nat.le_trans (zB0 ..) (hs i hi)
 have eS:∀i,i<W.pn->(zSl W k i).length<=1000000:=fun i hi=>Nat.le_trans (zB0 ..) (hp i hi)
 rw[zVl,zVj]at h1;unfold sdK;by_cases hT:∃i,zXt W x i
 ·rw[dif_pos hT];obtain⟨hi,h2,h3,h4⟩:=hT.choose_spec;generalize hT.choose=i at *;refine⟨fun j=>if j<=i then W.pool else zT W.pool (zOX W k i),fun j=>if j<=i then W.zeK else zdH W k i,fun j=>if j<=i then 0 else(zOX W k i).length,fun _=>zT W.pool (zOX W k i),fun _=>W.zeJ,fun _=>(zOX W k i).length,⟨by simp,fun j=>?_,fun j=>?_,fun j hj e=>?_,fun j hj e=>?_,?_,fun j=>⟨(zAi _ _).1,eT i hi⟩,fun _=>rfl,fun j hj e=>⟨rfl,rfl,rfl⟩,fun j hj e=>absurd e (h4 j hj),?_⟩⟩
  ·split
   ·exact⟨rfl,by omega⟩
   ·exact⟨(zAi _ _).1,eT i hi⟩
  ·split
   ·rfl
   ·unfold zdH;rw[if_neg (by omega)]
  ·have:j≠i:=fun h=>e (by rw[h];exact h2)
   have e1:(j+1<=i)↔(j<=i):=(by omega);simp[e1]
  ·have:j=i:=Classical.not_not.1 fun h=>h3 j hj h e
   subst this;have n1:¬j+1<=j:=(by omega);simp[n1];rfl
  ·simp[show ¬W.sn<=i by omega]
  ·simp[show ¬W.sn<=i by omega,zd1]
 rw[dif_neg hT];by_cases hS:∃i,zXs W x i
 ·rw[dif_pos hS];obtain⟨hi,h2,h3,h4⟩:=hS.choose_spec;generalize hS.choose=i at *;refine⟨fun _=>W.pool,fun _=>W.zeK,fun _=>0,fun j=>if j<=i then W.pool else zT W.pool (zSl W k i),fun j=>if j<=i then W.zeJ else zdG W k i,fun j=>if j<=i then 0 else(zSl W k i).length,⟨by simp,fun j=>⟨rfl,by simp⟩,fun j=>rfl,fun j hj e=>⟨rfl,rfl,rfl⟩,fun j hj e=>absurd e (h4 j hj),by simp,fun j=>?_,fun j=>?_,fun j hj e=>?_,fun j hj e=>?_,?_⟩⟩
  ·split
   ·exact⟨rfl,by omega⟩
   ·exact⟨(zAi _ _).1,eS i hi⟩
  ·split
   ·rfl
   ·unfold zdG;rw[if_neg (by omega)]
  ·have:j≠i:=fun h=>e (by rw[h];exact h2)
   have e1:(j+1<=i)↔(j<=i):=(by omega);simp[e1]
  ·have:j=i:=Classical.not_not.1 fun h=>h3 j hj h e
   subst this;have n1:¬j+1<=j:=(by omega);simp[n1];rfl
  ·simp[show ¬W.pn<=i by omega,zd0]
 rw[dif_neg hS];have z0:zVe W x≠1:=fun e=>(zbR e).elim hS hT
 unfold zVe at z0;have z1:∀j,j<W.sn->(W.zeK j).zeL≠x:=fun j hj e=>by
  have:=zRZ (f:=fun i=>(W.zeK i).zeL) hj e;omega
 have z2:∀j,j<W.pn->(W.zeJ j).zeL≠x:=fun j hj e=>by
  have:=zRZ (f:=fun i=>(W.zeJ i).zeL) hj e;omega
 exact⟨fun _=>W.pool,fun _=>W.zeK,fun _=>0,fun _=>W.pool,fun _=>W.zeJ,fun _=>0,⟨by simp,fun j=>⟨rfl,by simp⟩,fun j=>rfl,fun j hj e=>⟨rfl,rfl,rfl⟩,fun j hj e=>absurd e (z1 j hj),by simp,fun j=>⟨rfl,by simp⟩,fun j=>rfl,fun j hj e=>⟨rfl,rfl,rfl⟩,fun j hj e=>absurd e (z2 j hj),rfl⟩⟩
attribute [local go_sem] qg List.map_cons List.map_nil Tr.cv yv qT yF yD yu yr yq yC zBD zBF zBE zBA zBC zBB zCc zCe zCd qY zt qZ zu qR qQ qf zAL zp zq yL qW tmpsOf zAy yK qV zA9 yz yx yw zAA yy stpP opds opd opdC kap zAS qS zo coreU bin zAl zCO get put dlO fgt zBP zBI zBM zBN tyT yp yo Op.operands Call.operands evLoad evLen evStore evAlloc zAn and_true true_and List.append_nil List.nil_append List.cons_append Ret resCv zCB yY cellM zBl zCI qh StW StR hpT hpO hpV hpA hpL hpC sg nin zCT bdO tmW obW AvE CsE CvE Av.tup Av.ids Cv.ids inD ObE Ob.ids TrE.refl qU yH yI qb qd qe zr zf zd zAC zBe zCH zBG evCall argL argOf qq outOb obO yU qK cvO tot Tr.own rid partsOf fillC zU zBj frz frz1 evBuildSlice zc trs Cv.tr evSlice Option.toArray_none Option.toArray_some evMakeSlice evAppend dstOf srcOf zA7 zBO zBL zBJ zBK ikT yB yA qz qy RetP RetN zBs qP evLd evSt evStoreH zAe evAppendM evAppendT tlOf mvOf rowE shp evTake oOf evC evCallP evCallN evCallO unlast zAX zA6 zAZ argsF zCS qu pmC varT vT evField evConv dB0 Option.bind_some Option.bind_none Option.map_some Option.map_none Option.isSome_some Option.isSome_none
attribute [local go_sem] yP zb zA5 yW qw zAs zAt zAu zAv zAw zAx zAD zAE zAF zAG zAH zAI zAJ zAK yR qt
attribute [-go_sem] zb
attribute [local go_sem] zAP zB7 zB8 zAU yb
noncomputable def zYw:zX:=qk (fun q:((zF×Int×Int)×(Nat×(Nat->Nat->Tr))×(Nat×(Nat->Nat->Tr)))×List (Int×Int)=>(true,[.s .o 3 q.1.1.1.n (zk .z q.1.1.1.s),.s .o 1 q.1.1.1.hn (yT q.1.1.1.h),.v (.int .i64 q.1.1.2.1),.v (.int .i64 q.1.1.2.2),.s .o 6 q.1.2.1.1 q.1.2.1.2,.s .o 8 q.1.2.2.1 q.1.2.2.2]) :: [psL q.2]) (fun q=>q.1.1.1.hn+q.2.length<=1000000/\(Tr.s .o 6 q.1.2.1.1 q.1.2.1.2).kept/\(Tr.s .o 8 q.1.2.2.1 q.1.2.2.2).kept) (fun q=>[(true,[.s .o 3 q.1.1.1.n (zk .z q.1.1.1.s),.s .o 1 (zT q.1.1.1 q.2).hn (yT (zT q.1.1.1 q.2).h),.v (.int .i64 q.1.1.2.1),.v (.int .i64 q.1.1.2.2),.s .o 6 q.1.2.1.1 q.1.2.1.2,.s .o 8 q.1.2.2.1 q.1.2.2.2]),iT q.2.length])
theorem zPW(p:zF)(a b:Int)(n:Nat)(F:Nat->Nat->Tr)(n':Nat)(G:Nat->Nat->Tr)(l:List (Int×Int)):zYw ((true,[.s .o 3 p.n (zk .z p.s),.s .o 1 p.hn (yT p.h),.v (.int .i64 a),.v (.int .i64 b),.s .o 6 n F,.s .o 8 n' G]) :: [psL l])=some (p.hn+l.length<=1000000/\(Tr.s .o 6 n F).kept/\(Tr.s .o 8 n' G).kept,[(true,[.s .o 3 p.n (zk .z p.s),.s .o 1 (zT p l).hn (yT (zT p l).h),.v (.int .i64 a),.v (.int .i64 b),.s .o 6 n F,.s .o 8 n' G]),iT l.length]):=
 zO (fun m=>(((zEu (nth m 0 0) (nth m 0 1),qM (nth m 0 2),qM (nth m 0 3)),(zF8 (nth m 0 4),zCh (nth m 0 4)),(zF8 (nth m 0 5),zCh (nth m 0 5))),zWR (nth m 1 0))) (fun q=>by exact congrArg (Prod.mk q.1) (zQH q.2)) (((p,a,b),(n,F),(n',G)),l)
theorem zYO:zBv Tryz.prog 31 zYw:=by
 refine zBg qA GOk.nil zz Tryz.func31 rfl Tryz.ntmps31 Tryz.results31 6 ?_;rintro⟨⟨⟨p0,a,b⟩,⟨n,F⟩,n',G⟩,l⟩ hn;obtain⟨hn,kF,kG⟩:p0.hn+l.length<=1000000/\(Tr.s .o 6 n F).kept/\(Tr.s .o 8 n' G).kept:=hn;refine⟨by simp,?_⟩;simp[go_sem];refine yE (fun k:Nat=>⟨[(5,true,.i k),(0,true,.m false [.p 0 0]),(1,true,.m false [.s .b 2 l.length (ptrsT (fun i=>zh l i) (fun i=>zn l i))])],[(0,.var [.h 1000,.h 2000,.v (.int .i64 a),.v (.int .i64 b),.h 5000,.h 6000]),(1000,.row 3 p0.n (zk .z p0.s)),(2000,.row 1 (zT p0 (l.take k)).hn (yT (zT p0 (l.take k)).h)),(5000,.row 6 n F),(6000,.row 8 n' G)]⟩) (fun k=>l.length - k) (fun k=>k<=l.length) 0 (by simp[go_sem,zT]) (Nat.zero_le _) ?_;intro k hk;obtain⟨p,hp⟩:∃p,p=zT p0 (l.take k):=⟨_,rfl⟩;have bA:p.hn=p0.hn+k:=by rw[hp,(zAi _ _).2.2,List.length_take,Nat.min_eq_left hk]
 have aA:k<l.length->zT p0 (l.take (k+1))=zBw p (zh l k):=fun h=>by
  rw[hp,List.take_succ_eq_append_getElem h,zE5,<-zRp];simp[h]
 rw[<-hp];simp[go_sem,qB (show k<=1000000000 by omega)];refine⟨fun hl=>⟨hl,by omega,by kernel_rfl,k+1,hl,by omega,rfl,?_⟩,fun hl=>?_⟩
 ·rw[aA hl];exact zKr
 ·cases (show k=l.length by omega);rw[List.take_length]at hp;subst hp;exact⟨zW,⟨TrE.refl _,zm⟩,kF,kG⟩
theorem zYi{fl:Fl}{k n a j:Nat}{F:Nat->Nat->Tr}{T:Tr}(h:(Tr.s fl k n F).kept)(hT:T.kept):(Tr.s fl k n (yN F a j [T])).kept:=by
 refine⟨h.1,fun i q hi hq=>?_⟩;unfold yN;split
 ·rename_i e
  have:q - j=0:=(by have:=e.2.2;simp at this;omega);rw[this];exact hT
 ·exact h.2 i q hi hq
theorem zbb{n j m:Nat}{S:Nat->qi}{s:qi}{z:Tr}{F:Nat->Nat->Tr}(h:s.name=(S j).name/\s.origin=(S j).origin/\s.rs=(S j).rs/\s.rb=(S j).rb)(hd:TrE (.s .o 2 m F) (.s .o 2 s.dn (ptrsT s.ds s.db))):TrE (.s .o 6 n (yN (yN (yN (setsE .o S) j 5 [z]) j 5 [.s .o 2 m F]) j 2 [.v (.int .i64 s.zeL)])) (.s .o 6 n (setsE .o fun i=>if i=j then s else S i)):=by
 refine⟨.inl rfl,rfl,rfl,fun i c hi hc=>?_⟩;by_cases e:i=j
 ·subst e;obtain⟨h1,h2,h3,h4⟩:=h
  match c,hc with
  | 0,_ | 1,_ | 2,_ | 3,_ | 4,_=>exact TrE.of_eq (by simp[yN,setsE, *])
  | 5,_=>simpa[yN,setsE]using hd
 ·exact TrE.of_eq (by unfold setsE;simp[yN,e])
theorem zaD{n j m:Nat}{S:Nat->zl}{s:zl}{F:Nat->Nat->Tr}(h:s.id=(S j).id/\s.name=(S j).name/\s.set=(S j).set/\s.time=(S j).time/\s.rs=(S j).rs/\s.rb=(S j).rb)(hd:TrE (.s .o 2 m F) (.s .o 2 s.dn (ptrsT s.ds s.db))):TrE (.s .o 8 n (yN (yN (snapsE .z S) j 7 [.s .o 2 m F]) j 3 [.v (.int .i64 s.zeL)])) (.s .o 8 n (snapsE .z fun i=>if i=j then s else S i)):=by
 refine⟨.inl rfl,rfl,rfl,fun i c hi hc=>?_⟩;by_cases e:i=j
 ·subst e;obtain⟨h1,h2,h3,h4,h5,h6⟩:=h
  match c,hc with
  | 0,_ | 1,_ | 2,_ | 3,_ | 4,_ | 5,_ | 6,_=>exact TrE.of_eq (by simp[yN,snapsE, *])
  | 7,_=>
   simp[yN,snapsE];exact⟨.inr ⟨rfl,rfl⟩,hd.2⟩
 ·exact TrE.of_eq (by unfold snapsE;simp[yN,e])
theorem zcf{a b:Nat}(h:a<=1000000)(h':b<=1000000):IntKind.i64.wrap ((a:Int)+(b:Int))=((a+b:Nat):Int):=by
 simp[IntKind.wrap,IntKind.bits];omega
noncomputable def mSd:zX:=qk (fun q:zB×Int=>[woT q.1,iT q.2]) (fun q=>ym q.1) (fun q=>[wuO (sdE q.1 q.2)])
theorem zc2(W:zB)(x:Int):mSd [woT W,iT x]=some (ym W,[wuO (sdE W x)]):=zO (fun l=>(zCW (nth l 0),qM (nth l 1 0))) (fun _=>rfl) (W,x)
theorem zML:zy Tryz.prog 132 mSd:=by
 refine zQ qA (GOk.cons zCY (zG Tryz.func28 rfl rfl) (GOk.cons zAW (zG Tryz.func23 rfl rfl) (GOk.cons zC5 (zG Tryz.func27 rfl rfl) (GOk.cons zCl (zG Tryz.func25 rfl rfl) (GOk.cons zDj (zG Tryz.func39 rfl rfl) (GOk.cons zR9 (zG Tryz.func174 rfl rfl) (GOk.cons zFs (zG Tryz.func29 rfl rfl) (GOk.ptr zYO (zG Tryz.func31 rfl rfl) GOk.nil)))))))) zz Tryz.func132 rfl Tryz.ntmps132 Tryz.results132 17 ?_;rintro⟨W,x⟩ hW;replace hW:ym W:=hW;have hs:=hW.sn;have hp:=hW.pn;refine⟨by simp,?_⟩;by_cases hR:qo W;rotate_left
 ·simp[go_sem,zAp,zCA,yG,hW,hW.toSmallW,hs,hp,hR];exact yM (if_neg hR)
 by_cases hH:zBU W x;rotate_left
 ·simp[go_sem,zAp,zCA,yG,hW,hW.toSmallW,hs,hp,zMx,zJx,hR,hH];exact yM ((if_pos hR).trans (if_neg hH))
 have hk:=zPK hH;have jA:=zJx.2 hH;have bA:zH3 W x<W.pn:=by show(zBb W.pn fun k=>(W.zeJ k).id=x).toNat<W.pn;omega
 obtain⟨k,dA⟩:∃k,k=zH3 W x:=⟨_,rfl⟩;have eA:(zBb W.pn fun k=>(W.zeJ k).id=x)=(k:Int):=by rw[dA];show _=((zBb W.pn fun k=>(W.zeJ k).id=x).toNat:Int);omega
 have gA:¬(k:Int)<0:=by omega
 rw[<-dA]at bA;by_cases h1:1<zHC W x W.sn+zHw W x W.pn
 ·simp[go_sem,zAp,zCA,yG,zPY,hW,hW.toSmallW,hs,hp,eA,gA,hR,show(1:Int)<(zHC W x W.sn:Int)+(zHw W x W.pn:Int)by omega];exact yM ((if_pos hR).trans ((if_pos hH).trans (if_pos h1)))
 have eR:sdE W x=sdK W x k:=by
  unfold sdE;rw[if_pos hR,if_pos hH,if_neg h1,<-dA]
 obtain⟨VP,VS,m,UP,US,l,run⟩:=zdI (k:=k) hW.sd hW.pd h1;rw[<-eR]at run;have hz:=zFA (fun k hk=>(hR.zeM.zeI.ids k hk).1) (W.zeJ k).zeL;have iA:¬(1:Int)<(zHC W x W.sn:Int)+(zHw W x W.pn:Int):=by omega
 simp[go_sem,zAp,zCA,yG,zPY,zAQ,zEJ,hW,hW.toSmallW,hs,hp,eA,gA,hR,iA,bA,hz];have q0:=run.v0;refine yE (fun j:Nat=>⟨[(11,true,.i j),(10,true,.i (m j)),(9,true,.i (zE W (W.zeJ k).zeL).time),(7,true,.m false [.p 7 0]),(6,true,.m false [.p 6 0]),(5,true,.i k),(4,true,.m false [.p 4 0]),(1,true,.i x)],[(7,.var [.v (.int .i64 (W.zeJ k).id),.v (.string (W.zeJ k).name),.v (.string (W.zeJ k).set),.v (.int .i64 (W.zeJ k).zeL),.v (.int .i64 (W.zeJ k).time),.v (.int .i64 (W.zeJ k).rs),.v (.int .i64 (W.zeJ k).rb),.s .z 2 (W.zeJ k).dn (ptrsT (W.zeJ k).ds (W.zeJ k).db)]),(6,.var [.h 61,.h 62,.v (.int .i64 W.time),.v (.int .i64 W.next),.h 63,.h 64]),(64,.row 8 W.pn (snapsE .z W.zeJ)),(63,.row 6 W.sn (setsE .o (VS j))),(62,.row 1 (VP j).hn (yT (VP j).h)),(61,.row 3 (VP j).n (zk .z (VP j).s)),(4,.var [.v n0,.v n0,.v i0,.v i0,.v n0,.v n0,.v i0,.v i0,.v i0])]⟩) (fun j=>W.sn - j) (fun j=>j<=W.sn) 0 (by rw[q0.1,q0.2.1,q0.2.2];simp[go_sem]) (Nat.zero_le _) ?_;intro j hj;have hc:=run.cur j;simp[go_sem,qB (show j<=1000000000 by omega),hc];refine⟨fun hl=>⟨hl,?_⟩,fun hl=>?_⟩
 ·by_cases hx:(W.zeK j).zeL=x
  ·simp[go_sem,hx,hl,hc,qB (show j<=1000000000 by omega),zGS,zPW,zF5,zE6];obtain⟨e1,e2,e3,e4⟩:=run.yes j hl hx;have hd:=(zSm hR).1 j hl;have hy:(ye (W.zeK j).ds (W.zeK j).db (zE W (W.zeJ k).zeL).time (W.zeK j).dn).length<=(W.zeK j).dn:=zB0 ..;have ho:(zD4 (W.zeK j).ds (W.zeK j).db (zE W (W.zeJ k).zeL).time (W.zeK j).dn).length<=(W.zeK j).dn:=zHx ..;have hg:=(zSm hR).2 k bA;have hh:=zGP hR.right;refine⟨by omega,⟨by omega,zYi qm ⟨by simp,fun p q _ _=>by unfold ptrsT;split<;>trivial⟩,qI⟩,by omega,by omega,by kernel_rfl,j+1,hl,by omega,⟨rfl,?_⟩,?_,?_,?_⟩
   ·rw[e3];exact zcf (run.vn j).2 (by omega)
   ·rw[e2,<-hc];refine zbb (s:=zV4 W (W.zeJ k) (VS j j)) ⟨rfl,rfl,rfl,rfl⟩ (zJp rfl fun a b ha hb=>?_);unfold yX;split
    ·rfl
    ·match b,hb with
     | 0,_ | 1,_=>rfl
   ·rw[e1];exact TrE.refl _
   ·rw[e1,(zAi _ _).1,(zAi _ _).2.1];exact TrE.refl _
  ·obtain⟨e1,e2,e3⟩:=run.no j hl hx;simp[go_sem,hx,qB (show j<=1000000000 by omega)];exact⟨j+1,hl,by omega,⟨rfl,by rw[e3]⟩,by rw[e2];exact TrE.refl _,by rw[e1];exact TrE.refl _,by rw[e1];exact TrE.refl _⟩
 cases (show j=W.sn by omega);have q1:=run.u0;refine yE (fun i:Nat=>⟨[(14,true,.i i),(10,true,.i (l i)),(9,true,.i (zE W (W.zeJ k).zeL).time),(7,true,.m false [.p 7 0]),(6,true,.m false [.p 6 0]),(5,true,.i k),(4,true,.m false [.p 4 0]),(1,true,.i x)],[(7,.var [.v (.int .i64 (W.zeJ k).id),.v (.string (W.zeJ k).name),.v (.string (W.zeJ k).set),.v (.int .i64 (W.zeJ k).zeL),.v (.int .i64 (W.zeJ k).time),.v (.int .i64 (W.zeJ k).rs),.v (.int .i64 (W.zeJ k).rb),.s .z 2 (W.zeJ k).dn (ptrsT (W.zeJ k).ds (W.zeJ k).db)]),(6,.var [.h 61,.h 62,.v (.int .i64 W.time),.v (.int .i64 W.next),.h 63,.h 64]),(64,.row 8 W.pn (snapsE .z (US i))),(63,.row 6 W.sn (setsE .o (VS W.sn))),(62,.row 1 (UP i).hn (yT (UP i).h)),(61,.row 3 (UP i).n (zk .z (UP i).s)),(4,.var [.v n0,.v n0,.v i0,.v i0,.v n0,.v n0,.v i0,.v i0,.v i0])]⟩) (fun i=>W.pn - i) (fun i=>i<=W.pn) 0 (by rw[q1.1,q1.2.1,q1.2.2];simp[go_sem]) (Nat.zero_le _) ?_;intro i hi;have cA:=run.cur2 i;simp[go_sem,qB (show i<=1000000000 by omega),cA];refine⟨fun aA=>⟨aA,?_⟩,fun aA=>?_⟩
 ·by_cases hx:(W.zeJ i).zeL=x
  ·simp[go_sem,hx,aA,cA,qB (show i<=1000000000 by omega),zGS,zPW,zF5,zE6];obtain⟨e1,e2,e3,e4⟩:=run.yes2 i aA hx;have hd:=(zSm hR).2 i aA;have hy:(ye (W.zeJ i).ds (W.zeJ i).db (zE W (W.zeJ k).zeL).time (W.zeJ i).dn).length<=(W.zeJ i).dn:=zB0 ..;have ho:(zD4 (W.zeJ i).ds (W.zeJ i).db (zE W (W.zeJ k).zeL).time (W.zeJ i).dn).length<=(W.zeJ i).dn:=zHx ..;have hg:=(zSm hR).2 k bA;have hh:=zGP hR.right;refine⟨by omega,⟨by omega,qm,qI⟩,by omega,by omega,by kernel_rfl,i+1,aA,by omega,⟨rfl,?_⟩,?_,?_,?_⟩
   ·rw[e3];exact zcf (run.un i).2 (by omega)
   ·rw[e2,<-cA];refine zaD (s:=zQx W (W.zeJ k) (US i i)) ⟨rfl,rfl,rfl,rfl,rfl,rfl⟩ (zJp rfl fun a b ha hb=>?_);unfold yX;split
    ·rfl
    ·match b,hb with
     | 0,_ | 1,_=>rfl
   ·rw[e1];exact TrE.refl _
   ·rw[e1,(zAi _ _).1,(zAi _ _).2.1];exact TrE.refl _
  ·obtain⟨e1,e2,e3⟩:=run.no2 i aA hx;simp[go_sem,hx,qB (show i<=1000000000 by omega)];exact⟨i+1,aA,by omega,⟨rfl,by rw[e3]⟩,by rw[e2];exact TrE.refl _,by rw[e1];exact TrE.refl _,by rw[e1];exact TrE.refl _⟩
 cases (show i=W.pn by omega);rw[run.fin,qB (show k<=1000000000 by omega)];refine⟨by omega,⟨by omega,by omega⟩,⟨by omega,by omega⟩,⟨by omega,by omega⟩,by kernel_rfl,⟨TrE.refl _,zW⟩,⟨TrE.refl _,zm⟩,rfl,rfl,⟨TrE.refl _,qm⟩,⟨?_,qI⟩,by simp⟩;refine⟨.inl rfl,rfl,by show k+(W.pn - (k+1))=W.pn - 1;omega,fun i c hi hc=>TrE.of_eq ?_⟩;show _=snapsE .z (del (US W.pn) k) i c;have e:∀p,(snapsE .z (US W.pn) p c).nt=snapsE .z (US W.pn) p c:=fun p=>by
  match c,hc with
  | 0,_ | 1,_ | 2,_ | 3,_ | 4,_ | 5,_ | 6,_ | 7,_=>rfl
 have e2:snapsE .z (del (US W.pn) k) i c=snapsE .z (US W.pn) (if i<k then i else i+1) c:=by
  have:del (US W.pn) k i=US W.pn (if i<k then i else i+1):=(by unfold del;split<;>rfl);unfold snapsE;rw[this]
 rw[e2];unfold yX;by_cases fA:i<k
 ·simp[fA,e]
 ·simp[fA,e,show k+1+(i - k)=i+1 by omega]
set_option maxRecDepth 20000
set_option maxHeartbeats 3200000
structure zAq where
 bn:Nat
 bf:Nat->Int
 pos:Nat
 mix:Int
 size:Int
def zF6(h:Nat->Int):Nat->Nat->Tr:=fun i _=>.v (.int .u8 (h i))
theorem zEC{h:Nat->Int}{i j:Nat}:zF6 h i j = .v (.int .u8 (h i)):=rfl
abbrev srV(s:zAq):List Tr:=[.s .z 1 s.bn (zF6 s.bf),.v (.int .i64 s.pos),.v (.int .u64 s.mix),.v (.int .i64 s.size)]
def zIf(f:Nat->Tr):zAq:=⟨zF8 (f 0),fun i=>match zCh (f 0) i 0 with | .v (.int _ x)=>x | _=>0,(qM (f 1)).toNat,match f 2 with | .v (.int _ x)=>x | _=>0,qM (f 3)⟩
def zaY(a b:Int):Int:=IntKind.u64.wrap ((BitVec.ofInt IntKind.u64.bits a ^^^ BitVec.ofInt IntKind.u64.bits b).toNat)
def zdJ(a b:Int):Int:=IntKind.u64.wrap (a*2 ^ (min b.toNat IntKind.u64.bits))
def zaK(a b:Int):Int:=a.fdiv (2 ^ (min b.toNat IntKind.u64.bits))
theorem zOr{a b:Int}:zAl .xor .u64 a .u64 b=some (True,.int .u64 (zaY a b)):=rfl
theorem zOp{a b:Int}:zAl .shl .u64 a .u64 b=some (0<=b,.int .u64 (zdJ a b)):=rfl
theorem zOq{a b:Int}:zAl .shr .u64 a .u64 b=some (0<=b,.int .u64 (zaK a b)):=rfl
theorem zKd{a b:Int}:zAl .add .u64 a .u64 b=some (True,.int .u64 (IntKind.u64.wrap (a+b))):=rfl
theorem zKe{a b:Int}:zAl .mul .u64 a .u64 b=some (True,.int .u64 (IntKind.u64.wrap (a*b))):=rfl
theorem zKf{a b:Int}:zAl .rem .u64 a .u64 b=some (b≠0,.int .u64 (a.tmod b)):=rfl
theorem zOk{a b:Int}:zAl .add .i64 a .i64 b=some (True,.int .i64 (IntKind.i64.wrap (a+b))):=rfl
theorem zOo{k:IntKind}{a b:Int}:zAl .lss k a k b=some (True,.bool (decide (a<b))):=by simp[zAl]
theorem zOn{k:IntKind}{a b:Int}:zAl .leq k a k b=some (True,.bool (decide (a<=b))):=by simp[zAl]
theorem zOm{k:IntKind}{a b:Int}:zAl .gtr k a k b=some (True,.bool (decide (a>b))):=by simp[zAl]
theorem zOl{k:IntKind}{a b:Int}:zAl .eql k a k b=some (True,.bool (a == b)):=by simp[zAl]
theorem qH{n:Nat}{h:Nat->Int}:(Tr.s .z 1 n (zF6 h)).kept:=⟨by simp,fun _ _ _ _=>trivial⟩
theorem zcg{x:Int}(h0:0<=x)(h1:x<=1000000000000000000):IntKind.u64.wrap x=x:=by
 simp[IntKind.wrap,IntKind.bits];omega
def zc5(m:Int):Int:=zaY m (zdJ m 13)
def zc6(m:Int):Int:=zaY m (zaK m 7)
def zc7(m:Int):Int:=zaY m (zdJ m 17)
def zW7(m:Int):Int:=zc7 (zc6 (zc5 m))
def nS(s:zAq)(most:Int):zAq:=if most<=1 then s else {s with pos:=if s.pos<s.bn then s.pos+1 else s.pos,mix:=zW7 s.mix}
def nV(s:zAq)(most:Int):Int:=if most<=1 then 0 else IntKind.i64.wrap ((IntKind.u64.wrap ((if s.pos<s.bn then s.bf s.pos else 0)+zaK (zW7 s.mix) 20)).tmod most)
structure yS (s:zAq):Prop where
 bn:s.bn<=2000000
 pos:s.pos<=s.bn
 byte:∀i,i<s.bn->0<=s.bf i/\s.bf i<256
 size:0<=s.size/\s.size<=12
theorem zBV{s:zAq}(h:yS s)(m:Int):yS (nS s m):=by
 unfold nS;split
 ·exact h
 ·refine⟨h.bn,?_,h.byte,h.size⟩;have:=h.pos;dsimp only;split<;>omega
attribute [local go_sem] qg List.map_cons List.map_nil Tr.cv yv qT yF yD yu yr yq yC zBD zBF zBE zBA zBC zBB zCc zCe zCd qY zt qZ zu qR qQ qf zAL zp zq yL qW tmpsOf zAy yK qV zA9 yz yx yw zAA yy stpP opds opd opdC kap zAS qS zo coreU bin zAl zCO get put dlO fgt zBP zBI zBM zBN tyT yp yo Op.operands Call.operands evLoad evLen evStore evAlloc zAn and_true true_and List.append_nil List.nil_append List.cons_append Ret resCv zCB yY cellM zBl zCI qh StW StR hpT hpO hpV hpA hpL hpC sg nin zCT bdO tmW obW AvE CsE CvE Av.tup Av.ids Cv.ids inD ObE Ob.ids TrE.refl qU yH yI qb qd qe zr zf zd zAC zBe zCH zBG evCall argL argOf qq outOb obO yU qK cvO tot Tr.own rid partsOf fillC zU zBj frz frz1 evBuildSlice zc trs Cv.tr evSlice Option.toArray_none Option.toArray_some evMakeSlice evAppend dstOf srcOf zA7 zBO zBL zBJ zBK ikT yB yA qz qy RetP RetN zBs qP evLd evSt evStoreH zAe evAppendM evAppendT tlOf mvOf rowE shp evTake oOf evC evCallP evCallN evCallO unlast zAX zA6 zAZ argsF zCS qu pmC varT vT evField evConv dB0 Option.bind_some Option.bind_none Option.map_some Option.map_none Option.isSome_some Option.isSome_none
attribute [-go_sem] zAl
attribute [local go_sem] zOr zOp zOq zKd zKe zKf zOk zOo zOn zOm zOl zEC
noncomputable def mN:zX:=qk (fun q:zAq×Int=>(true,srV q.1) :: [iT q.2]) (fun q=>yS q.1/\q.2<=1000000000000000000) (fun q=>[(true,srV (nS q.1 q.2)),iT (nV q.1 q.2)])
theorem zDl(s:zAq)(m:Int):mN ((true,srV s) :: [iT m])=some (yS s/\m<=1000000000000000000,[(true,srV (nS s m)),iT (nV s m)]):=zO (fun l=>(zIf (nth l 0),qM (nth l 1 0))) (fun _=>rfl) (s,m)
theorem zST:zBv Tryz.prog 83 mN:=by
 refine zBg qA GOk.nil zz Tryz.func83 rfl Tryz.ntmps83 Tryz.results83 6 ?_;rintro⟨s,m⟩ hs;obtain⟨hs,hm⟩:yS s/\m<=1000000000000000000:=hs;have hb:=hs.bn;have hp:=hs.pos;refine⟨by simp,?_⟩;simp[go_sem,qB (show s.pos<=1000000000 by omega)];refine⟨fun h=>?_,fun h=>?_⟩
 ·rw[show nS s m=s from if_pos h];exact⟨⟨⟨TrE.refl _,qH⟩,rfl,rfl,rfl⟩,(if_pos h).symm⟩
 have h':¬m<=1:=by omega
 have hw:IntKind.u64.wrap m=m:=zcg (by omega) (by omega);have aA:m≠0:=by omega
 rw[hw];rw[show nS s m=_ from if_neg h',show nV s m=_ from if_neg h'];refine⟨by kernel_rfl,fun h1=>⟨h1,by kernel_rfl,by kernel_rfl,by kernel_rfl,by kernel_rfl,aA,⟨⟨TrE.refl _,qH⟩,?_,rfl,rfl⟩,?_⟩,fun h1=>⟨by kernel_rfl,by kernel_rfl,by kernel_rfl,aA,⟨⟨TrE.refl _,qH⟩,?_,rfl,rfl⟩,?_⟩⟩
 ·simp[h1]
 ·simp[h1,zW7,zc5,zc6,zc7,zcg (hs.byte _ h1).1 (by have:=(hs.byte _ h1).2;omega)]
 ·simp[Nat.not_lt.2 h1]
 ·simp[Nat.not_lt.2 h1,zW7,zc5,zc6,zc7]
set_option maxRecDepth 20000
set_option maxHeartbeats 3200000
theorem zQ9(x:Int):0<=IntKind.u64.wrap x:=by
 simp[IntKind.wrap,IntKind.bits,IntKind.signed];omega
theorem zEp{x:Int}(h:-1000000000000000000<=x)(h':x<=1000000000000000000):IntKind.i64.wrap x=x:=by
 simp[IntKind.wrap,IntKind.bits,IntKind.signed];omega
theorem zIm(s:zAq){m:Int}(h:1<m)(h':m<=1000000000000000000):0<=nV s m/\nV s m<m:=by
 unfold nV;rw[if_neg (by omega)];have h0:=Int.tmod_nonneg m (zQ9 ((if s.pos<s.bn then s.bf s.pos else 0)+zaK (zW7 s.mix) 20));have h1:=Int.tmod_lt_of_pos (IntKind.u64.wrap ((if s.pos<s.bn then s.bf s.pos else 0)+zaK (zW7 s.mix) 20)) (show 0<m by omega);rw[zEp (by omega) (by omega)];exact⟨h0,h1⟩
theorem zNS(s:zAq){m:Int}(h':m<=1000000000000000000):0<=nV s m/\(nV s m<m\/nV s m=0):=by
 by_cases h:1<m
 ·exact⟨(zIm s h h').1,.inl (zIm s h h').2⟩
 ·have:nV s m=0:=if_pos (by omega);omega
attribute [local go_sem] qg List.map_cons List.map_nil Tr.cv yv qT yF yD yu yr yq yC zBD zBF zBE zBA zBC zBB zCc zCe zCd qY zt qZ zu qR qQ qf zAL zp zq yL qW tmpsOf zAy yK qV zA9 yz yx yw zAA yy stpP opds opd opdC kap zAS qS zo coreU bin zAl zCO get put dlO fgt zBP zBI zBM zBN tyT yp yo Op.operands Call.operands evLoad evLen evStore evAlloc zAn and_true true_and List.append_nil List.nil_append List.cons_append Ret resCv zCB yY cellM zBl zCI qh StW StR hpT hpO hpV hpA hpL hpC sg nin zCT bdO tmW obW AvE CsE CvE Av.tup Av.ids Cv.ids inD ObE Ob.ids TrE.refl qU yH yI qb qd qe zr zf zd zAC zBe zCH zBG evCall argL argOf qq outOb obO yU qK cvO tot Tr.own rid partsOf fillC zU zBj frz frz1 evBuildSlice zc trs Cv.tr evSlice Option.toArray_none Option.toArray_some evMakeSlice evAppend dstOf srcOf zA7 zBO zBL zBJ zBK ikT yB yA qz qy RetP RetN zBs qP evLd evSt evStoreH zAe evAppendM evAppendT tlOf mvOf rowE shp evTake oOf evC evCallP evCallN evCallO unlast zAX zA6 zAZ argsF zCS qu pmC varT vT evField evConv dB0 Option.bind_some Option.bind_none Option.map_some Option.map_none Option.isSome_some Option.isSome_none
attribute [-go_sem] zAl
attribute [local go_sem] zOr zOp zOq zKd zKe zKf zOk zOo zOn zOm zOl zEC
noncomputable def zdl:zX:=qk (fun q:zAq×Int=>(true,srV q.1) :: [iT q.2]) (fun q=>yS q.1/\q.2<=1000000000000000000) (fun q=>(true,srV (nS q.1 q.2)) :: bR (nV q.1 q.2=0))
theorem zCZ(s:zAq)(m:Int):zdl ((true,srV s) :: [iT m])=some (yS s/\m<=1000000000000000000,(true,srV (nS s m)) :: bR (nV s m=0)):=zO (fun l=>(zIf (nth l 0),qM (nth l 1 0))) (fun _=>rfl) (s,m)
theorem zUO:zBv Tryz.prog 85 zdl:=by
 refine zBg qA (GOk.ptr zST (zG Tryz.func83 rfl rfl) GOk.nil) zz Tryz.func85 rfl Tryz.ntmps85 Tryz.results85 5 ?_;rintro⟨s,m⟩ hs;obtain⟨hs,hm⟩:yS s/\m<=1000000000000000000:=hs;refine⟨by simp,?_⟩;simp[go_sem,zDl,hs,hm,qH]
noncomputable def zdh:zX:=qk (fun q:Int×Int=>[iT q.1,iT q.2]) (fun _=>True) (fun q=>[iT (max q.1 q.2)])
theorem zbF(a b:Int):zdh [iT a,iT b]=some (True,[iT (max a b)]):=zO (fun l=>(qM (nth l 0 0),qM (nth l 1 0))) (fun _=>rfl) (a,b)
theorem zWn:zy Tryz.prog 128 zdh:=by
 refine zQ qA GOk.nil zz Tryz.func128 rfl Tryz.ntmps128 Tryz.results128 5 ?_;rintro⟨a,b⟩ -;refine⟨by simp,?_⟩;simp[go_sem];omega
abbrev sT'(d:ByteArray):Bool×List Tr:=(false,[.v (.string d)])
def zb1:List Int:=[0,1,-1,2,1000,1001,2147483648,2147483647,-2147483648,4611686018427387904,9223372036854775807,-9223372036854775808,1000000,1000001]
def zRe(s:zAq):Int:=zb1.getD (nV s 14).toNat 0
noncomputable def zcB:zX:=qk (fun s:zAq=>[(true,srV s)]) (fun s=>yS s) (fun s=>[(true,srV (nS s 14)),iT (zRe s)])
theorem zHr(s:zAq):zcB [(true,srV s)]=some (yS s,[(true,srV (nS s 14)),iT (zRe s)]):=zO (fun l=>zIf (nth l 0)) (fun _=>rfl) s
theorem zUw:zBv Tryz.prog 138 zcB:=by
 refine zBg (A:=fun _=>[]) qA (GOk.ptr zST (zG Tryz.func83 rfl rfl) GOk.nil) zz Tryz.func138 rfl Tryz.ntmps138 Tryz.results138 3 ?_;rintro s hs;replace hs:yS s:=hs;have hv:=zIm s (m:=14) (by omega) (by omega);refine⟨by simp,?_⟩;rcases(show nV s 14=0\/nV s 14=1\/nV s 14=2\/nV s 14=3\/nV s 14=4\/nV s 14=5\/nV s 14=6\/nV s 14=7\/nV s 14=8\/nV s 14=9\/nV s 14=10\/nV s 14=11\/nV s 14=12\/nV s 14=13 by omega)with h | h | h | h | h | h | h | h | h | h | h | h | h | h<;>simp[go_sem,zDl,hs,h,zRe,zb1,qH]
def zLt(s:zAq):zAq:=if nV s 20=0 then nS (nS (nS s 20) 14) 4 else nS (nS s 20) 7
def zSa(s:zAq):Int:=if nV s 20=0 then [-1,63,64,zRe (nS s 20)].getD (nV (nS (nS s 20) 14) 4).toNat 0 else [0,1,2,7,8,9,63].getD (nV (nS s 20) 7).toNat 0
theorem zQl{s:zAq}(h:yS s):yS (zLt s):=by
 unfold zLt;split
 ·exact zBV (zBV (zBV h _) _) _
 ·exact zBV (zBV h _) _
noncomputable def zdj:zX:=qk (fun s:zAq=>[(true,srV s)]) (fun s=>yS s) (fun s=>[(true,srV (zLt s)),iT (zSa s)])
theorem zbG(s:zAq):zdj [(true,srV s)]=some (yS s,[(true,srV (zLt s)),iT (zSa s)]):=zO (fun l=>zIf (nth l 0)) (fun _=>rfl) s
theorem zTU:zBv Tryz.prog 130 zdj:=by
 refine zBg (A:=fun _=>[]) qA (GOk.ptr zST (zG Tryz.func83 rfl rfl) (GOk.ptr zUO (zG Tryz.func85 rfl rfl) (GOk.ptr zUw (zG Tryz.func138 rfl rfl) GOk.nil))) zz Tryz.func130 rfl Tryz.ntmps130 Tryz.results130 3 ?_;rintro s hs;replace hs:yS s:=hs;have h1:=zBV hs 20;have h2:=zBV h1 14;refine⟨by simp,?_⟩;by_cases h0:nV s 20=0
 ·have hv:=zIm (nS (nS s 20) 14) (m:=4) (by omega) (by omega);rcases(show nV (nS (nS s 20) 14) 4=0\/nV (nS (nS s 20) 14) 4=1\/nV (nS (nS s 20) 14) 4=2\/nV (nS (nS s 20) 14) 4=3 by omega)with h | h | h | h<;>simp[go_sem,zDl,zCZ,zHr,hs,h1,h2,h0,h,zLt,zSa,qH]
 ·have hv:=zIm (nS s 20) (m:=7) (by omega) (by omega);rcases(show nV (nS s 20) 7=0\/nV (nS s 20) 7=1\/nV (nS s 20) 7=2\/nV (nS s 20) 7=3\/nV (nS s 20) 7=4\/nV (nS s 20) 7=5\/nV (nS s 20) 7=6 by omega)with h | h | h | h | h | h | h<;>simp[go_sem,zDl,zCZ,zHr,hs,h1,h2,h0,h,zLt,zSa,qH]
noncomputable def zSL:zX:=qk (fun q:zAq×Nat×(Nat->Nat->Tr)=>(true,srV q.1) :: [(false,[.s .b 1 q.2.1 q.2.2])]) (fun q=>yS q.1/\(0<q.2.1/\q.2.1<=1000000)/\∀i,i<q.2.1->∃t,q.2.2 i 0 = .v (.string t)) (fun q=>[(true,srV (nS q.1 q.2.1)),sT' (zDP (q.2.2 (nV q.1 q.2.1).toNat 0))])
theorem zY3(s:zAq)(n:Nat)(F:Nat->Nat->Tr):zSL ((true,srV s) :: [(false,[.s .b 1 n F])])=some (yS s/\(0<n/\n<=1000000)/\∀i,i<n->∃t,F i 0 = .v (.string t),[(true,srV (nS s n)),sT' (zDP (F (nV s n).toNat 0))]):=zO (fun l=>(zIf (nth l 0),zF8 (nth l 1 0),zCh (nth l 1 0))) (fun _=>rfl) (s,n,F)
theorem zVw:zBv Tryz.prog 87 zSL:=by
 refine zBg qA (GOk.ptr zST (zG Tryz.func83 rfl rfl) GOk.nil) zz Tryz.func87 rfl Tryz.ntmps87 Tryz.results87 5 ?_;rintro⟨s,n,F⟩ hs;obtain⟨hs,⟨hn,aA⟩,hF⟩:yS s/\(0<n/\n<=1000000)/\∀i,i<n->∃t,F i 0 = .v (.string t):=hs;have hv:=zNS s (m:=n) (by omega);obtain⟨t,ht⟩:=hF (nV s n).toNat (by omega);refine⟨by simp,?_⟩;simp[go_sem,zDl,hs,ht,qH,zDP];omega
set_option maxRecDepth 20000
set_option maxHeartbeats 3200000
theorem zdV{a b:Int}:zAl .quo .i64 a .i64 b=some (b≠0,.int .i64 (IntKind.i64.wrap (a.tdiv b))):=rfl
def zHO(l:List ByteArray):Nat->Nat->Tr:=fun p q=>(l.map fun t=>Tr.v (.string t))[p+q]?.getD (.v (.bool false))
theorem zS0{l:List ByteArray}{i:Nat}(h:i<l.length):zHO l i 0 = .v (.string (l.getD i ⟨#[]⟩)):=by
 unfold zHO;simp[h]
theorem zPU{fl:Fl}{n:Nat}(l:List ByteArray):(Tr.s fl 1 n (zHO l)).lend = .s .b 1 n (zHO l):=by
 show Tr.s .b 1 n (fun p q=>(zHO l p q).lend)=_;congr 1;funext p q;unfold zHO;rw[List.getElem?_map];cases l[p+q]?<;>rfl
theorem zL1{fl:Fl}{a b c:ByteArray}:(Tr.s fl 1 3 fun p q=>([.v (.string a),.v (.string b),.v (.string c)]:List Tr)[p+q]?.getD (.v (.bool false))).lend = .s .b 1 3 (zHO [a,b,c]):=zPU [a,b,c]
theorem zL2{fl:Fl}{a b c d e:ByteArray}:(Tr.s fl 1 5 fun p q=>([.v (.string a),.v (.string b),.v (.string c),.v (.string d),.v (.string e)]:List Tr)[p+q]?.getD (.v (.bool false))).lend = .s .b 1 5 (zHO [a,b,c,d,e]):=zPU [a,b,c,d,e]
theorem zNL(s:zAq)(l:List ByteArray)(h:0<l.length/\l.length<=1000000):zSL ((true,srV s) :: [(false,[.s .b 1 l.length (zHO l)])])=some (yS s,[(true,srV (nS s l.length)),sT' (l.getD (nV s l.length).toNat ⟨#[]⟩)]):=by
 have hv:=zNS s (m:=l.length) (by omega);rw[zY3,zS0 (by omega)];have e:(yS s/\(0<l.length/\l.length<=1000000)/\∀i,i<l.length->∃t,zHO l i 0 = .v (.string t))=yS s:=by
  refine propext ⟨fun h=>h.1,fun hs=>⟨hs,h,fun i hi=>⟨_,zS0 hi⟩⟩⟩
 rw[e];rfl
theorem zW2(s:zAq)(a b c:ByteArray):zSL ((true,srV s) :: [(false,[.s .b 1 3 (zHO [a,b,c])])])=some (yS s,[(true,srV (nS s 3)),sT' ([a,b,c].getD (nV s 3).toNat ⟨#[]⟩)]):=zNL s [a,b,c] ⟨by simp,by simp⟩
theorem zW3(s:zAq)(a b c d e:ByteArray):zSL ((true,srV s) :: [(false,[.s .b 1 5 (zHO [a,b,c,d,e])])])=some (yS s,[(true,srV (nS s 5)),sT' ([a,b,c,d,e].getD (nV s 5).toNat ⟨#[]⟩)]):=zNL s [a,b,c,d,e] ⟨by simp,by simp⟩
attribute [local go_sem] qg List.map_cons List.map_nil Tr.cv yv qT yF yD yu yr yq yC zBD zBF zBE zBA zBC zBB zCc zCe zCd qY zt qZ zu qR qQ qf zAL zp zq yL qW tmpsOf zAy yK qV zA9 yz yx yw zAA yy stpP opds opd opdC kap zAS qS zo coreU bin zAl zCO get put dlO fgt zBP zBI zBM zBN tyT yp yo Op.operands Call.operands evLoad evLen evStore evAlloc zAn and_true true_and List.append_nil List.nil_append List.cons_append Ret resCv zCB yY cellM zBl zCI qh StW StR hpT hpO hpV hpA hpL hpC sg nin zCT bdO tmW obW AvE CsE CvE Av.tup Av.ids Cv.ids inD ObE Ob.ids TrE.refl qU yH yI qb qd qe zr zf zd zAC zBe zCH zBG evCall argL argOf qq outOb obO yU qK cvO tot Tr.own rid partsOf fillC zU zBj frz frz1 evBuildSlice zc trs Cv.tr evSlice Option.toArray_none Option.toArray_some evMakeSlice evAppend dstOf srcOf zA7 zBO zBL zBJ zBK ikT yB yA qz qy RetP RetN zBs qP evLd evSt evStoreH zAe evAppendM evAppendT tlOf mvOf rowE shp evTake oOf evC evCallP evCallN evCallO unlast zAX zA6 zAZ argsF zCS qu pmC varT vT evField evConv dB0 Option.bind_some Option.bind_none Option.map_some Option.map_none Option.isSome_some Option.isSome_none
attribute [local go_sem] zL1 zL2
attribute [-go_sem] zAl
attribute [local go_sem] zOr zOp zOq zKd zKe zKf zOk zOo zOn zOm zOl zdV zEC
def zZX:List ByteArray:=[⟨#[97]⟩,⟨#[97]⟩,⟨#[98]⟩,⟨#[99]⟩,⟨#[100]⟩]
def zLU(s:zAq):ByteArray:=zZX.getD (nV s 5).toNat ⟨#[]⟩
noncomputable def zYx:zX:=qk (fun s:zAq=>[(true,srV s)]) (fun s=>yS s) (fun s=>[(true,srV (nS s 5)),sT' (zLU s)])
theorem zPX(s:zAq):zYx [(true,srV s)]=some (yS s,[(true,srV (nS s 5)),sT' (zLU s)]):=zO (fun l=>zIf (nth l 0)) (fun _=>rfl) s
theorem zM9:zBv Tryz.prog 44 zYx:=by
 refine zBg (A:=fun _=>[]) qA (GOk.ptr zVw (zG Tryz.func87 rfl rfl) GOk.nil) zz Tryz.func44 rfl Tryz.ntmps44 Tryz.results44 3 ?_;rintro s hs;replace hs:yS s:=hs;refine⟨by simp,?_⟩;simp[go_sem,zW3,hs,zLU,zZX,qH]
def zYC(a b:Int):Nat->Nat->Tr:=yN (yN (fun _ q=>Tr.v ([Value.int IntKind.u8 0][q]?.getD (Value.bool false))) 0 0 [.v (.int .u8 (IntKind.u8.wrap a))]) 15 0 [.v (.int .u8 (IntKind.u8.wrap (IntKind.i64.wrap (97+b))))]
theorem zYD(a b:Int)(p:Nat):∃x,zYC a b p 0 = .v (.int .u8 x):=by
 unfold zYC yN;by_cases h1:p=15
 ·exact⟨IntKind.u8.wrap (IntKind.i64.wrap (97+b)),by simp[h1]⟩
 ·by_cases h2:p=0
  ·exact⟨IntKind.u8.wrap a,by simp[h2]⟩
  ·exact⟨0,by simp[h1,h2]⟩
def zUt(s:zAq):zAq:=nS (nS s 256) 3
def zUu(s:zAq):ByteArray:=zV9 16 (zYC (nV s 256) (nV (nS s 256) 3))
noncomputable def zb8:zX:=qk (fun s:zAq=>[(true,srV s)]) (fun s=>yS s) (fun s=>[(true,srV (zUt s)),sT' (zUu s)])
theorem zYt(s:zAq):zb8 [(true,srV s)]=some (yS s,[(true,srV (zUt s)),sT' (zUu s)]):=zO (fun l=>zIf (nth l 0)) (fun _=>rfl) s
theorem zTy:zBv Tryz.prog 137 zb8:=by
 refine zBg (A:=fun _=>[]) qA (GOk.ptr zST (zG Tryz.func83 rfl rfl) GOk.nil) zz Tryz.func137 rfl Tryz.ntmps137 Tryz.results137 4 ?_;rintro s hs;replace hs:yS s:=hs;have h1:=zBV hs 256;refine⟨by simp,?_⟩;simp[go_sem,zDl,hs,h1,qH];exact⟨fun p _=>zYD _ _ p,⟨TrE.refl _,rfl,rfl,rfl⟩,rfl⟩
def zVZ(f:Nat->Int):Nat->Int
 | 0=>88172645463325252
 | k+1=>IntKind.u64.wrap (zaY (zVZ f k) (IntKind.u64.wrap (f k))*1099511628211)
def zLB(n:Nat)(f:Nat->Int):zAq:=⟨n,f,0,zVZ f (min n 64),min ((n / 20:Nat):Int) 12⟩
noncomputable def zVU:zX:=qk (fun q:Nat×(Nat->Int)=>[(false,[.s .z 1 q.1 (zF6 q.2)])]) (fun q=>q.1<=2000000) (fun q=>[(true,srV (zLB q.1 q.2))])
theorem zUD(n:Nat)(f:Nat->Int):zVU [(false,[.s .z 1 n (zF6 f)])]=some (n<=2000000,[(true,srV (zLB n f))]):=zO (fun l=>(zF8 (nth l 0 0),fun i=>match zCh (nth l 0 0) i 0 with | .v (.int _ x)=>x | _=>0)) (fun _=>rfl) (n,f)
theorem zQa:zP8 Tryz.prog 42 zVU:=by
 refine zXc qA GOk.nil zz Tryz.func42 rfl Tryz.ntmps42 Tryz.results42 5 ?_;rintro⟨n,f⟩ hn;replace hn:n<=2000000:=hn;refine⟨by simp,?_⟩;simp[go_sem];refine yE (fun k:Nat=>⟨[(4,true,.i k),(3,true,.m false [.p 7 0]),(0,true,.m false [.s .z 1 n (zF6 f)])],[(7,.var [.s .z 1 n (zF6 f),.v i0,.v (.int .u64 (zVZ f k)),.v i0])]⟩) (fun k=>n - k) (fun k=>k<=n/\k<=64) 0 (by simp[go_sem,zVZ]) (by simp) ?_;rintro k ⟨hk,aA⟩;simp[go_sem,qB (show k<=1000000000 by omega)];refine⟨fun h1 h2=>⟨h1,by kernel_rfl,k+1,by omega,by omega,rfl,rfl⟩,fun h=>?_⟩;have hm:min n 64=k:=by omega
 rw[zEp (x:=(n:Int) / 20) (by omega) (by omega)];refine⟨fun h1=>⟨⟨TrE.refl _,qH⟩,rfl,by rw[<-hm];rfl,?_⟩,fun h1=>⟨⟨TrE.refl _,qH⟩,rfl,by rw[<-hm];rfl,?_⟩⟩
 ·show(12:Int)=min ((n / 20:Nat):Int) 12;omega
 ·show(n:Int) / 20=min ((n / 20:Nat):Int) 12;omega
theorem zPo{n:Nat}{f:Nat->Int}(h:n<=2000000)(hf:∀i,i<n->0<=f i/\f i<256):yS (zLB n f):=⟨h,Nat.zero_le _,hf,by show 0<=min ((n / 20:Nat):Int) 12/\min ((n / 20:Nat):Int) 12<=12;omega⟩
structure zFm (c:Nat) (s:qi):Prop where
  dn:s.dn<=450+c
  name:s.name.size<=8000
  zeL:0<=s.zeL/\s.zeL<=1000000
structure zGG (c:Nat) (s:zl):Prop where
  dn:s.dn<=450+c
  name:s.name.size<=8000
  set:s.set.size<=8000
  zeL:0<=s.zeL/\s.zeL<=1000000
  id:0<=s.id/\s.id<=1000000
structure zAz (c:Nat) (W:zB):Prop where
  pool:qs W.pool<=19000+c
  sn:W.sn<=9
  pn:W.pn<=21
  next:0<=W.next/\W.next<=900001
  zeK:∀i,i<W.sn->zFm c (W.zeK i)
  zeJ:∀i,i<W.pn->zGG c (W.zeJ i)
theorem zCz{c:Nat}{e:Int}:zAz c (qD e).world:=⟨by show qs (zEw 0)<=_;exact Nat.zero_le _,Nat.zero_le _,Nat.zero_le _,by show(0:Int)<=0/\(0:Int)<=900001;omega,fun i hi=>absurd hi (Nat.not_lt_zero _),fun i hi=>absurd hi (Nat.not_lt_zero _)⟩
structure zRF (W:zB):Prop where
  pool:qs W.pool<=10000
  sn:W.sn<=8
  pn:W.pn<=20
  next:1<=W.next/\W.next<=900000
  zeK:∀i,i<W.sn->(W.zeK i).dn<=200/\(W.zeK i).name.size<=20/\0<=(W.zeK i).zeL/\(W.zeK i).zeL<=900000
  zeJ:∀i,i<W.pn->(W.zeJ i).dn<=200/\(W.zeJ i).name.size<=20/\(W.zeJ i).set.size<=20/\(0<=(W.zeJ i).zeL/\(W.zeJ i).zeL<=900000)/\1<=(W.zeJ i).id/\(W.zeJ i).id<=900000
theorem zG4{W:zB}(h:qo W):zRF W:=by
  obtain⟨n1,n2,n3,n4,n5,n6⟩:=h.zeM;have hp:=h.zeM.zeI;have hd:=zSm h;have pr:∀x,x=0\/zBU W x->0<=x/\x<=900000:=fun x hx=>by
    rcases hx with rfl | hx
    · omega
    · have:=hx.range hp;omega
  refine⟨zEk h.right,n3,n4,n2,fun i hi=>⟨hd.1 i hi,(n5 i hi).1.2.1,pr _ (hp.zeK i hi)⟩,fun i hi=>⟨hd.2 i hi,(n6 i hi).1.2.2.2.2.1.2.1,?_,pr _ (hp.zeL i hi),by have:=hp.ids i hi;omega⟩⟩;obtain⟨j,hj,e⟩:=(n6 i hi).1.2.2.2.2.2;rw[<-e];exact(n5 j hj).1.2.1
theorem zRF.set{W:zB}(h:zRF W){i:Nat}(hi:i<W.sn):zFm 0 (W.zeK i):=by
  obtain⟨h1,h2,h3,h4⟩:=h.zeK i hi;exact⟨by omega,by omega,h3,by omega⟩
theorem zRF.snap{W:zB}(h:zRF W){i:Nat}(hi:i<W.pn):zGG 0 (W.zeJ i):=by
  obtain⟨h1,h2,h3,h4,h5⟩:=h.zeJ i hi;exact⟨by omega,by omega,by omega,by omega,by omega⟩
theorem zAz.up{c:Nat}{W:zB}(h:zAz 0 W):zAz c W:=⟨Nat.le_trans h.pool (by omega),h.sn,h.pn,h.next,fun i hi=>⟨Nat.le_trans (h.zeK i hi).dn (by omega),(h.zeK i hi).name,(h.zeK i hi).zeL⟩,fun i hi=>⟨Nat.le_trans (h.zeJ i hi).dn (by omega),(h.zeJ i hi).name,(h.zeJ i hi).set,(h.zeJ i hi).zeL,(h.zeJ i hi).id⟩⟩
theorem zFf(p:zF)(l:List (Int×Int)):qs (zT p l)=qs p+l.length:=by
  obtain⟨h1,h2,h3⟩:=zAi l p;unfold qs;rw[h1,h2,h3];omega
theorem zNw{f:Nat->zN}{j:Nat}:∀{n:Nat},j<n->zCu (f j)<=zBp f n
  | n+1,h=>by
    have e:zBp f (n+1)=zBp f n+zCu (f n):=rfl;by_cases hj:j=n
    · rw[e,hj];omega
    · have:=zNw (f:=f) (j:=j) (n:=n) (by omega)
      omega
theorem zAz.zeP{c:Nat}{W:zB}(h:zAz c W)(hc:c<=10):ym W:=by
  have hp:=h.pool;have h1:W.pool.n<=qs W.pool:=(by unfold qs;omega);have h2:W.pool.hn<=qs W.pool:=Nat.le_add_left ..;have h3:zBp W.pool.s W.pool.n<=qs W.pool:=(by unfold qs;omega);have hs:=h.sn;have hn:=h.pn;refine⟨⟨by omega,by omega,by omega,by omega,fun i hi=>?_,fun i hi=>?_⟩,fun i hi=>?_⟩
  · have:=(h.zeK i hi).dn;omega
  · have:=(h.zeJ i hi).dn;omega
  · have:=zNw (f:=W.pool.s) hi
    have:(W.pool.s i).kn<=zCu (W.pool.s i):=Nat.le_add_right ..;omega
theorem zLb{f g:Nat->zN}:∀{n:Nat},(∀i,i<n->zCu (f i)<=zCu (g i))->zBp f n<=zBp g n
  | 0,_=>Nat.le_refl _
  | n+1,h=>Nat.add_le_add (zLb fun i hi=>h i (by omega)) (h n (by omega))
theorem zXe(p:zF):qs (zLf p)<=qs p:=by
  by_cases h:zg p/\zg (zKN p)
  · rw[zS2 h.1 h.2]
    have:zBp (zKN p).s p.n<=zBp p.s p.n:=zLb fun i hi=>by
      show zCu ((zDx p p.hn).s i)<=_;unfold zDx;dsimp only;split
      · exact Nat.zero_le _
      · exact Nat.le_refl _
    show p.n+zBp (zKN p).s p.n+0<=p.n+zBp p.s p.n+p.hn;omega
  · rw[zQ4 h];exact Nat.le_refl _
theorem zah(W:zB)(x:ByteArray):zIW W x<=W.sn:=by
  by_cases h:∃k,k<W.sn/\¬zBm (W.zeK k).name x/\∀j,j<k->zBm (W.zeK j).name x
  · obtain⟨k,h1,h2,h3⟩:=h
    rw[zRO h1 h2 h3];omega
  · unfold zIW
    rw[dif_neg h];exact Nat.le_refl _
theorem zRq{W:zB}(L:zRF W){x:ByteArray}(hx:x.size<=8000){o p rs rb:Int}(hp:0<=p/\p<=1000000):zAz 0 (zGp W (zIW W x) (zEL x o p rs rb)):=by
  have hs:=L.sn;refine⟨by have:=L.pool;show qs W.pool<=_;omega,by show W.sn+1<=9;omega,by have:=L.pn;show W.pn<=_;omega,by have:=L.next;show 0<=W.next/\W.next<=_;omega,fun i hi=>?_,fun i hi=>L.snap hi⟩;replace hi:i<W.sn+1:=hi;show zFm 0 (ins W.zeK (zIW W x) (zEL x o p rs rb) i);have hk:zIW W x<=W.sn:=zah W x;rcases Nat.lt_trichotomy i (zIW W x)with e | e | e
  · rw[zYc e];exact L.set (by omega)
  · rw[e,zYa];exact⟨Nat.zero_le _,hx,hp⟩
  · rw[zYb e];exact L.set (by omega)
theorem zHi(W:zB)(x:ByteArray):zAz 0 (zEZ W x).world:=by
  unfold zEZ
  repeat' split
  all_goals first
    | exact zCz
    | exact zRq (zG4 (by rename_i h _;exact h.1)) (by omega) (by omega)
theorem zMr(W:zB)(id:Int)(x:ByteArray):zAz 0 (zFC W id x).world:=by
  unfold zFC
  repeat' split
  all_goals first
    | exact zCz
    | (rename_i h8 hR hH _
       have:=hH.range hR.1.zeM.zeI;exact zRq (zG4 hR.1) (by omega) (by omega))
theorem zGw(W:zB)(x a:ByteArray):zAz 0 (zEo W x a).world:=by
  unfold zEo
  repeat' split
  all_goals first
    | exact zCz
    | skip
  rename_i h8 hR hH _ h20
  have L:=zG4 hR.1;have hp:=L.pn;have hn:=L.next;have hs:=L.sn;refine⟨by have:=L.pool;show qs W.pool<=_;omega,by show W.sn<=9;omega,by show W.pn+1<=21;omega,by show 0<=W.next+1/\W.next+1<=_;omega,fun i hi=>?_,fun i hi=>?_⟩
  · replace hi:i<W.sn:=hi
    show zFm 0 (if i=zA2 W x then {W.zeK (zA2 W x)with zeL:=W.next,dn:=0}else W.zeK i);split
    · rename_i e
      have g:=L.set hi;rw[<-e];exact⟨Nat.zero_le _,g.name,by show 0<=W.next/\W.next<=_;omega⟩
    · exact L.set hi
  · replace hi:i<W.pn+1:=hi
    show zGG 0 (if i=W.pn then zGe W (zA2 W x) a x else W.zeJ i);split
    · have hk:=zH1 hH
      have aA:=zBT.2 hH;have g:=L.set (i:=zA2 W x) (by show(zBb W.sn fun k=>(W.zeK k).name=x).toNat<W.sn;omega);exact⟨g.dn,by show a.size<=8000;omega,by show x.size<=8000;omega,g.zeL,by show 0<=W.next/\W.next<=_;omega⟩
    · exact L.snap (by omega)
theorem zOA(W:zB)(k:Nat)(t:Int):(zIU W k t).length<=73:=Nat.le_trans (zB0 ..) (qx ..)
theorem zKl(W:zB)(x:ByteArray):zAz 0 (zEl W x).world:=by
  unfold zEl zNm
  repeat' split
  all_goals first
    | exact zCz
    | skip
  rename_i h8 hR hH hK
  have L:=zG4 hR;have hy:=zOA W (zA2 W x) (W.zeJ (zH3 W (W.zeK (zA2 W x)).zeL)).time;refine⟨?_,by have:=L.sn;show W.sn<=9;omega,by have:=L.pn;show W.pn<=21;omega,by have:=L.next;show 0<=W.next/\W.next<=_;omega,fun i hi=>?_,fun i hi=>L.snap hi⟩
  · show qs (zT W.pool _)<=_
    rw[zFf];have:=L.pool;omega
  · replace hi:i<W.sn:=hi
    show zFm 0 (if i=zA2 W x then {W.zeK (zA2 W x)with rs:=_,rb:=_,dn:=0}else W.zeK i);split
    · rename_i e
      have g:=L.set hi;rw[<-e];exact⟨Nat.zero_le _,g.name,g.zeL⟩
    · exact L.set hi
theorem zKk(W:zB)(x:ByteArray):zAz 0 (zEe W x).world:=by
  unfold zEe
  repeat' split
  all_goals first
    | exact zCz
    | skip
  rename_i h8 hR hH hK
  have L:=zG4 hR;have hy:=zOA W (zA2 W x) (zE W (W.zeK (zA2 W x)).zeL).time;refine⟨?_,by have:=L.sn;show W.sn - 1<=9;omega,by have:=L.pn;show W.pn<=21;omega,by have:=L.next;show 0<=W.next/\W.next<=_;omega,fun i hi=>?_,fun i hi=>L.snap hi⟩
  · show qs (zT W.pool _)<=_
    rw[zFf];have:=L.pool;omega
  · replace hi:i<W.sn - 1:=hi
    show zFm 0 (if i<zA2 W x then W.zeK i else W.zeK (i+1));split
    · exact L.set (by omega)
    · exact L.set (by omega)
theorem zYM(W:zB)(x:ByteArray):zAz 0 (zSd W x).world:=by
  unfold zSd zZt
  repeat' split
  all_goals first
    | exact zCz
    | skip
  rename_i h8 hR hH _ _
  have L:=zG4 hR;refine⟨by have:=L.pool;show qs W.pool<=_;omega,by have:=L.sn;show W.sn<=9;omega,by have:=L.pn;show W.pn<=21;omega,by have:=L.next;show 0<=W.next/\W.next<=_;omega,fun i hi=>?_,fun i hi=>?_⟩
  · replace hi:i<W.sn:=hi
    have g:=L.set hi;unfold zZu;dsimp only;split
    · rename_i e;rw[<-e];exact⟨g.dn,g.name,g.zeL⟩
    · split
      · rename_i e;rw[<-e];exact⟨g.dn,g.name,g.zeL⟩
      · exact g
  · replace hi:i<W.pn:=hi
    have g:=L.snap hi;unfold zZu zLr;dsimp only;split
    · exact⟨g.dn,g.name,by show x.size<=8000;omega,g.zeL,g.id⟩
    · exact g
theorem zRr{W:zB}(L:zRF W){k:Nat}{t:zEd}(h1:qs t.pool<=qs W.pool+40)(h2:t.old.length<=3):zAz 0 (zGB W k t).world:=by
  unfold zGB;split;rotate_left
  · exact zCz
  have hy:(zbC W k t).length<=t.old.length:=zB0 ..;have ho:(zdc W k t).length<=t.old.length:=zHx ..;refine⟨?_,by have:=L.sn;show W.sn<=9;omega,by have:=L.pn;show W.pn<=21;omega,by have:=L.next;show 0<=W.next/\W.next<=_;omega,fun i hi=>?_,fun i hi=>L.snap hi⟩
  · show qs (zT t.pool _)<=_
    rw[zFf];have:=L.pool;omega
  · replace hi:i<W.sn:=hi
    show zFm 0 (if i=k then zNC W k t else W.zeK i);split
    · rename_i e
      subst e;have g:=L.set hi;have g':=(L.zeK i hi).1;refine⟨?_,g.name,g.zeL⟩;show(zYl W i t).length<=_;unfold zYl;rw[List.length_append,zIP];omega
    · exact L.set hi
theorem zTl(W:zB)(x:ByteArray)(aA:Int)(d:ByteArray):zAz 0 (zH4 W x aA d).world:=by
  unfold zH4
  repeat' split
  all_goals first
    | exact zCz
    | (rename_i h8 hR hH
       exact zRr (zG4 hR) (zH5 ..).1 (zH5 ..).2)
theorem zWd(W:zB)(x:ByteArray)(aA:Int):zAz 0 (zLg W x aA).world:=by
  unfold zLg
  repeat' split
  all_goals first
    | exact zCz
    | (rename_i h8 hR hH
       exact zRr (zG4 hR) (zJQ ..).1 (zJQ ..).2)
theorem zYN{W:zB}(L:zRF W){x:Int}{k:Nat}(hk:k<W.pn):zAz 0 (sdK W x k).world:=by
  have gk:=L.snap hk;have bA:=(L.zeJ k hk).1;have aA:∀{f:Nat->zl},(∀i,i<W.pn->zGG 0 (f i))->∀i,i<W.pn - 1->zGG 0 (del f k i):=fun {f} hf i hi=>by
    unfold del;split
    · exact hf i (by omega)
    · exact hf (i+1) (by omega)
  have hl:∀(n:Nat) (f h:Nat->Int),(sdD W (W.zeJ k) n f h).length<=200+n:=fun n f h=>by
    unfold sdD;rw[List.length_append,zIP];have:(sdO W (W.zeJ k) n f h).length<=n:=zHx ..;omega
  have hs:=L.sn;have hp:=L.pn;have hn:=L.next;have hq:=L.pool;unfold sdK;split
  · rename_i h
    have hi:=h.choose_spec.1;generalize h.choose=i at hi ⊢;have g:=L.set hi;have g':=(L.zeK i hi).1;have hy:(zOX W k i).length<=(W.zeK i).dn:=zB0 ..;refine⟨by show qs (zT W.pool _)<=_;rw[zFf];omega,by show W.sn<=9;omega,by show W.pn - 1<=21;omega,by show 0<=W.next/\W.next<=_;omega,fun j hj=>?_,aA fun j hj=>L.snap hj⟩;show zFm 0 (if j=i then zV4 W (W.zeJ k) (W.zeK i)else W.zeK j);split
    · exact⟨Nat.le_trans (hl ..) (by omega),g.name,gk.zeL⟩
    · exact L.set hj
  split
  · rename_i h
    have hi:=h.choose_spec.1;generalize h.choose=i at hi ⊢;have g:=L.snap hi;have g':=(L.zeJ i hi).1;have hy:(zSl W k i).length<=(W.zeJ i).dn:=zB0 ..;refine⟨by show qs (zT W.pool _)<=_;rw[zFf];omega,by show W.sn<=9;omega,by show W.pn - 1<=21;omega,by show 0<=W.next/\W.next<=_;omega,fun j hj=>L.set hj,aA fun j hj=>?_⟩;show zGG 0 (if j=i then zQx W (W.zeJ k) (W.zeJ i)else W.zeJ j);split
    · exact⟨Nat.le_trans (hl ..) (by omega),g.name,g.set,gk.zeL,g.id⟩
    · exact L.snap hj
  · exact⟨by show qs W.pool<=_;omega,by show W.sn<=9;omega,by show W.pn - 1<=21;omega,by show 0<=W.next/\W.next<=_;omega,fun j hj=>L.set hj,aA fun j hj=>L.snap hj⟩
theorem za3(W:zB)(x:Int):zAz 0 (sdE W x).world:=by
  unfold sdE
  repeat' split
  all_goals first
    | exact zCz
    | skip
  rename_i hR hH h1
  refine zYN (zG4 hR) ?_;have hk:=zPK hH;have aA:=zJx.2 hH;show(zBb W.pn fun k=>(W.zeJ k).id=x).toNat<W.pn;omega
theorem zWc{c:Nat}{W:zB}(h:zAz c W):zAz c {W with pool:=zLf W.pool}:=⟨Nat.le_trans (zXe _) h.pool,h.sn,h.pn,h.next,h.zeK,h.zeJ⟩
abbrev tT:List (Bool×List Tr):=[(false,[.v (.bool true)])]
abbrev byT(n:Nat)(f:Nat->Int):Bool×List Tr:=(false,[.s .z 1 n (zF6 f)])
def zFl(n:Nat)(f:Nat->Int):Prop:=n<=2000000/\∀i,i<n->0<=f i/\f i<256
end Go.Proofs.YtjganmlaooofoaaGreatDoor
