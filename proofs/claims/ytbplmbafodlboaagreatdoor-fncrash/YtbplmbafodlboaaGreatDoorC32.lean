/- A part of the proof. -/
import Derived.Test.YtbplmbafodlboaaGreatDoorC31
import Derived.ChangeSame
import Derived.ChangeVars
import Derived.JoinedOf
import Derived.LaidLaws
import Derived.Stop.LaidTwo
import Derived.Stop.Joined
import Derived.Stop.ErrReads
import Derived.MakeChecks
import Derived.ChangeOld
set_option linter.unusedVariables false
set_option maxRecDepth 20000
set_option maxHeartbeats 4000000
namespace Go.Proofs.YtbplmbafodlboaaGreatDoor
open Go.RowKit
set_option linter.unusedSimpArgs false
set_option maxRecDepth 20000
set_option maxHeartbeats 3200000
attribute [local go_sem] qX List.map_cons List.map_nil Tr.cv yp qD qs qq yo yn ym qp zAu zAw zAv zAr zAt zAs zCF zCH zCG qH zl qI zm qB qA qM yx zi zj qw qG tmpsOf zAf qv qF zAp yv yr yq yu stpP opds opd opdC kap zAG qC zh coreU bin zAb zB0 get put dlO fgt zA8 zA1 zA5 zA6 tyT yj yi Op.operands Call.operands evLoad evLen evStore evAlloc zAa and_true true_and List.append_nil List.nil_append List.cons_append Ret resCv zBs yQ cellM zBV zBw qY StW StR hpT hpO hpV hpA hpL hpC sg nin zB6 bdO tmW obW AvE CsE CvE Av.tup Av.ids Cv.ids inD ObE Ob.ids TrE.refl qE qt qu qJ qK qL zk ze zb yw zBc zB1 zAy evCall argL argOf qh outOb obO yL zy cvO tot Tr.own rid partsOf fillC zW zBU frz frz1 evBuildSlice zc trs Cv.tr evSlice Option.toArray_none Option.toArray_some evMakeSlice evAppend dstOf srcOf zBC zA7 zA4 zA2 zA3 ikT qn qm ql qk RetP RetN zBd qQ evLd evSt evStoreH zAX evAppendM evAppendT tlOf mvOf rowE shp evTake oOf evC evCallP evCallN evCallO unlast zAW zBB zAU argsF zB5 qy pmC varT vT evField evConv dB0 Option.bind_some Option.bind_none Option.map_some Option.map_none Option.isSome_some Option.isSome_none
attribute [local go_sem] yC zX zAg yI qe zAO zAP zAQ zAR zAS zAT yV yW yX yY yZ yb yd ye qz qV
attribute [-go_sem] zX
attribute [local go_sem] yS zBX zBY yg yG
noncomputable def zUE:za:=qZ (fun q:zE×Int×Int×Nat=>[poT q.1.n q.1.s q.1.hn q.1.h,pT q.2.1 q.2.2.1,iT (q.2.2.2:Int)]) (fun q=>zAm q.1 q.2.1 q.2.2.1/\q.2.2.2<64) (fun q=>[(false,[.v (.string (lwD q.1 q.2.1 q.2.2.1 q.2.2.2))])])
theorem zS5(p:zE)(a b:Int)(k:Nat):zUE [poT p.n p.s p.hn p.h,pT a b,iT (k:Int)]=some (zAm p a b/\k<64,[(false,[.v (.string (lwD p a b k))])]):=zO (fun l=>(zDm (nth l 0 0) (nth l 0 1),qd (nth l 1 0),qd (nth l 1 1),(qd (nth l 2 0)).toNat)) (fun _=>rfl) (p,a,b,k)
theorem zbs{p:zE}{a b:Int}(h:yT p a b):b≠0/\0<=a/\a<p.n:=⟨by have:=h.1;omega,h.2.1,h.2.2.1⟩
theorem zVn:zp Tryz.prog 67 zUE:=by
 refine zR zs GOk.nil zr Tryz.func67 rfl Tryz.ntmps67 Tryz.results67 9 ?_;rintro⟨p,a,b,k⟩ ⟨hT,hk⟩;replace hT:zAm p a b:=hT;replace hk:k<64:=hk;refine⟨by simp,?_⟩;by_cases hN:Nil a b
 ·obtain⟨rfl,rfl⟩:=id hN;simp[go_sem,zMf hN]
 obtain⟨cA,bA,-⟩:=hT.2.resolve_left hN;have h8:=zHt hT.1 cA;obtain⟨e1,e2,e3⟩:=zbs cA.1;have e4:(k / 8:Nat)<8:=by omega
 have q1:zDW p a b k=(p.s a.toNat).ks (k / 8):=(if_neg hN).trans (zCp h8 e4);have q2:zDp p a b k=(p.s a.toNat).kb (k / 8):=(if_neg hN).trans (zDC h8 e4);have hM:=bA.1 (k / 8) e4;unfold zNu at hM;rw[zCp h8 e4,zDC h8 e4]at hM;simp[go_sem,zQB hk,zVB,e1,e2,e3,h8];rw[show((k:Int) / 8).toNat=k / 8 by omega,show((k:Int) % 8).toNat=k % 8 by omega];refine⟨by omega,fun h=>?_,fun h=>?_⟩
 ·have hz:=hM.resolve_right fun g=>by have:=g.1.1.1;omega
  exact(zMe (by rw[q1,q2];exact hz)).symm
 obtain⟨g1,g2⟩:=hM.resolve_left fun e=>h e.2
 have aA:=zHt hT.1 g1;have e5:k % 8<8:=by omega
 have hP:=g2.1 (k % 8) e5;rw[zCp aA e5,zDC aA e5]at hP;have hn:¬Nil (zDW p a b k) (zDp p a b k):=by rw[q1,q2];exact fun e=>h e.2
 have d1:zFO p a b k=(p.s ((p.s a.toNat).ks (k / 8)).toNat).ks (k % 8):=(if_neg hn).trans (by rw[q1];exact zCp aA e5);have d2:zFf p a b k=(p.s ((p.s a.toNat).ks (k / 8)).toNat).kb (k % 8):=(if_neg hn).trans (by rw[q1];exact zDC aA e5);refine⟨⟨g1.1.2.1,g1.1.2.2.1⟩,⟨by omega,by rw[aA];omega⟩,fun h0=>?_,fun h0=>?_⟩
 ·have hz:=hP.resolve_right fun g=>by have:=g.1.1;omega
  exact(if_pos (by rw[d1,d2];exact hz)).symm
 ·have g:=hP.resolve_left fun e=>h0 e.2
  exact⟨⟨g.1.2.1,g.1.2.2.1⟩,((if_neg (by rw[d1,d2];exact fun e=>h0 e.2)).trans (by rw[d1])).symm⟩
noncomputable def zUG:za:=qZ (fun q:zE×Int×Int×zE×Int×Int×Int=>[poT q.1.n q.1.s q.1.hn q.1.h,pT q.2.1 q.2.2.1,poT q.2.2.2.1.n q.2.2.2.1.s q.2.2.2.1.hn q.2.2.2.1.h,pT q.2.2.2.2.1 q.2.2.2.2.2.1,iT q.2.2.2.2.2.2]) (fun q=>zAm q.1 q.2.1 q.2.2.1/\zAm q.2.2.2.1 q.2.2.2.2.1 q.2.2.2.2.2.1/\∀k:Nat,k<64->(k:Int)≠q.2.2.2.2.2.2->lwD q.1 q.2.1 q.2.2.1 k=lwD q.2.2.2.1 q.2.2.2.2.1 q.2.2.2.2.2.1 k) (fun _=>tT)
theorem zMk(p:zE)(a b:Int)(q:zE)(c d x:Int):zUG [poT p.n p.s p.hn p.h,pT a b,poT q.n q.s q.hn q.h,pT c d,iT x]=some (zAm p a b/\zAm q c d/\∀k:Nat,k<64->(k:Int)≠x->lwD p a b k=lwD q c d k,tT):=zO (fun l=>(zDm (nth l 0 0) (nth l 0 1),qd (nth l 1 0),qd (nth l 1 1),zDm (nth l 2 0) (nth l 2 1),qd (nth l 3 0),qd (nth l 3 1),qd (nth l 4 0))) (fun _=>rfl) (p,a,b,q,c,d,x)
theorem zVp:zp Tryz.prog 38 zUG:=by
 refine zR zs (GOk.cons zVn (zF Tryz.func67 rfl rfl) GOk.nil) zr Tryz.func38 rfl Tryz.ntmps38 Tryz.results38 12 ?_;rintro⟨p,a,b,q,c,d,x⟩ ⟨h1,h2,h3⟩;replace h1:zAm p a b:=h1;replace h2:zAm q c d:=h2;replace h3:∀k:Nat,k<64->(k:Int)≠x->lwD p a b k=lwD q c d k:=h3;refine⟨by simp,?_⟩;simp[go_sem];refine yF (fun k:Nat=>⟨[(5,true,.m false [.p 5 0]),(6,true,.m false [.p 6 0]),(7,true,.m false [.p 7 0]),(8,true,.m false [.p 8 0]),(4,true,.i x),(11,true,.i k)],[(8,.var [.v (.int .i64 c),.v (.int .i64 d)]),(7,.var [.s .b 3 q.n (zY .b q.s),.s .b 1 q.hn (qx q.h)]),(6,.var [.v (.int .i64 a),.v (.int .i64 b)]),(5,.var [.s .b 3 p.n (zY .b p.s),.s .b 1 p.hn (qx p.h)])]⟩) (fun k=>64 - k) (fun k=>k<=64) 0 (by simp[go_sem]) (by simp) ?_;rintro k hk;simp[go_sem,zS5,qN (show k<=1000000000 by omega),h1,h2];exact fun hl=>⟨fun _=>by omega,by kernel_rfl,fun hx=>by rw[h3 k (by omega) hx],fun _=>⟨k+1,by omega,by omega,rfl⟩⟩
structure zTc (W V:zB) (x:ByteArray) (y:Int):Prop where
 zc1:∀i,i<W.sn->(W.zc1 i).name≠x->(zKG V (W.zc1 i).name).name=(W.zc1 i).name/\∀k,k<64->lwD W.pool (W.zc1 i).rs (W.zc1 i).rb k=lwD V.pool (zKG V (W.zc1 i).name).rs (zKG V (W.zc1 i).name).rb k
 zcy:∀i,i<W.pn->(W.zcy i).id≠y->(zGI V (W.zcy i).id).id=(W.zcy i).id/\∀k,k<64->lwD W.pool (W.zcy i).rs (W.zcy i).rb k=lwD V.pool (zGI V (W.zcy i).id).rs (zGI V (W.zcy i).id).rb k
theorem zWM{V:zB}(h:zAL V)(x:ByteArray):qT V.pool (zKG V x).rs (zKG V x).rb:=by
 unfold zKG;split
 ·rename_i g
  obtain⟨k,g1,-,-,g4⟩ | ⟨g1,-⟩:=zEq V.sn fun k=>(V.zc1 k).name=x
  ·rw[g4];exact(h.zc1 k g1).1
  ·obtain⟨k,h1,h2⟩:=g.2.1;exact absurd h2 (g1 k h1)
 ·exact .inl ⟨rfl,rfl⟩
theorem zTR{V:zB}(h:zAL V)(x:Int):qT V.pool (zGI V x).rs (zGI V x).rb:=by
 unfold zGI;split
 ·rename_i g
  obtain⟨k,g1,-,-,g4⟩ | ⟨g1,-⟩:=zEq V.pn fun k=>(V.zcy k).id=x
  ·rw[g4];exact h.zcy k g1
  ·obtain⟨k,h1,h2⟩:=g.1;exact absurd h2 (g1 k h1)
 ·exact .inl ⟨rfl,rfl⟩
noncomputable def zUD:za:=qZ (fun q:zB×zB×ByteArray×Int=>[woT q.1,woT q.2.1,sT q.2.2.1,iT q.2.2.2]) (fun q=>(SmallW q.1/\SmallW q.2.1)/\(zAL q.1/\zAL q.2.1)/\zTc q.1 q.2.1 q.2.2.1 q.2.2.2) (fun _=>tT)
theorem zS4(W V:zB)(x:ByteArray)(y:Int):zUD [woT W,woT V,sT x,iT y]=some ((SmallW W/\SmallW V)/\(zAL W/\zAL V)/\zTc W V x y,tT):=zO (fun l=>(zCX (nth l 0),zCX (nth l 1),zDn (nth l 2 0),qd (nth l 3 0))) (fun _=>rfl) (W,V,x,y)
theorem zVm:zp Tryz.prog 15 zUD:=by
 refine zR zs (GOk.cons zWm (zF Tryz.func37 rfl rfl) (GOk.cons zVG (zF Tryz.func39 rfl rfl) (GOk.cons zVp (zF Tryz.func38 rfl rfl) GOk.nil))) zr Tryz.func15 rfl Tryz.ntmps15 Tryz.results15 15 ?_;rintro⟨W,V,x,y⟩ ⟨⟨sW,sV⟩,⟨hW,hV⟩,hK⟩;replace sW:SmallW W:=sW;replace sV:SmallW V:=sV;replace hW:zAL W:=hW;replace hV:zAL V:=hV;replace hK:zTc W V x y:=hK;have h8:W.sn<=8:=hW.zc3.2.2.1;have aA:W.pn<=20:=hW.zc3.2.2.2.1;refine⟨by simp,?_⟩;simp[go_sem];refine yF (fun k:Nat=>⟨[(4,true,.m false [.p 4 0]),(5,true,.m false [.p 5 0]),(2,true,.m false [.v (.string x)]),(3,true,.i y),(9,true,.i k)],[(5,.var ((woL V).map Tr.cv)),(4,.var ((woL W).map Tr.cv))]⟩) (fun k=>W.sn - k) (fun k=>k<=W.sn) 0 (by simp[go_sem]) (by simp) ?_;intro k hk;obtain⟨D,hD⟩:∃D,zKG V (W.zc1 k).name=D:=⟨_,rfl⟩;simp[go_sem,zVz,zMk,qN (show k<=1000000000 by omega),sV,hD];refine⟨fun hl=>?_,fun hl=>?_⟩
 ·have hN:¬(W.zc1 k).name.toList=x.toList->D.name=(W.zc1 k).name/\∀j,j<64->lwD W.pool (W.zc1 k).rs (W.zc1 k).rb j=lwD V.pool D.rs D.rb j:=fun h=>hD▸hK.zc1 k hl fun e=>h (congrArg ByteArray.toList e)
  exact⟨hl,fun h _=>⟨⟨hW.right,(hW.zc1 k hl).1⟩,⟨hV.right,hD▸zWM hV _⟩,(hN h).2⟩,fun h e=>⟨h,e⟩,fun h=>congrArg ByteArray.toList (hN h).1,fun _=>⟨k+1,by omega,by omega,rfl⟩⟩
 refine yF (fun k:Nat=>⟨[(4,true,.m false [.p 4 0]),(5,true,.m false [.p 5 0]),(3,true,.i y),(12,true,.i k)],[(5,.var ((woL V).map Tr.cv)),(4,.var ((woL W).map Tr.cv))]⟩) (fun k=>W.pn - k) (fun k=>k<=W.pn) 0 (by simp[go_sem]) (by simp) ?_;intro k hk;obtain⟨D,hD⟩:∃D,zGI V (W.zcy k).id=D:=⟨_,rfl⟩;simp[go_sem,zTA,zMk,qN (show k<=1000000000 by omega),sV,hD];intro hl;have hN:¬(W.zcy k).id=y->D.id=(W.zcy k).id/\∀j,j<64->lwD W.pool (W.zcy k).rs (W.zcy k).rb j=lwD V.pool D.rs D.rb j:=fun h=>hD▸hK.zcy k hl h
 exact⟨hl,fun h _=>⟨⟨hW.right,hW.zcy k hl⟩,⟨hV.right,hD▸zTR hV _⟩,(hN h).2⟩,fun h e=>⟨h,e⟩,fun h=>(hN h).1,fun _=>⟨k+1,by omega,by omega,rfl⟩⟩
set_option maxRecDepth 20000
set_option maxHeartbeats 3200000
attribute [local go_sem] qX List.map_cons List.map_nil Tr.cv yp qD qs qq yo yn ym qp zAu zAw zAv zAr zAt zAs zCF zCH zCG qH zl qI zm qB qA qM yx zi zj qw qG tmpsOf zAf qv qF zAp yv yr yq yu stpP opds opd opdC kap zAG qC zh coreU bin zAb zB0 get put dlO fgt zA8 zA1 zA5 zA6 tyT yj yi Op.operands Call.operands evLoad evLen evStore evAlloc zAa and_true true_and List.append_nil List.nil_append List.cons_append Ret resCv zBs yQ cellM zBV zBw qY StW StR hpT hpO hpV hpA hpL hpC sg nin zB6 bdO tmW obW AvE CsE CvE Av.tup Av.ids Cv.ids inD ObE Ob.ids TrE.refl qE qt qu qJ qK qL zk ze zb yw zBc zB1 zAy evCall argL argOf qh outOb obO yL zy cvO tot Tr.own rid partsOf fillC zW zBU frz frz1 evBuildSlice zc trs Cv.tr evSlice Option.toArray_none Option.toArray_some evMakeSlice evAppend dstOf srcOf zBC zA7 zA4 zA2 zA3 ikT qn qm ql qk RetP RetN zBd qQ evLd evSt evStoreH zAX evAppendM evAppendT tlOf mvOf rowE shp evTake oOf evC evCallP evCallN evCallO unlast zAW zBB zAU argsF zB5 qy pmC varT vT evField evConv dB0 Option.bind_some Option.bind_none Option.map_some Option.map_none Option.isSome_some Option.isSome_none
attribute [local go_sem] yC zX zAg yI qe zAO zAP zAQ zAR zAS zAT yV yW yX yY yZ yb yd ye qz qV
attribute [-go_sem] zX zAb
attribute [local go_sem] yS zBX zBY yg yG zHo zHp zKf zKd zKe zG6 zG7 zG8 zKY zTg zTh zKc zKb zKa zKZ zCj
noncomputable def zIY(n:Nat)(f:Nat->Int):zx:=(zDF (zKI n f)).2
theorem zN9{n:Nat}{f:Nat->Int}(h:zGP n f):zBI 1 (zIY n f):=(zYz (zKJ h.1 h.2)).2
noncomputable def zPf:za:=qZ (fun q:Nat×(Nat->Int)=>[byT q.1 q.2]) (fun q=>zGP q.1 q.2) (fun q=>[stO (zIY q.1 q.2)])
theorem zGj(n:Nat)(f:Nat->Int):zPf [byT n f]=some (zGP n f,[stO (zIY n f)]):=zO (fun l=>(zFr (nth l 0 0),fun i=>match zCf (nth l 0 0) i 0 with | .v (.int _ x)=>x | _=>0)) (fun _=>rfl) (n,f)
theorem zIz:zp Tryz.prog 5 zPf:=by
 refine zR zs (GOk.new zJU (zF Tryz.func24 rfl rfl) (GOk.ptr zKu (zF Tryz.func25 rfl rfl) GOk.nil)) zr Tryz.func5 rfl Tryz.ntmps5 Tryz.results5 3 ?_;rintro⟨n,f⟩ hb;replace hb:zGP n f:=hb;have h0:=zKJ hb.1 hb.2;have hn:=hb.1;have eD:(zDF (zKI n f)).2=zIY n f:=rfl;refine⟨by simp,?_⟩;simp[go_sem,zMn,zOc,hn,h0,eD,zw,zU,zd,zt,zf]
theorem zJp:zp Tryz.prog 12 zPf:=by
 refine zR zs (GOk.new zJU (zF Tryz.func24 rfl rfl) (GOk.ptr zKu (zF Tryz.func25 rfl rfl) GOk.nil)) zr Tryz.func12 rfl Tryz.ntmps12 Tryz.results12 3 ?_;rintro⟨n,f⟩ hb;replace hb:zGP n f:=hb;have h0:=zKJ hb.1 hb.2;have hn:=hb.1;have eD:(zDF (zKI n f)).2=zIY n f:=rfl;refine⟨by simp,?_⟩;simp[go_sem,zMn,zOc,hn,h0,eD,zw,zU,zd,zt,zf]
open Go.Maps
def zKT(p q:zE)(rs rb:Int):Prop:=q.n=p.n/\∀z,z∈zN p rs rb->q.s z.1.toNat=p.s z.1.toNat/\¬Has q.hn q.h z.1
section
variable {p q : zE} {rs rb : Int}
theorem zJZ(h:¬Nil rs rb):(rs,rb)∈zN p rs rb:=by
 unfold zN;rw[if_neg h];exact List.mem_cons_self ..
theorem zUU(h:¬Nil rs rb){x:Int×Int}{i:Nat}(hi:i<8)(hx:x∈zGm p (qS (p.s rs.toNat) i) (yh (p.s rs.toNat) i)):x∈zN p rs rb:=by
 unfold zN;rw[if_neg h];exact List.mem_cons_of_mem _ (zD8.2 ⟨i,hi,hx⟩)
theorem zLO(h:¬Nil rs rb){i:Nat}(hi:i<8)(hk:¬Nil (qS (p.s rs.toNat) i) (yh (p.s rs.toNat) i)):(qS (p.s rs.toNat) i,yh (p.s rs.toNat) i)∈zN p rs rb:=zUU h hi (zFN.2 ⟨hk,.inl rfl⟩)
theorem zPj(h:¬Nil rs rb){i j:Nat}(hi:i<8)(hj:j<8)(hk:¬Nil (qS (p.s rs.toNat) i) (yh (p.s rs.toNat) i))(hl:¬Nil (qS (p.s (qS (p.s rs.toNat) i).toNat) j) (yh (p.s (qS (p.s rs.toNat) i).toNat) j)):(qS (p.s (qS (p.s rs.toNat) i).toNat) j,yh (p.s (qS (p.s rs.toNat) i).toNat) j)∈zN p rs rb:=zUU h hi (zFN.2 ⟨hk,.inr (zD7.2 ⟨j,hj,rfl,hl⟩)⟩)
theorem zR4{s:zM}:∀{k:Nat},(∀i,i<k->¬Nil (qS s i) (yh s i)->q.s (qS s i).toNat=p.s (qS s i).toNat)->zCS q s k=zCS p s k
 | 0,_=>rfl
 | k+1,h=>by
  unfold zCS;rw[zR4 (fun i hi=>h i (by omega))];congr 1;unfold zGm;by_cases hz:Nil (qS s k) (yh s k)
  ·rw[if_pos hz,if_pos hz]
  ·rw[if_neg hz,if_neg hz,h k (Nat.lt_succ_self k) hz]
theorem zKT.tree(h:zKT p q rs rb):zN q rs rb=zN p rs rb:=by
 by_cases hz:Nil rs rb
 ·unfold zN;rw[if_pos hz,if_pos hz]
 ·have e:=(h.2 _ (zJZ hz)).1;have:=zR4 (p:=p) (q:=q) (s:=p.s rs.toNat) (k:=8) fun i hi hk=>(h.2 _ (zLO hz hi hk)).1
  unfold zN;rw[if_neg hz,if_neg hz,e,this]
theorem zKT.ok(h:zKT p q rs rb)(ht:qT p rs rb):qT q rs rb:=by
 refine ht.imp id fun ⟨hN,hT,hD⟩=>?_
 have hz:¬Nil rs rb:=fun e=>by have:=hN.1.1;have:=e.2;omega
 have pt:∀a b,(a,b)∈zN p rs rb->yT p a b->yT q a b:=fun a b hm hp=>⟨hp.1,hp.2.1,by rw[h.1];exact hp.2.2.1,by rw[(h.2 _ hm).1];exact hp.2.2.2⟩
 have nd:∀a b,(a,b)∈zN p rs rb->zIP p a b->zIP q a b:=fun a b hm hp=>⟨pt a b hm hp.1,by rw[(h.2 _ hm).1];exact hp.2.1,(h.2 _ hm).2⟩
 refine⟨nd _ _ (zJZ hz) hN,?_,by rw[h.tree];exact hD⟩;rw[(h.2 _ (zJZ hz)).1];refine⟨fun i hi=>?_,hT.2⟩;by_cases hk:Nil (qS (p.s rs.toNat) i) (yh (p.s rs.toNat) i)
 ·exact .inl hk
 obtain⟨g1,g2⟩:=(hT.1 i hi).resolve_left hk;have hm:=zLO hz hi hk;refine .inr ⟨nd _ _ hm g1,?_⟩;rw[(h.2 _ hm).1];refine⟨fun j hj=>?_,g2.2⟩;by_cases hl:Nil (qS (p.s (qS (p.s rs.toNat) i).toNat) j) (yh (p.s (qS (p.s rs.toNat) i).toNat) j)
 ·exact .inl hl
 have hp:=(g2.1 j hj).resolve_left hl;have aA:=zPj hz hi hj hk hl;exact .inr ⟨pt _ _ aA hp.1,by rw[(h.2 _ aA).1];exact hp.2.1,(h.2 _ aA).2⟩
theorem zKT.page(h:zKT p q rs rb){k:Nat}(hk:k<64):lwD q rs rb k=lwD p rs rb k:=by
 by_cases hz:Nil rs rb
 ·rw[zMf hz,zMf hz]
 have e:=(h.2 _ (zJZ hz)).1;have a1:zDW q rs rb k=zDW p rs rb k/\zDp q rs rb k=zDp p rs rb k:=by
  unfold zDW zDp zFK zFJ;rw[if_neg hz,if_neg hz,if_neg hz,if_neg hz,e];exact⟨rfl,rfl⟩
 by_cases hn:Nil (zDW p rs rb k) (zDp p rs rb k)
 ·rw[zMe hn,zMe (by rw[a1.1,a1.2];exact hn)]
 have c1:zDW p rs rb k=qS (p.s rs.toNat) (k / 8):=if_neg hz;have c2:zDp p rs rb k=yh (p.s rs.toNat) (k / 8):=if_neg hz;have aA:¬Nil (qS (p.s rs.toNat) (k / 8)) (yh (p.s rs.toNat) (k / 8)):=by rw[<-c1,<-c2];exact hn
 have e2:q.s (zDW p rs rb k).toNat=p.s (zDW p rs rb k).toNat:=by rw[c1];exact(h.2 _ (zLO hz (by omega) aA)).1
 have a2:zFO q rs rb k=zFO p rs rb k/\zFf q rs rb k=zFf p rs rb k:=by
  unfold zFO zFf;rw[a1.1,a1.2];unfold zFK zFJ;rw[if_neg hn,if_neg hn,if_neg hn,if_neg hn,e2];exact⟨rfl,rfl⟩
 unfold lwD;rw[a2.1,a2.2];by_cases hp:Nil (zFO p rs rb k) (zFf p rs rb k)
 ·rw[if_pos hp,if_pos hp]
 ·rw[if_neg hp,if_neg hp];have d1:zFO p rs rb k=qS (p.s (qS (p.s rs.toNat) (k / 8)).toNat) (k % 8):=(by rw[<-c1];exact if_neg hn);have d2:zFf p rs rb k=yh (p.s (qS (p.s rs.toNat) (k / 8)).toNat) (k % 8):=(by rw[<-c1];exact if_neg hn);rw[d1,d2]at hp;rw[d1,(h.2 _ (zPj hz (by omega) (by omega) aA hp)).1]
theorem zWW(hR:zq p)(ht:qT p rs rb){x:Int×Int}(hx:x∈zN p rs rb){i:Nat}(hi:i<8)(hk:¬Nil (qS (p.s x.1.toNat) i) (yh (p.s x.1.toNat) i)):(qS (p.s x.1.toNat) i,yh (p.s x.1.toNat) i)∈zN p rs rb:=by
 by_cases hz:Nil rs rb
 ·unfold zN at hx;rw[if_pos hz]at hx;cases hx
 obtain⟨hN,hT,-⟩:=ht.resolve_left hz;have aA:=hx;unfold zN at aA;rw[if_neg hz]at aA;rcases List.mem_cons.1 aA with rfl | hs
 ·exact zLO hz hi hk
 obtain⟨j,hj,hm⟩:=zD8.1 hs;obtain⟨hn,rfl | hl⟩:=zFN.1 hm
 ·exact zPj hz hj hi hn hk
 ·obtain⟨l,bA,rfl,cA⟩:=zD7.1 hl;have hp:=(((hT.1 j hj).resolve_left hn).2.1 l bA).resolve_left cA;exact absurd ⟨zPa hp.2.1 i,zPY hp.2.1 i⟩ hk
end
theorem zPk{W:zB}(h:zAL W){i:Nat}(hi:i<memN W):qT W.pool (zK W i).rs (zK W i).rb:=(zJl h.right h.zc3 h.zcy fun j hj=>(h.zc1 j hj).1).tree i hi
structure OnW (W V:zB):Prop where
 sn:V.sn=W.sn
 zc1:V.zc1=W.zc1
 pn:V.pn=W.pn
 zcy:V.zcy=W.zcy
 next:V.next=W.next
 time:W.time<=V.time/\V.time<=900000
 tree:∀i,i<memN W->zKT W.pool V.pool (zK W i).rs (zK W i).rb
section
variable {W V : zB}
theorem OnW.snapNo(h:OnW W V)(x:Int)(k:Nat):zBD V x k↔zBD W x k:=by unfold zBD;rw[h.pn,h.zcy]
theorem OnW.ahead(h:OnW W V)(x:Int):zI V x=zI W x:=by
 by_cases hx:∃k,zBD W x k
 ·obtain⟨k,hk⟩:=hx;rw[zBO hk,zBO ((h.snapNo x k).2 hk),h.zcy]
 ·unfold zI;rw[dif_neg hx,dif_neg (fun ⟨k,hk⟩=>hx ⟨k,(h.snapNo x k).1 hk⟩)]
theorem OnW.memN(h:OnW W V):memN V=memN W:=by unfold Go.Proofs.YtbplmbafodlboaaGreatDoor.memN;rw[h.sn,h.pn]
theorem OnW.mem(h:OnW W V)(i:Nat):∃t,zK V i = {zK W i with time:=t}/\(zK W i).time<=t:=by
 unfold zK;rw[h.pn,h.zcy,h.zc1];by_cases hi:i<W.pn
 ·rw[if_pos hi,if_pos hi];exact⟨_,rfl,Int.le_refl _⟩
 ·rw[if_neg hi,if_neg hi];exact⟨V.time,rfl,h.time.1⟩
theorem OnW.treeM(h:OnW W V){i:Nat}(hi:i<Go.Proofs.YtbplmbafodlboaaGreatDoor.memN W):treeM V (zK V i)=Go.Proofs.YtbplmbafodlboaaGreatDoor.treeM W (zK W i):=by
 obtain⟨t,e,-⟩:=h.mem i;rw[e];exact(h.tree i hi).tree
theorem OnW.root(h:OnW W V)(x:Int):zN V.pool (zI W x).rs (zI W x).rb=zN W.pool (zI W x).rs (zI W x).rb:=by
 by_cases hx:∃k,zBD W x k
 ·obtain⟨k,hk⟩:=hx;rw[zBO hk];have:=(h.tree k (by unfold Go.Proofs.YtbplmbafodlboaaGreatDoor.memN;have:=hk.1;omega)).tree
  rwa [yR hk.1]at this
 ·unfold zI;rw[dif_neg hx];rfl
theorem OnW.oldM(h:OnW W V)(i:Nat):oldM V (zK V i)=Go.Proofs.YtbplmbafodlboaaGreatDoor.oldM W (zK W i):=by
 obtain⟨t,e,-⟩:=h.mem i;rw[e];show zN V.pool (zI V (zK W i).zc2).rs (zI V (zK W i).zc2).rb=_;rw[h.ahead,h.root];rfl
theorem OnW.spec(h:OnW W V)(hs:zAL W)(hR:zq V.pool)(hE:zO5 V):zAL V:=by
 have cA:∀x,zB2 V x↔zB2 W x:=fun x=>by unfold zB2;rw[h.pn,h.zcy]
 have eA:∀x,zBW V x↔zBW W x:=fun x=>by unfold zBW;rw[h.sn,h.zc1]
 have iA:∀{nm st n x},Steps W nm st n x->Steps V nm st n x:=fun {nm st n x} g=>by
  induction g with
  | zero=>exact .zero
  | next _ hk hn ih=>
   have:=Steps.next ih ((h.snapNo _ _).2 hk) (by rw[h.zcy];exact hn)
   rwa [h.zcy]at this
 have dA:∀nm k,ownN V nm k=ownN W nm k:=fun nm k=>by
  induction k with
  | zero=>rfl
  | succ k ih=>unfold ownN;rw[ih,h.zcy]
 have fA:∀i,(zK V i).rs=(zK W i).rs/\(zK V i).rb=(zK W i).rb:=fun i=>by obtain⟨t,e,-⟩:=h.mem i;rw[e];exact⟨rfl,rfl⟩
 have aA:∀i,i<Go.Proofs.YtbplmbafodlboaaGreatDoor.memN W->zEa W i->zEa V i:=fun i hi g=>by
  unfold zEa at g ⊢;rw[h.treeM hi,h.oldM i];obtain⟨t,e,-⟩:=h.mem i;rw[e];exact g
 have gA:∀i,i<V.pn->i<Go.Proofs.YtbplmbafodlboaaGreatDoor.memN W:=fun i hi=>by unfold Go.Proofs.YtbplmbafodlboaaGreatDoor.memN;rw[h.pn]at hi;omega
 have bA:∀i,i<Go.Proofs.YtbplmbafodlboaaGreatDoor.memN W->qT V.pool (zK V i).rs (zK V i).rb:=fun i hi=>by
  rw[(fA i).1,(fA i).2];exact(h.tree i hi).ok (zPk hs hi)
 refine⟨hR,?_,?_,fun i hi=>?_,fun i hi=>?_,fun i hi=>aA i (gA i hi) (hs.dead i (by rw[<-h.pn];exact hi)),hE,fun i hi=>?_,?_⟩
 ·obtain⟨⟨a1,a2⟩,a3,a4,a5,a6,a7⟩:=hs.zc3;have ht:=h.time;refine⟨⟨by omega,ht.2⟩,by rw[h.next];exact a3,by rw[h.sn];exact a4,by rw[h.pn];exact a5,fun i hi=>?_,fun i hi=>?_⟩
  ·have g:=a6 i (by rw[<-h.sn];exact hi);unfold zKU at g ⊢;rw[h.zc1];exact⟨g.1,g.2.1,fun e=>(cA _).2 (g.2.2.1 e),fun e=>(cA _).2 (g.2.2.2 e)⟩
  ·have g:=a7 i (by rw[<-h.pn];exact hi);unfold zO8 zab zWn zWo at g ⊢;rw[h.zcy,h.next];obtain⟨⟨b1,b2,b3,b4,b5,b6⟩,⟨c1,c2⟩,d⟩:=g;exact⟨⟨b1,b2,b3,by omega,b5,(eA _).2 b6⟩,⟨c1,fun e=>⟨(c2 e).1,(cA _).2 (c2 e).2⟩⟩,d⟩
 ·intro i hi;obtain⟨n,e,g1,g2,g3,g4⟩:=hs.lines i (by rw[<-h.sn];exact hi);rw[h.zc1];refine⟨n,e,iA g1,fun ⟨k,hk,hn⟩=>g2 ⟨k,(h.snapNo _ _).1 hk,by rw[<-h.zcy];exact hn⟩,by rw[dA,h.pn];exact g3,g4⟩
 ·have:=bA i (gA i hi)
  rwa [yR hi]at this
 ·have hm:V.pn+i<Go.Proofs.YtbplmbafodlboaaGreatDoor.memN W:=(by rw[<-h.memN];unfold Go.Proofs.YtbplmbafodlboaaGreatDoor.memN;omega);have:=bA _ hm;rw[zAo]at this;exact⟨this,aA _ hm (by rw[h.pn];exact(hs.zc1 i (by rw[<-h.sn];exact hi)).2)⟩
 ·have hm:i<Go.Proofs.YtbplmbafodlboaaGreatDoor.memN W:=(by rw[<-h.memN];exact hi);have g:=hs.born i hm;unfold zFm at g ⊢;rw[h.treeM hm,h.oldM i];obtain⟨t,e,ht⟩:=h.mem i;rw[e];dsimp only;rw[h.ahead];exact fun x hx=>⟨Int.le_trans (g x hx).1 ht,(g x hx).2⟩
 ·intro i hi j hj;have hm:i<Go.Proofs.YtbplmbafodlboaaGreatDoor.memN W:=(by rw[<-h.memN];exact hi);unfold zH6;rw[h.treeM hm,h.oldM i,h.treeM (show j<Go.Proofs.YtbplmbafodlboaaGreatDoor.memN W by omega),h.oldM j];exact hs.zc7 i hm j hj
end
open Classical in
theorem zK4{W:zB}(h:zAL W):zq (zBj W.pool):=by
 have hR:=h.right;refine⟨hR.1,fun i hi=>?_,fun i hi=>absurd hi (Nat.not_lt_zero _)⟩;have bA:i<W.pool.n:=hi;by_cases hh:Has W.pool.hn W.pool.h (i:Int)
 ·left;show zAA (if Has W.pool.hn W.pool.h (i:Int)then zCU else W.pool.s i);rw[if_pos hh];exact zKP
 have e:(zBj W.pool).s i=W.pool.s i:=if_neg hh;rw[e];refine(hR.2.1 i bA).imp id fun hf=>⟨hf.1,hf.2.imp id fun ⟨h8,hd,hk⟩=>⟨h8,hd,fun j hj=>(hk j hj).imp id fun ⟨hp,hb⟩=>⟨?_,hb⟩⟩⟩
 have gA:¬zAA (W.pool.s i):=fun e=>by have:=e.1;have:=hf.1.1;omega
 obtain⟨m,hm,b,fA⟩:=(h.reach i bA).2 ⟨gA,hh⟩;have aA:j<8:=by omega
 have eA:¬Nil (qS (W.pool.s i) j) (yh (W.pool.s i) j):=by
  rw[zCp h8 aA,zDC h8 aA];exact fun e=>by have:=hp.1;have:=e.2;omega
 have dA:=zWW hR (zPk h hm) fA (i:=j) aA (by rw[Int.toNat_natCast];exact eA);have cA:=(zCD hR (zPk h hm) dA).2.2;rw[Int.toNat_natCast,zCp h8 aA]at cA;have e2:(zBj W.pool).s ((W.pool.s i).ks j).toNat=W.pool.s ((W.pool.s i).ks j).toNat:=if_neg (by rw[Int.toNat_of_nonneg hp.2.1];exact cA);exact⟨hp.1,hp.2.1,hp.2.2.1,by rw[e2];exact hp.2.2.2⟩
theorem zTU{W:zB}(h:zAL W){i:Nat}(hi:i<memN W):zKT W.pool (zBj W.pool) (zK W i).rs (zK W i).rb:=by
 refine⟨rfl,fun z hz=>⟨?_,fun ⟨j,hj,_⟩=>absurd hj (Nat.not_lt_zero _)⟩⟩;have g:=zCD h.right (zPk h hi) hz;exact if_neg (by rw[Int.toNat_of_nonneg g.1.2.1];exact g.2.2)
open Classical in
theorem zWV{W:zB}(h:zAL W)(ht:W.time<900000):OnW W {W with pool:=zBj W.pool,time:=W.time+1}/\zAL {W with pool:=zBj W.pool,time:=W.time+1}:=by
 have g:OnW W {W with pool:=zBj W.pool,time:=W.time+1}:=⟨rfl,rfl,rfl,rfl,rfl,⟨by show W.time<=W.time+1;omega,by show W.time+1<=900000;omega⟩,fun i hi=>zTU h hi⟩;refine⟨g,g.spec h (zK4 h) fun i hi=>?_⟩;have aA:i<W.pool.n:=hi;have hx:(∃m,m<memN {W with pool:=zBj W.pool,time:=W.time+1}/\∃b,((i:Int),b)∈treeM {W with pool:=zBj W.pool,time:=W.time+1} (zK {W with pool:=zBj W.pool,time:=W.time+1} m))↔∃m,m<memN W/\∃b,((i:Int),b)∈treeM W (zK W m):=exists_congr fun m=>and_congr_right fun hm=>by rw[g.treeM (i:=m) hm]
 rw[hx,h.reach i aA];show(¬zAA (W.pool.s i)/\¬Has W.pool.hn W.pool.h i)↔(¬zAA (if Has W.pool.hn W.pool.h (i:Int)then zCU else W.pool.s i)/\¬Has 0 W.pool.h i);by_cases hh:Has W.pool.hn W.pool.h (i:Int)
 ·rw[if_pos hh];exact⟨fun e=>absurd hh e.2,fun e=>absurd zKP e.1⟩
 ·rw[if_neg hh];exact⟨fun e=>⟨e.1,fun ⟨j,hj,_⟩=>absurd hj (Nat.not_lt_zero _)⟩,fun e=>⟨e.1,hh⟩⟩
set_option linter.unusedSimpArgs false
set_option maxRecDepth 20000
set_option maxHeartbeats 3200000
theorem zRt(s:zM):zDu s s:=⟨rfl,⟨rfl,fun _ _=>⟨rfl,rfl⟩⟩,rfl⟩
theorem zKL{W:zB}(h:zAL W)(h0:W.pool.hn=0):zBM ⟨W,W⟩:=⟨h,h,rfl,h0,Int.le_refl _,Int.le_refl _,fun i _ _=>zRt _⟩
theorem zaR{S:zx}(h:zBM S)(ht:S.zc0.time<900000):OnW S.zc0 (zFk S)/\zAL (zFk S)/\(zFk S).pool.hn=0:=by
 have e:zA0 S.zc0.pool=zBj S.zc0.pool:=zGK h.zc0.right (zK4 h.zc0);have g:=zWV h.zc0 ht;have:zFk S = {S.zc0 with pool:=zBj S.zc0.pool,time:=S.zc0.time+1}:=by unfold zFk;rw[e]
 rw[this];exact⟨g.1,g.2,rfl⟩
theorem zYr{V:zB}(h:zAL V):∀{k i:Nat},i<k->k<V.sn->zCN (V.zc1 i).name (V.zc1 k).name
 | k+1,i,hi,hk=>by
  have g:=(h.zc3.2.2.2.2.1 (k+1) hk).2.1 (by omega);rw[Nat.add_sub_cancel]at g;by_cases e:i=k
  ·rw[e];exact g
  ·exact zRj (zYr h (by omega) (by omega)) g
theorem zU5{V:zB}(h:zAL V):∀{k i:Nat},i<k->k<V.pn->(V.zcy i).id<(V.zcy k).id
 | k+1,i,hi,hk=>by
  have g:=((h.zc3.2.2.2.2.2 (k+1) hk).2.1.1 (by omega)).1;rw[Nat.add_sub_cancel]at g;by_cases e:i=k
  ·rw[e];exact g
  ·exact Int.lt_trans (zU5 h (by omega) (by omega)) g
theorem zaH{V:zB}(h:zAL V){i:Nat}(hi:i<V.sn):zKG V (V.zc1 i).name=V.zc1 i:=by
 have hs:=(h.zc3.2.2.2.2.1 i hi).1;unfold zKG;rw[if_pos ⟨by have:=hs.2.1;omega,⟨i,hi,rfl⟩,h⟩,zEQ (P:=fun k=>(V.zc1 k).name=(V.zc1 i).name) hi rfl (fun j hj e=>zYd (zYr h hj hi) e),Int.toNat_natCast]
theorem zYv{V:zB}(h:zAL V){i:Nat}(hi:i<V.pn):zGI V (V.zcy i).id=V.zcy i:=by
 unfold zGI;rw[if_pos ⟨⟨i,hi,rfl⟩,h⟩,zEQ (P:=fun k=>(V.zcy k).id=(V.zcy i).id) hi rfl (fun j hj e=>by have:=zU5 h hj hi;omega),Int.toNat_natCast]
theorem OnW.kept{W V:zB}(h:OnW W V)(hV:zAL V)(x:ByteArray)(y:Int):zTc W V x y:=by
 refine⟨fun i hi _=>?_,fun i hi _=>?_⟩
 ·have e:=zaH hV (i:=i) (by rw[h.sn];exact hi);have t:=h.tree (W.pn+i) (by unfold Go.Proofs.YtbplmbafodlboaaGreatDoor.memN;omega);rw[h.zc1]at e;rw[zAo]at t;rw[e];exact⟨rfl,fun k hk=>(t.page hk).symm⟩
 ·have e:=zYv hV (i:=i) (by rw[h.pn];exact hi);have t:=h.tree i (by unfold Go.Proofs.YtbplmbafodlboaaGreatDoor.memN;omega);rw[h.zcy]at e;rw[yR hi]at t;rw[e];exact⟨rfl,fun k hk=>(t.page hk).symm⟩
theorem zp.two{P:Program}{f:Nat}{α : Type}{B:α->Bool×List Tr}{C:α->Prop}{r:List (Bool×List Tr)}{m:za}(h:zp P f m)(ha:∀x,m [B x,B x]=some (C x,r)):zp P f (qZ (fun q:α×α=>[B q.1,B q.2]) (fun q=>q.1=q.2/\C q.1) (fun _=>r)):=by
 intro w al c rs aA hc;unfold qZ at aA;split at aA
 ·rename_i hx
  cases aA;have e:[B hx.choose.1,B hx.choose.2]=al:=hx.choose_spec;rw[<-hc.1]at e;exact h w al _ _ ((congrArg m e.symm).trans (ha _)) hc.2
 ·cases aA
noncomputable def zOa:za:=qZ (fun q:zB×zB=>[woT q.1,woT q.2]) (fun q=>q.1=q.2/\SmallW q.1/\(∀i,i<q.1.sn->zAD (q.1.zc1 i).dn (q.1.zc1 i).ds (q.1.zc1 i).db)/\∀i,i<q.1.pn->zAD (q.1.zcy i).dn (q.1.zcy i).ds (q.1.zcy i).db) (fun _=>tT)
theorem zRE:zp Tryz.prog 10 zOa:=zS2.two zRJ
theorem zEs(W V:zB):zOa [woT W,woT V]=some (W=V/\SmallW W/\(∀i,i<W.sn->zAD (W.zc1 i).dn (W.zc1 i).ds (W.zc1 i).db)/\∀i,i<W.pn->zAD (W.zcy i).dn (W.zcy i).ds (W.zcy i).db,tT):=zO (fun l=>(zCX (nth l 0),zCX (nth l 1))) (fun _=>rfl) (W,V)
noncomputable def zRH:za:=qZ (fun q:zE×zE=>[poT q.1.n q.1.s q.1.hn q.1.h,poT q.2.n q.2.s q.2.hn q.2.h]) (fun q=>q.1=q.2/\(q.1.n<=1000000/\q.1.hn<=1000000)/\∀i,i<q.1.n->(q.1.s i).kn<=1000000) (fun _=>tT)
theorem zS1:zp Tryz.prog 11 zRH:=zVo.two (B:=fun p:zE=>poT p.n p.s p.hn p.h) zS6
theorem zFc(p q:zE):zRH [poT p.n p.s p.hn p.h,poT q.n q.s q.hn q.h]=some (p=q/\(p.n<=1000000/\p.hn<=1000000)/\∀i,i<p.n->(p.s i).kn<=1000000,tT):=zO (fun l=>(zDm (nth l 0 0) (nth l 0 1),zDm (nth l 1 0) (nth l 1 1))) (fun _=>rfl) (p,q)
attribute [local go_sem] qX List.map_cons List.map_nil Tr.cv yp qD qs qq yo yn ym qp zAu zAw zAv zAr zAt zAs zCF zCH zCG qH zl qI zm qB qA qM yx zi zj qw qG tmpsOf zAf qv qF zAp yv yr yq yu stpP opds opd opdC kap zAG qC zh coreU bin zAb zB0 get put dlO fgt zA8 zA1 zA5 zA6 tyT yj yi Op.operands Call.operands evLoad evLen evStore evAlloc zAa and_true true_and List.append_nil List.nil_append List.cons_append Ret resCv zBs yQ cellM zBV zBw qY StW StR hpT hpO hpV hpA hpL hpC sg nin zB6 bdO tmW obW AvE CsE CvE Av.tup Av.ids Cv.ids inD ObE Ob.ids TrE.refl qE qt qu qJ qK qL zk ze zb yw zBc zB1 zAy evCall argL argOf qh outOb obO yL zy cvO tot Tr.own rid partsOf fillC zW zBU frz frz1 evBuildSlice zc trs Cv.tr evSlice Option.toArray_none Option.toArray_some evMakeSlice evAppend dstOf srcOf zBC zA7 zA4 zA2 zA3 ikT qn qm ql qk RetP RetN zBd qQ evLd evSt evStoreH zAX evAppendM evAppendT tlOf mvOf rowE shp evTake oOf evC evCallP evCallN evCallO unlast zAW zBB zAU argsF zB5 qy pmC varT vT evField evConv dB0 Option.bind_some Option.bind_none Option.map_some Option.map_none Option.isSome_some Option.isSome_none
attribute [local go_sem] yC zX zAg yI qe zAO zAP zAQ zAR zAS zAT yV yW yX yY yZ yb yd ye qz qV
attribute [-go_sem] zX
attribute [local go_sem] yS zBX zBY yg yG zCj
noncomputable def zRG:za:=qZ (fun q:(Nat×(Nat->Int))×Nat×(Nat->Int)=>[byT q.1.1 q.1.2,byT q.2.1 q.2.2]) (fun q=>zLT q.1.1 q.1.2/\zLT q.2.1 q.2.2) (fun _=>tT)
theorem zSG{w:World}{p:Nat->Addr}(hE:zG1 w p):zC8 Tryz.prog 3 zRG w:=by
 refine zWR zs (fun g0 hz w' g hk=>zCL.putA (by decide) (zVO (zTw hE hz hk)) (zF Tryz.func6 rfl rfl) (zCL.putA (by decide) (zY4 (zTw hE hz hk)) (zF Tryz.func13 rfl rfl) (zCL.putA (by decide) (zWE _) (zF Tryz.func8 rfl rfl) (zCL.putA (by decide) (zRE _) (zF Tryz.func10 rfl rfl) (zCL.putA (by decide) (zS1 _) (zF Tryz.func11 rfl rfl) (zCL.putA (by decide) (zVm _) (zF Tryz.func15 rfl rfl) (zCL.putK (by decide) (zIz _) (zF Tryz.func5 rfl rfl) (zCL.putK (by decide) (zJp _) (zF Tryz.func12 rfl rfl) (zCL.putA (by decide) (zNb _) (zF Tryz.func7 rfl rfl) (zCL.putA (by decide) (zI6 _) (zF Tryz.func14 rfl rfl) (zCL.putA (by decide) (zEI _) (zF Tryz.func9 rfl rfl) zCL.nil))))))))))) zr Tryz.func3 rfl Tryz.ntmps3 Tryz.results3 10 ?_;rintro⟨⟨n,f⟩,m,h⟩ ⟨h1,h2⟩;replace h1:zLT n f:=h1;replace h2:zLT m h:=h2;refine⟨by simp,?_⟩;by_cases b1:1048576<n
 ·simp[go_sem,show(1048576:Int)<n by omega]
 by_cases b2:1048576<m
 ·simp[go_sem,show ¬(1048576:Int)<n by omega,show(1048576:Int)<m by omega]
 have q1:¬(1048576:Int)<n:=by omega
 have q2:¬(1048576:Int)<m:=by omega
 have hb:zGP n f:=⟨by omega,h1⟩;have aA:zGP m h:=⟨by omega,h2⟩;obtain⟨S,eS⟩:∃S,zIY n f=S:=⟨_,rfl⟩;obtain⟨T,eT⟩:∃T,zIY m h=T:=⟨_,rfl⟩;have hS:zBI 1 S:=eS▸zN9 hb;have hT:zBI 1 T:=eT▸zN9 aA;have cS:=hS.zc5 (c:=1) (by omega);have cT:=hT.zc5 (c:=1) (by omega);have zS:zEe S:=⟨cS.1.toSmallW,cS.2.toSmallW⟩;have zT:zEe T:=⟨cT.1.toSmallW,cT.2.toSmallW⟩;obtain⟨o,eo⟩:∃o,zEg S=o:=⟨_,rfl⟩;obtain⟨y,ey⟩:∃y,zDs T=y:=⟨_,rfl⟩;have eR:=zCC o.store;have eZ:=zD4 y.store;have bA:¬zBM T\/(zBM T/\900000<=T.zc0.time)->y.code≠0:=fun h=>by
  rw[<-ey];unfold zDs;rcases h with h | ⟨h,h'⟩
  ·rw[if_neg h];decide
  ·rw[if_pos h,if_pos h'];decide
 by_cases a2:zBM T/\T.zc0.time<900000;rotate_left
 ·have c2:y.code≠0:=bA (by
   by_cases h:zBM T
   ·exact .inr ⟨h,by have:¬T.zc0.time<900000:=fun e=>a2 ⟨h,e⟩;omega⟩
   ·exact .inl h)
  by_cases a1:zBM S;rotate_left
  ·have c1:o.code=1:=(by rw[<-eo];exact congrArg zE8.code (if_neg a1));simp[go_sem,q1,q2,zGj,zD4,zFd,zGl,zCC,zHs,zD6,zEs,zFc,hb,aA,eS,eT,hS,hT,cS,cT,zS,zT,eo,ey,eR,eZ,a1,c1,c2];refine⟨by kernel_rfl,by kernel_rfl,?_⟩;show _=true;kernel_rfl
  have e1:zEg S=⟨⟨S.zcz,S.zcz⟩,0⟩:=if_pos a1;have r1:=zKL a1.zcz a1.held;have r2:zEe ⟨S.zcz,S.zcz⟩:=⟨zS.zcz,zS.zcz⟩;have r3:=zIp a1.zcz;have rR:=zCC ⟨S.zcz,S.zcz⟩;clear eR;subst eo;simp[go_sem,q1,q2,zGj,zD4,zFd,zGl,zCC,zHs,zD6,zEs,zFc,hb,aA,eS,eT,hS,hT,cS,cT,zS,zT,ey,e1,rR,eZ,a1,r1,r2,r3,zS.zcz,c2];refine⟨by kernel_rfl,r3,⟨⟨cS.2.n,cS.2.hn⟩,cS.2.kn⟩,by kernel_rfl,?_⟩;show _=true;kernel_rfl
 obtain⟨a2,a3⟩:=a2;obtain⟨V,eV⟩:∃V,zFk T=V:=⟨_,rfl⟩;obtain⟨g1,g2,g3⟩:=zaR a2 a3;have hV:zBI 1 (zDs T).store:=zKk hT;have e2:zDs T=⟨⟨V,V⟩,0⟩:=eV▸(if_pos a2).trans (if_neg (by omega));rw[e2]at hV;rw[eV]at g1 g2 g3;have cV:=hV.zc5 (c:=1) (by omega);have k1:=zKL g2 g3;have k2:zEg ⟨V,V⟩=⟨⟨V,V⟩,0⟩:=if_pos k1;have k3:zEe ⟨V,V⟩:=⟨cV.1.toSmallW,cV.1.toSmallW⟩;have k4:=g1.kept g2 ⟨#[]⟩ 0;have k5:=zIp g2;have k6:SmallW V/\SmallW T.zc0:=⟨cV.1.toSmallW,cT.1.toSmallW⟩;have k7:=a2.zc0;have kR:=zCC ⟨V,V⟩;have kZ:=zD4 ⟨V,V⟩;have kK:=zS4 T.zc0 V ⟨#[]⟩ 0;clear eZ bA;subst ey;by_cases a1:zBM S;rotate_left
 ·have c1:o.code=1:=(by rw[<-eo];exact congrArg zE8.code (if_neg a1));simp[go_sem,q1,q2,zGj,zD4,zFd,zGl,zCC,zHs,zD6,zEs,zFc,hb,aA,eS,eT,hS,hT,cS,cT,zS,zT,eo,e2,eR,kR,kZ,kK,a1,a2,c1,hV,k1,k2,k3,k4,k5,k6,k7,g2];exact⟨by kernel_rfl,by kernel_rfl,k5,g3⟩
 have e1:zEg S=⟨⟨S.zcz,S.zcz⟩,0⟩:=if_pos a1;have r1:=zKL a1.zcz a1.held;have r2:zEe ⟨S.zcz,S.zcz⟩:=⟨zS.zcz,zS.zcz⟩;have r3:=zIp a1.zcz;have rR:=zCC ⟨S.zcz,S.zcz⟩;clear eR;subst eo;simp[go_sem,q1,q2,zGj,zD4,zFd,zGl,zCC,zHs,zD6,zEs,zFc,hb,aA,eS,eT,hS,hT,cS,cT,zS,zT,e1,rR,a1,r1,r2,r3,zS.zcz,e2,kR,kZ,kK,a2,hV,k1,k2,k3,k4,k5,k6,k7,g2];exact⟨by kernel_rfl,r3,⟨⟨cS.2.n,cS.2.hn⟩,cS.2.kn⟩,by kernel_rfl,k5,g3⟩
theorem zPM{p:Nat->Addr}(a0 a1:Option Addr)(n0 c0 n1 c1:Nat)(w:World)(h0:zIv w a0 n0)(h1:zIv w a1 n1)(aA:n0<=c0)(bA:n1<=c1)(hE:zG1 w p) :
  Calls Tryz.prog 3 #[.slice a0 n0 c0,.slice a1 n1 c1] w fun e w'=>e = .returned (.bool true)/\Below w.heap.size w w':=by
 obtain⟨f,hf,sf⟩:=zQa h0 aA;obtain⟨g,hg,sg⟩:=zQa h1 bA;have fA:zRG [byT n0 f,byT n1 g]=some (zLT n0 f/\zLT n1 g,tT):=zO (fun l=>((zFr (nth l 0 0),fun i=>match zCf (nth l 0 0) i 0 with | .v (.int _ x)=>x | _=>0),zFr (nth l 1 0),fun i=>match zCf (nth l 1 0) i 0 with | .v (.int _ x)=>x | _=>0)) (fun _=>rfl) ((n0,f),n1,g);refine(zSG hE _ _ _ fA ⟨hf,hg⟩ (fun _=>.fz none) [.slice a0 n0 c0,.slice a1 n1 c1] (fun b=>⟨none,rfl⟩) (.cons ⟨_,rfl,sf⟩ (.cons ⟨_,rfl,sg⟩ .nil))).mono ?_;rintro e w' ⟨v,k,rfl,hk,ys,hr,hv⟩;obtain⟨y,iA,cs,rfl,dA,cA,eA⟩:=hr;cases eA;cases hv;obtain⟨u,gA,rfl,h2,h3⟩:=cA;cases h3;cases dA;refine⟨by rw[h2.1],⟨hk.os,hk.tape,hk.output,hk.size,fun b hb=>(hk.fz b none rfl hb).1⟩⟩
open Go.ChangeShapes Go.WideShapes
set_option maxRecDepth 100000
abbrev zRA:List (String×DataW Unit):=[("loop.example/g00381/impl.errForm",Rows.laid_loop_example_g00381_impl_errForm),("loop.example/g00381/impl.errSize",Rows.laid_loop_example_g00381_impl_errSize),("loop.example/g00381/impl.errNone",Rows.laid_loop_example_g00381_impl_errNone),("loop.example/g00381/impl.errThere",Rows.laid_loop_example_g00381_impl_errThere),("loop.example/g00381/impl.errFull",Rows.laid_loop_example_g00381_impl_errFull),("loop.example/g00381/impl.errState",Rows.laid_loop_example_g00381_impl_errState),("loop.example/g00381/impl.errRange",Rows.laid_loop_example_g00381_impl_errRange)]
def errN:Nat->String
 | 0=> "loop.example/g00381/impl.errForm"
 | 1=> "loop.example/g00381/impl.errSize"
 | 2=> "loop.example/g00381/impl.errNone"
 | 3=> "loop.example/g00381/impl.errThere"
 | 4=> "loop.example/g00381/impl.errFull"
 | 5=> "loop.example/g00381/impl.errState"
 | _=> "loop.example/g00381/impl.errRange"
theorem zAd(i:Nat)(h:i<7):Tryz.prog.globalNamed (errN i)=some (zBf i)/\(Tryz.prog.globals[zBf i]?).map (·.type)=some 98:=by
 match i,h with
 | 0,_=>exact⟨by kernel_rfl,by kernel_rfl⟩
 | 1,_=>exact⟨by kernel_rfl,by kernel_rfl⟩
 | 2,_=>exact⟨by kernel_rfl,by kernel_rfl⟩
 | 3,_=>exact⟨by kernel_rfl,by kernel_rfl⟩
 | 4,_=>exact⟨by kernel_rfl,by kernel_rfl⟩
 | 5,_=>exact⟨by kernel_rfl,by kernel_rfl⟩
 | 6,_=>exact⟨by kernel_rfl,by kernel_rfl⟩
theorem zTv : "*" ++ "errors.errorString" = "*errors.errorString" :=by decide
theorem zIZ(u:TypeId)(h:Tryz.prog.typeName? 3 u=some "*errors.errorString"):u=222:=
 typeName_ptr_named (nm:= "errors.errorString") (by rw[zTv];kernel_rfl) (by kernel_rfl) (by decide) u (by rw[zTv];exact h)
theorem zFF:Tryz.prog.cellsOf 248=1:=by kernel_rfl
theorem zFS:Tryz.prog.cellsOf 9=1:=by kernel_rfl
theorem zPI{W:World}(h:laidMetH Tryz.prog zRA W):∃p:Nat->Addr,zG1 W p/\∀i,i<7->W.var? Tryz.prog (errN i)=some #[zBF (p i)]:=by
 rw[MakeChecks.laidMetH_plain _ _ _ (by kernel_rfl)]at h;obtain⟨ps,⟨g0,t0,tA,f0,p0,q0,dA,oB,lA,gB,⟨g1,t1,vA,f1,p1,q1,eA,pB,mA,iB,⟨g2,t2,aB,f2,p2,q2,fA,rB,nA,jB,⟨g3,t3,bB,f3,p3,q3,gA,sB,oA,kB,⟨g4,t4,cB,f4,p4,q4,iA,tB,pA,lB,⟨g5,t5,eB,f5,p5,q5,jA,vB,rA,mB,⟨g6,t6,fB,f6,p6,q6,kA,aC,sA,nB,_,e6⟩,e5⟩,e4⟩,e3⟩,e2⟩,e1⟩,e0⟩,bA,aA⟩:=h;obtain rfl:=Option.some.inj ((zAd 0 (by omega)).1.symm.trans dA);obtain rfl:=Option.some.inj ((zAd 0 (by omega)).2.symm.trans oB);obtain rfl:=Option.some.inj ((zAd 1 (by omega)).1.symm.trans eA);obtain rfl:=Option.some.inj ((zAd 1 (by omega)).2.symm.trans pB);obtain rfl:=Option.some.inj ((zAd 2 (by omega)).1.symm.trans fA);obtain rfl:=Option.some.inj ((zAd 2 (by omega)).2.symm.trans rB);obtain rfl:=Option.some.inj ((zAd 3 (by omega)).1.symm.trans gA);obtain rfl:=Option.some.inj ((zAd 3 (by omega)).2.symm.trans sB);obtain rfl:=Option.some.inj ((zAd 4 (by omega)).1.symm.trans iA);obtain rfl:=Option.some.inj ((zAd 4 (by omega)).2.symm.trans tB);obtain rfl:=Option.some.inj ((zAd 5 (by omega)).1.symm.trans jA);obtain rfl:=Option.some.inj ((zAd 5 (by omega)).2.symm.trans vB);obtain rfl:=Option.some.inj ((zAd 6 (by omega)).1.symm.trans kA);obtain rfl:=Option.some.inj ((zAd 6 (by omega)).2.symm.trans aC);subst e6;subst e5;subst e4;subst e3;subst e2;subst e1;subst e0;obtain⟨l0⟩:=tA;have bC:∀u v,l0 = [.iface u v]->Value.okWide Tryz.prog W .any 0 u v:=fun u v e=>by
  subst e;exact(aA (zBf 0) 0 (by simp[MemPlace.row])).2 u v (by simpa using World.var?_cell dA lA 0)
 obtain⟨a0,s0,rfl,kC,sC,eD,rfl⟩:=errorString_of_trod Tryz.underlying98 zIZ Tryz.underlying222 Tryz.underlying248 rfl rfl Tryz.underlying9 zFF zFS gB bC;obtain⟨l1⟩:=vA;have cC:∀u v,l1 = [.iface u v]->Value.okWide Tryz.prog W .any 0 u v:=fun u v e=>by
  subst e;exact(aA (zBf 1) 0 (by simp[MemPlace.row])).2 u v (by simpa using World.var?_cell eA mA 0)
 obtain⟨a1,s1,rfl,lC,tC,fD,rfl⟩:=errorString_of_trod Tryz.underlying98 zIZ Tryz.underlying222 Tryz.underlying248 rfl rfl Tryz.underlying9 zFF zFS iB cC;obtain⟨l2⟩:=aB;have dC:∀u v,l2 = [.iface u v]->Value.okWide Tryz.prog W .any 0 u v:=fun u v e=>by
  subst e;exact(aA (zBf 2) 0 (by simp[MemPlace.row])).2 u v (by simpa using World.var?_cell fA nA 0)
 obtain⟨a2,s2,rfl,mC,vC,gD,rfl⟩:=errorString_of_trod Tryz.underlying98 zIZ Tryz.underlying222 Tryz.underlying248 rfl rfl Tryz.underlying9 zFF zFS jB dC;obtain⟨l3⟩:=bB;have eC:∀u v,l3 = [.iface u v]->Value.okWide Tryz.prog W .any 0 u v:=fun u v e=>by
  subst e;exact(aA (zBf 3) 0 (by simp[MemPlace.row])).2 u v (by simpa using World.var?_cell gA oA 0)
 obtain⟨a3,s3,rfl,nC,aD,iD,rfl⟩:=errorString_of_trod Tryz.underlying98 zIZ Tryz.underlying222 Tryz.underlying248 rfl rfl Tryz.underlying9 zFF zFS kB eC;obtain⟨l4⟩:=cB;have fC:∀u v,l4 = [.iface u v]->Value.okWide Tryz.prog W .any 0 u v:=fun u v e=>by
  subst e;exact(aA (zBf 4) 0 (by simp[MemPlace.row])).2 u v (by simpa using World.var?_cell iA pA 0)
 obtain⟨a4,s4,rfl,oC,bD,jD,rfl⟩:=errorString_of_trod Tryz.underlying98 zIZ Tryz.underlying222 Tryz.underlying248 rfl rfl Tryz.underlying9 zFF zFS lB fC;obtain⟨l5⟩:=eB;have iC:∀u v,l5 = [.iface u v]->Value.okWide Tryz.prog W .any 0 u v:=fun u v e=>by
  subst e;exact(aA (zBf 5) 0 (by simp[MemPlace.row])).2 u v (by simpa using World.var?_cell jA rA 0)
 obtain⟨a5,s5,rfl,pC,cD,kD,rfl⟩:=errorString_of_trod Tryz.underlying98 zIZ Tryz.underlying222 Tryz.underlying248 rfl rfl Tryz.underlying9 zFF zFS mB iC;obtain⟨l6⟩:=fB;have jC:∀u v,l6 = [.iface u v]->Value.okWide Tryz.prog W .any 0 u v:=fun u v e=>by
  subst e;exact(aA (zBf 6) 0 (by simp[MemPlace.row])).2 u v (by simpa using World.var?_cell kA sA 0)
 obtain⟨a6,s6,rfl,rC,dD,lD,rfl⟩:=errorString_of_trod Tryz.underlying98 zIZ Tryz.underlying222 Tryz.underlying248 rfl rfl Tryz.underlying9 zFF zFS nB jC;refine⟨fun | 0=>a0 | 1=>a1 | 2=>a2 | 3=>a3 | 4=>a4 | 5=>a5 | _=>a6,⟨fun i hi=>?_,fun i hi=>?_,fun i j hi hj cA he=>?_⟩,fun i hi=>?_⟩
 ·match i,hi with
  | 0,_=>simpa using World.var?_cell dA lA 0
  | 1,_=>simpa using World.var?_cell eA mA 0
  | 2,_=>simpa using World.var?_cell fA nA 0
  | 3,_=>simpa using World.var?_cell gA oA 0
  | 4,_=>simpa using World.var?_cell iA pA 0
  | 5,_=>simpa using World.var?_cell jA rA 0
  | 6,_=>simpa using World.var?_cell kA sA 0
 ·match i,hi with
  | 0,_=>exact(aA a0.block a0.off (by simp[MemPlace.row])).1
  | 1,_=>exact(aA a1.block a1.off (by simp[MemPlace.row])).1
  | 2,_=>exact(aA a2.block a2.off (by simp[MemPlace.row])).1
  | 3,_=>exact(aA a3.block a3.off (by simp[MemPlace.row])).1
  | 4,_=>exact(aA a4.block a4.off (by simp[MemPlace.row])).1
  | 5,_=>exact(aA a5.block a5.off (by simp[MemPlace.row])).1
  | 6,_=>exact(aA a6.block a6.off (by simp[MemPlace.row])).1
 ·simp only[MemPlace.row]at bA
  match i,hi,j,hj with
  | 0,_,0,_=>exact absurd rfl cA
  | 0,_,1,_=>obtain rfl:a0=a1:=he;simp at bA
  | 0,_,2,_=>obtain rfl:a0=a2:=he;simp at bA
  | 0,_,3,_=>obtain rfl:a0=a3:=he;simp at bA
  | 0,_,4,_=>obtain rfl:a0=a4:=he;simp at bA
  | 0,_,5,_=>obtain rfl:a0=a5:=he;simp at bA
  | 0,_,6,_=>obtain rfl:a0=a6:=he;simp at bA
  | 1,_,0,_=>obtain rfl:a1=a0:=he;simp at bA
  | 1,_,1,_=>exact absurd rfl cA
  | 1,_,2,_=>obtain rfl:a1=a2:=he;simp at bA
  | 1,_,3,_=>obtain rfl:a1=a3:=he;simp at bA
  | 1,_,4,_=>obtain rfl:a1=a4:=he;simp at bA
  | 1,_,5,_=>obtain rfl:a1=a5:=he;simp at bA
  | 1,_,6,_=>obtain rfl:a1=a6:=he;simp at bA
  | 2,_,0,_=>obtain rfl:a2=a0:=he;simp at bA
  | 2,_,1,_=>obtain rfl:a2=a1:=he;simp at bA
  | 2,_,2,_=>exact absurd rfl cA
  | 2,_,3,_=>obtain rfl:a2=a3:=he;simp at bA
  | 2,_,4,_=>obtain rfl:a2=a4:=he;simp at bA
  | 2,_,5,_=>obtain rfl:a2=a5:=he;simp at bA
  | 2,_,6,_=>obtain rfl:a2=a6:=he;simp at bA
  | 3,_,0,_=>obtain rfl:a3=a0:=he;simp at bA
  | 3,_,1,_=>obtain rfl:a3=a1:=he;simp at bA
  | 3,_,2,_=>obtain rfl:a3=a2:=he;simp at bA
  | 3,_,3,_=>exact absurd rfl cA
  | 3,_,4,_=>obtain rfl:a3=a4:=he;simp at bA
  | 3,_,5,_=>obtain rfl:a3=a5:=he;simp at bA
  | 3,_,6,_=>obtain rfl:a3=a6:=he;simp at bA
  | 4,_,0,_=>obtain rfl:a4=a0:=he;simp at bA
  | 4,_,1,_=>obtain rfl:a4=a1:=he;simp at bA
  | 4,_,2,_=>obtain rfl:a4=a2:=he;simp at bA
  | 4,_,3,_=>obtain rfl:a4=a3:=he;simp at bA
  | 4,_,4,_=>exact absurd rfl cA
  | 4,_,5,_=>obtain rfl:a4=a5:=he;simp at bA
  | 4,_,6,_=>obtain rfl:a4=a6:=he;simp at bA
  | 5,_,0,_=>obtain rfl:a5=a0:=he;simp at bA
  | 5,_,1,_=>obtain rfl:a5=a1:=he;simp at bA
  | 5,_,2,_=>obtain rfl:a5=a2:=he;simp at bA
  | 5,_,3,_=>obtain rfl:a5=a3:=he;simp at bA
  | 5,_,4,_=>obtain rfl:a5=a4:=he;simp at bA
  | 5,_,5,_=>exact absurd rfl cA
  | 5,_,6,_=>obtain rfl:a5=a6:=he;simp at bA
  | 6,_,0,_=>obtain rfl:a6=a0:=he;simp at bA
  | 6,_,1,_=>obtain rfl:a6=a1:=he;simp at bA
  | 6,_,2,_=>obtain rfl:a6=a2:=he;simp at bA
  | 6,_,3,_=>obtain rfl:a6=a3:=he;simp at bA
  | 6,_,4,_=>obtain rfl:a6=a4:=he;simp at bA
  | 6,_,5,_=>obtain rfl:a6=a5:=he;simp at bA
  | 6,_,6,_=>exact absurd rfl cA
 ·match i,hi with
  | 0,_=>exact lA
  | 1,_=>exact mA
  | 2,_=>exact nA
  | 3,_=>exact oA
  | 4,_=>exact pA
  | 5,_=>exact rA
  | 6,_=>exact sA
theorem zOC{H:Type}(enc:TypeId×Value->H){W:World}{p:Nat->Addr}(h:∀i,i<7->W.var? Tryz.prog (errN i)=some #[zBF (p i)])(sp:Nat->Bool) :
  DataW.TrodVars enc Tryz.prog W sp ["loop.example/g00381/impl.errForm", "loop.example/g00381/impl.errSize", "loop.example/g00381/impl.errNone", "loop.example/g00381/impl.errThere", "loop.example/g00381/impl.errFull", "loop.example/g00381/impl.errState", "loop.example/g00381/impl.errRange"] [tok enc (zBF (p 0)),tok enc (zBF (p 1)),tok enc (zBF (p 2)),tok enc (zBF (p 3)),tok enc (zBF (p 4)),tok enc (zBF (p 5)),tok enc (zBF (p 6))] [.cell (zBf 0) 0,.cell (zBf 1) 0,.cell (zBf 2) 0,.cell (zBf 3) 0,.cell (zBf 4) 0,.cell (zBf 5) 0,.cell (zBf 6) 0]:=
 ⟨zBf 0,98,#[zBF (p 0)],1,[],[.cell (zBf 1) 0,.cell (zBf 2) 0,.cell (zBf 3) 0,.cell (zBf 4) 0,.cell (zBf 5) 0,.cell (zBf 6) 0],(zAd 0 (by omega)).1,(zAd 0 (by omega)).2,h 0 (by omega),trod_held Tryz.underlying98 (show IsIface (zBF (p 0))from trivial) 0,⟨zBf 1,98,#[zBF (p 1)],1,[],[.cell (zBf 2) 0,.cell (zBf 3) 0,.cell (zBf 4) 0,.cell (zBf 5) 0,.cell (zBf 6) 0],(zAd 1 (by omega)).1,(zAd 1 (by omega)).2,h 1 (by omega),trod_held Tryz.underlying98 (show IsIface (zBF (p 1))from trivial) 0,⟨zBf 2,98,#[zBF (p 2)],1,[],[.cell (zBf 3) 0,.cell (zBf 4) 0,.cell (zBf 5) 0,.cell (zBf 6) 0],(zAd 2 (by omega)).1,(zAd 2 (by omega)).2,h 2 (by omega),trod_held Tryz.underlying98 (show IsIface (zBF (p 2))from trivial) 0,⟨zBf 3,98,#[zBF (p 3)],1,[],[.cell (zBf 4) 0,.cell (zBf 5) 0,.cell (zBf 6) 0],(zAd 3 (by omega)).1,(zAd 3 (by omega)).2,h 3 (by omega),trod_held Tryz.underlying98 (show IsIface (zBF (p 3))from trivial) 0,⟨zBf 4,98,#[zBF (p 4)],1,[],[.cell (zBf 5) 0,.cell (zBf 6) 0],(zAd 4 (by omega)).1,(zAd 4 (by omega)).2,h 4 (by omega),trod_held Tryz.underlying98 (show IsIface (zBF (p 4))from trivial) 0,⟨zBf 5,98,#[zBF (p 5)],1,[],[.cell (zBf 6) 0],(zAd 5 (by omega)).1,(zAd 5 (by omega)).2,h 5 (by omega),trod_held Tryz.underlying98 (show IsIface (zBF (p 5))from trivial) 0,⟨zBf 6,98,#[zBF (p 6)],1,[],[],(zAd 6 (by omega)).1,(zAd 6 (by omega)).2,h 6 (by omega),trod_held Tryz.underlying98 (show IsIface (zBF (p 6))from trivial) 0,rfl,rfl⟩,rfl⟩,rfl⟩,rfl⟩,rfl⟩,rfl⟩,rfl⟩
theorem zTZ{W W':World}{n:String}{cs:Array Value}(h:W.var? Tryz.prog n=some cs)(t:Below W.heap.size W W'):W'.var? Tryz.prog n=some cs:=by
 unfold World.var? at h ⊢;cases hg:Tryz.prog.globalNamed n with
 | none=>simp[hg]at h
 | some g=>
  simp only[hg,Option.bind_some]at h ⊢;have aA:g<W.heap.size:=by
   rcases Nat.lt_or_ge g W.heap.size with h' | h'
   ·exact h'
   ·simp[Array.getElem?_eq_none h']at h
  rw[t.block g aA];exact h
noncomputable def zJX:Nat:=(World.holding Tryz.prog default ⟨#[],#[],[]⟩).heap.size
noncomputable def zOW(os:Os):World:=
 let w0:=World.holding Tryz.prog os ⟨#[.cells #[.string ⟨#[105,116,32,105,115,32,110,111,116,32,114,105,103,104,116]⟩] 248,.cells #[.string ⟨#[105,116,32,105,115,32,116,111,111,32,108,111,110,103]⟩] 248,.cells #[.string ⟨#[116,104,101,114,101,32,105,115,32,110,111,110,101]⟩] 248,.cells #[.string ⟨#[116,104,101,114,101,32,105,115,32,111,110,101,32,97,108,114,101,97,100,121]⟩] 248,.cells #[.string ⟨#[116,104,101,114,101,32,105,115,32,110,111,32,114,111,111,109]⟩] 248,.cells #[.string ⟨#[105,116,32,100,111,101,115,32,110,111,116,32,115,116,97,110,100,32,115,111,32,116,104,97,116,32,116,104,105,115,32,99,97,110,32,98,101,32,100,111,110,101]⟩] 248,.cells #[.string ⟨#[105,116,32,105,115,32,111,117,116,32,111,102,32,114,97,110,103,101]⟩] 248],#[],[]⟩
 {w0 with heap:=((((((((((((((w0.heap).modify 0 fun
   | .cells _ t frozen=>.cells #[zBF ⟨zJX+0,0,none⟩] t frozen
   | o=>o)).modify 1 fun
   | .cells _ t frozen=>.cells #[zBF ⟨zJX+1,0,none⟩] t frozen
   | o=>o)).modify 2 fun
   | .cells _ t frozen=>.cells #[zBF ⟨zJX+2,0,none⟩] t frozen
   | o=>o)).modify 3 fun
   | .cells _ t frozen=>.cells #[zBF ⟨zJX+3,0,none⟩] t frozen
   | o=>o)).modify 4 fun
   | .cells _ t frozen=>.cells #[zBF ⟨zJX+4,0,none⟩] t frozen
   | o=>o)).modify 5 fun
   | .cells _ t frozen=>.cells #[zBF ⟨zJX+5,0,none⟩] t frozen
   | o=>o)).modify 6 fun
   | .cells _ t frozen=>.cells #[zBF ⟨zJX+6,0,none⟩] t frozen
   | o=>o)}
theorem zNj(os:Os)(args:Array Value):laidMetH Tryz.prog zRA ((zOW os).forCall (fun _ _=>0) ⟨#[],args,[]⟩).memory:=by
 rw[MakeChecks.laidMetH_plain _ _ _ (by kernel_rfl)];exact laidMet_of_run (ps:=[.cell 0 0,.cell (zJX+0) 0,.cell 1 0,.cell (zJX+1) 0,.cell 2 0,.cell (zJX+2) 0,.cell 3 0,.cell (zJX+3) 0,.cell 4 0,.cell (zJX+4) 0,.cell 5 0,.cell (zJX+5) 0,.cell 6 0,.cell (zJX+6) 0]) 8 (by kernel_rfl) (by kernel_rfl) (by kernel_rfl)
end Go.Proofs.YtbplmbafodlboaaGreatDoor
