/- A part of the proof. -/
import Derived.Test.YtginldeebkfbgaaGreatF22
import Derived.LaidEql
import Derived.Stop.Asserts
import Derived.RowKitTokens
set_option linter.unusedVariables false
set_option maxRecDepth 20000
set_option maxHeartbeats 4000000
namespace Go.Proofs.YtginldeebkfbgaaGreat
open Go.RowKit
set_option linter.unusedSimpArgs false
set_option maxRecDepth 20000
set_option maxHeartbeats 3200000
attribute [local go_sem] qX List.map_cons List.map_nil Tr.cv yq qK yA qz yp yo yn qy zBE zBG zBF zBB zBD zBC zCa zCc zCb qP zr qQ zt qI qH qU zAA zo zp yE qO tmpsOf zAo yD qN zBA yw yu yr yx yv stpP opds opd opdC kap zAB qJ zn coreU bin zAe zCK get put dlO fgt zBR zBK zBO zBP tyT yk yj Op.operands Call.operands evLoad evLen evStore evAlloc zAj and_true true_and List.append_nil List.nil_append List.cons_append Ret resCv zB3 yV cellM zBh zCE qV StW StR hpT hpO hpV hpA hpL hpC sg nin zCU bdO tmW obW AvE CsE CvE Av.tup Av.ids Cv.ids inD ObE Ob.ids TrE.refl qM yB yC qR qS qT zq zb zX yz zBa zCL zBH evCall argL argOf qZ outOb obO yM qA cvO tot Tr.own rid partsOf fillC zS zBf frz frz1 evBuildSlice zc trs Cv.tr evSlice Option.toArray_none Option.toArray_some evMakeSlice evAppend dstOf srcOf zA3 zBQ zBN zBL zBM ikT qx qw qv qu RetP RetN zBr qD evLd evSt evStoreH zAh evAppendM evAppendT tlOf mvOf rowE shp evTake oOf evC evCallP evCallN evCallO unlast zAO zA1 zAa argsF zCR qg pmC varT vT evField evConv dB0 Option.bind_some Option.bind_none Option.map_some Option.map_none Option.isSome_some Option.isSome_none
attribute [local go_sem] yL za zA7 yd qr zAv zAw zAx zAy zAz zA0 zAD zAE zAF zAG zAH zAI zAJ zAK yS qp
attribute [-go_sem] za
attribute [local go_sem] zAV zCF zCG zAf yy
theorem zFm{W:zB}{x:ByteArray}(h:zA4 W x):(zA2 W.sn fun k=>(W.zbh k).name=x)<W.sn/\zBc W x=W.zbh (zA2 W.sn fun k=>(W.zbh k).name=x).toNat:=by
 rcases zF6 W.sn fun k=>(W.zbh k).name=x with⟨k,h1,h3,h4,h2⟩ | ⟨h1,h2⟩
 ·rw[h2,Int.toNat_natCast];exact⟨by omega,zMV ⟨h1,h3,h4⟩⟩
 ·obtain⟨k,hk,e⟩:=h;exact absurd e (h1 k hk)
theorem zII{W:zB}{x:Int}(h:zAC W x):(zA2 W.pn fun k=>(W.zbg k).id=x)<W.pn/\zE W x=W.zbg (zA2 W.pn fun k=>(W.zbg k).id=x).toNat:=by
 rcases zF6 W.pn fun k=>(W.zbg k).id=x with⟨k,h1,h3,h4,h2⟩ | ⟨h1,h2⟩
 ·rw[h2,Int.toNat_natCast];exact⟨by omega,zAc ⟨h1,h3,h4⟩⟩
 ·obtain⟨k,hk,e⟩:=h;exact absurd e (h1 k hk)
theorem zMW{W:zB}{x:ByteArray}(h:¬zA4 W x):zBc W x=zEs:=by
 unfold zBc;rw[dif_neg];rintro⟨k,hk⟩;exact h ⟨k,hk.1,hk.2.1⟩
theorem zMX{W:zB}(h:ql W){x:ByteArray}(hx:zA4 W x):zW W.pool (zBc W x).rs (zBc W x).rb:=by
 obtain⟨h1,h2⟩:=zFm hx;have:=zAp.2 hx;rw[h2];exact(h.zbh _ (by omega)).1
theorem zUF{l:List (Int×Int)}{k:Nat}(h:k<l.length):l.take (k+1)=l.take k ++ [(zi l k,zu l k)]:=by
 rw[List.take_succ_eq_append_getElem h];unfold zi zu;rw[List.getD_eq_getElem?_getD,List.getElem?_eq_getElem h];rfl
noncomputable def zZ1:zR:=qE (fun q:zB×ByteArray=>[woT q.1,sT q.2]) (fun q=>SmallW q.1/\q.2.size<=8000) (fun q=>[iT (zD2 q.1 q.2:Nat)])
theorem zW8(W:zB)(x:ByteArray):zZ1 [woT W,sT x]=some (SmallW W/\x.size<=8000,[iT (zD2 W x:Nat)]):=zK (fun l=>(zB7 (nth l 0),zDJ (nth l 1 0))) (fun _=>rfl) (W,x)
theorem zX9:zd Tryz.prog 10 zZ1:=by
 refine zP zl (GOk.cons zCP (zG Tryz.func23 rfl rfl) (GOk.cons yO (zG Tryz.func8 rfl rfl) (GOk.cons zBx (zG Tryz.func46 rfl rfl) GOk.nil))) zk Tryz.func10 rfl Tryz.ntmps10 Tryz.results10 6 ?_;rintro⟨W,x⟩ ⟨hW,hx⟩;replace hW:SmallW W:=hW;replace hx:x.size<=8000:=hx;refine⟨by simp,?_⟩;simp[go_sem,yW,yX,zBl,hW,hW.sn,zCH,zAp];refine⟨fun h=>?_,fun h1 h2 h3=>⟨⟨h2,(zFm h2).1⟩,⟨h3.right,?_⟩,by kernel_rfl,?_⟩⟩
 ·rw[zPc fun hS=>zMW fun g=>by rcases h with(h | h) | h<;>first | omega | exact h g | exact h hS];rfl
 ·have:=zMX h3 h2
  rwa [(zFm h2).2]at this
 ·rw[zHK h3,(zFm h2).2]
noncomputable def zQw:zR:=qE (fun q:zB×Int=>[woT q.1,iT q.2]) (fun q=>SmallW q.1) (fun q=>[iT (zBY q.1 q.2:Nat)])
theorem zQx(W:zB)(x:Int):zQw [woT W,iT x]=some (SmallW W,[iT (zBY W x:Nat)]):=zK (fun l=>(zB7 (nth l 0),qC (nth l 1 0))) (fun _=>rfl) (W,x)
theorem zRn:zd Tryz.prog 15 zQw:=by
 refine zP zl (GOk.cons zCD (zG Tryz.func52 rfl rfl) (GOk.cons yO (zG Tryz.func8 rfl rfl) (GOk.cons zBx (zG Tryz.func46 rfl rfl) (GOk.cons zCk (zG Tryz.func53 rfl rfl) (GOk.cons zGz (zG Tryz.func54 rfl rfl) GOk.nil))))) zk Tryz.func15 rfl Tryz.ntmps15 Tryz.results15 12 ?_;rintro⟨W,x⟩ hW;replace hW:SmallW W:=hW;refine⟨by simp,?_⟩;by_cases hx:zAC W x/\ql W;rotate_left
 ·have e:zBY W x=0:=by
   by_cases h:ql W
   ·exact zKf fun k hk e=>hx ⟨⟨k,hk,e⟩,h⟩
   ·exact zFJ h
  simp[go_sem,zBI,yX,hW,hW.pn,zJ4,zGX,e];exact fun a b=>absurd ⟨a,b⟩ hx
 obtain⟨hx,hS⟩:=hx;obtain⟨h1,h2⟩:=zII hx;have h3:=zGX.2 hx;obtain⟨k,hk⟩:∃k:Nat,(zA2 W.pn fun k=>(W.zbg k).id=x)=k:=⟨_,(Int.toNat_of_nonneg h3).symm⟩;rw[hk]at h1 h2;rw[Int.toNat_natCast]at h2;have eA:k<W.pn:=by omega
 have hT:=hS.zbg k eA;have hO:=zHB hS.zbg (W.zbg k).zbi;have hz:=zDi hS.zbj.zbf.pos (W.zbg k).zbi;have e:zBY W x=zA5 (fun y=>y∈zH W.pool (zE W (W.zbg k).zbi).rs (zE W (W.zbg k).zbi).rb) (zH W.pool (W.zbg k).rs (W.zbg k).rb):=by rw[zDb hS];unfold zK0;rw[h2]
 rw[e];simp[go_sem,zBI,yX,zDG,zBl,hW,hW.pn,hk,hS,hS.right,hT,hO,hz,eA];obtain⟨aA,bA⟩:∃l,l=zH W.pool (W.zbg k).rs (W.zbg k).rb:=⟨_,rfl⟩;obtain⟨dA,cA⟩:∃l,l=zH W.pool (zE W (W.zbg k).zbi).rs (zE W (W.zbg k).zbi).rb:=⟨_,rfl⟩;have ln:aA.length<=100:=by have:=qc W.pool (W.zbg k).rs (W.zbg k).rb;rw[bA];omega
 have lo:dA.length<=100:=by have:=qc W.pool (zE W (W.zbg k).zbi).rs (zE W (W.zbg k).zbi).rb;rw[cA];omega
 rw[<-bA,<-cA];refine⟨fun h=>absurd h (by omega),by kernel_rfl,by kernel_rfl,?_⟩;obtain⟨C,hC⟩:∃C:Nat->Nat,∀i,C i=zA5 (fun y=>y∈dA) (aA.take i):=⟨_,fun _=>rfl⟩;have fA:∀i,C i<=100:=fun i=>by rw[hC];exact Nat.le_trans (zNZ _ _) (by rw[List.length_take];omega)
 refine qY (fun i:Nat=>⟨[(11,true,.i i),(10,true,.i (C i)),(9,true,.m false [.h 72]),(8,true,.m false [.h 71])],[(72,.row 2 aA.length (ptL aA)),(71,.row 2 dA.length (ptL dA))]⟩) (fun i=>aA.length - i) (fun i=>i<=aA.length) 0 (by simp[go_sem,hC];rfl) (Nat.zero_le _) ?_;intro i hi;have hc:=fA i;simp[go_sem,zGH,ze (show i<=1000000000 by omega),ze (show C i<=1000000000 by omega),zKG,show dA.length<=1000000 by omega];refine⟨fun hl=>⟨hl,fun h=>⟨i+1,by omega,by omega,rfl,?_⟩,fun h=>⟨i+1,by omega,by omega,rfl,?_⟩⟩,fun hl=>?_⟩
 ·rw[hC (i+1),zUF hl,zLL h,hC i];rfl
 ·rw[hC (i+1),zUF hl,zNa h,hC i]
 ·rw[hC i,List.take_of_length_le hl]
abbrev nuO(l:List Int):Bool×List Tr:=(false,[.s .o 1 l.length (inL l)])
theorem zIp{n:Nat}{l:List Int}:(Tr.s .o 1 n (inL l)).kept:=zRC fun _ _ _=>trivial
noncomputable def zWp:zR:=qE (fun q:zB×ByteArray=>[woT q.1,sT q.2]) (fun q=>SmallW q.1/\q.2.size<=8000) (fun q=>[nuO (zBJ q.1 q.2)])
theorem zUu(W:zB)(x:ByteArray):zWp [woT W,sT x]=some (SmallW W/\x.size<=8000,[nuO (zBJ W x)]):=zK (fun l=>(zB7 (nth l 0),zDJ (nth l 1 0))) (fun _=>rfl) (W,x)
theorem zVn:zd Tryz.prog 6 zWp:=by
 refine zP zl (GOk.cons zCP (zG Tryz.func23 rfl rfl) (GOk.cons yO (zG Tryz.func8 rfl rfl) (GOk.cons zGF (zG Tryz.func24 rfl rfl) (GOk.cons zDA (zG Tryz.func25 rfl rfl) GOk.nil)))) zk Tryz.func6 rfl Tryz.ntmps6 Tryz.results6 10 ?_;rintro⟨W,x⟩ ⟨hW,hx⟩;replace hW:SmallW W:=hW;replace hx:x.size<=8000:=hx;refine⟨by simp,?_⟩;obtain⟨Q,hQ⟩:∃Q,zBJ W x=Q:=⟨_,rfl⟩;by_cases hS:zA4 W x/\ql W;rotate_left
 ·have e:Q = []:=by
   rw[<-hQ];exact zM6 fun h=>zMW fun g=>hS ⟨g,h⟩
  simp[go_sem,yW,yX,hW,hW.sn,zCH,zAp,hQ,e];exact⟨fun _=>⟨zET rfl,zIp⟩,fun _ a b=>absurd ⟨a,b⟩ hS⟩
 obtain⟨aA,hS⟩:=hS;obtain⟨h1,h2⟩:=zFm aA;have h3:=zAp.2 aA;have h4:=zMX hS aA;have dA:=hQ;rw[zDZ hS]at hQ;rw[h2]at hQ h4;obtain⟨k,hk⟩:∃k:Nat,(zA2 W.sn fun k=>(W.zbh k).name=x)=k:=⟨_,(Int.toNat_of_nonneg h3).symm⟩;rw[hk]at h1 hQ h4;rw[Int.toNat_natCast]at hQ h4;have bA:k<W.sn:=by omega
 have hT:zAm W.pool (W.zbh k).rs (W.zbh k).rb:=⟨hS.right,h4⟩;obtain⟨F,hF⟩:∃F:Nat->List Int,∀n,F n=zBk W.pool (W.zbh k).rs (W.zbh k).rb 0 0 n:=⟨_,fun _=>rfl⟩;have cA:∀n,(F n).length<=n:=fun n=>by rw[hF];exact zDj ..
 simp[go_sem,yW,yX,hW,hW.sn,hk,hS,hx,dA,show ¬(8000:Int)<x.size by omega];refine⟨fun h=>absurd h (by omega),?_⟩;refine qY (fun n:Nat=>⟨[(5,true,.m false [.h 71]),(2,true,.m false [.p 2 0]),(6,true,.i k),(7,true,.i n)],[(2,.var ((woL W).map Tr.cv)),(71,.row 1 (F n).length (inL (F n)))]⟩) (fun n=>64 - n) (fun n=>n<=64) 0 (by simp[go_sem,hF,zBk];exact zET rfl) (by simp) ?_;intro n hn;simp[go_sem,zIu,zCM,ze (show n<=1000000000 by omega),hT,bA];have hc:=cA n;have hp:=zQ7 (p:=W.pool) (a:=(W.zbh k).rs) (b:=(W.zbh k).rb) (n:=n);refine⟨fun hl=>⟨by omega,by kernel_rfl,fun h=>⟨by omega,n+1,by omega,by omega,rfl,zI5 ?_⟩,fun a b=>⟨n+1,by omega,by omega,rfl,zBv ?_⟩⟩,fun hl=>?_⟩
 ·rw[hF (n+1),zC8 (hp.2 fun e=>h e.1 e.2),hF n]
 ·rw[hF (n+1),zDD fun e=>hp.1 e ⟨a,b⟩,hF n]
 ·obtain rfl:n=64:=(by omega);exact⟨zBv (by rw[hF];exact hQ),zIp⟩
noncomputable def zQk:zR:=qE (fun q:zB×Int×Int=>[woT q.1,iT q.2.1,iT q.2.2]) (fun q=>SmallW q.1) (fun q=>[nuO (ym q.1 q.2.1 q.2.2)])
theorem zQl(W:zB)(x y:Int):zQk [woT W,iT x,iT y]=some (SmallW W,[nuO (ym W x y)]):=zK (fun l=>(zB7 (nth l 0),qC (nth l 1 0),qC (nth l 2 0))) (fun _=>rfl) (W,x,y)
theorem zRd:zd Tryz.prog 13 zQk:=by
 refine zP zl (GOk.cons zCD (zG Tryz.func52 rfl rfl) (GOk.cons yO (zG Tryz.func8 rfl rfl) (GOk.cons zGF (zG Tryz.func24 rfl rfl) GOk.nil))) zk Tryz.func13 rfl Tryz.ntmps13 Tryz.results13 15 ?_;rintro⟨W,x,y⟩ hW;replace hW:SmallW W:=hW;refine⟨by simp,?_⟩;obtain⟨Q,hQ⟩:∃Q,ym W x y=Q:=⟨_,rfl⟩;by_cases hS:ql W/\zAC W x/\zAC W y;rotate_left
 ·have e:Q = []:=(by rw[<-hQ];exact zBe hS);simp[go_sem,zBI,yX,hW,hW.pn,zJ4,zGX,hQ,e];exact⟨fun _=>⟨zET rfl,zIp⟩,fun a b c=>absurd ⟨c,a,b⟩ hS⟩
 obtain⟨hS,hx,hy⟩:=hS;have dA:=hQ;rw[zB2 ⟨hS,hx,hy⟩]at hQ;obtain⟨h1,h2⟩:=zII hx;have h3:=zGX.2 hx;obtain⟨i1,i2⟩:=zII hy;have i3:=zGX.2 hy;rw[h2,i2]at hQ;obtain⟨k,hk⟩:∃k:Nat,(zA2 W.pn fun k=>(W.zbg k).id=x)=k:=⟨_,(Int.toNat_of_nonneg h3).symm⟩;obtain⟨j,hj⟩:∃j:Nat,(zA2 W.pn fun k=>(W.zbg k).id=y)=j:=⟨_,(Int.toNat_of_nonneg i3).symm⟩;rw[hk]at h1 hQ;rw[hj]at i1 hQ;rw[Int.toNat_natCast,Int.toNat_natCast]at hQ;have aA:k<W.pn:=by omega
 have bA:j<W.pn:=by omega
 have hT:zAm W.pool (W.zbg k).rs (W.zbg k).rb:=⟨hS.right,hS.zbg k aA⟩;have hU:zAm W.pool (W.zbg j).rs (W.zbg j).rb:=⟨hS.right,hS.zbg j bA⟩;obtain⟨F,hF⟩:∃F:Nat->List Int,∀n,F n=zBk W.pool (W.zbg k).rs (W.zbg k).rb (W.zbg j).rs (W.zbg j).rb n:=⟨_,fun _=>rfl⟩;have cA:∀n,(F n).length<=n:=fun n=>by rw[hF];exact zDj ..
 simp[go_sem,zBI,yX,hW,hW.pn,hk,hj,hS,dA];refine⟨fun h=>absurd h (by omega),?_⟩;refine qY (fun n:Nat=>⟨[(7,true,.m false [.h 71]),(3,true,.m false [.p 3 0]),(8,true,.i k),(9,true,.i j),(10,true,.i n)],[(3,.var ((woL W).map Tr.cv)),(71,.row 1 (F n).length (inL (F n)))]⟩) (fun n=>64 - n) (fun n=>n<=64) 0 (by simp[go_sem,hF,zBk];exact zET rfl) (by simp) ?_;intro n hn;simp[go_sem,zIu,ze (show n<=1000000000 by omega),hT,hU,aA,bA];have hc:=cA n;refine⟨fun hl=>⟨by omega,by kernel_rfl,by omega,by kernel_rfl,fun h=>⟨by omega,n+1,by omega,by omega,rfl,zI5 ?_⟩,fun a b=>⟨n+1,by omega,by omega,rfl,zBv ?_⟩⟩,fun hl=>?_⟩
 ·rw[hF (n+1),zC8 (fun e=>h.elim (fun g=>g e.1) fun g=>g e.2),hF n]
 ·rw[hF (n+1),zDD fun e=>e ⟨a,b⟩,hF n]
 ·obtain rfl:n=64:=(by omega);exact⟨zBv (by rw[hF];exact hQ),zIp⟩
set_option maxRecDepth 20000
set_option maxHeartbeats 3200000
structure yi where
 bn:Nat
 bf:Nat->Int
 pos:Nat
 mix:Int
 size:Int
def zEh(h:Nat->Int):Nat->Nat->Tr:=fun i _=>.v (.int .u8 (h i))
theorem zDk{h:Nat->Int}{i j:Nat}:zEh h i j = .v (.int .u8 (h i)):=rfl
abbrev srV(s:yi):List Tr:=[.s .z 1 s.bn (zEh s.bf),.v (.int .i64 s.pos),.v (.int .u64 s.mix),.v (.int .i64 s.size)]
def zGq(f:Nat->Tr):yi:=⟨zEu (f 0),fun i=>match zCA (f 0) i 0 with | .v (.int _ x)=>x | _=>0,(qC (f 1)).toNat,match f 2 with | .v (.int _ x)=>x | _=>0,qC (f 3)⟩
def zX4(a b:Int):Int:=IntKind.u64.wrap ((BitVec.ofInt IntKind.u64.bits a ^^^ BitVec.ofInt IntKind.u64.bits b).toNat)
def zai(a b:Int):Int:=IntKind.u64.wrap (a*2 ^ (min b.toNat IntKind.u64.bits))
def zXn(a b:Int):Int:=a.fdiv (2 ^ (min b.toNat IntKind.u64.bits))
theorem zNS{a b:Int}:zAe .xor .u64 a .u64 b=some (True,.int .u64 (zX4 a b)):=rfl
theorem zNQ{a b:Int}:zAe .shl .u64 a .u64 b=some (0<=b,.int .u64 (zai a b)):=rfl
theorem zNR{a b:Int}:zAe .shr .u64 a .u64 b=some (0<=b,.int .u64 (zXn a b)):=rfl
theorem zJN{a b:Int}:zAe .add .u64 a .u64 b=some (True,.int .u64 (IntKind.u64.wrap (a+b))):=rfl
theorem zJO{a b:Int}:zAe .mul .u64 a .u64 b=some (True,.int .u64 (IntKind.u64.wrap (a*b))):=rfl
theorem zJP{a b:Int}:zAe .rem .u64 a .u64 b=some (b≠0,.int .u64 (a.tmod b)):=rfl
theorem zNL{a b:Int}:zAe .add .i64 a .i64 b=some (True,.int .i64 (IntKind.i64.wrap (a+b))):=rfl
theorem zNP{k:IntKind}{a b:Int}:zAe .lss k a k b=some (True,.bool (decide (a<b))):=by simp[zAe]
theorem zNO{k:IntKind}{a b:Int}:zAe .leq k a k b=some (True,.bool (decide (a<=b))):=by simp[zAe]
theorem zNN{k:IntKind}{a b:Int}:zAe .gtr k a k b=some (True,.bool (decide (a>b))):=by simp[zAe]
theorem zNM{k:IntKind}{a b:Int}:zAe .eql k a k b=some (True,.bool (a == b)):=by simp[zAe]
theorem zh{n:Nat}{h:Nat->Int}:(Tr.s .z 1 n (zEh h)).kept:=⟨by simp,fun _ _ _ _=>trivial⟩
theorem zZ8{x:Int}(h0:0<=x)(h1:x<=1000000000000000000):IntKind.u64.wrap x=x:=by
 simp[IntKind.wrap,IntKind.bits];omega
def zaV(m:Int):Int:=zX4 m (zai m 13)
def zaW(m:Int):Int:=zX4 m (zXn m 7)
def zaX(m:Int):Int:=zX4 m (zai m 17)
def zU1(m:Int):Int:=zaX (zaW (zaV m))
def nS(s:yi)(most:Int):yi:=if most<=1 then s else {s with pos:=if s.pos<s.bn then s.pos+1 else s.pos,mix:=zU1 s.mix}
def nV(s:yi)(most:Int):Int:=if most<=1 then 0 else IntKind.i64.wrap ((IntKind.u64.wrap ((if s.pos<s.bn then s.bf s.pos else 0)+zXn (zU1 s.mix) 20)).tmod most)
structure qd (s:yi):Prop where
 bn:s.bn<=2000000
 pos:s.pos<=s.bn
 byte:∀i,i<s.bn->0<=s.bf i/\s.bf i<256
 size:0<=s.size/\s.size<=12
theorem zAk{s:yi}(h:qd s)(m:Int):qd (nS s m):=by
 unfold nS;split
 ·exact h
 ·refine⟨h.bn,?_,h.byte,h.size⟩;have:=h.pos;dsimp only;split<;>omega
attribute [local go_sem] qX List.map_cons List.map_nil Tr.cv yq qK yA qz yp yo yn qy zBE zBG zBF zBB zBD zBC zCa zCc zCb qP zr qQ zt qI qH qU zAA zo zp yE qO tmpsOf zAo yD qN zBA yw yu yr yx yv stpP opds opd opdC kap zAB qJ zn coreU bin zAe zCK get put dlO fgt zBR zBK zBO zBP tyT yk yj Op.operands Call.operands evLoad evLen evStore evAlloc zAj and_true true_and List.append_nil List.nil_append List.cons_append Ret resCv zB3 yV cellM zBh zCE qV StW StR hpT hpO hpV hpA hpL hpC sg nin zCU bdO tmW obW AvE CsE CvE Av.tup Av.ids Cv.ids inD ObE Ob.ids TrE.refl qM yB yC qR qS qT zq zb zX yz zBa zCL zBH evCall argL argOf qZ outOb obO yM qA cvO tot Tr.own rid partsOf fillC zS zBf frz frz1 evBuildSlice zc trs Cv.tr evSlice Option.toArray_none Option.toArray_some evMakeSlice evAppend dstOf srcOf zA3 zBQ zBN zBL zBM ikT qx qw qv qu RetP RetN zBr qD evLd evSt evStoreH zAh evAppendM evAppendT tlOf mvOf rowE shp evTake oOf evC evCallP evCallN evCallO unlast zAO zA1 zAa argsF zCR qg pmC varT vT evField evConv dB0 Option.bind_some Option.bind_none Option.map_some Option.map_none Option.isSome_some Option.isSome_none
attribute [-go_sem] zAe
attribute [local go_sem] zNS zNQ zNR zJN zJO zJP zNL zNP zNO zNN zNM zDk
noncomputable def mN:zR:=qE (fun q:yi×Int=>(true,srV q.1) :: [iT q.2]) (fun q=>qd q.1/\q.2<=1000000000000000000) (fun q=>[(true,srV (nS q.1 q.2)),iT (nV q.1 q.2)])
theorem zCl(s:yi)(m:Int):mN ((true,srV s) :: [iT m])=some (qd s/\m<=1000000000000000000,[(true,srV (nS s m)),iT (nV s m)]):=zK (fun l=>(zGq (nth l 0),qC (nth l 1 0))) (fun _=>rfl) (s,m)
theorem zPG:zBd Tryz.prog 84 mN:=by
 refine zA8 zl GOk.nil zk Tryz.func84 rfl Tryz.ntmps84 Tryz.results84 6 ?_;rintro⟨s,m⟩ hs;obtain⟨hs,hm⟩:qd s/\m<=1000000000000000000:=hs;have hb:=hs.bn;have hp:=hs.pos;refine⟨by simp,?_⟩;simp[go_sem,ze (show s.pos<=1000000000 by omega)];refine⟨fun h=>?_,fun h=>?_⟩
 ·rw[show nS s m=s from if_pos h];exact⟨⟨⟨TrE.refl _,zh⟩,rfl,rfl,rfl⟩,(if_pos h).symm⟩
 have h':¬m<=1:=by omega
 have hw:IntKind.u64.wrap m=m:=zZ8 (by omega) (by omega);have aA:m≠0:=by omega
 rw[hw];rw[show nS s m=_ from if_neg h',show nV s m=_ from if_neg h'];refine⟨by kernel_rfl,fun h1=>⟨h1,by kernel_rfl,by kernel_rfl,by kernel_rfl,by kernel_rfl,aA,⟨⟨TrE.refl _,zh⟩,?_,rfl,rfl⟩,?_⟩,fun h1=>⟨by kernel_rfl,by kernel_rfl,by kernel_rfl,aA,⟨⟨TrE.refl _,zh⟩,?_,rfl,rfl⟩,?_⟩⟩
 ·simp[h1]
 ·simp[h1,zU1,zaV,zaW,zaX,zZ8 (hs.byte _ h1).1 (by have:=(hs.byte _ h1).2;omega)]
 ·simp[Nat.not_lt.2 h1]
 ·simp[Nat.not_lt.2 h1,zU1,zaV,zaW,zaX]
set_option maxRecDepth 20000
set_option maxHeartbeats 3200000
theorem zPe(x:Int):0<=IntKind.u64.wrap x:=by
 simp[IntKind.wrap,IntKind.bits,IntKind.signed];omega
theorem zCN{x:Int}(h:-1000000000000000000<=x)(h':x<=1000000000000000000):IntKind.i64.wrap x=x:=by
 simp[IntKind.wrap,IntKind.bits,IntKind.signed];omega
theorem zG7(s:yi){m:Int}(h:1<m)(h':m<=1000000000000000000):0<=nV s m/\nV s m<m:=by
 unfold nV;rw[if_neg (by omega)];have h0:=Int.tmod_nonneg m (zPe ((if s.pos<s.bn then s.bf s.pos else 0)+zXn (zU1 s.mix) 20));have h1:=Int.tmod_lt_of_pos (IntKind.u64.wrap ((if s.pos<s.bn then s.bf s.pos else 0)+zXn (zU1 s.mix) 20)) (show 0<m by omega);rw[zCN (by omega) (by omega)];exact⟨h0,h1⟩
theorem zIz(s:yi){m:Int}(h':m<=1000000000000000000):0<=nV s m/\(nV s m<m\/nV s m=0):=by
 by_cases h:1<m
 ·exact⟨(zG7 s h h').1,.inl (zG7 s h h').2⟩
 ·have:nV s m=0:=if_pos (by omega);omega
attribute [local go_sem] qX List.map_cons List.map_nil Tr.cv yq qK yA qz yp yo yn qy zBE zBG zBF zBB zBD zBC zCa zCc zCb qP zr qQ zt qI qH qU zAA zo zp yE qO tmpsOf zAo yD qN zBA yw yu yr yx yv stpP opds opd opdC kap zAB qJ zn coreU bin zAe zCK get put dlO fgt zBR zBK zBO zBP tyT yk yj Op.operands Call.operands evLoad evLen evStore evAlloc zAj and_true true_and List.append_nil List.nil_append List.cons_append Ret resCv zB3 yV cellM zBh zCE qV StW StR hpT hpO hpV hpA hpL hpC sg nin zCU bdO tmW obW AvE CsE CvE Av.tup Av.ids Cv.ids inD ObE Ob.ids TrE.refl qM yB yC qR qS qT zq zb zX yz zBa zCL zBH evCall argL argOf qZ outOb obO yM qA cvO tot Tr.own rid partsOf fillC zS zBf frz frz1 evBuildSlice zc trs Cv.tr evSlice Option.toArray_none Option.toArray_some evMakeSlice evAppend dstOf srcOf zA3 zBQ zBN zBL zBM ikT qx qw qv qu RetP RetN zBr qD evLd evSt evStoreH zAh evAppendM evAppendT tlOf mvOf rowE shp evTake oOf evC evCallP evCallN evCallO unlast zAO zA1 zAa argsF zCR qg pmC varT vT evField evConv dB0 Option.bind_some Option.bind_none Option.map_some Option.map_none Option.isSome_some Option.isSome_none
attribute [-go_sem] zAe
attribute [local go_sem] zNS zNQ zNR zJN zJO zJP zNL zNP zNO zNN zNM zDk
noncomputable def zbD:zR:=qE (fun q:yi×Int=>(true,srV q.1) :: [iT q.2]) (fun q=>qd q.1/\q.2<=1000000000000000000) (fun q=>(true,srV (nS q.1 q.2)) :: bR (nV q.1 q.2=0))
theorem zBp(s:yi)(m:Int):zbD ((true,srV s) :: [iT m])=some (qd s/\m<=1000000000000000000,(true,srV (nS s m)) :: bR (nV s m=0)):=zK (fun l=>(zGq (nth l 0),qC (nth l 1 0))) (fun _=>rfl) (s,m)
theorem zPM:zBd Tryz.prog 86 zbD:=by
 refine zA8 zl (GOk.ptr zPG (zG Tryz.func84 rfl rfl) GOk.nil) zk Tryz.func86 rfl Tryz.ntmps86 Tryz.results86 5 ?_;rintro⟨s,m⟩ hs;obtain⟨hs,hm⟩:qd s/\m<=1000000000000000000:=hs;refine⟨by simp,?_⟩;simp[go_sem,zCl,hs,hm,zh]
noncomputable def za9:zR:=qE (fun q:Int×Int=>[iT q.1,iT q.2]) (fun _=>True) (fun q=>[iT (max q.1 q.2)])
theorem zYj(a b:Int):za9 [iT a,iT b]=some (True,[iT (max a b)]):=zK (fun l=>(qC (nth l 0 0),qC (nth l 1 0))) (fun _=>rfl) (a,b)
theorem zUl:zd Tryz.prog 120 za9:=by
 refine zP zl GOk.nil zk Tryz.func120 rfl Tryz.ntmps120 Tryz.results120 5 ?_;rintro⟨a,b⟩ -;refine⟨by simp,?_⟩;simp[go_sem];omega
abbrev sT'(d:ByteArray):Bool×List Tr:=(false,[.v (.string d)])
def zZV:List Int:=[0,1,-1,2,1000,1001,2147483648,2147483647,-2147483648,4611686018427387904,9223372036854775807,-9223372036854775808,1000000,1000001]
def zQH(s:yi):Int:=zZV.getD (nV s 14).toNat 0
noncomputable def zZe:zR:=qE (fun s:yi=>[(true,srV s)]) (fun s=>qd s) (fun s=>[(true,srV (nS s 14)),iT (zQH s)])
theorem zG3(s:yi):zZe [(true,srV s)]=some (qd s,[(true,srV (nS s 14)),iT (zQH s)]):=zK (fun l=>zGq (nth l 0)) (fun _=>rfl) s
theorem zTI:zBd Tryz.prog 132 zZe:=by
 refine zA8 (A:=fun _=>[]) zl (GOk.ptr zPG (zG Tryz.func84 rfl rfl) GOk.nil) zk Tryz.func132 rfl Tryz.ntmps132 Tryz.results132 3 ?_;rintro s hs;replace hs:qd s:=hs;have hv:=zG7 s (m:=14) (by omega) (by omega);refine⟨by simp,?_⟩;rcases(show nV s 14=0\/nV s 14=1\/nV s 14=2\/nV s 14=3\/nV s 14=4\/nV s 14=5\/nV s 14=6\/nV s 14=7\/nV s 14=8\/nV s 14=9\/nV s 14=10\/nV s 14=11\/nV s 14=12\/nV s 14=13 by omega)with h | h | h | h | h | h | h | h | h | h | h | h | h | h<;>simp[go_sem,zCl,hs,h,zQH,zZV,zh]
def zKc(s:yi):yi:=if nV s 20=0 then nS (nS (nS s 20) 14) 4 else nS (nS s 20) 7
def zQ4(s:yi):Int:=if nV s 20=0 then [-1,63,64,zQH (nS s 20)].getD (nV (nS (nS s 20) 14) 4).toNat 0 else [0,1,2,7,8,9,63].getD (nV (nS s 20) 7).toNat 0
theorem zPJ{s:yi}(h:qd s):qd (zKc s):=by
 unfold zKc;split
 ·exact zAk (zAk (zAk h _) _) _
 ·exact zAk (zAk h _) _
noncomputable def zbB:zR:=qE (fun s:yi=>[(true,srV s)]) (fun s=>qd s) (fun s=>[(true,srV (zKc s)),iT (zQ4 s)])
theorem zYk(s:yi):zbB [(true,srV s)]=some (qd s,[(true,srV (zKc s)),iT (zQ4 s)]):=zK (fun l=>zGq (nth l 0)) (fun _=>rfl) s
theorem zRx:zBd Tryz.prog 122 zbB:=by
 refine zA8 (A:=fun _=>[]) zl (GOk.ptr zPG (zG Tryz.func84 rfl rfl) (GOk.ptr zPM (zG Tryz.func86 rfl rfl) (GOk.ptr zTI (zG Tryz.func132 rfl rfl) GOk.nil))) zk Tryz.func122 rfl Tryz.ntmps122 Tryz.results122 3 ?_;rintro s hs;replace hs:qd s:=hs;have h1:=zAk hs 20;have h2:=zAk h1 14;refine⟨by simp,?_⟩;by_cases h0:nV s 20=0
 ·have hv:=zG7 (nS (nS s 20) 14) (m:=4) (by omega) (by omega);rcases(show nV (nS (nS s 20) 14) 4=0\/nV (nS (nS s 20) 14) 4=1\/nV (nS (nS s 20) 14) 4=2\/nV (nS (nS s 20) 14) 4=3 by omega)with h | h | h | h<;>simp[go_sem,zCl,zBp,zG3,hs,h1,h2,h0,h,zKc,zQ4,zh]
 ·have hv:=zG7 (nS s 20) (m:=7) (by omega) (by omega);rcases(show nV (nS s 20) 7=0\/nV (nS s 20) 7=1\/nV (nS s 20) 7=2\/nV (nS s 20) 7=3\/nV (nS s 20) 7=4\/nV (nS s 20) 7=5\/nV (nS s 20) 7=6 by omega)with h | h | h | h | h | h | h<;>simp[go_sem,zCl,zBp,zG3,hs,h1,h2,h0,h,zKc,zQ4,zh]
noncomputable def zQq:zR:=qE (fun q:yi×Nat×(Nat->Nat->Tr)=>(true,srV q.1) :: [(false,[.s .b 1 q.2.1 q.2.2])]) (fun q=>qd q.1/\(0<q.2.1/\q.2.1<=1000000)/\∀i,i<q.2.1->∃t,q.2.2 i 0 = .v (.string t)) (fun q=>[(true,srV (nS q.1 q.2.1)),sT' (zDJ (q.2.2 (nV q.1 q.2.1).toNat 0))])
theorem zWq(s:yi)(n:Nat)(F:Nat->Nat->Tr):zQq ((true,srV s) :: [(false,[.s .b 1 n F])])=some (qd s/\(0<n/\n<=1000000)/\∀i,i<n->∃t,F i 0 = .v (.string t),[(true,srV (nS s n)),sT' (zDJ (F (nV s n).toNat 0))]):=zK (fun l=>(zGq (nth l 0),zEu (nth l 1 0),zCA (nth l 1 0))) (fun _=>rfl) (s,n,F)
theorem zT5:zBd Tryz.prog 88 zQq:=by
 refine zA8 zl (GOk.ptr zPG (zG Tryz.func84 rfl rfl) GOk.nil) zk Tryz.func88 rfl Tryz.ntmps88 Tryz.results88 5 ?_;rintro⟨s,n,F⟩ hs;obtain⟨hs,⟨hn,aA⟩,hF⟩:qd s/\(0<n/\n<=1000000)/\∀i,i<n->∃t,F i 0 = .v (.string t):=hs;have hv:=zIz s (m:=n) (by omega);obtain⟨t,ht⟩:=hF (nV s n).toNat (by omega);refine⟨by simp,?_⟩;simp[go_sem,zCl,hs,ht,zh,zDJ];omega
set_option maxRecDepth 20000
set_option maxHeartbeats 3200000
theorem zay{a b:Int}:zAe .quo .i64 a .i64 b=some (b≠0,.int .i64 (IntKind.i64.wrap (a.tdiv b))):=rfl
def zGb(l:List ByteArray):Nat->Nat->Tr:=fun p q=>(l.map fun t=>Tr.v (.string t))[p+q]?.getD (.v (.bool false))
theorem zRS{l:List ByteArray}{i:Nat}(h:i<l.length):zGb l i 0 = .v (.string (l.getD i ⟨#[]⟩)):=by
 unfold zGb;simp[h]
theorem zN0{fl:Fl}{n:Nat}(l:List ByteArray):(Tr.s fl 1 n (zGb l)).lend = .s .b 1 n (zGb l):=by
 show Tr.s .b 1 n (fun p q=>(zGb l p q).lend)=_;congr 1;funext p q;unfold zGb;rw[List.getElem?_map];cases l[p+q]?<;>rfl
theorem zKl{fl:Fl}{a b c:ByteArray}:(Tr.s fl 1 3 fun p q=>([.v (.string a),.v (.string b),.v (.string c)]:List Tr)[p+q]?.getD (.v (.bool false))).lend = .s .b 1 3 (zGb [a,b,c]):=zN0 [a,b,c]
theorem zKm{fl:Fl}{a b c d e:ByteArray}:(Tr.s fl 1 5 fun p q=>([.v (.string a),.v (.string b),.v (.string c),.v (.string d),.v (.string e)]:List Tr)[p+q]?.getD (.v (.bool false))).lend = .s .b 1 5 (zGb [a,b,c,d,e]):=zN0 [a,b,c,d,e]
theorem zL5(s:yi)(l:List ByteArray)(h:0<l.length/\l.length<=1000000):zQq ((true,srV s) :: [(false,[.s .b 1 l.length (zGb l)])])=some (qd s,[(true,srV (nS s l.length)),sT' (l.getD (nV s l.length).toNat ⟨#[]⟩)]):=by
 have hv:=zIz s (m:=l.length) (by omega);rw[zWq,zRS (by omega)];have e:(qd s/\(0<l.length/\l.length<=1000000)/\∀i,i<l.length->∃t,zGb l i 0 = .v (.string t))=qd s:=by
  refine propext ⟨fun h=>h.1,fun hs=>⟨hs,h,fun i hi=>⟨_,zRS hi⟩⟩⟩
 rw[e];rfl
theorem zUv(s:yi)(a b c:ByteArray):zQq ((true,srV s) :: [(false,[.s .b 1 3 (zGb [a,b,c])])])=some (qd s,[(true,srV (nS s 3)),sT' ([a,b,c].getD (nV s 3).toNat ⟨#[]⟩)]):=zL5 s [a,b,c] ⟨by simp,by simp⟩
theorem zUw(s:yi)(a b c d e:ByteArray):zQq ((true,srV s) :: [(false,[.s .b 1 5 (zGb [a,b,c,d,e])])])=some (qd s,[(true,srV (nS s 5)),sT' ([a,b,c,d,e].getD (nV s 5).toNat ⟨#[]⟩)]):=zL5 s [a,b,c,d,e] ⟨by simp,by simp⟩
attribute [local go_sem] qX List.map_cons List.map_nil Tr.cv yq qK yA qz yp yo yn qy zBE zBG zBF zBB zBD zBC zCa zCc zCb qP zr qQ zt qI qH qU zAA zo zp yE qO tmpsOf zAo yD qN zBA yw yu yr yx yv stpP opds opd opdC kap zAB qJ zn coreU bin zAe zCK get put dlO fgt zBR zBK zBO zBP tyT yk yj Op.operands Call.operands evLoad evLen evStore evAlloc zAj and_true true_and List.append_nil List.nil_append List.cons_append Ret resCv zB3 yV cellM zBh zCE qV StW StR hpT hpO hpV hpA hpL hpC sg nin zCU bdO tmW obW AvE CsE CvE Av.tup Av.ids Cv.ids inD ObE Ob.ids TrE.refl qM yB yC qR qS qT zq zb zX yz zBa zCL zBH evCall argL argOf qZ outOb obO yM qA cvO tot Tr.own rid partsOf fillC zS zBf frz frz1 evBuildSlice zc trs Cv.tr evSlice Option.toArray_none Option.toArray_some evMakeSlice evAppend dstOf srcOf zA3 zBQ zBN zBL zBM ikT qx qw qv qu RetP RetN zBr qD evLd evSt evStoreH zAh evAppendM evAppendT tlOf mvOf rowE shp evTake oOf evC evCallP evCallN evCallO unlast zAO zA1 zAa argsF zCR qg pmC varT vT evField evConv dB0 Option.bind_some Option.bind_none Option.map_some Option.map_none Option.isSome_some Option.isSome_none
attribute [local go_sem] zKl zKm
attribute [-go_sem] zAe
attribute [local go_sem] zNS zNQ zNR zJN zJO zJP zNL zNP zNO zNN zNM zay zDk
def zXJ:List ByteArray:=[⟨#[97]⟩,⟨#[97]⟩,⟨#[98]⟩,⟨#[99]⟩,⟨#[100]⟩]
def zKC(s:yi):ByteArray:=zXJ.getD (nV s 5).toNat ⟨#[]⟩
noncomputable def zWj:zR:=qE (fun s:yi=>[(true,srV s)]) (fun s=>qd s) (fun s=>[(true,srV (nS s 5)),sT' (zKC s)])
theorem zN3(s:yi):zWj [(true,srV s)]=some (qd s,[(true,srV (nS s 5)),sT' (zKC s)]):=zK (fun l=>zGq (nth l 0)) (fun _=>rfl) s
theorem zLu:zBd Tryz.prog 58 zWj:=by
 refine zA8 (A:=fun _=>[]) zl (GOk.ptr zT5 (zG Tryz.func88 rfl rfl) GOk.nil) zk Tryz.func58 rfl Tryz.ntmps58 Tryz.results58 3 ?_;rintro s hs;replace hs:qd s:=hs;refine⟨by simp,?_⟩;simp[go_sem,zUw,hs,zKC,zXJ,zh]
def zV3(a b:Int):Nat->Nat->Tr:=qn (qn (fun _ q=>Tr.v ([Value.int IntKind.u8 0][q]?.getD (Value.bool false))) 0 0 [.v (.int .u8 (IntKind.u8.wrap a))]) 15 0 [.v (.int .u8 (IntKind.u8.wrap (IntKind.i64.wrap (97+b))))]
theorem zV4(a b:Int)(p:Nat):∃x,zV3 a b p 0 = .v (.int .u8 x):=by
 unfold zV3 qn;by_cases h1:p=15
 ·exact⟨IntKind.u8.wrap (IntKind.i64.wrap (97+b)),by simp[h1]⟩
 ·by_cases h2:p=0
  ·exact⟨IntKind.u8.wrap a,by simp[h2]⟩
  ·exact⟨0,by simp[h1,h2]⟩
def zTF(s:yi):yi:=nS (nS s 256) 3
def zTG(s:yi):ByteArray:=zUE 16 (zV3 (nV s 256) (nV (nS s 256) 3))
noncomputable def zZb:zR:=qE (fun s:yi=>[(true,srV s)]) (fun s=>qd s) (fun s=>[(true,srV (zTF s)),sT' (zTG s)])
theorem zWf(s:yi):zZb [(true,srV s)]=some (qd s,[(true,srV (zTF s)),sT' (zTG s)]):=zK (fun l=>zGq (nth l 0)) (fun _=>rfl) s
theorem zSO:zBd Tryz.prog 131 zZb:=by
 refine zA8 (A:=fun _=>[]) zl (GOk.ptr zPG (zG Tryz.func84 rfl rfl) GOk.nil) zk Tryz.func131 rfl Tryz.ntmps131 Tryz.results131 4 ?_;rintro s hs;replace hs:qd s:=hs;have h1:=zAk hs 256;refine⟨by simp,?_⟩;simp[go_sem,zCl,hs,h1,zh];exact⟨fun p _=>zV4 _ _ p,⟨TrE.refl _,rfl,rfl,rfl⟩,rfl⟩
def zTk(f:Nat->Int):Nat->Int
 | 0=>88172645463325252
 | k+1=>IntKind.u64.wrap (zX4 (zTk f k) (IntKind.u64.wrap (f k))*1099511628211)
def zDw(n:Nat)(f:Nat->Int):yi:=⟨n,f,0,zTk f (min n 64),min ((n / 20:Nat):Int) 12⟩
noncomputable def zTi:zR:=qE (fun q:Nat×(Nat->Int)=>[(false,[.s .z 1 q.1 (zEh q.2)])]) (fun q=>q.1<=2000000) (fun q=>[(true,srV (zDw q.1 q.2))])
theorem zL7(n:Nat)(f:Nat->Int):zTi [(false,[.s .z 1 n (zEh f)])]=some (n<=2000000,[(true,srV (zDw n f))]):=zK (fun l=>(zEu (nth l 0 0),fun i=>match zCA (nth l 0 0) i 0 with | .v (.int _ x)=>x | _=>0)) (fun _=>rfl) (n,f)
theorem zIq:zOf Tryz.prog 47 zTi:=by
 refine zVQ zl GOk.nil zk Tryz.func47 rfl Tryz.ntmps47 Tryz.results47 5 ?_;rintro⟨n,f⟩ hn;replace hn:n<=2000000:=hn;refine⟨by simp,?_⟩;simp[go_sem];refine qY (fun k:Nat=>⟨[(4,true,.i k),(3,true,.m false [.p 7 0]),(0,true,.m false [.s .z 1 n (zEh f)])],[(7,.var [.s .z 1 n (zEh f),.v i0,.v (.int .u64 (zTk f k)),.v i0])]⟩) (fun k=>n - k) (fun k=>k<=n/\k<=64) 0 (by simp[go_sem,zTk]) (by simp) ?_;rintro k ⟨hk,aA⟩;simp[go_sem,ze (show k<=1000000000 by omega)];refine⟨fun h1 h2=>⟨h1,by kernel_rfl,k+1,by omega,by omega,rfl,rfl⟩,fun h=>?_⟩;have hm:min n 64=k:=by omega
 rw[zCN (x:=(n:Int) / 20) (by omega) (by omega)];refine⟨fun h1=>⟨⟨TrE.refl _,zh⟩,rfl,by rw[<-hm];rfl,?_⟩,fun h1=>⟨⟨TrE.refl _,zh⟩,rfl,by rw[<-hm];rfl,?_⟩⟩
 ·show(12:Int)=min ((n / 20:Nat):Int) 12;omega
 ·show(n:Int) / 20=min ((n / 20:Nat):Int) 12;omega
theorem zHe{n:Nat}{f:Nat->Int}(h:n<=2000000)(hf:∀i,i<n->0<=f i/\f i<256):qd (zDw n f):=⟨h,Nat.zero_le _,hf,by show 0<=min ((n / 20:Nat):Int) 12/\min ((n / 20:Nat):Int) 12<=12;omega⟩
set_option maxRecDepth 20000
set_option maxHeartbeats 3200000
def zKb(s:Nat->zB9)(k:Nat):Nat->Nat->Tr:=fun i=>if i<k then setsE .o s i else setsE .b s i
def zMB(s:Nat->yY)(k:Nat):Nat->Nat->Tr:=fun i=>if i<k then snapsE .z s i else snapsE .b s i
theorem qG{n:Nat}{s:Nat->zB9}:(Tr.s .o 6 n (setsE .o s)).kept:=⟨by simp,fun i j _ hj=>by
 match j,hj with
 | 0,_ | 1,_ | 2,_ | 3,_ | 4,_=>trivial
 | 5,_=>exact zHT.2 trivial⟩
theorem zx{n:Nat}{s:Nat->yY}:(Tr.s .o 8 n (snapsE .z s)).kept:=⟨by simp,fun i j _ hj=>by
 match j,hj with
 | 0,_ | 1,_ | 2,_ | 3,_ | 4,_ | 5,_ | 6,_=>trivial
 | 7,_=>exact⟨by simp,fun p q _ _=>by unfold ptrsT;split<;>trivial⟩⟩
theorem zaZ{s:Nat->zB9}:zKb s 0=setsE .b s:=by funext i;simp[zKb]
theorem zaY{s:Nat->yY}:zMB s 0=snapsE .b s:=by funext i;simp[zMB]
theorem zYv{s:Nat->zB9}{k i:Nat}(h:k<=i):zKb s k i=setsE .b s i:=if_neg (by omega)
theorem zYt{s:Nat->yY}{k i:Nat}(h:k<=i):zMB s k i=snapsE .b s i:=if_neg (by omega)
theorem zXI{fl:Fl}{s:Nat->zB9}{n:Nat}:TrE (.s fl 6 n (zKb s n)) (.s fl 6 n (setsE .o s)):=zDv fun i j hi hj=>by rw[zKb,if_pos hi]
theorem zXH{fl:Fl}{s:Nat->yY}{n:Nat}:TrE (.s fl 8 n (zMB s n)) (.s fl 8 n (snapsE .z s)):=zDv fun i j hi hj=>by rw[zMB,if_pos hi]
theorem zXK{s:Nat->zB9}:(fun p q=>(setsE .b s p q).nt)=setsE .b s:=by
 funext p q
 match q with
 | 0 | 1 | 2 | 3 | 4=>rfl
 | 5=>rfl
 | q+6=>rfl
theorem zOC{s:Nat->yY}:(fun p q=>(snapsE .b s p q).nt)=snapsE .b s:=by
 funext p q
 match q with
 | 0 | 1 | 2 | 3 | 4 | 5 | 6=>rfl
 | 7=>rfl
 | q+8=>rfl
theorem zYw{fl:Fl}{s:Nat->zB9}{n k:Nat}{F:Nat->Nat->Tr}(hF:TrE (.s .o 2 (s k).dn F) (.s .o 2 (s k).dn (ptrsT (s k).ds (s k).db))):TrE (.s fl 6 n (qn (zKb s k) k 5 [.s .o 2 (s k).dn F])) (.s fl 6 n (zKb s (k+1))):=by
 refine⟨.inl rfl,rfl,rfl,fun i j hi hj=>?_⟩;by_cases h:i=k
 ·subst h
  match j,hj with
  | 0,_ | 1,_ | 2,_ | 3,_ | 4,_=>exact TrE.of_eq (by simp[qn,zKb,setsE])
  | 5,_=>simpa[qn,zKb,setsE]using hF
 ·refine TrE.of_eq ?_;have:(i<k+1)=(i<k):=propext (by omega);simp[qn,zKb,h,this]
theorem zYu{fl:Fl}{s:Nat->yY}{n k:Nat}{F:Nat->Nat->Tr}(hF:TrE (.s .o 2 (s k).dn F) (.s .z 2 (s k).dn (ptrsT (s k).ds (s k).db))):TrE (.s fl 8 n (qn (zMB s k) k 7 [.s .o 2 (s k).dn F])) (.s fl 8 n (zMB s (k+1))):=by
 refine⟨.inl rfl,rfl,rfl,fun i j hi hj=>?_⟩;by_cases h:i=k
 ·subst h
  match j,hj with
  | 0,_ | 1,_ | 2,_ | 3,_ | 4,_ | 5,_ | 6,_=>exact TrE.of_eq (by simp[qn,zMB,snapsE])
  | 7,_=>simpa[qn,zMB,snapsE]using hF
 ·refine TrE.of_eq ?_;have:(i<k+1)=(i<k):=propext (by omega);simp[qn,zMB,h,this]
attribute [local go_sem] qX List.map_cons List.map_nil Tr.cv yq qK yA qz yp yo yn qy zBE zBG zBF zBB zBD zBC zCa zCc zCb qP zr qQ zt qI qH qU zAA zo zp yE qO tmpsOf zAo yD qN zBA yw yu yr yx yv stpP opds opd opdC kap zAB qJ zn coreU bin zAe zCK get put dlO fgt zBR zBK zBO zBP tyT yk yj Op.operands Call.operands evLoad evLen evStore evAlloc zAj and_true true_and List.append_nil List.nil_append List.cons_append Ret resCv zB3 yV cellM zBh zCE qV StW StR hpT hpO hpV hpA hpL hpC sg nin zCU bdO tmW obW AvE CsE CvE Av.tup Av.ids Cv.ids inD ObE Ob.ids TrE.refl qM yB yC qR qS qT zq zb zX yz zBa zCL zBH evCall argL argOf qZ outOb obO yM qA cvO tot Tr.own rid partsOf fillC zS zBf frz frz1 evBuildSlice zc trs Cv.tr evSlice Option.toArray_none Option.toArray_some evMakeSlice evAppend dstOf srcOf zA3 zBQ zBN zBL zBM ikT qx qw qv qu RetP RetN zBr qD evLd evSt evStoreH zAh evAppendM evAppendT tlOf mvOf rowE shp evTake oOf evC evCallP evCallN evCallO unlast zAO zA1 zAa argsF zCR qg pmC varT vT evField evConv dB0 Option.bind_some Option.bind_none Option.map_some Option.map_none Option.isSome_some Option.isSome_none
attribute [local go_sem] yL za zA7 yd qr zAv zAw zAx zAy zAz zA0 zAD zAE zAF zAG zAH zAI zAJ zAK yS qp
structure yU (W:zB):Prop extends SmallW W where
 kn:∀i,i<W.pool.n->(W.pool.s i).kn<=1000000
noncomputable def zW9:zR:=qE (fun W:zB=>[woT W]) (fun W=>yU W) (fun W=>[woO W])
theorem yf(W:zB):zW9 [woT W]=some (yU W,[woO W]):=zK (fun l=>zB7 (nth l 0)) (fun _=>rfl) W
theorem zCC:zd Tryz.prog 117 zW9:=by
 refine zP zl (GOk.cons zGC (zG Tryz.func141 rfl rfl) GOk.nil) zk Tryz.func117 rfl Tryz.ntmps117 Tryz.results117 6 ?_;intro W hW;replace hW:yU W:=hW;have hn:=hW.n;have hm:=hW.hn;have hs:=hW.sn;have hp:=hW.pn;refine⟨by simp,?_⟩;simp[go_sem,zG2,hn,hm,zGn,zTr,zGL,zXK,zOC];refine⟨hW.kn,by omega,?_⟩;refine qY (fun k:Nat=>⟨[(4,true,.i k),(3,true,.m false [.p 3 0]),(2,true,.m false [.p 2 0]),(1,true,.m false [.p 1 0])],[(3,.var [.h 61,.h 62,.v (.int .i64 W.time),.v (.int .i64 W.next),.h 63,.s .b 8 W.pn (snapsE .b W.zbg)]),(63,.row 6 W.sn (zKb W.zbh k)),(62,.row 1 W.pool.hn (qf W.pool.h)),(61,.row 3 W.pool.n (zY .z W.pool.s)),(2,.var [.v n0,.v n0,.v i0,.v i0,.v n0,.v n0]),(1,.var ((woL W).map Tr.cv))]⟩) (fun k=>W.sn - k) (fun k=>k<=W.sn) 0 (by rw[zaZ];simp[go_sem]) (Nat.zero_le _) ?_;intro k hk;simp[go_sem,ze (show k<=1000000000 by omega),zGn,zGL,zOC,zYv (Nat.le_refl k)];refine⟨fun hl=>?_,fun hl=>?_⟩
 ·have hd:=hW.sd k hl;exact⟨hl,by omega,hl,by kernel_rfl,k+1,by omega,by omega,rfl,zYw (TrE.refl _)⟩
 cases (show k=W.sn by omega);refine⟨by omega,?_⟩;refine qY (fun k:Nat=>⟨[(5,true,.i k),(3,true,.m false [.p 3 0]),(2,true,.m false [.p 2 0]),(1,true,.m false [.p 1 0])],[(3,.var [.h 61,.h 62,.v (.int .i64 W.time),.v (.int .i64 W.next),.h 63,.h 64]),(64,.row 8 W.pn (zMB W.zbg k)),(63,.row 6 W.sn (zKb W.zbh W.sn)),(62,.row 1 W.pool.hn (qf W.pool.h)),(61,.row 3 W.pool.n (zY .z W.pool.s)),(2,.var [.v n0,.v n0,.v i0,.v i0,.v n0,.v n0]),(1,.var ((woL W).map Tr.cv))]⟩) (fun k=>W.pn - k) (fun k=>k<=W.pn) 0 (by rw[zaY];simp[go_sem]) (Nat.zero_le _) ?_;intro k hk;simp[go_sem,ze (show k<=1000000000 by omega),zGn,zGL,zYt (Nat.le_refl k)];refine⟨fun hl=>?_,fun hl=>?_⟩
 ·have hd:=hW.pd k hl;exact⟨hl,by omega,hl,by kernel_rfl,k+1,by omega,by omega,rfl,zYu ⟨.inr ⟨rfl,rfl⟩,rfl,rfl,fun i j _ _=>TrE.refl _⟩⟩
 cases (show k=W.pn by omega);exact⟨zQ,zZ,⟨zXI,qG⟩,zXH,zx⟩
def qe(p:zF):List (Int×Int)->zF
 | []=>p
 | x :: l=>qe (zGv p x.1) l
def zKw(p:zF)(l:List (Int×Int)):Prop:=zf p/\(∀x,x∈l->yF p x.1 x.2/\¬Has p.hn p.h x.1)/\(l.map Prod.fst).Nodup
theorem zF8(x:Int×Int):∀(l:List (Int×Int)) (p:zF),qe p (l ++ [x])=zGv (qe p l) x.1
 | [],_=>rfl
 | y :: l,p=>zF8 x l (zGv p y.1)
theorem zBu:∀(l:List (Int×Int)) (p:zF),(qe p l).n=p.n/\(qe p l).s=p.s/\(qe p l).hn=p.hn+l.length
 | [],_=>⟨rfl,rfl,rfl⟩
 | y :: l,p=>by
  obtain⟨h1,h2,h3⟩:=zBu l (zGv p y.1);refine⟨h1,h2,?_⟩;show(qe (zGv p y.1) l).hn=_;rw[h3,List.length_cons];show p.hn+1+l.length=_;omega
theorem zJr(f g:Nat->Int)(t:Int):∀k,(zAP f g t k).Sublist ((List.range k).map fun i=>(f i,g i))
 | 0=>List.Sublist.refl _
 | k+1=>by
  rw[List.range_succ,List.map_append,List.map_singleton];unfold zAP;split
  ·exact(zJr f g t k).append (List.Sublist.refl _)
  ·exact(zJr f g t k).trans (List.sublist_append_left _ _)
theorem zKw.sub{p:zF}{l l':List (Int×Int)}(h:zKw p l)(hs:l'.Sublist l):zKw p l':=⟨h.1,fun x hx=>h.2.1 x (hs.subset hx),List.Nodup.sublist (hs.map _) h.2.2⟩
def zFn(W:zB)(k:Nat)(name set:ByteArray):yY:={id:=W.next,name:=name,set:=set,zbi:=(W.zbh k).zbi,time:=W.time,rs:=(W.zbh k).rs,rb:=(W.zbh k).rb,dn:=(W.zbh k).dn,ds:=(W.zbh k).ds,db:=(W.zbh k).db}
def zRM(W:zB)(k:Nat)(name set:ByteArray):zB:={W with time:=W.time+1,next:=W.next+1,zbh:=fun j=>if j=k then {W.zbh k with zbi:=W.next,dn:=0}else W.zbh j,pn:=W.pn+1,zbg:=fun j=>if j=W.pn then zFn W k name set else W.zbg j}
def ins{α : Type}(f:Nat->α)(k:Nat)(s:α):Nat->α:=fun j=>if j<k then f j else if j=k then s else f (j - 1)
theorem zWQ{α : Type}{f:Nat->α}{k j:Nat}{s:α}(h:j<k):ins f k s j=f j:=if_pos h
theorem zWO{α : Type}{f:Nat->α}{k:Nat}{s:α}:ins f k s k=s:=by
 unfold ins;rw[if_neg (Nat.lt_irrefl _),if_pos rfl]
theorem zWP{α : Type}{f:Nat->α}{k j:Nat}{s:α}(h:k<j):ins f k s j=f (j - 1):=by
 unfold ins;rw[if_neg (by omega),if_neg (by omega)]
def zFw(W:zB)(k:Nat)(s:zB9):zB:={W with sn:=W.sn+1,zbh:=ins W.zbh k s}
def noW:zB:={pool:=zG8 0,time:=0,next:=0,sn:=0,zbh:=fun _=>⟨⟨#[]⟩,0,0,0,0,0,fun _=>0,fun _=>0⟩,pn:=0,zbg:=fun _=>⟨0,⟨#[]⟩,⟨#[]⟩,0,0,0,0,0,fun _=>0,fun _=>0⟩}
structure zDR where
 world:zB
 id:Int
 many:Int
 code:Int
def qa(c:Int):zDR:=⟨noW,0,0,c⟩
end Go.Proofs.YtginldeebkfbgaaGreat
