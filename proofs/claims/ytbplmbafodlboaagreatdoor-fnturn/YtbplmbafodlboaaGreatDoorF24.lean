/- A part of the proof. -/
import Derived.Test.YtbplmbafodlboaaGreatDoorF23
import Derived.WideKeyEntry
set_option linter.unusedVariables false
set_option maxRecDepth 20000
set_option maxHeartbeats 4000000
namespace Go.Proofs.YtbplmbafodlboaaGreatDoor
open Go.RowKit
set_option linter.unusedSimpArgs false
set_option maxRecDepth 20000
set_option maxHeartbeats 3200000
abbrev stT(S:qC):Bool×List Tr:=(true,[.s .b 3 S.zcB.pool.n (zU .b S.zcB.pool.s),.s .b 1 S.zcB.pool.hn (qh S.zcB.pool.h),.v (.int .i64 S.zcB.time),.v (.int .i64 S.zcB.next),.s .b 6 S.zcB.sn (setsE .b S.zcB.zcC),.s .b 8 S.zcB.pn (snapsE .b S.zcB.zb9),.s .b 3 S.zcA.pool.n (zU .b S.zcA.pool.s),.s .b 1 S.zcA.pool.hn (qh S.zcA.pool.h),.v (.int .i64 S.zcA.time),.v (.int .i64 S.zcA.next),.s .b 6 S.zcA.sn (setsE .b S.zcA.zcC),.s .b 8 S.zcA.pn (snapsE .b S.zcA.zb9)])
abbrev stO(S:qC):Bool×List Tr:=(true,[.s .o 3 S.zcB.pool.n (zU .z S.zcB.pool.s),.s .o 1 S.zcB.pool.hn (qh S.zcB.pool.h),.v (.int .i64 S.zcB.time),.v (.int .i64 S.zcB.next),.s .o 6 S.zcB.sn (setsE .o S.zcB.zcC),.s .o 8 S.zcB.pn (snapsE .z S.zcB.zb9),.s .o 3 S.zcA.pool.n (zU .z S.zcA.pool.s),.s .o 1 S.zcA.pool.hn (qh S.zcA.pool.h),.v (.int .i64 S.zcA.time),.v (.int .i64 S.zcA.next),.s .o 6 S.zcA.sn (setsE .o S.zcA.zcC),.s .o 8 S.zcA.pn (snapsE .z S.zcA.zb9)])
def zQM(f:Nat->Tr):qC:=⟨zC1 f,zC1 fun i=>f (6+i)⟩
attribute [local go_sem] qW List.map_cons List.map_nil Tr.cv yo qG qw qv yn ym yk qu zAv zAx zAw zAs zAu zAt zCK zCM zCL qK zn qL zo qE qD qP yx zk zl yB qJ tmpsOf zAf yA qI zAr yu yq yp yr stpP opds opd opdC kap zAE qF zj coreU bin zAY zB6 get put dlO fgt zA6 zAz zA3 zA4 tyT yj yi Op.operands Call.operands evLoad evLen evStore evAlloc zAZ and_true true_and List.append_nil List.nil_append List.cons_append Ret resCv zBx yP cellM zBT zB3 qX StW StR hpT hpO hpV hpA hpL hpC sg nin zCD bdO tmW obW AvE CsE CvE Av.tup Av.ids Cv.ids inD ObE Ob.ids TrE.refl qH qx qy qM qN qO zm zb za yw zBd zCB zAy evCall argL argOf qj outOb obO yM zy cvO tot Tr.own rid partsOf fillC zT zBS frz frz1 evBuildSlice zc trs Cv.tr evSlice Option.toArray_none Option.toArray_some evMakeSlice evAppend dstOf srcOf zAq zA5 zA2 zA0 zA1 ikT qt qs qq qp RetP RetN zBe qR evLd evSt evStoreH zAP evAppendM evAppendT tlOf mvOf rowE shp evTake oOf evC evCallP evCallN evCallO unlast zAK zAp zAO argsF zCA qn pmC varT vT evField evConv dB0 Option.bind_some Option.bind_none Option.map_some Option.map_none Option.isSome_some Option.isSome_none
attribute [local go_sem] yF zY zAk yN qk zAS zAT zAU zAV zAW zAX yX yY yZ yb yd ye yf yg yG qe
attribute [-go_sem] zY
attribute [local go_sem] yV zBi zBj zAA yO
noncomputable def zXE:zW:=qZ (fun x:Int=>[iT x]) (fun _=>True) (fun x=>[stO ⟨nwW x,nwW x⟩])
theorem zHf(x:Int):zXE [iT x]=some (True,[stO ⟨nwW x,nwW x⟩]):=zO (fun l=>qg (nth l 0 0)) (fun _=>rfl) x
theorem zKO:zw Tryz.prog 21 zXE:=by
 refine zQ zs (GOk.cons zGs (zE Tryz.func23 rfl rfl) GOk.nil) zr Tryz.func21 rfl Tryz.ntmps21 Tryz.results21 3 ?_;rintro x -;refine⟨by simp,?_⟩;simp[go_sem,zHA,zR,zX,zp,zd]
noncomputable def zbU:zW:=qZ (fun q:zM×zM=>[slT q.1,slT q.2]) (fun q=>q.1.kn<=1000000) (fun q=>bR (zEn q.1 q.2))
theorem zY2(s t:zM):zbU [slT s,slT t]=some (s.kn<=1000000,bR (zEn s t)):=zO (fun l=>(zI7 (nth l 0 0) (nth l 0 1) (nth l 0 2),zI7 (nth l 1 0) (nth l 1 1) (nth l 1 2))) (fun _=>rfl) (s,t)
theorem zSa:zw Tryz.prog 33 zbU:=by
 refine zQ zs GOk.nil zr Tryz.func33 rfl Tryz.ntmps33 Tryz.results33 6 ?_;rintro⟨s,t⟩ hn;replace hn:s.kn<=1000000:=hn;refine⟨by simp,?_⟩;simp[go_sem];refine⟨fun h hE=>?_,fun hb hd hk=>?_⟩
 ·obtain⟨h1,⟨h2,-⟩,h3⟩:=hE;rcases h with(h | h) | h
  ·exact h h1
  ·exact h (congrArg ByteArray.toList h3)
  ·exact h (by omega)
 have bA:s.kn=t.kn:=by exact_mod_cast hk
 refine yE (fun k:Nat=>⟨[(2,true,.m false [.p 2 0]),(3,true,.m false [.p 3 0]),(5,true,.i k)],[(3,.var [.v (.int .i64 t.birth),.s .b 2 t.kn (ptrsT t.ks t.kb),.v (.string t.data)]),(2,.var [.v (.int .i64 s.birth),.s .b 2 s.kn (ptrsT s.ks s.kb),.v (.string s.data)])]⟩) (fun k=>s.kn - k) (fun k=>k<=s.kn/\∀i,i<k->s.ks i=t.ks i/\s.kb i=t.kb i) 0 (by simp[go_sem]) (by simp) ?_;rintro k ⟨cA,aA⟩;simp[go_sem,qB (show k<=1000000000 by omega)];refine⟨fun hl=>⟨hl,by omega,by kernel_rfl,fun h hE=>?_,fun h1 h2=>⟨k+1,⟨hl,qz hl aA ⟨h1,h2⟩⟩,by omega,rfl⟩⟩,fun hl=>⟨hb,⟨bA,fun i hi=>aA i (by omega)⟩,zCY hd⟩⟩;obtain⟨-,⟨-,h2⟩,-⟩:=hE;exact h.elim (fun h=>h (h2 k hl).1) (fun h=>h (h2 k hl).2)
structure zJq (S:qC):Prop where
 zcB:SmallW S.zcB
 zcA:SmallW S.zcA
noncomputable def zbj:zW:=qZ (fun S:qC=>[stT S]) (fun S=>zJq S) (fun S=>bR (zDF S))
theorem zGU(S:qC):zbj [stT S]=some (zJq S,bR (zDF S)):=zO (fun l=>zQM (nth l 0)) (fun _=>rfl) S
theorem zHt:zw Tryz.prog 9 zbj:=by
 refine zQ zs (GOk.cons zEz (zE Tryz.func28 rfl rfl) (GOk.cons zA8 (zE Tryz.func32 rfl rfl) (GOk.cons zSa (zE Tryz.func33 rfl rfl) GOk.nil))) zr Tryz.func9 rfl Tryz.ntmps9 Tryz.results9 5 ?_;intro S hS;replace hS:zJq S:=hS;refine⟨by simp,?_⟩;simp[go_sem,zBC,hS.zcB,hS.zcA];refine⟨fun h hE=>?_,fun a1 a2 a3 a4 a5 a6=>?_⟩
 ·obtain⟨e1,e2,e3,e4,e5,e6,-⟩:=hE;rcases h with(((((h | h) | h) | h) | h) | h)
  ·exact h e1
  ·exact h e2
  all_goals omega
 have bA:S.zcB.pool.n=S.zcA.pool.n:=by exact_mod_cast a3
 refine yE (fun k:Nat=>⟨[(1,true,.m false [.p 1 0]),(3,true,.i k)],[(1,.var ((woL S.zcB ++ woL S.zcA).map Tr.cv))]⟩) (fun k=>S.zcA.pool.n - k) (fun k=>k<=S.zcA.pool.n/\∀i,i<k->¬yh (S.zcA.pool.s i)->zEn (S.zcA.pool.s i) (S.zcB.pool.s i)) 0 (by simp[go_sem]) (by simp) ?_;rintro k ⟨hk,cA⟩;have aA:S.zcA.pool.n<=200:=a2.right.1;by_cases hl:k<S.zcA.pool.n;rotate_left
 ·simp[go_sem,hl];exact⟨a1,a2,bA,a4,a5,a6,fun i hi=>cA i (by omega)⟩
 have dA:(S.zcA.pool.s k).kn<=1000000:=by have:=zML a2.right k hl;omega
 simp[go_sem,qB (show k<=1000000000 by omega),zFp,zY2,hl,dA,bA];exact⟨by kernel_rfl,fun h1 h2 hE=>h2 (hE.slots k hl h1),fun h=>⟨k+1,⟨hl,qz hl cA h⟩,by omega,rfl⟩⟩
set_option maxRecDepth 20000
set_option maxHeartbeats 3200000
abbrev soO(o:zGq):Bool×List Tr:=(true,[.s .o 3 o.store.zcB.pool.n (zU .z o.store.zcB.pool.s),.s .o 1 o.store.zcB.pool.hn (qh o.store.zcB.pool.h),.v (.int .i64 o.store.zcB.time),.v (.int .i64 o.store.zcB.next),.s .o 6 o.store.zcB.sn (setsE .o o.store.zcB.zcC),.s .o 8 o.store.zcB.pn (snapsE .z o.store.zcB.zb9),.s .o 3 o.store.zcA.pool.n (zU .z o.store.zcA.pool.s),.s .o 1 o.store.zcA.pool.hn (qh o.store.zcA.pool.h),.v (.int .i64 o.store.zcA.time),.v (.int .i64 o.store.zcA.next),.s .o 6 o.store.zcA.sn (setsE .o o.store.zcA.zcC),.s .o 8 o.store.zcA.pn (snapsE .z o.store.zcA.zb9),.v (.int .i64 o.code)])
open Classical in
noncomputable def zEK(S:qC)(W:zC):zGq:=if zDF S then(if zDF ⟨W,S.zcA⟩then⟨⟨W,S.zcA⟩,0⟩else zAI 7)else zAI 1
attribute [local go_sem] qW List.map_cons List.map_nil Tr.cv yo qG qw qv yn ym yk qu zAv zAx zAw zAs zAu zAt zCK zCM zCL qK zn qL zo qE qD qP yx zk zl yB qJ tmpsOf zAf yA qI zAr yu yq yp yr stpP opds opd opdC kap zAE qF zj coreU bin zAY zB6 get put dlO fgt zA6 zAz zA3 zA4 tyT yj yi Op.operands Call.operands evLoad evLen evStore evAlloc zAZ and_true true_and List.append_nil List.nil_append List.cons_append Ret resCv zBx yP cellM zBT zB3 qX StW StR hpT hpO hpV hpA hpL hpC sg nin zCD bdO tmW obW AvE CsE CvE Av.tup Av.ids Cv.ids inD ObE Ob.ids TrE.refl qH qx qy qM qN qO zm zb za yw zBd zCB zAy evCall argL argOf qj outOb obO yM zy cvO tot Tr.own rid partsOf fillC zT zBS frz frz1 evBuildSlice zc trs Cv.tr evSlice Option.toArray_none Option.toArray_some evMakeSlice evAppend dstOf srcOf zAq zA5 zA2 zA0 zA1 ikT qt qs qq qp RetP RetN zBe qR evLd evSt evStoreH zAP evAppendM evAppendT tlOf mvOf rowE shp evTake oOf evC evCallP evCallN evCallO unlast zAK zAp zAO argsF zCA qn pmC varT vT evField evConv dB0 Option.bind_some Option.bind_none Option.map_some Option.map_none Option.isSome_some Option.isSome_none
attribute [local go_sem] yF zY zAk yN qk zAS zAT zAU zAV zAW zAX yX yY yZ yb yd ye yf yg yG qe
attribute [-go_sem] zY
attribute [local go_sem] yV zBi zBj zAA yO
noncomputable def zaP:zW:=qZ (fun q:qC×zC=>[stT q.1,woT q.2]) (fun q=>(qU q.1.zcB/\qU q.1.zcA)/\qU q.2) (fun q=>[soO (zEK q.1 q.2)])
theorem zG9(S:qC)(W:zC):zaP [stT S,woT W]=some ((qU S.zcB/\qU S.zcA)/\qU W,[soO (zEK S W)]):=zO (fun l=>(zQM (nth l 0),zC1 (nth l 1))) (fun _=>rfl) (S,W)
theorem zIx:zw Tryz.prog 19 zaP:=by
 refine zQ zs (GOk.cons zHt (zE Tryz.func9 rfl rfl) (GOk.cons zBs (zE Tryz.func27 rfl rfl) GOk.nil)) zr Tryz.func19 rfl Tryz.ntmps19 Tryz.results19 6 ?_;rintro⟨S,W⟩ ⟨⟨h1,h2⟩,h3⟩;replace h1:qU S.zcB:=h1;replace h2:qU S.zcA:=h2;replace h3:qU W:=h3;have hS:zJq S:=⟨h1.toSmallW,h2.toSmallW⟩;have hT:zJq ⟨W,S.zcA⟩:=⟨h3.toSmallW,h2.toSmallW⟩;have eT:=zGU ⟨W,S.zcA⟩;refine⟨by simp,?_⟩;by_cases a:zDF S;rotate_left
 ·have e:zEK S W=zAI 1:=if_neg a;simp[go_sem,zGU,hS,a,e,zAI,noW,zCC]
 by_cases b:zDF ⟨W,S.zcA⟩;rotate_left
 ·have e:zEK S W=zAI 7:=(if_pos a).trans (if_neg b);simp[go_sem,zGU,yL,hS,h2,h3,a,b,hT,eT,e,zAI,noW,zCC];show _=true;kernel_rfl
 have e:zEK S W=⟨⟨W,S.zcA⟩,0⟩:=(if_pos a).trans (if_pos b);simp[go_sem,zGU,yL,hS,h2,h3,a,b,hT,eT,e,zR,zX,zp,zd];show _=true;kernel_rfl
set_option maxRecDepth 20000
set_option maxHeartbeats 3200000
noncomputable def zKm(S:qC):zC:={S.zcB with pool:=zE8 S.zcB.pool,time:=S.zcB.time+1}
open Classical in
noncomputable def zH9(S:qC):zGq:=if zDF S then(if 900000<=S.zcB.time then zAI 6 else⟨⟨zKm S,zKm S⟩,0⟩)else zAI 1
theorem zZZ(p:zF):(zE8 p).n=p.n/\(zE8 p).hn<=p.hn/\∀i,((zE8 p).s i).kn<=(p.s i).kn:=by
 by_cases h:zz p/\zz (zH8 p)
 ·rw[zNB h.1 h.2];refine⟨rfl,Nat.zero_le _,fun i=>?_⟩;show((zDA p p.hn).s i).kn<=_;unfold zDA;dsimp only;split
  ·exact Nat.zero_le _
  ·exact Nat.le_refl _
 ·rw[zLC h];exact⟨rfl,Nat.le_refl _,fun i=>Nat.le_refl _⟩
attribute [local go_sem] qW List.map_cons List.map_nil Tr.cv yo qG qw qv yn ym yk qu zAv zAx zAw zAs zAu zAt zCK zCM zCL qK zn qL zo qE qD qP yx zk zl yB qJ tmpsOf zAf yA qI zAr yu yq yp yr stpP opds opd opdC kap zAE qF zj coreU bin zAY zB6 get put dlO fgt zA6 zAz zA3 zA4 tyT yj yi Op.operands Call.operands evLoad evLen evStore evAlloc zAZ and_true true_and List.append_nil List.nil_append List.cons_append Ret resCv zBx yP cellM zBT zB3 qX StW StR hpT hpO hpV hpA hpL hpC sg nin zCD bdO tmW obW AvE CsE CvE Av.tup Av.ids Cv.ids inD ObE Ob.ids TrE.refl qH qx qy qM qN qO zm zb za yw zBd zCB zAy evCall argL argOf qj outOb obO yM zy cvO tot Tr.own rid partsOf fillC zT zBS frz frz1 evBuildSlice zc trs Cv.tr evSlice Option.toArray_none Option.toArray_some evMakeSlice evAppend dstOf srcOf zAq zA5 zA2 zA0 zA1 ikT qt qs qq qp RetP RetN zBe qR evLd evSt evStoreH zAP evAppendM evAppendT tlOf mvOf rowE shp evTake oOf evC evCallP evCallN evCallO unlast zAK zAp zAO argsF zCA qn pmC varT vT evField evConv dB0 Option.bind_some Option.bind_none Option.map_some Option.map_none Option.isSome_some Option.isSome_none
attribute [local go_sem] yF zY zAk yN qk zAS zAT zAU zAV zAW zAX yX yY yZ yb yd ye yf yg yG qe
attribute [-go_sem] zY
attribute [local go_sem] yV zBi zBj zAA yO
noncomputable def zTu:zW:=qZ (fun S:qC=>[stT S]) (fun S=>qU S.zcB/\qU S.zcA) (fun S=>[soO (zH9 S)])
theorem zMc(S:qC):zTu [stT S]=some (qU S.zcB/\qU S.zcA,[soO (zH9 S)]):=zO (fun l=>zQM (nth l 0)) (fun _=>rfl) S
theorem zOy:zw Tryz.prog 14 zTu:=by
 refine zQ zs (GOk.cons zHt (zE Tryz.func9 rfl rfl) (GOk.cons zBs (zE Tryz.func27 rfl rfl) (GOk.cons zKM (zE Tryz.func36 rfl rfl) GOk.nil))) zr Tryz.func14 rfl Tryz.ntmps14 Tryz.results14 4 ?_;rintro S ⟨h1,h2⟩;replace h1:qU S.zcB:=h1;replace h2:qU S.zcA:=h2;have hS:zJq S:=⟨h1.toSmallW,h2.toSmallW⟩;have hp:=zZZ S.zcB.pool;have hV:qU (zKm S):=⟨⟨by have:=h1.n;show(zE8 S.zcB.pool).n<=_;omega,by have:=h1.hn;show(zE8 S.zcB.pool).hn<=_;omega,h1.sn,h1.pn,h1.sd,h1.pd⟩,fun i hi=>Nat.le_trans (hp.2.2 i) (h1.kn i (by have h:i<(zE8 S.zcB.pool).n:=hi;omega))⟩;have eV:=yL (zKm S);refine⟨by simp,?_⟩;by_cases a:zDF S;rotate_left
 ·have e:zH9 S=zAI 1:=if_neg a;simp[go_sem,zGU,hS,a,e,zAI,noW,zCC]
 by_cases b:900000<=S.zcB.time
 ·have e:zH9 S=zAI 6:=(if_pos a).trans (if_pos b);simp[go_sem,zGU,yL,hS,h1,h2,a,b,e,zAI,noW,zCC]
 have e:zH9 S=⟨⟨zKm S,zKm S⟩,0⟩:=(if_pos a).trans (if_neg b);have hw:IntKind.i64.wrap (S.zcB.time+1)=S.zcB.time+1:=zYN (by have:=a.zcB.zcE.1.1;omega) (by omega);have aA:=h1.kn;simp only[zKm]at eV;simp[go_sem,zGU,yL,zQ6,hS,h1,h2,h1.n,h1.hn,a,b,e,hw,eV];refine⟨aA,hV,by kernel_rfl,⟨TrE.refl _,zR⟩,⟨TrE.refl _,zX⟩,rfl,rfl,⟨TrE.refl _,zp⟩,⟨TrE.refl _,zd⟩,?_⟩;exact⟨⟨TrE.refl _,zR⟩,⟨TrE.refl _,zX⟩,rfl,rfl,⟨TrE.refl _,zp⟩,TrE.refl _,zd⟩
def zDj(n:Nat)(f g:Nat->Int):List (Int×Int):=(List.range n).map fun i=>(f i,g i)
theorem zQt(p:zF)(xs xb:Int)(n:Nat)(b:Int)(o:zLL):qo (zHr p xs xb n b o).pool<=qo o.pool+16/\(zHr p xs xb n b o).old.length<=3:=by
 have h2:=zOO p xs xb n b o 2;have h3:(zSr p xs xb n 3).length<=3:=zCr _ _ 3;unfold zHr;split
 ·exact⟨Nat.zero_le _,Nat.zero_le _⟩
 ·split
  ·exact⟨Nat.zero_le _,Nat.zero_le _⟩
  ·exact⟨by show qo (zCe p xs xb n b o 2).pool<=_;omega,h3⟩
theorem zHP(p:zF)(xs xb aA:Int)(d:ByteArray)(b:Int):qo (zC7 p xs xb aA d b).pool<=qo p+40/\(zC7 p xs xb aA d b).old.length<=3:=by
 unfold zC7;split
 ·exact⟨Nat.zero_le _,Nat.zero_le _⟩
 ·split
  ·split
   ·rename_i hd
    split
    ·have h1:=zQt p xs xb aA.toNat b ⟨(zCi p (zBH b d)).pool,(zCi p (zBH b d)).ps,(zCi p (zBH b d)).pb,0⟩;have h2:=zNC p (zBH b d);have h3:zCv (zBH b d)=16:=(by show 0+d.size=16;rw[hd.2]);exact⟨by have h4:=h1.1;simp only at h4;omega,h1.2⟩
    ·exact⟨Nat.zero_le _,Nat.zero_le _⟩
   ·exact⟨Nat.zero_le _,Nat.zero_le _⟩
  ·exact⟨Nat.zero_le _,Nat.zero_le _⟩
theorem zIk(p:zF)(xs xb aA b:Int):qo (zGj p xs xb aA b).pool<=qo p+40/\(zGj p xs xb aA b).old.length<=3:=by
 unfold zGj;split
 ·split
  ·split
   ·exact⟨Nat.zero_le _,Nat.zero_le _⟩
   ·have h1:=zQt p xs xb aA.toNat b ⟨p,0,0,0⟩;exact⟨by have h4:=h1.1;simp only at h4;omega,h1.2⟩
  ·exact⟨Nat.zero_le _,Nat.zero_le _⟩
 ·exact⟨Nat.zero_le _,Nat.zero_le _⟩
noncomputable def zY0(W:zC)(k:Nat)(y:zD9):List (Int×Int):=zAc (zx y.old) (qS y.old) (zI W (W.zcC k).zcD).time y.old.length
noncomputable def zbR(W:zC)(k:Nat)(y:zD9):List (Int×Int):=zES (zx y.old) (qS y.old) (zI W (W.zcC k).zcD).time y.old.length
noncomputable def zWn(W:zC)(k:Nat)(y:zD9):List (Int×Int):=zDj (W.zcC k).dn (W.zcC k).ds (W.zcC k).db ++ zbR W k y
noncomputable def zMS(W:zC)(k:Nat)(y:zD9):zAJ:={W.zcC k with rs:=y.rs,rb:=y.rb,dn:=(zWn W k y).length,ds:=zx (zWn W k y),db:=qS (zWn W k y)}
noncomputable def zbS(W:zC)(k:Nat)(y:zD9):zC:={W with pool:=yH y.pool (zY0 W k y),zcC:=fun j=>if j=k then zMS W k y else W.zcC j}
open Classical in
noncomputable def zFY(W:zC)(k:Nat)(y:zD9):zDX:=if y.code=0 then⟨zbS W k y,0,((zY0 W k y).length:Int),0⟩else yD y.code
set_option linter.unusedSimpArgs false
set_option maxRecDepth 20000
set_option maxHeartbeats 3200000
attribute [local go_sem] qW List.map_cons List.map_nil Tr.cv yo qG qw qv yn ym yk qu zAv zAx zAw zAs zAu zAt zCK zCM zCL qK zn qL zo qE qD qP yx zk zl yB qJ tmpsOf zAf yA qI zAr yu yq yp yr stpP opds opd opdC kap zAE qF zj coreU bin zAY zB6 get put dlO fgt zA6 zAz zA3 zA4 tyT yj yi Op.operands Call.operands evLoad evLen evStore evAlloc zAZ and_true true_and List.append_nil List.nil_append List.cons_append Ret resCv zBx yP cellM zBT zB3 qX StW StR hpT hpO hpV hpA hpL hpC sg nin zCD bdO tmW obW AvE CsE CvE Av.tup Av.ids Cv.ids inD ObE Ob.ids TrE.refl qH qx qy qM qN qO zm zb za yw zBd zCB zAy evCall argL argOf qj outOb obO yM zy cvO tot Tr.own rid partsOf fillC zT zBS frz frz1 evBuildSlice zc trs Cv.tr evSlice Option.toArray_none Option.toArray_some evMakeSlice evAppend dstOf srcOf zAq zA5 zA2 zA0 zA1 ikT qt qs qq qp RetP RetN zBe qR evLd evSt evStoreH zAP evAppendM evAppendT tlOf mvOf rowE shp evTake oOf evC evCallP evCallN evCallO unlast zAK zAp zAO argsF zCA qn pmC varT vT evField evConv dB0 Option.bind_some Option.bind_none Option.map_some Option.map_none Option.isSome_some Option.isSome_none
attribute [local go_sem] yF zY zAk yN qk zAS zAT zAU zAV zAW zAX yX yY yZ yb yd ye yf yg yG qe
attribute [-go_sem] zY
attribute [local go_sem] yV zBi zBj zAA yO
theorem zHG(f g:Nat->Int)(t:Int)(n:Nat):(zES f g t n).length<=n:=by
 have:=zF5 f g t n;omega
theorem zHk{n:Nat}{f g:Nat->Int}:(zDj n f g).length=n:=by simp[zDj]
theorem zYr{n:Nat}{f g:Nat->Int}{l:List (Int×Int)}{i:Nat}:zx (zDj n f g ++ l) i=if i<n then f i else zx l (i - n):=by
 unfold zx zDj;simp only[List.getD_eq_getElem?_getD,List.getElem?_append,List.length_map,List.length_range];split
 ·rename_i h;simp[h]
 ·rfl
theorem zZT{n:Nat}{f g:Nat->Int}{l:List (Int×Int)}{i:Nat}:qS (zDj n f g ++ l) i=if i<n then g i else qS l (i - n):=by
 unfold qS zDj;simp only[List.getD_eq_getElem?_getD,List.getElem?_append,List.length_map,List.length_range];split
 ·rename_i h;simp[h]
 ·rfl
theorem zI6{n m:Nat}{f g:Nat->Int}{l:List (Int×Int)}{F:Nat->Nat->Tr}(hm:m=n+l.length)(hF:∀i j,i<m->j<2->F i j=if i<n then ptrsT f g i j else zFA encP (0,0) l (i - n) j):TrE (.s .o 2 m F) (.s .o 2 (zDj n f g ++ l).length (ptrsT (zx (zDj n f g ++ l)) (qS (zDj n f g ++ l)))):=by
 refine⟨.inl rfl,rfl,by rw[hm,List.length_append,zHk],fun i j hi hj=>TrE.of_eq ?_⟩;rw[hF i j hi hj]
 match j,hj with
 | 0,_=>simp only[ptrsT,zYr,zBi];split<;>rfl
 | 1,_=>simp only[ptrsT,zZT,zBj];split<;>rfl
theorem zby(f:Nat->Nat->Tr)(k:Nat)(a b:Tr):yK f k 3 [a,b] k 5=f k 5:=by simp[yK]
abbrev toV(t:zD9):List Tr:=[.s .o 3 t.pool.n (zU .z t.pool.s),.s .o 1 t.pool.hn (qh t.pool.h),.v (.int .i64 t.rs),.v (.int .i64 t.rb),.s .o 2 t.old.length (ptL t.old),.v (.int .i64 t.code)]
noncomputable def zXK:zW:=qZ (fun q:(zC×Int)×zD9=>[woT q.1.1,iT q.1.2,(true,toV q.2)]) (fun q=>qU q.1.1/\zB9 q.1.1/\(0<=q.1.2/\q.1.2<q.1.1.sn)/\(q.2.code=0->q.2.pool.hn+q.2.old.length<=1000000)) (fun q=>[wuO (zFY q.1.1 q.1.2.toNat q.2)])
theorem zYk(l:List (Int×Int)):zUl (.s .o 2 l.length (ptL l))=l:=by
 refine Eq.trans ?_ (zO4 l);unfold zUl;congr 1
theorem zOT(W:zC)(k:Int)(t:zD9):zXK [woT W,iT k,(true,toV t)]=some (qU W/\zB9 W/\(0<=k/\k<W.sn)/\(t.code=0->t.pool.hn+t.old.length<=1000000),[wuO (zFY W k.toNat t)]):=
 zO (fun m=>((zC1 (nth m 0),qg (nth m 1 0)),⟨zEt (nth m 2 0) (nth m 2 1),qg (nth m 2 2),qg (nth m 2 3),zUl (nth m 2 4),qg (nth m 2 5)⟩)) (fun q=>by exact congrArg (fun l=>(q.1,(⟨q.2.pool,q.2.rs,q.2.rb,l,q.2.code⟩:zD9))) (zYk q.2.old)) ((W,k),t)
theorem zMQ:zOx Tryz.prog 102 zXK:=by
 refine zVi (A:=fun q:(zC×Int)×zD9=>[woT q.1.1,iT q.1.2]) (V:=fun q=>toV q.2) zs (GOk.cons zBs (zE Tryz.func27 rfl rfl) (GOk.cons zCc (zE Tryz.func84 rfl rfl) (GOk.cons zDM (zE Tryz.func98 rfl rfl) (GOk.cons zFM (zE Tryz.func106 rfl rfl) (GOk.ptr zIZ (zE Tryz.func107 rfl rfl) GOk.nil))))) zr Tryz.func102 rfl Tryz.ntmps102 Tryz.results102 13 ?_;rintro⟨⟨W,k'⟩,t⟩ hW;obtain⟨hW,hR,⟨h0,hk⟩,ht⟩:qU W/\zB9 W/\(0<=k'/\k'<W.sn)/\(t.code=0->t.pool.hn+t.old.length<=1000000):=hW;have hs:=hW.sn;have hp:=hW.pn;obtain⟨k,rfl⟩:=Int.eq_ofNat_of_zero_le h0;have aA:k<W.sn:=by omega
 refine⟨by simp,?_⟩;show ev _ _ _ _ _ _ (zUZ _ _ [wuO (zFY W k t)]);by_cases hc:t.code=0;rotate_left
 ·simp[go_sem,yI,hc];exact yJ (if_neg hc)
 have hz:=zEc (fun k hk=>(hR.zcE.prevOk.ids k hk).1) (W.zcC k).zcD;have eL:zFY W k t=⟨zbS W k t,0,((zY0 W k t).length:Int),0⟩:=if_pos hc;simp[go_sem,yI,yL,zDu,zFq,zMW ⟨t.pool,W.time,W.next,W.sn,W.zcC,W.pn,W.zb9⟩,hW,hs,hp,hc,hz,aA,qB (show k<=1000000000 by omega),zby,zQe,zMA,zQd,zKV,eL];have hl:=ht hc;have hy:=zBv (fun i=>zx t.old i) (fun i=>qS t.old i) (zI W (W.zcC k).zcD).time t.old.length;have ho:=zHG (fun i=>zx t.old i) (fun i=>qS t.old i) (zI W (W.zcC k).zcD).time t.old.length;have hd:=hW.sd k aA;refine⟨by kernel_rfl,by omega,by omega,by omega,by kernel_rfl,⟨TrE.refl _,zR⟩,⟨TrE.refl _,zX⟩,rfl,rfl,⟨⟨.inl rfl,rfl,rfl,fun i j hi hj=>?_⟩,zp⟩,⟨TrE.refl _,zd⟩,rfl⟩;show TrE _ (setsE .o (fun j=>if j=k then zMS W k t else W.zcC j) i j);by_cases e:i=k
 ·subst e
  match j,hj with
  | 0,_ | 1,_ | 2,_ | 3,_ | 4,_=>exact TrE.of_eq (by simp[yK,setsE,zMS])
  | 5,_=>
   simp[yK,setsE,zMS];exact zI6 rfl fun a b ha hb=>by
    unfold yU;split
    ·rfl
    ·match b,hb with
     | 0,_ | 1,_=>rfl
 ·exact TrE.of_eq (by unfold setsE;simp[yK,e])
open Classical in
noncomputable def zHO(W:zC)(x:ByteArray)(page:Int)(d:ByteArray):zDX:=if 8000<x.size\/8000<d.size then yD 2 else if zB9 W then(if zBo W x then zFY W (zCJ W x) (zC7 W.pool (W.zcC (zCJ W x)).rs (W.zcC (zCJ W x)).rb page d W.time)else yD 4)else yD 1
open Classical in
noncomputable def zKn(W:zC)(x:ByteArray)(page:Int):zDX:=if 8000<x.size then yD 2 else if zB9 W then(if zBo W x then zFY W (zCJ W x) (zGj W.pool (W.zcC (zCJ W x)).rs (W.zcC (zCJ W x)).rb page W.time)else yD 4)else yD 1
noncomputable def zXO:zW:=qZ (fun q:(zC×ByteArray)×Int×ByteArray=>[woT q.1.1,sT q.1.2,iT q.2.1,sT q.2.2]) (fun q=>qU q.1.1) (fun q=>[wuO (zHO q.1.1 q.1.2 q.2.1 q.2.2)])
theorem zVI(W:zC)(x:ByteArray)(aA:Int)(d:ByteArray):zXO [woT W,sT x,iT aA,sT d]=some (qU W,[wuO (zHO W x aA d)]):=zO (fun l=>((zC1 (nth l 0),zEA (nth l 1 0)),qg (nth l 2 0),zEA (nth l 3 0))) (fun _=>rfl) ((W,x),aA,d)
theorem zP2:zw Tryz.prog 80 zXO:=by
 refine zQ zs (GOk.cons zA8 (zE Tryz.func32 rfl rfl) (GOk.cons zDN (zE Tryz.func66 rfl rfl) (GOk.cons zCc (zE Tryz.func84 rfl rfl) (GOk.cons zO1 (zE Tryz.func109 rfl rfl) (GOk.own zMQ (zE Tryz.func102 rfl rfl) GOk.nil))))) zr Tryz.func80 rfl Tryz.ntmps80 Tryz.results80 10 ?_;rintro⟨⟨W,x⟩,aA,d⟩ hW;replace hW:qU W:=hW;have hs:=hW.sn;have hp:=hW.n;have hh:=hW.hn;refine⟨by simp,?_⟩;by_cases h8:8000<x.size\/8000<d.size
 ·rcases Nat.lt_or_ge 8000 x.size with h | h
  ·simp[go_sem,yI,show(8000:Int)<x.size by omega];exact yJ (if_pos h8)
  ·simp[go_sem,yI,show ¬(8000:Int)<x.size by omega,show(8000:Int)<d.size by omega];exact yJ (if_pos h8)
 have bA:¬(8000:Int)<x.size:=by omega
 have cA:¬(8000:Int)<d.size:=by omega
 by_cases hR:zB9 W;rotate_left
 ·simp[go_sem,zBC,zAN,yI,hW,hW.toSmallW,hs,hp,bA,cA,hR];exact yJ ((if_neg h8).trans (if_neg hR))
 by_cases hH:zBo W x;rotate_left
 ·simp[go_sem,zBC,zAN,yI,hW,hW.toSmallW,hs,hp,zCu,zBa,bA,cA,hR,hH];exact yJ ((if_neg h8).trans ((if_pos hR).trans (if_neg hH)))
 have hk:=zHL hH;have iA:=zBa.2 hH;have eA:zCJ W x<W.sn:=by show(zBl W.sn fun k=>(W.zcC k).name=x).toNat<W.sn;omega
 obtain⟨k,dA⟩:∃k,k=zCJ W x:=⟨_,rfl⟩;have fA:(zBl W.sn fun k=>(W.zcC k).name=x)=(k:Int):=by rw[dA];show _=((zBl W.sn fun k=>(W.zcC k).name=x).toNat:Int);omega
 have gA:¬(k:Int)<0:=by omega
 have eR:zHO W x aA d=zFY W k (zC7 W.pool (W.zcC k).rs (W.zcC k).rb aA d W.time):=by
  unfold zHO;rw[if_neg h8,if_pos hR,if_pos hH,<-dA]
 rw[<-dA]at eA;have hz:=zHP W.pool (W.zcC k).rs (W.zcC k).rb aA d W.time;obtain⟨t,ht⟩:∃t,t=zC7 W.pool (W.zcC k).rs (W.zcC k).rb aA d W.time:=⟨_,rfl⟩;rw[<-ht]at hz eR;have hb:t.pool.hn+t.old.length<=1000000:=by
  have:=zFQ hR.right;have h1:=hz.1;have h2:=hz.2;have h3:t.pool.hn<=qo t.pool:=Nat.le_add_left ..;omega
 have eT:=zau W.pool (W.zcC k).rs (W.zcC k).rb aA d W.time;rw[<-ht]at eT;simp[go_sem,zBC,zAN,yI,eT,zOT W k t,hW,hW.toSmallW,hs,hp,hh,fA,gA,bA,cA,hR,eA,eR,hb];exact⟨by kernel_rfl,zR,zX,zp,zd⟩
noncomputable def zaO:zW:=qZ (fun q:(zC×ByteArray)×Int=>[woT q.1.1,sT q.1.2,iT q.2]) (fun q=>qU q.1.1) (fun q=>[wuO (zKn q.1.1 q.1.2 q.2)])
theorem zXI(W:zC)(x:ByteArray)(aA:Int):zaO [woT W,sT x,iT aA]=some (qU W,[wuO (zKn W x aA)]):=zO (fun l=>((zC1 (nth l 0),zEA (nth l 1 0)),qg (nth l 2 0))) (fun _=>rfl) ((W,x),aA)
theorem zRr:zw Tryz.prog 71 zaO:=by
 refine zQ zs (GOk.cons zA8 (zE Tryz.func32 rfl rfl) (GOk.cons zDN (zE Tryz.func66 rfl rfl) (GOk.cons zCc (zE Tryz.func84 rfl rfl) (GOk.cons zP4 (zE Tryz.func103 rfl rfl) (GOk.own zMQ (zE Tryz.func102 rfl rfl) GOk.nil))))) zr Tryz.func71 rfl Tryz.ntmps71 Tryz.results71 8 ?_;rintro⟨⟨W,x⟩,aA⟩ hW;replace hW:qU W:=hW;have hs:=hW.sn;have hp:=hW.n;have hh:=hW.hn;refine⟨by simp,?_⟩;by_cases h8:8000<x.size
 ·simp[go_sem,yI,show(8000:Int)<x.size by omega];exact yJ (if_pos h8)
 have bA:¬(8000:Int)<x.size:=by omega
 by_cases hR:zB9 W;rotate_left
 ·simp[go_sem,zBC,zAN,yI,hW,hW.toSmallW,hs,hp,bA,hR];exact yJ ((if_neg h8).trans (if_neg hR))
 by_cases hH:zBo W x;rotate_left
 ·simp[go_sem,zBC,zAN,yI,hW,hW.toSmallW,hs,hp,zCu,zBa,bA,hR,hH];exact yJ ((if_neg h8).trans ((if_pos hR).trans (if_neg hH)))
 have hk:=zHL hH;have gA:=zBa.2 hH;have dA:zCJ W x<W.sn:=by show(zBl W.sn fun k=>(W.zcC k).name=x).toNat<W.sn;omega
 obtain⟨k,cA⟩:∃k,k=zCJ W x:=⟨_,rfl⟩;have eA:(zBl W.sn fun k=>(W.zcC k).name=x)=(k:Int):=by rw[cA];show _=((zBl W.sn fun k=>(W.zcC k).name=x).toNat:Int);omega
 have fA:¬(k:Int)<0:=by omega
 have eR:zKn W x aA=zFY W k (zGj W.pool (W.zcC k).rs (W.zcC k).rb aA W.time):=by
  unfold zKn;rw[if_neg h8,if_pos hR,if_pos hH,<-cA]
 rw[<-cA]at dA;have hz:=zIk W.pool (W.zcC k).rs (W.zcC k).rb aA W.time;obtain⟨t,ht⟩:∃t,t=zGj W.pool (W.zcC k).rs (W.zcC k).rb aA W.time:=⟨_,rfl⟩;rw[<-ht]at hz eR;have hb:t.pool.hn+t.old.length<=1000000:=by
  have:=zFQ hR.right;have h1:=hz.1;have h2:=hz.2;have h3:t.pool.hn<=qo t.pool:=Nat.le_add_left ..;omega
 have eT:=zat W.pool (W.zcC k).rs (W.zcC k).rb aA W.time;rw[<-ht]at eT;simp[go_sem,zBC,zAN,yI,eT,zOT W k t,hW,hW.toSmallW,hs,hp,hh,eA,fA,bA,hR,dA,eR,hb];exact⟨by kernel_rfl,zR,zX,zp,zd⟩
open Go.Maps
def zGG(f:Nat->Int)(x:Int):Nat->Nat
 | 0=>0
 | k+1=>zGG f x k+(if f k=x then 1 else 0)
theorem zQJ{f:Nat->Int}{x:Int}{k:Nat}(h:f k=x):zGG f x (k+1)=zGG f x k+1:=by simp[zGG,h]
theorem zTI{f:Nat->Int}{x:Int}{k:Nat}(h:¬f k=x):zGG f x (k+1)=zGG f x k:=by simp[zGG,h]
def zT0(W:zC)(x:Int):Nat:=zGG (fun i=>(W.zcC i).zcD) x W.sn+zGG (fun i=>(W.zb9 i).zcD) x W.pn
open Go.ChangeMaps Go.MapKept
open Go.WideElems (Fit rd rg pl rd_val elemAt findIdx_arr findIdx_born modify_last set_self)
open Go.WideMaps (KeyLaw)
theorem zM1(w:World)(b:Nat)(o o':Obj):setBlock (setBlock w b o) b o'=setBlock w b o':=by simp[setBlock]
theorem zNj{w:World}{b:Nat}{o:Obj}(h:w.heap[b]?=some o):setBlock w b o=w:=by
 have e:w.heap.setIfInBounds b o=w.heap:=by
  apply Array.ext_getElem?;intro i;by_cases hi:i=b
  ·subst hi;rw[Array.getElem?_setIfInBounds_self_of_lt (Array.getElem?_eq_some_iff.1 h).1];exact h.symm
  ·rw[Array.getElem?_setIfInBounds_ne (fun e=>hi e.symm)]
 unfold setBlock;rw[e]
theorem zL8{w:World}{b:Nat}{es aA:Array MapEntry}{c c':Nat}(hb:w.heap[b]?=some (.map es c)):w.grownBy (setBlock w b (.map aA c')) (some b):=
 ⟨rfl,rfl,rfl,by simp[setBlock],fun i _ hi=>heap_setBlock_other hb _ (fun e=>hi (by rw[e]))⟩
theorem zN3{P:Program}{k e t:TypeId}{w:World}{b n:Nat}{D:DataW Value}(h:w.ownsMap P k zEZ b n D)(K0:KeyLaw P k)(ht:P.underlying t=some (.map k e))(hn:n<maxLen){z:Value}(hz:∀u:World,(zeroValue e).run P u = .ok z u)
  {key val v:Value} {kl:Lit} (aA:keyOf P k key=some kl) (oA:D.atKey kl (.held z) = .held v) :
  ∃(v0:Value) (st:Nat) (w1 w2:World),(Instr.mapEntry t (.map (some b)) key).run P w = .ok (.tuple #[v0,goInt st]) w1/\(Instr.lookup t (.map (some b)) key false).run P w1 = .ok v w1/\(Instr.entryStore t (.map (some b)) (goInt st) val).run P w1 = .ok () w2/\w2.ownsMap P k zEZ b (n+1) (D.put kl (.held val))/\w.grownBy w1 (some b)/\w.grownBy w2 (some b):=by
 have K:=Keyed.of_law K0;obtain⟨w',lA,fA,rA⟩:=h.update K ht hn aA (zD7 val);obtain⟨wz,kA,gA,jB⟩:=h.update K ht hn aA (zD7 z);have eA:=h.lookup K ht (hz w) (zD7 z) aA;obtain⟨es,bA,hb,F,hs,hD⟩:=h;obtain⟨v0,st,dA,c1,cA,kB,cB⟩:=WideElems.entry_then_store K0 ht hz hb F aA;have pA:(setBlock w b (.map dA c1)).heap[b]?=some (.map dA c1):=heap_setBlock_same hb _;obtain⟨nA,c2,bB,eB⟩:=cB _ val pA;have e2:setBlock (setBlock w b (.map dA c1)) b (.map nA c2)=w':=by
  rw[zM1];rw[eB]at lA;injection lA
 refine⟨v0,st,setBlock w b (.map dA c1),w',cA,?_,by rw[<-e2];exact bB,fA,zL8 hb,rA⟩;obtain⟨v',ps,hl,fB⟩:=eA;have ev:v'=v:=by
  have e1:=zHJ fB;rw[oA]at e1;injection e1 with e1;exact e1.symm
 subst ev
 suffices hh:∀ww:World,ww=setBlock w b (.map dA c1)->(Instr.lookup t (.map (some b)) key false).run P ww = .ok v' ww from hh _ rfl
 intro ww mA;rcases K0.find w aA es.toList F.keys with⟨h1,h2⟩ | ⟨j,e0,h1,h2,h3⟩
 ·-- it was not there: behind the entry it is there with the zero value
  have iB:setBlock w b (.map dA c1)=wz:=by
   have hm:(Instr.mapEntry t (.map (some b)) key).run P w = .ok (.tuple #[z,goInt bA]) (setBlock w b (.map (es.push ⟨key,z,bA⟩) (bA+1))):=by
    simp[Instr.mapEntry,run_underlying ht,MapKept.run_getObj_map hb,K0.check w false aA,h1,hz,MapKept.run_setObj_map _ hb,Result.andThen,setBlock]
   have hu:(Instr.mapUpdate t (.map (some b)) key z).run P w = .ok () (setBlock w b (.map (es.push ⟨key,z,bA⟩) (bA+1))):=by
    simp[Instr.mapUpdate,run_underlying ht,MapKept.run_getObj_map hb,K0.check w false aA,h1,MapKept.run_setObj_map _ hb,Result.andThen,setBlock]
   rw[cA]at hm;rw[kA]at hu;injection hm with _ hm;injection hu with _ hu;rw[hm,hu]
  obtain rfl:ww=wz:=mA.trans iB;obtain⟨v2,lB,vA,gB⟩:=gA.lookup K ht (hz _) (zD7 z) aA;have e3:=zHJ gB;rw[atKey_put_same (show IsMap D from⟨_,hD⟩) (K.key aA)]at e3;replace e3:=DataW.held.inj e3;have e4:v'=z:=by
   have tA:(Instr.lookup t (.map (some b)) key false).run P w = .ok z w:=by
    rcases Maps.fit_look false K ht (hz w) hb F aA with⟨jA,_,_⟩ | ⟨e0,y,aB,sA,_,_,_,_⟩
    ·exact jA
    ·exact absurd sA (h2 e0 aB)
   rw[tA]at hl;injection hl with hl _;exact hl.symm
  subst e3;subst e4;exact vA
 ·-- it was there: the entry leaves the map as it was
  have hj:es[j]?=some e0:=(by simpa using h2);have iA:es.modify j (fun e=>{e with key:=key})=es:=by
   apply Array.ext';rw[Array.toList_modify,modify_eq_set _ _ _ _ h2];have:({e0 with key:=key}:MapEntry)=e0:=(by rw[<-h3]);rw[this];exact set_self _ _ _ h2
  have hm:(Instr.mapEntry t (.map (some b)) key).run P w = .ok (.tuple #[e0.val,goInt e0.born]) (setBlock w b (.map es bA)):=by
   simp[Instr.mapEntry,run_underlying ht,MapKept.run_getObj_map hb,K0.check w false aA,h1,hj,h3,K0.stays w aA,iA,MapKept.run_setObj_map _ hb,Result.andThen,setBlock]
  rw[cA,zNj hb]at hm;obtain rfl:ww=w:=mA.trans (Result.ok.inj hm).2;exact hl
theorem zNO (W : zC) (m : zHp) : (zBK W m).length <= 73 := by
  unfold zBK zCV zBu;exact Nat.le_trans (List.length_filter_le _ _) (yR _ _ _)
theorem zOC (W : zC) : ∀ k, (zq W k).length <= 73 * k
  | 0 => by simp[zq]
  | k + 1 => by
    have h1 := zOC W k;have h2 := zNO W (zL W k);unfold zq;rw[List.length_append];omega
theorem zOD (W : zC) {k : Nat} : ∀ {n : Nat}, k <= n -> ∃ l, zq W n = zq W k ++ l
  | 0, h => ⟨[], by obtain rfl : k = 0 := by omega
                    simp⟩
  | n + 1, h => by
    by_cases e : k = n + 1
    · subst e;exact ⟨[], by simp⟩
    · obtain ⟨l, hl⟩ := zOD W (k := k) (n := n) (by omega)
      exact ⟨l ++ zBK W (zL W n), by rw[show zq W (n + 1) = zq W n ++ zBK W (zL W n) from rfl, hl, List.append_assoc]⟩
theorem zWS (W : zC) {k n j : Nat} (hk : k < n) (hj : j < (zBK W (zL W k)).length) : (zq W k).length + j < (zq W n).length /\ (zq W n).getD ((zq W k).length + j) (0, 0) = (zBK W (zL W k)).getD j (0, 0) := by
  obtain ⟨l, hl⟩ := zOD W (k := k + 1) (n := n) (by omega);rw[hl, show zq W (k + 1) = zq W k ++ zBK W (zL W k) from rfl];constructor
  · simp only[List.length_append];omega
  · rw[List.getD_eq_getElem?_getD, List.getD_eq_getElem?_getD, List.append_assoc, List.getElem?_append_right (by omega), show (zq W k).length + j - (zq W k).length = j by omega, List.getElem?_append_left hj]
def zRG (x : Int × Int) : Value := .agg #[.int .i64 x.1, .int .i64 x.2]
/-- The keys of the homes, one behind the other. -/
structure zBp (W : zC) (key : Nat -> Lit) : Prop where
  ok : zGA key
  at_ : ∀ i, i < (zq W (zt W)).length -> keyOf Tryz.prog 70 (zRG ((zq W (zt W)).getD i (0, 0))) = some (key i)
theorem zPG {W : zC} (hR : zz W.pool) (hT : ∀ i, i < zt W -> qd W.pool (zL W i).rs (zL W i).rb) {x : Int × Int} (hx : x ∈ zq W (zt W)) : yT W.pool x.1 x.2 := by
  obtain ⟨i, hi, h⟩ := zFr.1 hx;unfold zBK zCV zBu at h;exact (zCZ hR (hT i hi) (List.mem_filter.1 h).1).1
theorem zWM {l : List (Int × Int)} {i : Nat} (h : i < l.length) : l.getD i (0, 0) ∈ l := by
  rw[List.getD_eq_getElem?_getD, List.getElem?_eq_getElem h, Option.getD_some];exact List.getElem_mem h
theorem zUx {W : zC} (hR : zz W.pool) (hT : ∀ i, i < zt W -> qd W.pool (zL W i).rs (zL W i).rb) : ∃ key, zBp W key := by
  have aA : ∀ i, ∃ l, WideAt.IsKeyLit l /\ (i < (zq W (zt W)).length -> keyOf Tryz.prog 70 (zRG ((zq W (zt W)).getD i (0, 0))) = some l) := fun i => by
    by_cases bA : i < (zq W (zt W)).length
    · have hp := zPG hR hT (zWM bA)
      generalize (zq W (zt W)).getD i (0, 0) = x at hp ⊢;have hf := (zAo hR hp).1;have cA := hR.1;obtain ⟨h1, h2, h3, h4⟩ := hp;rw[h4]at hf;obtain ⟨f1, f2⟩ := hf;obtain ⟨l, hl⟩ := zYx (x := x.1) (y := x.2) (WalkArith.wf_i64 (by omega)) (WalkArith.wf_i64 (by omega));exact ⟨l, zap.key hl, fun _ => hl⟩
    · exact ⟨.string [], trivial, fun h => absurd h bA⟩
  exact ⟨fun i => (aA i).choose, fun i => (aA i).choose_spec.1, fun i => (aA i).choose_spec.2⟩
theorem zVO {x y : Int × Int} (h : zRG x = zRG y) : x = y := by
  unfold zRG at h;simp only[Value.agg.injEq, Array.mk.injEq, List.cons.injEq, Value.int.injEq, true_and, and_true]at h;exact Prod.ext h.1 h.2
theorem zBp.same {W : zC} {key : Nat -> Lit} (h : zBp W key) {i j : Nat} (hi : i < (zq W (zt W)).length) (hj : j < (zq W (zt W)).length) : key i = key j ↔ (zq W (zt W)).getD i (0, 0) = (zq W (zt W)).getD j (0, 0) := by
  have h1 := h.at_ i hi;have h2 := h.at_ j hj;constructor
  · intro e
    rw[e]at h1;exact zVO (zap.inj h1 h2)
  · intro e
    rw[e, h2]at h1;exact (Option.some.inj h1).symm
theorem zBp.dist {W : zC} {key : Nat -> Lit} (h : zBp W key) : zIq (zq W (zt W)).length key ↔ (zq W (zt W)).Nodup := by
  rw[List.Nodup, List.pairwise_iff_getElem];have hg : ∀ i (hi : i < (zq W (zt W)).length), (zq W (zt W)).getD i (0, 0) = (zq W (zt W))[i] := fun i hi => by rw[List.getD_eq_getElem?_getD, List.getElem?_eq_getElem hi, Option.getD_some]
  constructor
  · intro hd i j hi hj aA e
    refine hd j hj i aA ((h.same hi hj).2 ?_);rw[hg i hi, hg j hj];exact e
  · intro hd i hi k hk e
    have := (h.same (by omega) hi).1 e;rw[hg k (by omega), hg i hi]at this;exact hd k i (by omega) hi hk this
/-- The map behind the first p homes. -/
def zOA (key : Nat -> Lit) (p : Nat) : DataW Value := putD key (fun _ => .int .i64 1) p
theorem zBp.new {W : zC} {key : Nat -> Lit} {p : Nat} (hn : ∀ i, i < p -> key i ≠ key p) (h : zBp W key) : (zOA key p).atKey (key p) (.held (.int .i64 0)) = .held (.int .i64 0) := zKA h.ok _ hn _
theorem zBp.old {W : zC} {key : Nat -> Lit} {p i : Nat} (hi : i < p) (he : key i = key p) (hd : zIq p key) (h : zBp W key) : (zOA key p).atKey (key p) (.held (.int .i64 0)) = .held (.int .i64 1) := by
  rw[<- he];exact zPi h.ok _ _ p i hi (fun j h1 h2 e => hd j h2 i h1 e.symm)
theorem zBp.put {W : zC} {key : Nat -> Lit} (h : zBp W key) (p : Nat) (v : Value) : ((zOA key p).put (key p) (.held v)).atKey (key p) (.held (.int .i64 0)) = .held v := atKey_put_same (zEh h.ok _ p).isMap (h.ok p) _ _
theorem zBp.not_nodup {W : zC} {key : Nat -> Lit} {p i : Nat} (hi : i < p) (hp : p < (zq W (zt W)).length) (he : key i = key p) (h : zBp W key) : ¬ (zq W (zt W)).Nodup := fun hn => h.dist.2 hn p hp i hi he
theorem zBp.size {W : zC} {key : Nat -> Lit} (h : zBp W key) {p : Nat} (hd : zIq p key) : Maps.size (zOA key p) = p := (zKB h.ok _ p).2.2 hd
theorem zJw(v0 v1:Value)(lo hi:Nat)(p:zF)(w:World)(h1:zCj w lo hi v0 v1 p) :
  Calls Tryz.prog 151 #[.agg #[v0,v1]] w fun e w'=>e = .returned (.int .i64 (zUM p))/\Below w.heap.size w w':=by
 have Hp:Hid (zCj w lo hi v0 v1 p):=h1;obtain⟨⟨m1,a,c,rfl,mc,g1⟩,⟨m2,a',c',rfl,kA,g2⟩⟩:=h1;unfold maxLen at m1 m2;clear g1 g2;have ha:=zD w (.cells #[.slice a p.n c,.slice a' p.hn c'] 26);go_enter Tryz.func151,Tryz.ntmps151;go_wp2_with fail;refine(zFI _ _ lo hi p _ (Hp.out.zb7 ha)).mono ?_;rintro e w1 ⟨⟨t,rfl,ht⟩,aA⟩;have Hx:Hid (zA9 w1 w.heap.size (.slice a p.n c) (.slice a' p.hn c')):=(zA9.new w _ _ _).zb7 aA;have cA:=zA ha aA;clear ha aA;by_cases hR:zz p
 ·obtain rfl:t=true:=ht.2 hR;have HR:Hid (zz p):=hR;have eA:(p.n:Int)<=200:=(by have:=hR.1;omega);clear ht hR;obtain⟨⟨y0,y1⟩,⟨y2,y3⟩⟩:=Hx.out;have fA:Hid (zUM p=(roomN p.s p.n:Int)):=if_pos HR.out;have HB:Hid (Below w.heap.size w w1):=cA;go_wp2;clear y0 y1 y2 y3 cA
  go_loopw [3,12] (fun m i wr=>∃k:Nat,k<=p.n/\i = .int .i64 k/\m = .int .i64 (roomN p.s k:Int)/\Below w.heap.size w wr) (fun _ i _=>p.n - (intOf i).toNat)
  case atStart=>exact⟨0,Nat.zero_le _,rfl,rfl,HB.out⟩
  case round=>
   obtain⟨k,hk,rfl,rfl,hb⟩:=hrel;have jA:=zJZ p.s k;by_cases gA:k<p.n
   ·have iA:(k:Int)<(p.n:Int):=(by omega);obtain⟨b,off,ka,kc,rfl,hs⟩:=(Hp.out.1.zb7 hb).cells gA;have Hs:Hid (zDm wr b (off+k*3) lo hi ka kc (p.s k)):=hs;obtain⟨q0,q1,q2,_⟩:=hs;go_wp2_with fail;have bA:=zD wr (.cells #[.int .i64 (p.s k).birth,.slice ka (p.s k).kn kc,.string (p.s k).data] 58);refine(zCp _ _ _ lo hi (p.s k) _ (Hs.out.slot.zb7 bA)).mono ?_;rintro e w2 ⟨⟨t,rfl,ht⟩,aA⟩;have dA:=zA hb (zA bA aA);clear aA q0 q1 q2 Hs bA;by_cases hf:yh (p.s k)
    ·obtain rfl:t=true:=ht.2 hf;have HF:Hid (yh (p.s k)):=hf;clear ht hf;go_wp2;go_roundw
     case rel=>exact⟨k+1,by omega,by go_num,congrArg (Value.int .i64) (by rw[zDz HF.out];omega),dA⟩
     case measure=>simp[intOf];omega
    ·obtain rfl:t=false:=zAG ht hf;have HF:Hid (¬yh (p.s k)):=hf;clear ht hf;go_wp2;go_roundw
     case rel=>exact⟨k+1,by omega,by go_num,congrArg (Value.int .i64) (by rw[zEI HF.out]),dA⟩
     case measure=>simp[intOf];omega
   ·obtain rfl:k=p.n:=(by omega);go_wp2;go_ret;exact⟨by rw[fA.out];rfl,hb⟩
 ·obtain rfl:t=false:=zAG ht hR;have HR:Hid (¬zz p):=hR;clear ht hR;go_wp2;go_ret;refine⟨?_,cA⟩;have e:zUM p=0:=if_neg HR.out;rw[e];rfl
end Go.Proofs.YtbplmbafodlboaaGreatDoor
