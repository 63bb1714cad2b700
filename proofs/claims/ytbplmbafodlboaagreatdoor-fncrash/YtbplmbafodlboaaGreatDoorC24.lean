/- A part of the proof. -/
import Derived.Test.YtbplmbafodlboaaGreatDoorC23
import Derived.WideKeyEntry
set_option linter.unusedVariables false
set_option maxRecDepth 20000
set_option maxHeartbeats 4000000
namespace Go.Proofs.YtbplmbafodlboaaGreatDoor
open Go.RowKit
set_option linter.unusedSimpArgs false
set_option maxRecDepth 20000
set_option maxHeartbeats 3200000
abbrev stT(S:zx):Bool×List Tr:=(true,[.s .b 3 S.zc0.pool.n (zY .b S.zc0.pool.s),.s .b 1 S.zc0.pool.hn (qx S.zc0.pool.h),.v (.int .i64 S.zc0.time),.v (.int .i64 S.zc0.next),.s .b 6 S.zc0.sn (setsE .b S.zc0.zc1),.s .b 8 S.zc0.pn (snapsE .b S.zc0.zcy),.s .b 3 S.zcz.pool.n (zY .b S.zcz.pool.s),.s .b 1 S.zcz.pool.hn (qx S.zcz.pool.h),.v (.int .i64 S.zcz.time),.v (.int .i64 S.zcz.next),.s .b 6 S.zcz.sn (setsE .b S.zcz.zc1),.s .b 8 S.zcz.pn (snapsE .b S.zcz.zcy)])
abbrev stO(S:zx):Bool×List Tr:=(true,[.s .o 3 S.zc0.pool.n (zY .z S.zc0.pool.s),.s .o 1 S.zc0.pool.hn (qx S.zc0.pool.h),.v (.int .i64 S.zc0.time),.v (.int .i64 S.zc0.next),.s .o 6 S.zc0.sn (setsE .o S.zc0.zc1),.s .o 8 S.zc0.pn (snapsE .z S.zc0.zcy),.s .o 3 S.zcz.pool.n (zY .z S.zcz.pool.s),.s .o 1 S.zcz.pool.hn (qx S.zcz.pool.h),.v (.int .i64 S.zcz.time),.v (.int .i64 S.zcz.next),.s .o 6 S.zcz.sn (setsE .o S.zcz.zc1),.s .o 8 S.zcz.pn (snapsE .z S.zcz.zcy)])
def zLu(f:Nat->Tr):zx:=⟨zCX f,zCX fun i=>f (6+i)⟩
attribute [local go_sem] qX List.map_cons List.map_nil Tr.cv yp qD qs qq yo yn ym qp zAu zAw zAv zAr zAt zAs zCF zCH zCG qH zl qI zm qB qA qM yx zi zj qw qG tmpsOf zAf qv qF zAp yv yr yq yu stpP opds opd opdC kap zAG qC zh coreU bin zAb zB0 get put dlO fgt zA8 zA1 zA5 zA6 tyT yj yi Op.operands Call.operands evLoad evLen evStore evAlloc zAa and_true true_and List.append_nil List.nil_append List.cons_append Ret resCv zBs yQ cellM zBV zBw qY StW StR hpT hpO hpV hpA hpL hpC sg nin zB6 bdO tmW obW AvE CsE CvE Av.tup Av.ids Cv.ids inD ObE Ob.ids TrE.refl qE qt qu qJ qK qL zk ze zb yw zBc zB1 zAy evCall argL argOf qh outOb obO yL zy cvO tot Tr.own rid partsOf fillC zW zBU frz frz1 evBuildSlice zc trs Cv.tr evSlice Option.toArray_none Option.toArray_some evMakeSlice evAppend dstOf srcOf zBC zA7 zA4 zA2 zA3 ikT qn qm ql qk RetP RetN zBd qQ evLd evSt evStoreH zAX evAppendM evAppendT tlOf mvOf rowE shp evTake oOf evC evCallP evCallN evCallO unlast zAW zBB zAU argsF zB5 qy pmC varT vT evField evConv dB0 Option.bind_some Option.bind_none Option.map_some Option.map_none Option.isSome_some Option.isSome_none
attribute [local go_sem] yC zX zAg yI qe zAO zAP zAQ zAR zAS zAT yV yW yX yY yZ yb yd ye qz qV
attribute [-go_sem] zX
attribute [local go_sem] yS zBX zBY yg yG
noncomputable def zX1:za:=qZ (fun x:Int=>[iT x]) (fun _=>True) (fun x=>[stO ⟨nwW x,nwW x⟩])
theorem zV0(x:Int):zX1 [iT x]=some (True,[stO ⟨nwW x,nwW x⟩]):=zO (fun l=>qd (nth l 0 0)) (fun _=>rfl) x
theorem zQN:zp Tryz.prog 21 zX1:=by
 refine zR zs (GOk.cons zKV (zF Tryz.func23 rfl rfl) GOk.nil) zr Tryz.func21 rfl Tryz.ntmps21 Tryz.results21 3 ?_;rintro x -;refine⟨by simp,?_⟩;simp[go_sem,zRW,zU,zd,zt,zf]
noncomputable def zcI:za:=qZ (fun q:zM×zM=>[slT q.1,slT q.2]) (fun q=>q.1.kn<=1000000) (fun q=>bR (zDu q.1 q.2))
theorem zZt(s t:zM):zcI [slT s,slT t]=some (s.kn<=1000000,bR (zDu s t)):=zO (fun l=>(zJG (nth l 0 0) (nth l 0 1) (nth l 0 2),zJG (nth l 1 0) (nth l 1 1) (nth l 1 2))) (fun _=>rfl) (s,t)
theorem zS0:zp Tryz.prog 33 zcI:=by
 refine zR zs GOk.nil zr Tryz.func33 rfl Tryz.ntmps33 Tryz.results33 6 ?_;rintro⟨s,t⟩ hn;replace hn:s.kn<=1000000:=hn;refine⟨by simp,?_⟩;simp[go_sem];refine⟨fun h hE=>?_,fun hb hd hk=>?_⟩
 ·obtain⟨h1,⟨h2,-⟩,h3⟩:=hE;rcases h with(h | h) | h
  ·exact h h1
  ·exact h (congrArg ByteArray.toList h3)
  ·exact h (by omega)
 have bA:s.kn=t.kn:=by exact_mod_cast hk
 refine yF (fun k:Nat=>⟨[(2,true,.m false [.p 2 0]),(3,true,.m false [.p 3 0]),(5,true,.i k)],[(3,.var [.v (.int .i64 t.birth),.s .b 2 t.kn (ptrsT t.ks t.kb),.v (.string t.data)]),(2,.var [.v (.int .i64 s.birth),.s .b 2 s.kn (ptrsT s.ks s.kb),.v (.string s.data)])]⟩) (fun k=>s.kn - k) (fun k=>k<=s.kn/\∀i,i<k->s.ks i=t.ks i/\s.kb i=t.kb i) 0 (by simp[go_sem]) (by simp) ?_;rintro k ⟨cA,aA⟩;simp[go_sem,qN (show k<=1000000000 by omega)];refine⟨fun hl=>⟨hl,by omega,by kernel_rfl,fun h hE=>?_,fun h1 h2=>⟨k+1,⟨hl,yE hl aA ⟨h1,h2⟩⟩,by omega,rfl⟩⟩,fun hl=>⟨hb,⟨bA,fun i hi=>aA i (by omega)⟩,zCe hd⟩⟩;obtain⟨-,⟨-,h2⟩,-⟩:=hE;exact h.elim (fun h=>h (h2 k hl).1) (fun h=>h (h2 k hl).2)
structure zEe (S:zx):Prop where
 zc0:SmallW S.zc0
 zcz:SmallW S.zcz
noncomputable def zcX:za:=qZ (fun S:zx=>[stT S]) (fun S=>zEe S) (fun S=>bR (zBM S))
theorem zCC(S:zx):zcX [stT S]=some (zEe S,bR (zBM S)):=zO (fun l=>zLu (nth l 0)) (fun _=>rfl) S
theorem zEI:zp Tryz.prog 9 zcX:=by
 refine zR zs (GOk.cons zD1 (zF Tryz.func28 rfl rfl) (GOk.cons zAh (zF Tryz.func32 rfl rfl) (GOk.cons zS0 (zF Tryz.func33 rfl rfl) GOk.nil))) zr Tryz.func9 rfl Tryz.ntmps9 Tryz.results9 5 ?_;intro S hS;replace hS:zEe S:=hS;refine⟨by simp,?_⟩;simp[go_sem,zBE,hS.zc0,hS.zcz];refine⟨fun h hE=>?_,fun a1 a2 a3 a4 a5 a6=>?_⟩
 ·obtain⟨e1,e2,e3,e4,e5,e6,-⟩:=hE;rcases h with(((((h | h) | h) | h) | h) | h)
  ·exact h e1
  ·exact h e2
  all_goals omega
 have bA:S.zc0.pool.n=S.zcz.pool.n:=by exact_mod_cast a3
 refine yF (fun k:Nat=>⟨[(1,true,.m false [.p 1 0]),(3,true,.i k)],[(1,.var ((woL S.zc0 ++ woL S.zcz).map Tr.cv))]⟩) (fun k=>S.zcz.pool.n - k) (fun k=>k<=S.zcz.pool.n/\∀i,i<k->¬zAA (S.zcz.pool.s i)->zDu (S.zcz.pool.s i) (S.zc0.pool.s i)) 0 (by simp[go_sem]) (by simp) ?_;rintro k ⟨hk,cA⟩;have aA:S.zcz.pool.n<=200:=a2.right.1;by_cases hl:k<S.zcz.pool.n;rotate_left
 ·simp[go_sem,hl];exact⟨a1,a2,bA,a4,a5,a6,fun i hi=>cA i (by omega)⟩
 have dA:(S.zcz.pool.s k).kn<=1000000:=by have:=zMT a2.right k hl;omega
 simp[go_sem,qN (show k<=1000000000 by omega),zFM,zZt,hl,dA,bA];exact⟨by kernel_rfl,fun h1 h2 hE=>h2 (hE.slots k hl h1),fun h=>⟨k+1,⟨hl,yE hl cA h⟩,by omega,rfl⟩⟩
set_option maxRecDepth 20000
set_option maxHeartbeats 3200000
abbrev soO(o:zE8):Bool×List Tr:=(true,[.s .o 3 o.store.zc0.pool.n (zY .z o.store.zc0.pool.s),.s .o 1 o.store.zc0.pool.hn (qx o.store.zc0.pool.h),.v (.int .i64 o.store.zc0.time),.v (.int .i64 o.store.zc0.next),.s .o 6 o.store.zc0.sn (setsE .o o.store.zc0.zc1),.s .o 8 o.store.zc0.pn (snapsE .z o.store.zc0.zcy),.s .o 3 o.store.zcz.pool.n (zY .z o.store.zcz.pool.s),.s .o 1 o.store.zcz.pool.hn (qx o.store.zcz.pool.h),.v (.int .i64 o.store.zcz.time),.v (.int .i64 o.store.zcz.next),.s .o 6 o.store.zcz.sn (setsE .o o.store.zcz.zc1),.s .o 8 o.store.zcz.pn (snapsE .z o.store.zcz.zcy),.v (.int .i64 o.code)])
open Classical in
noncomputable def zIK(S:zx)(W:zB):zE8:=if zBM S then(if zBM ⟨W,S.zcz⟩then⟨⟨W,S.zcz⟩,0⟩else zAj 7)else zAj 1
attribute [local go_sem] qX List.map_cons List.map_nil Tr.cv yp qD qs qq yo yn ym qp zAu zAw zAv zAr zAt zAs zCF zCH zCG qH zl qI zm qB qA qM yx zi zj qw qG tmpsOf zAf qv qF zAp yv yr yq yu stpP opds opd opdC kap zAG qC zh coreU bin zAb zB0 get put dlO fgt zA8 zA1 zA5 zA6 tyT yj yi Op.operands Call.operands evLoad evLen evStore evAlloc zAa and_true true_and List.append_nil List.nil_append List.cons_append Ret resCv zBs yQ cellM zBV zBw qY StW StR hpT hpO hpV hpA hpL hpC sg nin zB6 bdO tmW obW AvE CsE CvE Av.tup Av.ids Cv.ids inD ObE Ob.ids TrE.refl qE qt qu qJ qK qL zk ze zb yw zBc zB1 zAy evCall argL argOf qh outOb obO yL zy cvO tot Tr.own rid partsOf fillC zW zBU frz frz1 evBuildSlice zc trs Cv.tr evSlice Option.toArray_none Option.toArray_some evMakeSlice evAppend dstOf srcOf zBC zA7 zA4 zA2 zA3 ikT qn qm ql qk RetP RetN zBd qQ evLd evSt evStoreH zAX evAppendM evAppendT tlOf mvOf rowE shp evTake oOf evC evCallP evCallN evCallO unlast zAW zBB zAU argsF zB5 qy pmC varT vT evField evConv dB0 Option.bind_some Option.bind_none Option.map_some Option.map_none Option.isSome_some Option.isSome_none
attribute [local go_sem] yC zX zAg yI qe zAO zAP zAQ zAR zAS zAT yV yW yX yY yZ yb yd ye qz qV
attribute [-go_sem] zX
attribute [local go_sem] yS zBX zBY yg yG
noncomputable def zbE:za:=qZ (fun q:zx×zB=>[stT q.1,woT q.2]) (fun q=>(qO q.1.zc0/\qO q.1.zcz)/\qO q.2) (fun q=>[soO (zIK q.1 q.2)])
theorem zRV(S:zx)(W:zB):zbE [stT S,woT W]=some ((qO S.zc0/\qO S.zcz)/\qO W,[soO (zIK S W)]):=zO (fun l=>(zLu (nth l 0),zCX (nth l 1))) (fun _=>rfl) (S,W)
theorem zPB:zp Tryz.prog 19 zbE:=by
 refine zR zs (GOk.cons zEI (zF Tryz.func9 rfl rfl) (GOk.cons zBm (zF Tryz.func27 rfl rfl) GOk.nil)) zr Tryz.func19 rfl Tryz.ntmps19 Tryz.results19 6 ?_;rintro⟨S,W⟩ ⟨⟨h1,h2⟩,h3⟩;replace h1:qO S.zc0:=h1;replace h2:qO S.zcz:=h2;replace h3:qO W:=h3;have hS:zEe S:=⟨h1.toSmallW,h2.toSmallW⟩;have hT:zEe ⟨W,S.zcz⟩:=⟨h3.toSmallW,h2.toSmallW⟩;have eT:=zCC ⟨W,S.zcz⟩;refine⟨by simp,?_⟩;by_cases a:zBM S;rotate_left
 ·have e:zIK S W=zAj 1:=if_neg a;simp[go_sem,zCC,hS,a,e,zAj,noW,zEi]
 by_cases b:zBM ⟨W,S.zcz⟩;rotate_left
 ·have e:zIK S W=zAj 7:=(if_pos a).trans (if_neg b);simp[go_sem,zCC,yJ,hS,h2,h3,a,b,hT,eT,e,zAj,noW,zEi];show _=true;kernel_rfl
 have e:zIK S W=⟨⟨W,S.zcz⟩,0⟩:=(if_pos a).trans (if_pos b);simp[go_sem,zCC,yJ,hS,h2,h3,a,b,hT,eT,e,zU,zd,zt,zf];show _=true;kernel_rfl
set_option maxRecDepth 20000
set_option maxHeartbeats 3200000
noncomputable def zFk(S:zx):zB:={S.zc0 with pool:=zA0 S.zc0.pool,time:=S.zc0.time+1}
open Classical in
noncomputable def zDs(S:zx):zE8:=if zBM S then(if 900000<=S.zc0.time then zAj 6 else⟨⟨zFk S,zFk S⟩,0⟩)else zAj 1
theorem zaQ(p:zE):(zA0 p).n=p.n/\(zA0 p).hn<=p.hn/\∀i,((zA0 p).s i).kn<=(p.s i).kn:=by
 by_cases h:zq p/\zq (zBj p)
 ·rw[zGK h.1 h.2];refine⟨rfl,Nat.zero_le _,fun i=>?_⟩;show((zDG p p.hn).s i).kn<=_;unfold zDG;dsimp only;split
  ·exact Nat.zero_le _
  ·exact Nat.le_refl _
 ·rw[zGt h];exact⟨rfl,Nat.le_refl _,fun i=>Nat.le_refl _⟩
attribute [local go_sem] qX List.map_cons List.map_nil Tr.cv yp qD qs qq yo yn ym qp zAu zAw zAv zAr zAt zAs zCF zCH zCG qH zl qI zm qB qA qM yx zi zj qw qG tmpsOf zAf qv qF zAp yv yr yq yu stpP opds opd opdC kap zAG qC zh coreU bin zAb zB0 get put dlO fgt zA8 zA1 zA5 zA6 tyT yj yi Op.operands Call.operands evLoad evLen evStore evAlloc zAa and_true true_and List.append_nil List.nil_append List.cons_append Ret resCv zBs yQ cellM zBV zBw qY StW StR hpT hpO hpV hpA hpL hpC sg nin zB6 bdO tmW obW AvE CsE CvE Av.tup Av.ids Cv.ids inD ObE Ob.ids TrE.refl qE qt qu qJ qK qL zk ze zb yw zBc zB1 zAy evCall argL argOf qh outOb obO yL zy cvO tot Tr.own rid partsOf fillC zW zBU frz frz1 evBuildSlice zc trs Cv.tr evSlice Option.toArray_none Option.toArray_some evMakeSlice evAppend dstOf srcOf zBC zA7 zA4 zA2 zA3 ikT qn qm ql qk RetP RetN zBd qQ evLd evSt evStoreH zAX evAppendM evAppendT tlOf mvOf rowE shp evTake oOf evC evCallP evCallN evCallO unlast zAW zBB zAU argsF zB5 qy pmC varT vT evField evConv dB0 Option.bind_some Option.bind_none Option.map_some Option.map_none Option.isSome_some Option.isSome_none
attribute [local go_sem] yC zX zAg yI qe zAO zAP zAQ zAR zAS zAT yV yW yX yY yZ yb yd ye qz qV
attribute [-go_sem] zX
attribute [local go_sem] yS zBX zBY yg yG
noncomputable def zUS:za:=qZ (fun S:zx=>[stT S]) (fun S=>qO S.zc0/\qO S.zcz) (fun S=>[soO (zDs S)])
theorem zD6(S:zx):zUS [stT S]=some (qO S.zc0/\qO S.zcz,[soO (zDs S)]):=zO (fun l=>zLu (nth l 0)) (fun _=>rfl) S
theorem zI6:zp Tryz.prog 14 zUS:=by
 refine zR zs (GOk.cons zEI (zF Tryz.func9 rfl rfl) (GOk.cons zBm (zF Tryz.func27 rfl rfl) (GOk.cons zKR (zF Tryz.func36 rfl rfl) GOk.nil))) zr Tryz.func14 rfl Tryz.ntmps14 Tryz.results14 4 ?_;rintro S ⟨h1,h2⟩;replace h1:qO S.zc0:=h1;replace h2:qO S.zcz:=h2;have hS:zEe S:=⟨h1.toSmallW,h2.toSmallW⟩;have hp:=zaQ S.zc0.pool;have hV:qO (zFk S):=⟨⟨by have:=h1.n;show(zA0 S.zc0.pool).n<=_;omega,by have:=h1.hn;show(zA0 S.zc0.pool).hn<=_;omega,h1.sn,h1.pn,h1.sd,h1.pd⟩,fun i hi=>Nat.le_trans (hp.2.2 i) (h1.kn i (by have h:i<(zA0 S.zc0.pool).n:=hi;omega))⟩;have eV:=yJ (zFk S);refine⟨by simp,?_⟩;by_cases a:zBM S;rotate_left
 ·have e:zDs S=zAj 1:=if_neg a;simp[go_sem,zCC,hS,a,e,zAj,noW,zEi]
 by_cases b:900000<=S.zc0.time
 ·have e:zDs S=zAj 6:=(if_pos a).trans (if_pos b);simp[go_sem,zCC,yJ,hS,h1,h2,a,b,e,zAj,noW,zEi]
 have e:zDs S=⟨⟨zFk S,zFk S⟩,0⟩:=(if_pos a).trans (if_neg b);have hw:IntKind.i64.wrap (S.zc0.time+1)=S.zc0.time+1:=zZD (by have:=a.zc0.zc3.1.1;omega) (by omega);have aA:=h1.kn;simp only[zFk]at eV;simp[go_sem,zCC,yJ,zRT,hS,h1,h2,h1.n,h1.hn,a,b,e,hw,eV];refine⟨aA,hV,by kernel_rfl,⟨TrE.refl _,zU⟩,⟨TrE.refl _,zd⟩,rfl,rfl,⟨TrE.refl _,zt⟩,⟨TrE.refl _,zf⟩,?_⟩;exact⟨⟨TrE.refl _,zU⟩,⟨TrE.refl _,zd⟩,rfl,rfl,⟨TrE.refl _,zt⟩,TrE.refl _,zf⟩
def zDq(n:Nat)(f g:Nat->Int):List (Int×Int):=(List.range n).map fun i=>(f i,g i)
theorem zRB(p:zE)(xs xb:Int)(n:Nat)(b:Int)(o:zLX):yD (zH4 p xs xb n b o).pool<=yD o.pool+16/\(zH4 p xs xb n b o).old.length<=3:=by
 have h2:=zOX p xs xb n b o 2;have h3:(zTJ p xs xb n 3).length<=3:=zC0 _ _ 3;unfold zH4;split
 ·exact⟨Nat.zero_le _,Nat.zero_le _⟩
 ·split
  ·exact⟨Nat.zero_le _,Nat.zero_le _⟩
  ·exact⟨by show yD (zCm p xs xb n b o 2).pool<=_;omega,h3⟩
theorem zHc(p:zE)(xs xb aA:Int)(d:ByteArray)(b:Int):yD (zDH p xs xb aA d b).pool<=yD p+40/\(zDH p xs xb aA d b).old.length<=3:=by
 unfold zDH;split
 ·exact⟨Nat.zero_le _,Nat.zero_le _⟩
 ·split
  ·split
   ·rename_i hd
    split
    ·have h1:=zRB p xs xb aA.toNat b ⟨(zCr p (zBQ b d)).pool,(zCr p (zBQ b d)).ps,(zCr p (zBQ b d)).pb,0⟩;have h2:=zNN p (zBQ b d);have h3:zCg (zBQ b d)=16:=(by show 0+d.size=16;rw[hd.2]);exact⟨by have h4:=h1.1;simp only at h4;omega,h1.2⟩
    ·exact⟨Nat.zero_le _,Nat.zero_le _⟩
   ·exact⟨Nat.zero_le _,Nat.zero_le _⟩
  ·exact⟨Nat.zero_le _,Nat.zero_le _⟩
theorem zIs(p:zE)(xs xb aA b:Int):yD (zGx p xs xb aA b).pool<=yD p+40/\(zGx p xs xb aA b).old.length<=3:=by
 unfold zGx;split
 ·split
  ·split
   ·exact⟨Nat.zero_le _,Nat.zero_le _⟩
   ·have h1:=zRB p xs xb aA.toNat b ⟨p,0,0,0⟩;exact⟨by have h4:=h1.1;simp only at h4;omega,h1.2⟩
  ·exact⟨Nat.zero_le _,Nat.zero_le _⟩
 ·exact⟨Nat.zero_le _,Nat.zero_le _⟩
noncomputable def zZr(W:zB)(k:Nat)(y:zEP):List (Int×Int):=zAl (qP y.old) (qb y.old) (zI W (W.zc1 k).zc2).time y.old.length
noncomputable def zcF(W:zB)(k:Nat)(y:zEP):List (Int×Int):=zEj (qP y.old) (qb y.old) (zI W (W.zc1 k).zc2).time y.old.length
noncomputable def zXa(W:zB)(k:Nat)(y:zEP):List (Int×Int):=zDq (W.zc1 k).dn (W.zc1 k).ds (W.zc1 k).db ++ zcF W k y
noncomputable def zMb(W:zB)(k:Nat)(y:zEP):zAV:={W.zc1 k with rs:=y.rs,rb:=y.rb,dn:=(zXa W k y).length,ds:=qP (zXa W k y),db:=qb (zXa W k y)}
noncomputable def zcG(W:zB)(k:Nat)(y:zEP):zB:={W with pool:=yN y.pool (zZr W k y),zc1:=fun j=>if j=k then zMb W k y else W.zc1 j}
open Classical in
noncomputable def zFu(W:zB)(k:Nat)(y:zEP):zDe:=if y.code=0 then⟨zcG W k y,0,((zZr W k y).length:Int),0⟩else yM y.code
set_option linter.unusedSimpArgs false
set_option maxRecDepth 20000
set_option maxHeartbeats 3200000
attribute [local go_sem] qX List.map_cons List.map_nil Tr.cv yp qD qs qq yo yn ym qp zAu zAw zAv zAr zAt zAs zCF zCH zCG qH zl qI zm qB qA qM yx zi zj qw qG tmpsOf zAf qv qF zAp yv yr yq yu stpP opds opd opdC kap zAG qC zh coreU bin zAb zB0 get put dlO fgt zA8 zA1 zA5 zA6 tyT yj yi Op.operands Call.operands evLoad evLen evStore evAlloc zAa and_true true_and List.append_nil List.nil_append List.cons_append Ret resCv zBs yQ cellM zBV zBw qY StW StR hpT hpO hpV hpA hpL hpC sg nin zB6 bdO tmW obW AvE CsE CvE Av.tup Av.ids Cv.ids inD ObE Ob.ids TrE.refl qE qt qu qJ qK qL zk ze zb yw zBc zB1 zAy evCall argL argOf qh outOb obO yL zy cvO tot Tr.own rid partsOf fillC zW zBU frz frz1 evBuildSlice zc trs Cv.tr evSlice Option.toArray_none Option.toArray_some evMakeSlice evAppend dstOf srcOf zBC zA7 zA4 zA2 zA3 ikT qn qm ql qk RetP RetN zBd qQ evLd evSt evStoreH zAX evAppendM evAppendT tlOf mvOf rowE shp evTake oOf evC evCallP evCallN evCallO unlast zAW zBB zAU argsF zB5 qy pmC varT vT evField evConv dB0 Option.bind_some Option.bind_none Option.map_some Option.map_none Option.isSome_some Option.isSome_none
attribute [local go_sem] yC zX zAg yI qe zAO zAP zAQ zAR zAS zAT yV yW yX yY yZ yb yd ye qz qV
attribute [-go_sem] zX
attribute [local go_sem] yS zBX zBY yg yG
theorem zHS(f g:Nat->Int)(t:Int)(n:Nat):(zEj f g t n).length<=n:=by
 have:=zGN f g t n;omega
theorem zHx{n:Nat}{f g:Nat->Int}:(zDq n f g).length=n:=by simp[zDq]
theorem zZh{n:Nat}{f g:Nat->Int}{l:List (Int×Int)}{i:Nat}:qP (zDq n f g ++ l) i=if i<n then f i else qP l (i - n):=by
 unfold qP zDq;simp only[List.getD_eq_getElem?_getD,List.getElem?_append,List.length_map,List.length_range];split
 ·rename_i h;simp[h]
 ·rfl
theorem zaK{n:Nat}{f g:Nat->Int}{l:List (Int×Int)}{i:Nat}:qb (zDq n f g ++ l) i=if i<n then g i else qb l (i - n):=by
 unfold qb zDq;simp only[List.getD_eq_getElem?_getD,List.getElem?_append,List.length_map,List.length_range];split
 ·rename_i h;simp[h]
 ·rfl
theorem zJF{n m:Nat}{f g:Nat->Int}{l:List (Int×Int)}{F:Nat->Nat->Tr}(hm:m=n+l.length)(hF:∀i j,i<m->j<2->F i j=if i<n then ptrsT f g i j else zFT encP (0,0) l (i - n) j):TrE (.s .o 2 m F) (.s .o 2 (zDq n f g ++ l).length (ptrsT (qP (zDq n f g ++ l)) (qb (zDq n f g ++ l)))):=by
 refine⟨.inl rfl,rfl,by rw[hm,List.length_append,zHx],fun i j hi hj=>TrE.of_eq ?_⟩;rw[hF i j hi hj]
 match j,hj with
 | 0,_=>simp only[ptrsT,zZh,zBX];split<;>rfl
 | 1,_=>simp only[ptrsT,zaK,zBY];split<;>rfl
theorem zcm(f:Nat->Nat->Tr)(k:Nat)(a b:Tr):yK f k 3 [a,b] k 5=f k 5:=by simp[yK]
abbrev toV(t:zEP):List Tr:=[.s .o 3 t.pool.n (zY .z t.pool.s),.s .o 1 t.pool.hn (qx t.pool.h),.v (.int .i64 t.rs),.v (.int .i64 t.rb),.s .o 2 t.old.length (ptL t.old),.v (.int .i64 t.code)]
noncomputable def zX7:za:=qZ (fun q:(zB×Int)×zEP=>[woT q.1.1,iT q.1.2,(true,toV q.2)]) (fun q=>qO q.1.1/\zAL q.1.1/\(0<=q.1.2/\q.1.2<q.1.1.sn)/\(q.2.code=0->q.2.pool.hn+q.2.old.length<=1000000)) (fun q=>[wuO (zFu q.1.1 q.1.2.toNat q.2)])
theorem zZa(l:List (Int×Int)):zVP (.s .o 2 l.length (ptL l))=l:=by
 refine Eq.trans ?_ (zPH l);unfold zVP;congr 1
theorem zOd(W:zB)(k:Int)(t:zEP):zX7 [woT W,iT k,(true,toV t)]=some (qO W/\zAL W/\(0<=k/\k<W.sn)/\(t.code=0->t.pool.hn+t.old.length<=1000000),[wuO (zFu W k.toNat t)]):=
 zO (fun m=>((zCX (nth m 0),qd (nth m 1 0)),⟨zDm (nth m 2 0) (nth m 2 1),qd (nth m 2 2),qd (nth m 2 3),zVP (nth m 2 4),qd (nth m 2 5)⟩)) (fun q=>by exact congrArg (fun l=>(q.1,(⟨q.2.pool,q.2.rs,q.2.rb,l,q.2.code⟩:zEP))) (zZa q.2.old)) ((W,k),t)
theorem zMZ:zPA Tryz.prog 102 zX7:=by
 refine zWT (A:=fun q:(zB×Int)×zEP=>[woT q.1.1,iT q.1.2]) (V:=fun q=>toV q.2) zs (GOk.cons zBm (zF Tryz.func27 rfl rfl) (GOk.cons zCk (zF Tryz.func84 rfl rfl) (GOk.cons zDV (zF Tryz.func98 rfl rfl) (GOk.cons zFb (zF Tryz.func106 rfl rfl) (GOk.ptr zIh (zF Tryz.func107 rfl rfl) GOk.nil))))) zr Tryz.func102 rfl Tryz.ntmps102 Tryz.results102 13 ?_;rintro⟨⟨W,k'⟩,t⟩ hW;obtain⟨hW,hR,⟨h0,hk⟩,ht⟩:qO W/\zAL W/\(0<=k'/\k'<W.sn)/\(t.code=0->t.pool.hn+t.old.length<=1000000):=hW;have hs:=hW.sn;have hp:=hW.pn;obtain⟨k,rfl⟩:=Int.eq_ofNat_of_zero_le h0;have aA:k<W.sn:=by omega
 refine⟨by simp,?_⟩;show ev _ _ _ _ _ _ (zVD _ _ [wuO (zFu W k t)]);by_cases hc:t.code=0;rotate_left
 ·simp[go_sem,yO,hc];exact yP (if_neg hc)
 have hz:=zEx (fun k hk=>(hR.zc3.prevOk.ids k hk).1) (W.zc1 k).zc2;have eL:zFu W k t=⟨zcG W k t,0,((zZr W k t).length:Int),0⟩:=if_pos hc;simp[go_sem,yO,yJ,zD3,zF7,zMh ⟨t.pool,W.time,W.next,W.sn,W.zc1,W.pn,W.zcy⟩,hW,hs,hp,hc,hz,aA,qN (show k<=1000000000 by omega),zcm,zQv,zMH,zQu,zKl,eL];have hl:=ht hc;have hy:=zBy (fun i=>qP t.old i) (fun i=>qb t.old i) (zI W (W.zc1 k).zc2).time t.old.length;have ho:=zHS (fun i=>qP t.old i) (fun i=>qb t.old i) (zI W (W.zc1 k).zc2).time t.old.length;have hd:=hW.sd k aA;refine⟨by kernel_rfl,by omega,by omega,by omega,by kernel_rfl,⟨TrE.refl _,zU⟩,⟨TrE.refl _,zd⟩,rfl,rfl,⟨⟨.inl rfl,rfl,rfl,fun i j hi hj=>?_⟩,zt⟩,⟨TrE.refl _,zf⟩,rfl⟩;show TrE _ (setsE .o (fun j=>if j=k then zMb W k t else W.zc1 j) i j);by_cases e:i=k
 ·subst e
  match j,hj with
  | 0,_ | 1,_ | 2,_ | 3,_ | 4,_=>exact TrE.of_eq (by simp[yK,setsE,zMb])
  | 5,_=>
   simp[yK,setsE,zMb];exact zJF rfl fun a b ha hb=>by
    unfold zAC;split
    ·rfl
    ·match b,hb with
     | 0,_ | 1,_=>rfl
 ·exact TrE.of_eq (by unfold setsE;simp[yK,e])
open Classical in
noncomputable def zHb(W:zB)(x:ByteArray)(page:Int)(d:ByteArray):zDe:=if 8000<x.size\/8000<d.size then yM 2 else if zAL W then(if zBW W x then zFu W (zCR W x) (zDH W.pool (W.zc1 (zCR W x)).rs (W.zc1 (zCR W x)).rb page d W.time)else yM 4)else yM 1
open Classical in
noncomputable def zK6(W:zB)(x:ByteArray)(page:Int):zDe:=if 8000<x.size then yM 2 else if zAL W then(if zBW W x then zFu W (zCR W x) (zGx W.pool (W.zc1 (zCR W x)).rs (W.zc1 (zCR W x)).rb page W.time)else yM 4)else yM 1
noncomputable def zYA:za:=qZ (fun q:(zB×ByteArray)×Int×ByteArray=>[woT q.1.1,sT q.1.2,iT q.2.1,sT q.2.2]) (fun q=>qO q.1.1) (fun q=>[wuO (zHb q.1.1 q.1.2 q.2.1 q.2.2)])
theorem zV2(W:zB)(x:ByteArray)(aA:Int)(d:ByteArray):zYA [woT W,sT x,iT aA,sT d]=some (qO W,[wuO (zHb W x aA d)]):=zO (fun l=>((zCX (nth l 0),zDn (nth l 1 0)),qd (nth l 2 0),zDn (nth l 3 0))) (fun _=>rfl) ((W,x),aA,d)
theorem zQL:zp Tryz.prog 80 zYA:=by
 refine zR zs (GOk.cons zAh (zF Tryz.func32 rfl rfl) (GOk.cons zDD (zF Tryz.func66 rfl rfl) (GOk.cons zCk (zF Tryz.func84 rfl rfl) (GOk.cons zPE (zF Tryz.func109 rfl rfl) (GOk.own zMZ (zF Tryz.func102 rfl rfl) GOk.nil))))) zr Tryz.func80 rfl Tryz.ntmps80 Tryz.results80 10 ?_;rintro⟨⟨W,x⟩,aA,d⟩ hW;replace hW:qO W:=hW;have hs:=hW.sn;have hp:=hW.n;have hh:=hW.hn;refine⟨by simp,?_⟩;by_cases h8:8000<x.size\/8000<d.size
 ·rcases Nat.lt_or_ge 8000 x.size with h | h
  ·simp[go_sem,yO,show(8000:Int)<x.size by omega];exact yP (if_pos h8)
  ·simp[go_sem,yO,show ¬(8000:Int)<x.size by omega,show(8000:Int)<d.size by omega];exact yP (if_pos h8)
 have bA:¬(8000:Int)<x.size:=by omega
 have cA:¬(8000:Int)<d.size:=by omega
 by_cases hR:zAL W;rotate_left
 ·simp[go_sem,zBE,zAY,yO,hW,hW.toSmallW,hs,hp,bA,cA,hR];exact yP ((if_neg h8).trans (if_neg hR))
 by_cases hH:zBW W x;rotate_left
 ·simp[go_sem,zBE,zAY,yO,hW,hW.toSmallW,hs,hp,zCn,zBZ,bA,cA,hR,hH];exact yP ((if_neg h8).trans ((if_pos hR).trans (if_neg hH)))
 have hk:=zHX hH;have iA:=zBZ.2 hH;have eA:zCR W x<W.sn:=by show(zBn W.sn fun k=>(W.zc1 k).name=x).toNat<W.sn;omega
 obtain⟨k,dA⟩:∃k,k=zCR W x:=⟨_,rfl⟩;have fA:(zBn W.sn fun k=>(W.zc1 k).name=x)=(k:Int):=by rw[dA];show _=((zBn W.sn fun k=>(W.zc1 k).name=x).toNat:Int);omega
 have gA:¬(k:Int)<0:=by omega
 have eR:zHb W x aA d=zFu W k (zDH W.pool (W.zc1 k).rs (W.zc1 k).rb aA d W.time):=by
  unfold zHb;rw[if_neg h8,if_pos hR,if_pos hH,<-dA]
 rw[<-dA]at eA;have hz:=zHc W.pool (W.zc1 k).rs (W.zc1 k).rb aA d W.time;obtain⟨t,ht⟩:∃t,t=zDH W.pool (W.zc1 k).rs (W.zc1 k).rb aA d W.time:=⟨_,rfl⟩;rw[<-ht]at hz eR;have hb:t.pool.hn+t.old.length<=1000000:=by
  have:=zFh hR.right;have h1:=hz.1;have h2:=hz.2;have h3:t.pool.hn<=yD t.pool:=Nat.le_add_left ..;omega
 have eT:=zbj W.pool (W.zc1 k).rs (W.zc1 k).rb aA d W.time;rw[<-ht]at eT;simp[go_sem,zBE,zAY,yO,eT,zOd W k t,hW,hW.toSmallW,hs,hp,hh,fA,gA,bA,cA,hR,eA,eR,hb];exact⟨by kernel_rfl,zU,zd,zt,zf⟩
noncomputable def zbD:za:=qZ (fun q:(zB×ByteArray)×Int=>[woT q.1.1,sT q.1.2,iT q.2]) (fun q=>qO q.1.1) (fun q=>[wuO (zK6 q.1.1 q.1.2 q.2)])
theorem zX6(W:zB)(x:ByteArray)(aA:Int):zbD [woT W,sT x,iT aA]=some (qO W,[wuO (zK6 W x aA)]):=zO (fun l=>((zCX (nth l 0),zDn (nth l 1 0)),qd (nth l 2 0))) (fun _=>rfl) ((W,x),aA)
theorem zSM:zp Tryz.prog 71 zbD:=by
 refine zR zs (GOk.cons zAh (zF Tryz.func32 rfl rfl) (GOk.cons zDD (zF Tryz.func66 rfl rfl) (GOk.cons zCk (zF Tryz.func84 rfl rfl) (GOk.cons zQO (zF Tryz.func103 rfl rfl) (GOk.own zMZ (zF Tryz.func102 rfl rfl) GOk.nil))))) zr Tryz.func71 rfl Tryz.ntmps71 Tryz.results71 8 ?_;rintro⟨⟨W,x⟩,aA⟩ hW;replace hW:qO W:=hW;have hs:=hW.sn;have hp:=hW.n;have hh:=hW.hn;refine⟨by simp,?_⟩;by_cases h8:8000<x.size
 ·simp[go_sem,yO,show(8000:Int)<x.size by omega];exact yP (if_pos h8)
 have bA:¬(8000:Int)<x.size:=by omega
 by_cases hR:zAL W;rotate_left
 ·simp[go_sem,zBE,zAY,yO,hW,hW.toSmallW,hs,hp,bA,hR];exact yP ((if_neg h8).trans (if_neg hR))
 by_cases hH:zBW W x;rotate_left
 ·simp[go_sem,zBE,zAY,yO,hW,hW.toSmallW,hs,hp,zCn,zBZ,bA,hR,hH];exact yP ((if_neg h8).trans ((if_pos hR).trans (if_neg hH)))
 have hk:=zHX hH;have gA:=zBZ.2 hH;have dA:zCR W x<W.sn:=by show(zBn W.sn fun k=>(W.zc1 k).name=x).toNat<W.sn;omega
 obtain⟨k,cA⟩:∃k,k=zCR W x:=⟨_,rfl⟩;have eA:(zBn W.sn fun k=>(W.zc1 k).name=x)=(k:Int):=by rw[cA];show _=((zBn W.sn fun k=>(W.zc1 k).name=x).toNat:Int);omega
 have fA:¬(k:Int)<0:=by omega
 have eR:zK6 W x aA=zFu W k (zGx W.pool (W.zc1 k).rs (W.zc1 k).rb aA W.time):=by
  unfold zK6;rw[if_neg h8,if_pos hR,if_pos hH,<-cA]
 rw[<-cA]at dA;have hz:=zIs W.pool (W.zc1 k).rs (W.zc1 k).rb aA W.time;obtain⟨t,ht⟩:∃t,t=zGx W.pool (W.zc1 k).rs (W.zc1 k).rb aA W.time:=⟨_,rfl⟩;rw[<-ht]at hz eR;have hb:t.pool.hn+t.old.length<=1000000:=by
  have:=zFh hR.right;have h1:=hz.1;have h2:=hz.2;have h3:t.pool.hn<=yD t.pool:=Nat.le_add_left ..;omega
 have eT:=zbi W.pool (W.zc1 k).rs (W.zc1 k).rb aA W.time;rw[<-ht]at eT;simp[go_sem,zBE,zAY,yO,eT,zOd W k t,hW,hW.toSmallW,hs,hp,hh,eA,fA,bA,hR,dA,eR,hb];exact⟨by kernel_rfl,zU,zd,zt,zf⟩
open Go.Maps
def zGX(f:Nat->Int)(x:Int):Nat->Nat
 | 0=>0
 | k+1=>zGX f x k+(if f k=x then 1 else 0)
theorem zQd{f:Nat->Int}{x:Int}{k:Nat}(h:f k=x):zGX f x (k+1)=zGX f x k+1:=by simp[zGX,h]
theorem zTn{f:Nat->Int}{x:Int}{k:Nat}(h:¬f k=x):zGX f x (k+1)=zGX f x k:=by simp[zGX,h]
def zUa(W:zB)(x:Int):Nat:=zGX (fun i=>(W.zc1 i).zc2) x W.sn+zGX (fun i=>(W.zcy i).zc2) x W.pn
open Go.ChangeMaps Go.MapKept
open Go.WideElems (Fit rd rg pl rd_val elemAt findIdx_arr findIdx_born modify_last set_self)
open Go.WideMaps (KeyLaw)
theorem zNB(w:World)(b:Nat)(o o':Obj):setBlock (setBlock w b o) b o'=setBlock w b o':=by simp[setBlock]
theorem zNo{w:World}{b:Nat}{o:Obj}(h:w.heap[b]?=some o):setBlock w b o=w:=by
 have e:w.heap.setIfInBounds b o=w.heap:=by
  apply Array.ext_getElem?;intro i;by_cases hi:i=b
  ·subst hi;rw[Array.getElem?_setIfInBounds_self_of_lt (Array.getElem?_eq_some_iff.1 h).1];exact h.symm
  ·rw[Array.getElem?_setIfInBounds_ne (fun e=>hi e.symm)]
 unfold setBlock;rw[e]
theorem zME{w:World}{b:Nat}{es aA:Array MapEntry}{c c':Nat}(hb:w.heap[b]?=some (.map es c)):w.grownBy (setBlock w b (.map aA c')) (some b):=
 ⟨rfl,rfl,rfl,by simp[setBlock],fun i _ hi=>heap_setBlock_other hb _ (fun e=>hi (by rw[e]))⟩
theorem zOA{P:Program}{k e t:TypeId}{w:World}{b n:Nat}{D:DataW Value}(h:w.ownsMap P k zEu b n D)(K0:KeyLaw P k)(ht:P.underlying t=some (.map k e))(hn:n<maxLen){z:Value}(hz:∀u:World,(zeroValue e).run P u = .ok z u)
  {key val v:Value} {kl:Lit} (aA:keyOf P k key=some kl) (oA:D.atKey kl (.held z) = .held v) :
  ∃(v0:Value) (st:Nat) (w1 w2:World),(Instr.mapEntry t (.map (some b)) key).run P w = .ok (.tuple #[v0,goInt st]) w1/\(Instr.lookup t (.map (some b)) key false).run P w1 = .ok v w1/\(Instr.entryStore t (.map (some b)) (goInt st) val).run P w1 = .ok () w2/\w2.ownsMap P k zEu b (n+1) (D.put kl (.held val))/\w.grownBy w1 (some b)/\w.grownBy w2 (some b):=by
 have K:=Keyed.of_law K0;obtain⟨w',lA,fA,rA⟩:=h.update K ht hn aA (zEL val);obtain⟨wz,kA,gA,jB⟩:=h.update K ht hn aA (zEL z);have eA:=h.lookup K ht (hz w) (zEL z) aA;obtain⟨es,bA,hb,F,hs,hD⟩:=h;obtain⟨v0,st,dA,c1,cA,kB,cB⟩:=WideElems.entry_then_store K0 ht hz hb F aA;have pA:(setBlock w b (.map dA c1)).heap[b]?=some (.map dA c1):=heap_setBlock_same hb _;obtain⟨nA,c2,bB,eB⟩:=cB _ val pA;have e2:setBlock (setBlock w b (.map dA c1)) b (.map nA c2)=w':=by
  rw[zNB];rw[eB]at lA;injection lA
 refine⟨v0,st,setBlock w b (.map dA c1),w',cA,?_,by rw[<-e2];exact bB,fA,zME hb,rA⟩;obtain⟨v',ps,hl,fB⟩:=eA;have ev:v'=v:=by
  have e1:=zHV fB;rw[oA]at e1;injection e1 with e1;exact e1.symm
 subst ev
 suffices hh:∀ww:World,ww=setBlock w b (.map dA c1)->(Instr.lookup t (.map (some b)) key false).run P ww = .ok v' ww from hh _ rfl
 intro ww mA;rcases K0.find w aA es.toList F.keys with⟨h1,h2⟩ | ⟨j,e0,h1,h2,h3⟩
 ·-- it was not there: behind the entry it is there with the zero value
  have iB:setBlock w b (.map dA c1)=wz:=by
   have hm:(Instr.mapEntry t (.map (some b)) key).run P w = .ok (.tuple #[z,goInt bA]) (setBlock w b (.map (es.push ⟨key,z,bA⟩) (bA+1))):=by
    simp[Instr.mapEntry,run_underlying ht,MapKept.run_getObj_map hb,K0.check w false aA,h1,hz,MapKept.run_setObj_map _ hb,Result.andThen,setBlock]
   have hu:(Instr.mapUpdate t (.map (some b)) key z).run P w = .ok () (setBlock w b (.map (es.push ⟨key,z,bA⟩) (bA+1))):=by
    simp[Instr.mapUpdate,run_underlying ht,MapKept.run_getObj_map hb,K0.check w false aA,h1,MapKept.run_setObj_map _ hb,Result.andThen,setBlock]
   rw[cA]at hm;rw[kA]at hu;injection hm with _ hm;injection hu with _ hu;rw[hm,hu]
  obtain rfl:ww=wz:=mA.trans iB;obtain⟨v2,lB,vA,gB⟩:=gA.lookup K ht (hz _) (zEL z) aA;have e3:=zHV gB;rw[atKey_put_same (show IsMap D from⟨_,hD⟩) (K.key aA)]at e3;replace e3:=DataW.held.inj e3;have e4:v'=z:=by
   have tA:(Instr.lookup t (.map (some b)) key false).run P w = .ok z w:=by
    rcases Maps.fit_look false K ht (hz w) hb F aA with⟨jA,_,_⟩ | ⟨e0,y,aB,sA,_,_,_,_⟩
    ·exact jA
    ·exact absurd sA (h2 e0 aB)
   rw[tA]at hl;injection hl with hl _;exact hl.symm
  subst e3;subst e4;exact vA
 ·-- it was there: the entry leaves the map as it was
  have hj:es[j]?=some e0:=(by simpa using h2);have iA:es.modify j (fun e=>{e with key:=key})=es:=by
   apply Array.ext';rw[Array.toList_modify,modify_eq_set _ _ _ _ h2];have:({e0 with key:=key}:MapEntry)=e0:=(by rw[<-h3]);rw[this];exact set_self _ _ _ h2
  have hm:(Instr.mapEntry t (.map (some b)) key).run P w = .ok (.tuple #[e0.val,goInt e0.born]) (setBlock w b (.map es bA)):=by
   simp[Instr.mapEntry,run_underlying ht,MapKept.run_getObj_map hb,K0.check w false aA,h1,hj,h3,K0.stays w aA,iA,MapKept.run_setObj_map _ hb,Result.andThen,setBlock]
  rw[cA,zNo hb]at hm;obtain rfl:ww=w:=mA.trans (Result.ok.inj hm).2;exact hl
theorem zNV (W : zB) (m : zH2) : (zBS W m).length <= 73 := by
  unfold zBS zCa treeM;exact Nat.le_trans (List.length_filter_le _ _) (yz _ _ _)
theorem zOK (W : zB) : ∀ k, (zu W k).length <= 73 * k
  | 0 => by simp[zu]
  | k + 1 => by
    have h1 := zOK W k;have h2 := zNV W (zK W k);unfold zu;rw[List.length_append];omega
theorem zOL (W : zB) {k : Nat} : ∀ {n : Nat}, k <= n -> ∃ l, zu W n = zu W k ++ l
  | 0, h => ⟨[], by obtain rfl : k = 0 := by omega
                    simp⟩
  | n + 1, h => by
    by_cases e : k = n + 1
    · subst e;exact ⟨[], by simp⟩
    · obtain ⟨l, hl⟩ := zOL W (k := k) (n := n) (by omega)
      exact ⟨l ++ zBS W (zK W n), by rw[show zu W (n + 1) = zu W n ++ zBS W (zK W n) from rfl, hl, List.append_assoc]⟩
theorem zXE (W : zB) {k n j : Nat} (hk : k < n) (hj : j < (zBS W (zK W k)).length) : (zu W k).length + j < (zu W n).length /\ (zu W n).getD ((zu W k).length + j) (0, 0) = (zBS W (zK W k)).getD j (0, 0) := by
  obtain ⟨l, hl⟩ := zOL W (k := k + 1) (n := n) (by omega);rw[hl, show zu W (k + 1) = zu W k ++ zBS W (zK W k) from rfl];constructor
  · simp only[List.length_append];omega
  · rw[List.getD_eq_getElem?_getD, List.getD_eq_getElem?_getD, List.append_assoc, List.getElem?_append_right (by omega), show (zu W k).length + j - (zu W k).length = j by omega, List.getElem?_append_left hj]
def zRg (x : Int × Int) : Value := .agg #[.int .i64 x.1, .int .i64 x.2]
/-- The keys of the homes, one behind the other. -/
structure zBv (W : zB) (key : Nat -> Lit) : Prop where
  ok : zGR key
  at_ : ∀ i, i < (zu W (memN W)).length -> keyOf Tryz.prog 70 (zRg ((zu W (memN W)).getD i (0, 0))) = some (key i)
theorem zPT {W : zB} (hR : zq W.pool) (hT : ∀ i, i < memN W -> qT W.pool (zK W i).rs (zK W i).rb) {x : Int × Int} (hx : x ∈ zu W (memN W)) : yT W.pool x.1 x.2 := by
  obtain ⟨i, hi, h⟩ := zF8.1 hx;unfold zBS zCa treeM at h;exact (zCD hR (hT i hi) (List.mem_filter.1 h).1).1
theorem zW8 {l : List (Int × Int)} {i : Nat} (h : i < l.length) : l.getD i (0, 0) ∈ l := by
  rw[List.getD_eq_getElem?_getD, List.getElem?_eq_getElem h, Option.getD_some];exact List.getElem_mem h
theorem zVb {W : zB} (hR : zq W.pool) (hT : ∀ i, i < memN W -> qT W.pool (zK W i).rs (zK W i).rb) : ∃ key, zBv W key := by
  have aA : ∀ i, ∃ l, WideAt.IsKeyLit l /\ (i < (zu W (memN W)).length -> keyOf Tryz.prog 70 (zRg ((zu W (memN W)).getD i (0, 0))) = some l) := fun i => by
    by_cases bA : i < (zu W (memN W)).length
    · have hp := zPT hR hT (zW8 bA)
      generalize (zu W (memN W)).getD i (0, 0) = x at hp ⊢;have hf := (zBG hR hp).1;have cA := hR.1;obtain ⟨h1, h2, h3, h4⟩ := hp;rw[h4]at hf;obtain ⟨f1, f2⟩ := hf;obtain ⟨l, hl⟩ := zZo (x := x.1) (y := x.2) (WalkArith.wf_i64 (by omega)) (WalkArith.wf_i64 (by omega));exact ⟨l, zbe.key hl, fun _ => hl⟩
    · exact ⟨.string [], trivial, fun h => absurd h bA⟩
  exact ⟨fun i => (aA i).choose, fun i => (aA i).choose_spec.1, fun i => (aA i).choose_spec.2⟩
theorem zV7 {x y : Int × Int} (h : zRg x = zRg y) : x = y := by
  unfold zRg at h;simp only[Value.agg.injEq, Array.mk.injEq, List.cons.injEq, Value.int.injEq, true_and, and_true]at h;exact Prod.ext h.1 h.2
theorem zBv.same {W : zB} {key : Nat -> Lit} (h : zBv W key) {i j : Nat} (hi : i < (zu W (memN W)).length) (hj : j < (zu W (memN W)).length) : key i = key j ↔ (zu W (memN W)).getD i (0, 0) = (zu W (memN W)).getD j (0, 0) := by
  have h1 := h.at_ i hi;have h2 := h.at_ j hj;constructor
  · intro e
    rw[e]at h1;exact zV7 (zbe.inj h1 h2)
  · intro e
    rw[e, h2]at h1;exact (Option.some.inj h1).symm
theorem zBv.dist {W : zB} {key : Nat -> Lit} (h : zBv W key) : zIy (zu W (memN W)).length key ↔ (zu W (memN W)).Nodup := by
  rw[List.Nodup, List.pairwise_iff_getElem];have hg : ∀ i (hi : i < (zu W (memN W)).length), (zu W (memN W)).getD i (0, 0) = (zu W (memN W))[i] := fun i hi => by rw[List.getD_eq_getElem?_getD, List.getElem?_eq_getElem hi, Option.getD_some]
  constructor
  · intro hd i j hi hj aA e
    refine hd j hj i aA ((h.same hi hj).2 ?_);rw[hg i hi, hg j hj];exact e
  · intro hd i hi k hk e
    have := (h.same (by omega) hi).1 e;rw[hg k (by omega), hg i hi]at this;exact hd k i (by omega) hi hk this
/-- The map behind the first p homes. -/
def zOI (key : Nat -> Lit) (p : Nat) : DataW Value := putD key (fun _ => .int .i64 1) p
theorem zBv.new {W : zB} {key : Nat -> Lit} {p : Nat} (hn : ∀ i, i < p -> key i ≠ key p) (h : zBv W key) : (zOI key p).atKey (key p) (.held (.int .i64 0)) = .held (.int .i64 0) := zKA h.ok _ hn _
theorem zBv.old {W : zB} {key : Nat -> Lit} {p i : Nat} (hi : i < p) (he : key i = key p) (hd : zIy p key) (h : zBv W key) : (zOI key p).atKey (key p) (.held (.int .i64 0)) = .held (.int .i64 1) := by
  rw[<- he];exact zP1 h.ok _ _ p i hi (fun j h1 h2 e => hd j h2 i h1 e.symm)
theorem zBv.put {W : zB} {key : Nat -> Lit} (h : zBv W key) (p : Nat) (v : Value) : ((zOI key p).put (key p) (.held v)).atKey (key p) (.held (.int .i64 0)) = .held v := atKey_put_same (zE3 h.ok _ p).isMap (h.ok p) _ _
theorem zBv.not_nodup {W : zB} {key : Nat -> Lit} {p i : Nat} (hi : i < p) (hp : p < (zu W (memN W)).length) (he : key i = key p) (h : zBv W key) : ¬ (zu W (memN W)).Nodup := fun hn => h.dist.2 hn p hp i hi he
theorem zBv.size {W : zB} {key : Nat -> Lit} (h : zBv W key) {p : Nat} (hd : zIy p key) : Maps.size (zOI key p) = p := (zKB h.ok _ p).2.2 hd
theorem zJ0(v0 v1:Value)(lo hi:Nat)(p:zE)(w:World)(h1:zCV w lo hi v0 v1 p) :
  Calls Tryz.prog 151 #[.agg #[v0,v1]] w fun e w'=>e = .returned (.int .i64 (zUy p))/\Below w.heap.size w w':=by
 have Hp:Hid (zCV w lo hi v0 v1 p):=h1;obtain⟨⟨m1,a,c,rfl,mc,g1⟩,⟨m2,a',c',rfl,kA,g2⟩⟩:=h1;unfold maxLen at m1 m2;clear g1 g2;have ha:=zD w (.cells #[.slice a p.n c,.slice a' p.hn c'] 26);go_enter Tryz.func151,Tryz.ntmps151;go_wp2_with fail;refine(zDi _ _ lo hi p _ (Hp.out.zcw ha)).mono ?_;rintro e w1 ⟨⟨t,rfl,ht⟩,aA⟩;have Hx:Hid (zAZ w1 w.heap.size (.slice a p.n c) (.slice a' p.hn c')):=(zAZ.new w _ _ _).zcw aA;have cA:=zA ha aA;clear ha aA;by_cases hR:zq p
 ·obtain rfl:t=true:=ht.2 hR;have HR:Hid (zq p):=hR;have eA:(p.n:Int)<=200:=(by have:=hR.1;omega);clear ht hR;obtain⟨⟨y0,y1⟩,⟨y2,y3⟩⟩:=Hx.out;have fA:Hid (zUy p=(roomN p.s p.n:Int)):=if_pos HR.out;have HB:Hid (Below w.heap.size w w1):=cA;go_wp2;clear y0 y1 y2 y3 cA
  go_loopw [3,12] (fun m i wr=>∃k:Nat,k<=p.n/\i = .int .i64 k/\m = .int .i64 (roomN p.s k:Int)/\Below w.heap.size w wr) (fun _ i _=>p.n - (intOf i).toNat)
  case atStart=>exact⟨0,Nat.zero_le _,rfl,rfl,HB.out⟩
  case round=>
   obtain⟨k,hk,rfl,rfl,hb⟩:=hrel;have jA:=zJf p.s k;by_cases gA:k<p.n
   ·have iA:(k:Int)<(p.n:Int):=(by omega);obtain⟨b,off,ka,kc,rfl,hs⟩:=(Hp.out.1.zcw hb).cells gA;have Hs:Hid (zDt wr b (off+k*3) lo hi ka kc (p.s k)):=hs;obtain⟨q0,q1,q2,_⟩:=hs;go_wp2_with fail;have bA:=zD wr (.cells #[.int .i64 (p.s k).birth,.slice ka (p.s k).kn kc,.string (p.s k).data] 58);refine(zCy _ _ _ lo hi (p.s k) _ (Hs.out.slot.zcw bA)).mono ?_;rintro e w2 ⟨⟨t,rfl,ht⟩,aA⟩;have dA:=zA hb (zA bA aA);clear aA q0 q1 q2 Hs bA;by_cases hf:zAA (p.s k)
    ·obtain rfl:t=true:=ht.2 hf;have HF:Hid (zAA (p.s k)):=hf;clear ht hf;go_wp2;go_roundw
     case rel=>exact⟨k+1,by omega,by go_num,congrArg (Value.int .i64) (by rw[zEC HF.out];omega),dA⟩
     case measure=>simp[intOf];omega
    ·obtain rfl:t=false:=yy ht hf;have HF:Hid (¬zAA (p.s k)):=hf;clear ht hf;go_wp2;go_roundw
     case rel=>exact⟨k+1,by omega,by go_num,congrArg (Value.int .i64) (by rw[zEW HF.out]),dA⟩
     case measure=>simp[intOf];omega
   ·obtain rfl:k=p.n:=(by omega);go_wp2;go_ret;exact⟨by rw[fA.out];rfl,hb⟩
 ·obtain rfl:t=false:=yy ht hR;have HR:Hid (¬zq p):=hR;clear ht hR;go_wp2;go_ret;refine⟨?_,cA⟩;have e:zUy p=0:=if_neg HR.out;rw[e];rfl
end Go.Proofs.YtbplmbafodlboaaGreatDoor
