/- A part of the proof. -/
import Derived.Test.YtjganmlaooofoaaGreatDoorF13
import Derived.Deep.LoopGhost
import Derived.RegionTactic
import Derived.ChangeAlike
import Derived.BigRegion
import Derived.Maps.OwnSet
set_option linter.unusedVariables false
set_option maxRecDepth 20000
set_option maxHeartbeats 4000000
namespace Go.Proofs.YtjganmlaooofoaaGreatDoor
open Go.RowKit
set_option linter.unusedSimpArgs false
set_option maxRecDepth 20000
set_option maxHeartbeats 1600000
attribute [local go_sem] qg List.map_cons List.map_nil Tr.cv yv qT yF yD yu yr yq yC zBD zBF zBE zBA zBC zBB zCc zCe zCd qY zt qZ zu qR qQ qf zAL zp zq yL qW tmpsOf zAy yK qV zA9 yz yx yw zAA yy stpP opds opd opdC kap zAS qS zo coreU bin zAl zCO get put dlO fgt zBP zBI zBM zBN tyT yp yo Op.operands Call.operands evLoad evLen evStore evAlloc zAn and_true true_and List.append_nil List.nil_append List.cons_append Ret resCv zCB yY cellM zBl zCI qh StW StR hpT hpO hpV hpA hpL hpC sg nin zCT bdO tmW obW AvE CsE CvE Av.tup Av.ids Cv.ids inD ObE Ob.ids TrE.refl qU yH yI qb qd qe zr zf zd zAC zBe zCH zBG evCall argL argOf qq outOb obO yU qK cvO tot Tr.own rid partsOf fillC zU zBj frz frz1 evBuildSlice zc trs Cv.tr evSlice Option.toArray_none Option.toArray_some evMakeSlice evAppend dstOf srcOf zA7 zBO zBL zBJ zBK ikT yB yA qz qy RetP RetN zBs qP evLd evSt evStoreH zAe evAppendM evAppendT tlOf mvOf rowE shp evTake oOf evC evCallP evCallN evCallO unlast zAX zA6 zAZ argsF zCS qu pmC varT vT evField evConv dB0 Option.bind_some Option.bind_none Option.map_some Option.map_none Option.isSome_some Option.isSome_none
attribute [local go_sem] yP zb zA5
noncomputable def zcR:zX:=qk (fun p:zF=>[poT p.n p.s p.hn p.h]) (fun p=>p.n<=1000000) (fun p=>[iT (roomN p.s p.n:Int)])
theorem zY8(p:zF):zcR [poT p.n p.s p.hn p.h]=some (p.n<=1000000,[iT (roomN p.s p.n:Int)]):=zO (fun l=>zEu (nth l 0 0) (nth l 0 1)) (fun _=>rfl) p
theorem zT0:zy Tryz.prog 192 zcR:=by
 refine zQ qA (GOk.cons zG2 (zG Tryz.func61 rfl rfl) GOk.nil) zz Tryz.func192 rfl Tryz.ntmps192 Tryz.results192 5 ?_;rintro p hn;replace hn:p.n<=1000000:=hn;refine⟨by simp,?_⟩;simp[go_sem];refine yE (fun k:Nat=>⟨[(1,true,.m false [.p 1 0]),(3,true,.i (roomN p.s k)),(4,true,.i k)],[(1,.var [.s .b 3 p.n (zk .b p.s),.s .b 1 p.hn (yT p.h)])]⟩) (fun k=>p.n - k) (fun k=>k<=p.n) 0 (by simp[go_sem,roomN]) (by simp) ?_;rintro k hk;have hr:=zKI p.s k;simp[go_sem,qB (show k<=1000000000 by omega),qB (show roomN p.s k<=1000000000 by omega),zHs];refine⟨fun hl=>⟨hl,fun h=>⟨k+1,by omega,by omega,by rw[zEP h];rfl,rfl⟩,fun h=>⟨k+1,by omega,by omega,by rw[zEm h],rfl⟩⟩,fun hl=>?_⟩;cases (show k=p.n by omega);rfl
theorem zXa{fl:Fl}(p:zF)(k:Nat)(s:zN):TrE (.s fl 3 p.n (yN (zk .z p.s) k 0 [.v (.int .i64 s.birth),.s .z 2 s.kn (ptrsT s.ks s.kb),.v (.string s.data)])) (.s fl 3 p.n (zk .z (zBt p k s).s)):=by
 refine zES fun i j hi hj=>?_
 by_cases h:i=k
 ·subst h
  match j,hj with
  | 0,_=>simp[yN,zk,zBt]
  | 1,_=>simp[yN,zk,zBt]
  | 2,_=>simp[yN,zk,zBt]
 ·match j,hj with
  | 0,_=>simp[yN,zk,zBt,h]
  | 1,_=>simp[yN,zk,zBt,h]
  | 2,_=>simp[yN,zk,zBt,h]
noncomputable def tk1(p:zF)(s:zN):zF×Int×Int×Bool:=@dite _ (∃i,zBf p.n p.s i) (Classical.propDecidable _) (fun h=>(zBt p h.choose s,(h.choose:Int),s.birth,true)) (fun _=>(p,0,0,false))
theorem zE8{p:zF}{s:zN}{i:Nat}(h:zBf p.n p.s i):tk1 p s=(zBt p i s,(i:Int),s.birth,true):=by
 have hx:∃i,zBf p.n p.s i:=⟨i,h⟩;unfold tk1;rw[dif_pos hx,hx.choose_spec.uniq h]
theorem zQ6{p:zF}{s:zN}(h:∀i,i<p.n->¬zAO (p.s i)):tk1 p s=(p,0,0,false):=dif_neg fun ⟨i,hi⟩=>h i hi.1 hi.2.1
abbrev poV(p:zF):List Tr:=[.s .o 3 p.n (zk .z p.s),.s .o 1 p.hn (yT p.h)]
abbrev slZ(s:zN):Bool×List Tr:=(true,[.v (.int .i64 s.birth),.s .z 2 s.kn (ptrsT s.ks s.kb),.v (.string s.data)])
noncomputable def zZF:zX:=qk (fun q:zF×zN=>(true,poV q.1) :: [slZ q.2]) (fun q=>q.1.n<=1000000) (fun q=>[poO (tk1 q.1 q.2).1,pT (tk1 q.1 q.2).2.1 (tk1 q.1 q.2).2.2.1,(false,[.v (.bool (tk1 q.1 q.2).2.2.2)])])
theorem zSQ(p:zF)(s:zN):zZF [(true,poV p),slZ s]=some (p.n<=1000000,[poO (tk1 p s).1,pT (tk1 p s).2.1 (tk1 p s).2.2.1,(false,[.v (.bool (tk1 p s).2.2.2)])]):=zO (fun l=>(zEu (nth l 0 0) (nth l 0 1),zO3 (nth l 1 0) (nth l 1 1) (nth l 1 2))) (fun _=>rfl) (p,s)
theorem zM6:zBv Tryz.prog 190 zZF:=by
 refine zBg qA (GOk.cons zG2 (zG Tryz.func61 rfl rfl) GOk.nil) zz Tryz.func190 rfl Tryz.ntmps190 Tryz.results190 7 ?_;rintro⟨p,s⟩ hn;replace hn:p.n<=1000000:=hn;refine⟨by simp,?_⟩;simp[go_sem];refine yE (fun k:Nat=>⟨[(6,true,.i k),(4,true,.m false [.p 4 0]),(3,true,.m false [.p 3 0]),(0,true,.m false [.p 0 0])],[(4,.var [.v i0,.v i0]),(3,.var [.v (.int .i64 s.birth),.s .z 2 s.kn (ptrsT s.ks s.kb),.v (.string s.data)]),(0,.var [.h 1000,.h 2000]),(1000,.row 3 p.n (zk .z p.s)),(2000,.row 1 p.hn (yT p.h))]⟩) (fun k=>p.n - k) (fun k=>k<=p.n/\∀i,i<k->¬zAO (p.s i)) 0 (by simp[go_sem]) (by simp) ?_;rintro k ⟨hk,aA⟩;simp[go_sem,qB (show k<=1000000000 by omega),zHs];refine⟨fun hl=>⟨hl,fun h=>?_,fun h=>⟨k+1,⟨by omega,yJ hl aA h⟩,by omega,rfl⟩⟩,fun hl=>?_⟩
 ·rw[zE8 ⟨hl,h,aA⟩];exact⟨hl,by kernel_rfl,⟨⟨zXa p k s,zW⟩,TrE.refl _,zm⟩,⟨rfl,rfl⟩,rfl⟩
 ·rw[zQ6 fun i hi=>aA i (by omega)];exact⟨⟨⟨TrE.refl _,zW⟩,TrE.refl _,zm⟩,⟨rfl,rfl⟩,rfl⟩
def orSp(a b:zX):zX:=fun l=>match a l with
 | some r=>some r
 | none=>b l
theorem zZi{a b:zX}{l:List (Bool×List Tr)}{r:Prop×List (Bool×List Tr)}(h:a l=some r):orSp a b l=some r:=by unfold orSp;rw[h]
theorem zZk{a b:zX}{l:List (Bool×List Tr)}{r:Prop×List (Bool×List Tr)}(h:a l=none)(h':b l=some r):orSp a b l=some r:=by unfold orSp;rw[h];exact h'
theorem zPc{ι : Type}{A:ι->List (Bool×List Tr)}{C:ι->Prop}{R:ι->List (Bool×List Tr)}{l:List (Bool×List Tr)}(h:∀x,A x≠l):qk A C R l=none:=dif_neg fun ⟨x,hx⟩=>h x hx
theorem zZj{P:Program}{f:Nat}{a b:zX}(ha:zBv P f a)(hb:zBv P f b):zBv P f (orSp a b):=by
 intro w vs al c rs aA hc;unfold orSp at aA;split at aA
 ·rename_i r hr
  cases aA;exact ha w vs al c rs hr hc
 ·exact hb w vs al c rs aA hc
noncomputable def zUF:zX:=qk (fun q:zF×Int×ByteArray=>(true,poV q.1) :: [(true,[.v (.int .i64 q.2.1),.v n0,.v (.string q.2.2)])]) (fun q=>q.1.n<=1000000) (fun q=>[poO (tk1 q.1 (zBH q.2.1 q.2.2)).1,pT (tk1 q.1 (zBH q.2.1 q.2.2)).2.1 (tk1 q.1 (zBH q.2.1 q.2.2)).2.2.1,(false,[.v (.bool (tk1 q.1 (zBH q.2.1 q.2.2)).2.2.2)])])
theorem zaQ:zBv Tryz.prog 190 zUF:=by
 intro w vs al c rs aA hc E ys ho hy;obtain⟨⟨p,b,d⟩,e,hn,rfl⟩:∃q:zF×Int×ByteArray,(true,poV q.1) :: [(true,[.v (.int .i64 q.2.1),.v n0,.v (.string q.2.2)])]=(true,vs) :: al/\q.1.n<=1000000/\[poO (tk1 q.1 (zBH q.2.1 q.2.2)).1,pT (tk1 q.1 (zBH q.2.1 q.2.2)).2.1 (tk1 q.1 (zBH q.2.1 q.2.2)).2.2.1,(false,[.v (.bool (tk1 q.1 (zBH q.2.1 q.2.2)).2.2.2)])]=rs:=by
  unfold zUF qk at aA;split at aA
  ·rename_i hx
   cases aA;exact⟨_,hx.choose_spec,hc,rfl⟩
  ·cases aA
 simp only[List.cons.injEq,Prod.mk.injEq,true_and]at e;obtain⟨rfl,rfl⟩:=e;refine zM6 w (poV p) [slZ (zBH b d)] _ _ (zSQ p (zBH b d)) hn E ys ho ?_;cases hy with
 | cons h1 t=>
  cases t;obtain⟨cs,e,h1⟩:=h1;refine .cons ⟨cs,e,?_⟩ .nil;cases h1 with
  | cons k1 k2=>
   cases k2 with
   | cons k2 k3=>exact .cons k1 (.cons ⟨none,0,k2.1,Nat.le_refl _,fun h0=>absurd h0 (Nat.lt_irrefl _)⟩ k3)
noncomputable def mTk:zX:=orSp zZF zUF
theorem zcd:zBv Tryz.prog 190 mTk:=zZj zM6 zaQ
theorem zZG(p:zF)(b:Int)(n:Nat)(ks kb:Nat->Int)(d:ByteArray):mTk [(true,poV p),(true,[.v (.int .i64 b),.s .z 2 n (ptrsT ks kb),.v (.string d)])]=some (p.n<=1000000,[poO (tk1 p ⟨b,n,ks,kb,d⟩).1,pT (tk1 p ⟨b,n,ks,kb,d⟩).2.1 (tk1 p ⟨b,n,ks,kb,d⟩).2.2.1,(false,[.v (.bool (tk1 p ⟨b,n,ks,kb,d⟩).2.2.2)])]):=zZi (zSQ p ⟨b,n,ks,kb,d⟩)
theorem zbI(p:zF)(b:Int)(d:ByteArray):mTk [(true,poV p),(true,[.v (.int .i64 b),.v n0,.v (.string d)])]=some (p.n<=1000000,[poO (tk1 p (zBH b d)).1,pT (tk1 p (zBH b d)).2.1 (tk1 p (zBH b d)).2.2.1,(false,[.v (.bool (tk1 p (zBH b d)).2.2.2)])]):=by
 refine zZk (zPc fun x h=>?_) (zO (fun l=>(zEu (nth l 0 0) (nth l 0 1),qM (nth l 1 0),zDP (nth l 1 2))) (fun _=>rfl) (p,b,d));simp at h
set_option maxRecDepth 20000
set_option maxHeartbeats 1600000
theorem zR6{p:zF}(h:zg p):∀i,i<p.n->(p.s i).kn<=8:=fun i hi=>by
 rcases h.2.1 i hi with h1 | h1
 ·have:=h1.2.1;omega
 ·rcases h1.2 with h2 | h2
  ·omega
  ·omega
abbrev toR(t:zEd):Bool×List Tr:=(true,[.s .o 3 t.pool.n (zk .z t.pool.s),.s .o 1 t.pool.hn (yT t.pool.h),.v (.int .i64 t.rs),.v (.int .i64 t.rb),.s .o 2 t.old.length (ptL t.old),.v (.int .i64 t.code)])
abbrev sT(d:ByteArray):Bool×List Tr:=(false,[.v (.string d)])
theorem qE.upE{w:World}{g:Nat->Bs}:∀{l m:List Tr} {cs:List Value},qE TrE l m->qE (Sh w g) l cs->qE (Sh w g) m cs
 | _,_,_,.nil,h=>by cases h;exact .nil
 | _,_,_,.cons e t,h=>by
  cases h with
  | cons y ty=>exact .cons (y.e e) (qE.upE t ty)
theorem zy.up{P:Program}{f:Nat}{m m2:zX}(h:zy P f m)(H:∀al c rs,m2 al=some (c,rs)->∃aA,m aA=some (c,rs)/\qE (fun q q'=>q.1=q'.1/\qE TrE q.2 q'.2) al aA):zy P f m2:=by
 intro w al c rs bA hc g0 ys hg hy;obtain⟨aA,hm,cA⟩:=H al c rs bA;refine h w aA c rs hm hc g0 ys hg ?_;clear bA hm H
 induction cA generalizing ys with
 | nil=>cases hy;exact .nil
 | cons e t ih=>
  cases hy with
  | cons y ty=>
   refine .cons ?_ (ih _ ty)
   rename_i q q' _ _ u _
   obtain⟨q1,q2⟩:=q;obtain⟨r1,r2⟩:=q';obtain⟨e1,e2⟩:=e;cases (show q1=r1 from e1);cases q1
   ·obtain⟨T,hT,hs⟩:=y;cases (show q2 = [T] from hT);cases e2 with
    | cons e2 t2=>cases t2;exact⟨_,rfl,hs.e e2⟩
   ·obtain⟨cs,e,hs⟩:=y;refine⟨cs,e,?_⟩;exact qE.upE e2 hs
theorem zy.upk{P:Program}{f:Nat}{ι κ : Type}{A:ι->List (Bool×List Tr)}{C:ι->Prop}{R:ι->List (Bool×List Tr)}{m:zX}(h:zy P f m)(H:∀x,∃aA,m aA=some (C x,R x)/\qE (fun q q'=>q.1=q'.1/\qE TrE q.2 q'.2) (A x) aA):zy P f (qk A C R):=h.up fun al c rs e=>by
 unfold qk at e;split at e
 ·rename_i hx
  cases e;obtain⟨aA,h1,h2⟩:=H hx.choose;rw[hx.choose_spec]at h2;exact⟨aA,h1,h2⟩
 ·cases e
def zbD(a b c d e f:Int):Nat->Nat->Tr:=fun p q=>([Tr.v (.int .i64 a),.v (.int .i64 b),.v (.int .i64 c),.v (.int .i64 d),.v (.int .i64 e),.v (.int .i64 f)]:List Tr)[p*2+q]?.getD (.v (.bool false))
def f3(a b c:Int):Nat->Int
 | 0=>a
 | 1=>b
 | _=>c
theorem qw{fl:Fl}{a b c d e f:Int}:(Tr.s fl 2 3 fun p q=>([Tr.v (.int .i64 a),.v (.int .i64 b),.v (.int .i64 c),.v (.int .i64 d),.v (.int .i64 e),.v (.int .i64 f)]:List Tr)[p*2+q]?.getD (.v (.bool false))).lend = .s .b 2 3 (zbD a b c d e f):=by
 simp only[Tr.lend];congr 1;funext p q;simp only[zbD];generalize p*2+q=j
 match j with
 | 0 | 1 | 2 | 3 | 4 | 5=>rfl
 | j+6=>rfl
noncomputable def zcJ:zX:=qk (fun q:(Int×Int×Int)×Int×Int×Int=>[(false,[.s .b 2 3 (zbD q.1.1 q.2.1 q.1.2.1 q.2.2.1 q.1.2.2 q.2.2.2)])]) (fun q=>(3:Nat)<=1000000) (fun q=>[(false,[.s .o 2 (kidsUp (f3 q.1.1 q.1.2.1 q.1.2.2) (f3 q.2.1 q.2.2.1 q.2.2.2) 3).length (ptL (kidsUp (f3 q.1.1 q.1.2.1 q.1.2.2) (f3 q.2.1 q.2.2.1 q.2.2.2) 3))])])
theorem zSJ(a b c d e f:Int):zcJ [(false,[.s .b 2 3 (zbD a b c d e f)])]=some ((3:Nat)<=1000000,[(false,[.s .o 2 (kidsUp (f3 a c e) (f3 b d f) 3).length (ptL (kidsUp (f3 a c e) (f3 b d f) 3))])]):=zO (fun l=>((qM (zCh (nth l 0 0) 0 0),qM (zCh (nth l 0 0) 1 0),qM (zCh (nth l 0 0) 2 0)),qM (zCh (nth l 0 0) 0 1),qM (zCh (nth l 0 0) 1 1),qM (zCh (nth l 0 0) 2 1))) (fun _=>rfl) ((a,c,e),b,d,f)
theorem zVp:zy Tryz.prog 191 zcJ:=zPP.upk (κ:=Nat) fun ⟨⟨a,c,e⟩,b,d,f⟩=>⟨_,zVN 3 (f3 a c e) (f3 b d f),.cons ⟨rfl,.cons (zES fun i j hi hj=>by
 match i,j,hi,hj with
 | 0,0,_,_=>rfl
 | 0,1,_,_=>rfl
 | 1,0,_,_=>rfl
 | 1,1,_,_=>rfl
 | 2,0,_,_=>rfl
 | 2,1,_,_=>rfl) .nil⟩ .nil⟩
theorem zaS{p:zF}{xs xb x:Int}{n:Nat}:zKS (zFY p (zDm p xs xb n) (zD5 p xs xb n)) (n % 8) x=zBo p xs xb n 1 x:=rfl
theorem zaU{p:zF}{xs xb x:Int}{n:Nat}:zKS (zFX p (zDm p xs xb n) (zD5 p xs xb n)) (n % 8) x=zBk p xs xb n 1 x:=rfl
theorem zaR{p:zF}{xs xb x:Int}{n:Nat}:zKS (zFY p xs xb) (n / 8) x=zBo p xs xb n 0 x:=rfl
theorem zaT{p:zF}{xs xb x:Int}{n:Nat}:zKS (zFX p xs xb) (n / 8) x=zBk p xs xb n 0 x:=rfl
attribute [local go_sem] qg List.map_cons List.map_nil Tr.cv yv qT yF yD yu yr yq yC zBD zBF zBE zBA zBC zBB zCc zCe zCd qY zt qZ zu qR qQ qf zAL zp zq yL qW tmpsOf zAy yK qV zA9 yz yx yw zAA yy stpP opds opd opdC kap zAS qS zo coreU bin zAl zCO get put dlO fgt zBP zBI zBM zBN tyT yp yo Op.operands Call.operands evLoad evLen evStore evAlloc zAn and_true true_and List.append_nil List.nil_append List.cons_append Ret resCv zCB yY cellM zBl zCI qh StW StR hpT hpO hpV hpA hpL hpC sg nin zCT bdO tmW obW AvE CsE CvE Av.tup Av.ids Cv.ids inD ObE Ob.ids TrE.refl qU yH yI qb qd qe zr zf zd zAC zBe zCH zBG evCall argL argOf qq outOb obO yU qK cvO tot Tr.own rid partsOf fillC zU zBj frz frz1 evBuildSlice zc trs Cv.tr evSlice Option.toArray_none Option.toArray_some evMakeSlice evAppend dstOf srcOf zA7 zBO zBL zBJ zBK ikT yB yA qz qy RetP RetN zBs qP evLd evSt evStoreH zAe evAppendM evAppendT tlOf mvOf rowE shp evTake oOf evC evCallP evCallN evCallO unlast zAX zA6 zAZ argsF zCS qu pmC varT vT evField evConv dB0 Option.bind_some Option.bind_none Option.map_some Option.map_none Option.isSome_some Option.isSome_none
attribute [local go_sem] yP zb zA5 yW qw
noncomputable def mTW:zX:=qk (fun q:(zF×Int×Int)×Int×ByteArray×Int=>[poT q.1.1.n q.1.1.s q.1.1.hn q.1.1.h,pT q.1.2.1 q.1.2.2,iT q.2.1,sT q.2.2.1,iT q.2.2.2]) (fun q=>q.1.1.n<=1000000/\q.1.1.hn<=1000000) (fun q=>[toR (zDN q.1.1 q.1.2.1 q.1.2.2 q.2.1 q.2.2.1 q.2.2.2)])
theorem zc4(p:zF)(xs xb aA:Int)(d:ByteArray)(b:Int):mTW [poT p.n p.s p.hn p.h,pT xs xb,iT aA,sT d,iT b]=some (p.n<=1000000/\p.hn<=1000000,[toR (zDN p xs xb aA d b)]):=zO (fun l=>((zEu (nth l 0 0) (nth l 0 1),qM (nth l 1 0),qM (nth l 1 1)),qM (nth l 2 0),zDP (nth l 3 0),qM (nth l 4 0))) (fun _=>rfl) ((p,xs,xb),aA,d,b)
theorem zQD:zy Tryz.prog 175 mTW:=by
 refine zQ qA (GOk.cons zG1 (zG Tryz.func73 rfl rfl) (GOk.cons zGo (zG Tryz.func75 rfl rfl) (GOk.cons zM7 (zG Tryz.func185 rfl rfl) (GOk.cons zJ3 (zG Tryz.func186 rfl rfl) (GOk.cons zM8 (zG Tryz.func187 rfl rfl) (GOk.cons zJB (zG Tryz.func188 rfl rfl) (GOk.cons zVp (zG Tryz.func191 rfl rfl) (GOk.cons zT0 (zG Tryz.func192 rfl rfl) (GOk.ptrK zcd (zG Tryz.func190 rfl rfl) GOk.nil))))))))) zz Tryz.func175 rfl Tryz.ntmps175 Tryz.results175 22 ?_;rintro⟨⟨p,xs,xb⟩,bA,d,b⟩ ⟨hn,hm⟩;replace hn:p.n<=1000000:=hn;replace hm:p.hn<=1000000:=hm;refine⟨by simp,?_⟩;by_cases hN:zFL bA;rotate_left
 ·have gA:(0<=bA/\bA<=63)↔False:=⟨hN,False.elim⟩;simp[go_sem,zJ9,zJ6,zG8,gA,hn,hm];refine⟨fun h=>?_,fun h0=>⟨fun h=>h,fun h=>?_,fun hT hB=>?_⟩⟩
  ·rw[zN8 (by omega)];exact⟨rfl,rfl,rfl,rfl,rfl,rfl⟩
  ·rw[zN7 (by omega) fun e=>h.elim (· e.1) (· e.2)];exact⟨rfl,rfl,rfl,rfl,rfl,rfl⟩
  ·rw[zLh (by omega) ⟨hT,hB⟩ fun e=>hN e.1];exact⟨rfl,rfl,rfl,rfl,rfl,rfl⟩
 obtain⟨n,rfl⟩:=Int.eq_ofNat_of_zero_le hN.1;have aA:n<64:=by have:=hN.2;omega
 simp[go_sem,zJ9,zJ6,zG8,zY8,zHp,zSK,zZG,zbI,zNK,zSJ,hn,hm,zQ5 aA,zWC];refine⟨fun h=>?_,fun h0=>⟨fun h=>h,fun h=>?_,fun hT hB=>?_⟩⟩
 ·rw[zN8 (by omega)];exact⟨rfl,rfl,rfl,rfl,rfl,rfl⟩
 ·rw[zN7 (by omega) fun e=>h.elim (· e.1) (· e.2)];exact⟨rfl,rfl,rfl,rfl,rfl,rfl⟩
 refine⟨fun h=>?_,fun iA hd=>⟨fun h=>?_,fun h=>?_⟩⟩
 ·rw[zLh (by omega) ⟨hT,hB⟩ fun e=>h.elim (fun h=>absurd h (by omega)) (fun h=>h (by exact_mod_cast e.2))];exact⟨rfl,rfl,rfl,rfl,rfl,rfl⟩
 ·rw[zUi hT aA hB (by exact_mod_cast hd) (by exact_mod_cast h)];exact⟨rfl,rfl,rfl,rfl,rfl,rfl⟩
 have cA:d.size=16:=by exact_mod_cast hd
 have hr:3<=roomN p.s p.n:=by exact_mod_cast h
 obtain⟨i0,f0⟩:=zEQ (f:=p.s) (n:=p.n) (by omega);refine⟨fun i hi=>by have:=zR6 hT.1 i hi;omega,⟨hT,aA⟩,?_⟩;have fA:zIu p xs xb:=zQv hT;have eA:zIu p (zDm p xs xb n) (zD5 p xs xb n):=zQk hT (by omega);have q0:roomN (zB4 p b d i0).s p.n+1=roomN p.s p.n:=zIN (s:=zBH b d) f0 (zEF hB.1 cA);obtain⟨i1,f1⟩:=zEQ (f:=(zB4 p b d i0).s) (n:=p.n) (by omega);have q1:roomN (zGW p xs xb n b d i0 i1).s p.n+1=roomN (zB4 p b d i0).s p.n:=zIN (p:=zB4 p b d i0) f1 (zFZ hT aA hB f0);obtain⟨i2,f2⟩:=zEQ (f:=(zGW p xs xb n b d i0 i1).s) (n:=p.n) (by omega);have t0:tk1 p (zBH b d)=(zB4 p b d i0,(i0:Int),b,true):=zE8 f0;have t1:tk1 (zB4 p b d i0) ⟨b,8,zBo p xs xb n 1 (i0:Int),zBk p xs xb n 1 b,⟨#[]⟩⟩=(zGW p xs xb n b d i0 i1,(i1:Int),b,true):=zE8 f1;have t2:tk1 (zGW p xs xb n b d i0 i1) ⟨b,8,zBo p xs xb n 0 (i1:Int),zBk p xs xb n 0 b,⟨#[]⟩⟩=(zZ2 p xs xb n b d i0 i1 i2,(i2:Int),b,true):=zE8 f2;have e8:((n:Int) % 8).toNat=n % 8:=by omega
 have dA:((n:Int) / 8).toNat=n / 8:=by omega
 simp only[e8,dA,t0,t1,t2,zaS,zaU,zaR,zaT];rw[zaX hT aA hB cA f0 f1 f2];refine⟨eA,by omega,by omega,hn,fA,by omega,by omega,hn,?_⟩;have eO:zUN p xs xb n 3=kidsUp (f3 (zFc p xs xb n) (zDm p xs xb n) xs) (f3 (zFu p xs xb n) (zD5 p xs xb n) xb) 3:=rfl;rw[eO];exact⟨by kernel_rfl,⟨TrE.refl _,zW⟩,⟨TrE.refl _,zm⟩,rfl,rfl,⟨TrE.refl _,zC1⟩,rfl⟩
set_option maxRecDepth 20000
set_option maxHeartbeats 1600000
theorem zTx{f g:Nat->Int}:kidsUp f g 8 = []↔zEq f g:=by
 rw[<-List.length_eq_zero_iff,<-Classical.not_not (a:=zEq f g),<-zaN,<-zG0];omega
theorem zbl{p:zF}{xs xb x y:Int}{n:Nat}:zKS (zBo p xs xb n 0 x) (n / 8) y=zBo p xs xb n 0 y:=by
 funext i;unfold zKS zBo;show(if i=n / 8 then y else if i=n / 8 then x else _)=if i=n / 8 then y else _
 by_cases h:i=n / 8<;>simp[h]
theorem zbm{p:zF}{xs xb x y:Int}{n:Nat}:zKS (zBk p xs xb n 0 x) (n / 8) y=zBk p xs xb n 0 y:=by
 funext i;unfold zKS zBk;show(if i=n / 8 then y else if i=n / 8 then x else _)=if i=n / 8 then y else _
 by_cases h:i=n / 8<;>simp[h]
theorem zGN{f:Nat->zN}:∀{n j:Nat},j<n->zAO (f j)->∃i,zBf n f i
 | 0,j,h,_=>absurd h (Nat.not_lt_zero _)
 | n+1,j,h,hf=>by
  by_cases hx:∃k,k<n/\zAO (f k)
  ·obtain⟨k,hk,aA⟩:=hx;obtain⟨i,h1,h2,h3⟩:=zGN hk aA;exact⟨i,by omega,h2,h3⟩
  ·have:j=n:=Classical.byContradiction fun e=>hx ⟨j,by omega,hf⟩
   subst this;exact⟨j,h,hf,fun k hk aA=>hx ⟨k,hk,aA⟩⟩
attribute [local go_sem] qg List.map_cons List.map_nil Tr.cv yv qT yF yD yu yr yq yC zBD zBF zBE zBA zBC zBB zCc zCe zCd qY zt qZ zu qR qQ qf zAL zp zq yL qW tmpsOf zAy yK qV zA9 yz yx yw zAA yy stpP opds opd opdC kap zAS qS zo coreU bin zAl zCO get put dlO fgt zBP zBI zBM zBN tyT yp yo Op.operands Call.operands evLoad evLen evStore evAlloc zAn and_true true_and List.append_nil List.nil_append List.cons_append Ret resCv zCB yY cellM zBl zCI qh StW StR hpT hpO hpV hpA hpL hpC sg nin zCT bdO tmW obW AvE CsE CvE Av.tup Av.ids Cv.ids inD ObE Ob.ids TrE.refl qU yH yI qb qd qe zr zf zd zAC zBe zCH zBG evCall argL argOf qq outOb obO yU qK cvO tot Tr.own rid partsOf fillC zU zBj frz frz1 evBuildSlice zc trs Cv.tr evSlice Option.toArray_none Option.toArray_some evMakeSlice evAppend dstOf srcOf zA7 zBO zBL zBJ zBK ikT yB yA qz qy RetP RetN zBs qP evLd evSt evStoreH zAe evAppendM evAppendT tlOf mvOf rowE shp evTake oOf evC evCallP evCallN evCallO unlast zAX zA6 zAZ argsF zCS qu pmC varT vT evField evConv dB0 Option.bind_some Option.bind_none Option.map_some Option.map_none Option.isSome_some Option.isSome_none
attribute [local go_sem] yP zb zA5 yW qw
noncomputable def mTT:zX:=qk (fun q:(zF×Int×Int)×Int×Int=>[poT q.1.1.n q.1.1.s q.1.1.hn q.1.1.h,pT q.1.2.1 q.1.2.2,iT q.2.1,iT q.2.2]) (fun q=>q.1.1.n<=1000000/\q.1.1.hn<=1000000) (fun q=>[toR (zHP q.1.1 q.1.2.1 q.1.2.2 q.2.1 q.2.2)])
theorem zc3(p:zF)(xs xb aA:Int)(b:Int):mTT [poT p.n p.s p.hn p.h,pT xs xb,iT aA,iT b]=some (p.n<=1000000/\p.hn<=1000000,[toR (zHP p xs xb aA b)]):=zO (fun l=>((zEu (nth l 0 0) (nth l 0 1),qM (nth l 1 0),qM (nth l 1 1)),qM (nth l 2 0),qM (nth l 3 0))) (fun _=>rfl) ((p,xs,xb),aA,b)
theorem zRL:zy Tryz.prog 172 mTT:=by
 refine zQ qA (GOk.cons zG1 (zG Tryz.func73 rfl rfl) (GOk.cons zGo (zG Tryz.func75 rfl rfl) (GOk.cons zM7 (zG Tryz.func185 rfl rfl) (GOk.cons zJ3 (zG Tryz.func186 rfl rfl) (GOk.cons zM8 (zG Tryz.func187 rfl rfl) (GOk.cons zJB (zG Tryz.func188 rfl rfl) (GOk.cons zVp (zG Tryz.func191 rfl rfl) (GOk.cons zT4 (zG Tryz.func189 rfl rfl) (GOk.cons zEI (zG Tryz.func74 rfl rfl) (GOk.ptrK zcd (zG Tryz.func190 rfl rfl) GOk.nil)))))))))) zz Tryz.func172 rfl Tryz.ntmps172 Tryz.results172 22 ?_;rintro⟨⟨p,xs,xb⟩,bA,b⟩ ⟨hn,hm⟩;replace hn:p.n<=1000000:=hn;replace hm:p.hn<=1000000:=hm;refine⟨by simp,?_⟩;by_cases hN:zFL bA;rotate_left
 ·have gA:(0<=bA/\bA<=63)↔False:=⟨hN,False.elim⟩;simp[go_sem,zJ9,zJ6,zG8,gA,hn,hm];refine⟨fun h=>h,fun h=>?_,fun hT hB=>?_⟩
  ·rw[zPs fun e=>h.elim (· e.1) (· e.2)];exact⟨rfl,rfl,rfl,rfl,rfl,rfl⟩
  ·rw[zUf ⟨hT,hB⟩ hN];exact⟨rfl,rfl,rfl,rfl,rfl,rfl⟩
 obtain⟨n,rfl⟩:=Int.eq_ofNat_of_zero_le hN.1;have aA:n<64:=by have:=hN.2;omega
 have e8:((n:Int) % 8).toNat=n % 8:=by omega
 have eA:((n:Int) / 8).toNat=n / 8:=by omega
 simp[go_sem,zJ9,zJ6,zG8,zHp,zSK,zZG,zNK,zSJ,zZC,zC6,hn,hm,zQ5 aA,zWC,e8,eA,zaS,zaU,zaR,zaT,zTx];refine⟨fun h=>h,fun h=>?_,fun hT hB=>⟨fun h=>absurd h (by omega),fun _=>?_⟩⟩
 ·rw[zPs fun e=>h.elim (· e.1) (· e.2)];exact⟨rfl,rfl,rfl,rfl,rfl,rfl⟩
 refine⟨⟨hT,aA⟩,fun g h=>?_,fun hP=>⟨fun i hi=>by have:=zR6 hT.1 i hi;omega,zQk hT (by omega),by omega,by omega,zQv hT,by omega,by omega,fun hL=>?_,fun hL=>?_⟩⟩
 ·rw[zXf ⟨hT,hB⟩ hN ⟨g,h⟩];exact⟨rfl,rfl,rfl,rfl,rfl,rfl⟩
 ·rw[zS6 ⟨hT,hB⟩ hN fun e=>hP e.1 e.2,Int.toNat_natCast];refine⟨by omega,by omega,?_⟩;simp only[zbl,zbm];by_cases hx:∃i,zBf p.n p.s i
  ·obtain⟨i,hi⟩:=hx;have t1:tk1 p ⟨b,8,zBo p xs xb n 1 0,zBk p xs xb n 1 0,⟨#[]⟩⟩=(zBt p i (zBz (zBo p xs xb n 1 0) (zBk p xs xb n 1 0) b),(i:Int),b,true):=zE8 hi;have fA:zDp p (zBz (zBo p xs xb n 1 0) (zBk p xs xb n 1 0) b):=zFV hT aA (by omega) hB (fun s t h=>h) (Or.inl ⟨rfl,rfl⟩);have hl:=zeC hT aA hB hL hi;have hR:zg (zBt p i (zBz (zBo p xs xb n 1 0) (zBk p xs xb n 1 0) b)):=zK3 hT.1 hi fA;have hF:zDp (zBt p i (zBz (zBo p xs xb n 1 0) (zBk p xs xb n 1 0) b)) (zBz (zBo p xs xb n 0 (i:Int)) (zBk p xs xb n 0 b) b):=zFV hT aA (by omega) hB (fun s t h=>zFe hi.2.1 h) (Or.inr ⟨zJH hi hB.1.1,Int.le_refl _⟩);simp only[t1];refine⟨fun hA=>?_,fun hA _=>⟨fun h=>by simp at h,fun _=>?_⟩⟩
   ·replace hA:¬zEq (zBo p xs xb n 0 (i:Int)) (zBk p xs xb n 0 b):=hA.resolve_right (by simp);refine⟨hn,fun h=>?_,fun _ h=>?_⟩
    ·rw[zPt hl hA hR hF fun j hj hf=>?_]
     ·exact⟨rfl,rfl,rfl,rfl,rfl,rfl⟩
     ·obtain⟨j',cA⟩:=zGN (f:=(zBt p i (zBz (zBo p xs xb n 1 0) (zBk p xs xb n 1 0) b)).s) hj hf;rw[show tk1 _ _=_ from zE8 cA]at h;simp at h
    ·by_cases hy:∃j,zBf p.n (zBt p i (zBz (zBo p xs xb n 1 0) (zBk p xs xb n 1 0) b)).s j
     ·obtain⟨j,hj⟩:=hy;have t2:tk1 (zBt p i (zBz (zBo p xs xb n 1 0) (zBk p xs xb n 1 0) b)) ⟨b,8,zBo p xs xb n 0 (i:Int),zBk p xs xb n 0 b,⟨#[]⟩⟩=(zBt (zBt p i (zBz (zBo p xs xb n 1 0) (zBk p xs xb n 1 0) b)) j (zBz (zBo p xs xb n 0 (i:Int)) (zBk p xs xb n 0 b) b),(j:Int),b,true):=zE8 hj;simp only[t2];rw[zS7 hl hA hR hF hj];exact⟨by kernel_rfl,⟨TrE.refl _,zW⟩,⟨TrE.refl _,zm⟩,rfl,rfl,⟨TrE.refl _,zC1⟩,rfl⟩
     ·rw[zQ6 (p:=zBt p i (zBz (zBo p xs xb n 1 0) (zBk p xs xb n 1 0) b)) fun j hj hf=>hy (zGN hj hf)]at h;simp at h
   ·rw[zS5 hl hA];exact⟨by kernel_rfl,⟨TrE.refl _,zW⟩,⟨TrE.refl _,zm⟩,rfl,rfl,⟨TrE.refl _,zC1⟩,rfl⟩
  ·have dA:∀j,j<p.n->¬zAO (p.s j):=fun j hj hf=>hx (zGN hj hf)
   simp only[zQ6 dA];rw[zYn hT aA hB hL dA];exact⟨fun _=>⟨hn,fun _=>⟨rfl,rfl,rfl,rfl,rfl,rfl⟩,fun h=>by simp at h⟩,fun _ h=>by simp at h⟩
 ·rw[zS6 ⟨hT,hB⟩ hN fun e=>hP e.1 e.2,Int.toNat_natCast];have hl:=zeB (xs:=xs) (xb:=xb) (b:=b) hL;have hF:zDp p (zBz (zBo p xs xb n 0 0) (zBk p xs xb n 0 0) b):=zFV hT aA (by omega) hB (fun s t h=>h) (Or.inl ⟨rfl,rfl⟩);refine⟨fun hA=>⟨fun h=>?_,fun h=>?_⟩,fun hA=>?_⟩
  ·rw[zPt hl hA hT.1 hF fun j hj hf=>?_]
   ·exact⟨rfl,rfl,rfl,rfl,rfl,rfl⟩
   ·obtain⟨j',cA⟩:=zGN hj hf;rw[zE8 cA]at h;simp at h
  ·by_cases hy:∃j,zBf p.n p.s j
   ·obtain⟨j,hj⟩:=hy;have t2:tk1 p ⟨b,8,zBo p xs xb n 0 0,zBk p xs xb n 0 0,⟨#[]⟩⟩=(zBt p j (zBz (zBo p xs xb n 0 0) (zBk p xs xb n 0 0) b),(j:Int),b,true):=zE8 hj;simp only[t2];rw[zS7 hl hA hT.1 hF hj];exact⟨by kernel_rfl,⟨TrE.refl _,zW⟩,⟨TrE.refl _,zm⟩,rfl,rfl,⟨TrE.refl _,zC1⟩,rfl⟩
   ·rw[zQ6 fun j hj hf=>hy (zGN hj hf)]at h;simp at h
  ·rw[zS5 hl hA];exact⟨by kernel_rfl,⟨TrE.refl _,zW⟩,⟨TrE.refl _,zm⟩,rfl,rfl,⟨TrE.refl _,zC1⟩,rfl⟩
open Classical in
noncomputable def zDx(p:zF)(m:Nat):zF:={n:=p.n,s:=fun i=>if Has m p.h (i:Int)then zFh else p.s i,hn:=p.hn,h:=p.h}
noncomputable def zKN(p:zF):zF:={n:=p.n,s:=(zDx p p.hn).s,hn:=0,h:=p.h}
open Classical in
noncomputable def zLf(p:zF):zF:=if zg p/\zg (zKN p)then zKN p else p
theorem zKj{p:zF}{m i:Nat}(h:Has m p.h (i:Int)):(zDx p m).s i=zFh:=if_pos h
theorem zKi{p:zF}{m i:Nat}(h:¬Has m p.h (i:Int)):(zDx p m).s i=p.s i:=if_neg h
theorem zTj(p:zF):zDx p 0=p:=by
 have e:(zDx p 0).s=p.s:=funext fun i=>zKi (fun ⟨j,hj,_⟩=>absurd hj (Nat.not_lt_zero _))
 show zF.mk p.n (zDx p 0).s p.hn p.h=p;rw[e]
theorem zTi{p:zF}{k m:Nat}(hk:p.h k=(m:Int)):zDx p (k+1)=zBt (zDx p k) m zFh:=by
 have e:(zDx p (k+1)).s=(zBt (zDx p k) m zFh).s:=funext fun i=>by
  show _=if i=m then zFh else(zDx p k).s i
  by_cases h1:i=m
  ·rw[if_pos h1,zKj ⟨k,by omega,by rw[hk,h1]⟩]
  ·rw[if_neg h1];by_cases h2:Has k p.h (i:Int)
   ·rw[zKj h2,zKj (by obtain⟨j,hj,e⟩:=h2;exact⟨j,by omega,e⟩)]
   ·rw[zKi h2,zKi (fun ⟨j,hj,e⟩=>h2 ⟨j,by
     by_cases e2:j=k
     ·subst e2;rw[hk]at e;omega
     ·omega,e⟩)]
 show zF.mk p.n (zDx p (k+1)).s p.hn p.h=zF.mk p.n (zBt (zDx p k) m zFh).s p.hn p.h;rw[e]
theorem zS2{p:zF}(h:zg p)(h':zg (zKN p)):zLf p=zKN p:=if_pos ⟨h,h'⟩
theorem zQ4{p:zF}(h:¬(zg p/\zg (zKN p))):zLf p=p:=if_neg h
set_option linter.unusedSimpArgs false
set_option maxRecDepth 20000
set_option maxHeartbeats 1600000
theorem zbV{P:Program}{f:Nat}{a b:zX}(ha:zy P f a)(hb:zy P f b):zy P f (orSp a b):=by
 intro w al c rs aA hc;unfold orSp at aA;split at aA
 ·rename_i r hr
  cases aA;exact ha w al c rs hr hc
 ·exact hb w al c rs aA hc
noncomputable def zVQ:zX:=qk (fun q:Nat×(Nat->zN)=>[(true,[.s .b 3 q.1 (zk .b q.2),.v n0])]) (fun q=>q.1<=1000000/\(0:Nat)<=1000000) (fun q=>bR (zg {n:=q.1,s:=q.2,hn:=0,h:=fun _=>0}))
noncomputable def zQf:zX:=orSp zUB zVQ
theorem zXM:zy Tryz.prog 55 zVQ:=zEz.upk (κ:=Nat) fun q=>⟨_,zII {n:=q.1,s:=q.2,hn:=0,h:=fun _=>0},.cons ⟨rfl,.cons (TrE.refl _) (.cons ⟨rfl,rfl⟩ .nil)⟩ .nil⟩
theorem zXN:zy Tryz.prog 55 zQf:=zbV zEz zXM
theorem zUC(p:zF):zQf [poT p.n p.s p.hn p.h]=some (p.n<=1000000/\p.hn<=1000000,bR (zg p)):=zZi (zII p)
theorem zSM(n:Nat)(s:Nat->zN):zQf [(true,[.s .b 3 n (zk .b s),.v n0])]=some (n<=1000000/\(0:Nat)<=1000000,bR (zg {n:=n,s:=s,hn:=0,h:=fun _=>0})):=by
 refine zZk (zPc fun x h=>by simp at h) (zO (fun l=>(zF8 (nth l 0 0),fun i=>zO3 (zCh (nth l 0 0) i 0) (zCh (nth l 0 0) i 1) (zCh (nth l 0 0) i 2))) (fun _=>rfl) (n,s))
theorem zUR{p:zF}{h:Nat->Int}:zg {n:=p.n,s:=p.s,hn:=0,h:=h}↔zg {n:=p.n,s:=p.s,hn:=0,h:=p.h}:=
 ⟨fun x=>⟨x.1,x.2.1,fun i hi=>absurd hi (Nat.not_lt_zero _)⟩,fun x=>⟨x.1,x.2.1,fun i hi=>absurd hi (Nat.not_lt_zero _)⟩⟩
theorem zUb{fl:Fl}(p:zF)(k:Nat):TrE (.s fl 3 p.n (yN (zk .z p.s) k 0 [.v (.int .i64 0),.v n0,.v (.string ⟨#[]⟩)])) (.s fl 3 p.n (zk .z (zBt p k zFh).s)):=by
 refine⟨.inl rfl,rfl,rfl,fun i j hi hj=>?_⟩;by_cases h:i=k
 ·subst h
  match j,hj with
  | 0,_=>exact TrE.of_eq (by simp[yN,zk,zBt,zFh])
  | 1,_=>simp[yN,zk,zBt,zFh,TrE]
  | 2,_=>exact TrE.of_eq (by simp[yN,zk,zBt,zFh])
 ·match j,hj with
  | 0,_=>exact TrE.of_eq (by simp[yN,zk,zBt,h])
  | 1,_=>exact TrE.of_eq (by simp[yN,zk,zBt,h])
  | 2,_=>exact TrE.of_eq (by simp[yN,zk,zBt,h])
attribute [local go_sem] qg List.map_cons List.map_nil Tr.cv yv qT yF yD yu yr yq yC zBD zBF zBE zBA zBC zBB zCc zCe zCd qY zt qZ zu qR qQ qf zAL zp zq yL qW tmpsOf zAy yK qV zA9 yz yx yw zAA yy stpP opds opd opdC kap zAS qS zo coreU bin zAl zCO get put dlO fgt zBP zBI zBM zBN tyT yp yo Op.operands Call.operands evLoad evLen evStore evAlloc zAn and_true true_and List.append_nil List.nil_append List.cons_append Ret resCv zCB yY cellM zBl zCI qh StW StR hpT hpO hpV hpA hpL hpC sg nin zCT bdO tmW obW AvE CsE CvE Av.tup Av.ids Cv.ids inD ObE Ob.ids TrE.refl qU yH yI qb qd qe zr zf zd zAC zBe zCH zBG evCall argL argOf qq outOb obO yU qK cvO tot Tr.own rid partsOf fillC zU zBj frz frz1 evBuildSlice zc trs Cv.tr evSlice Option.toArray_none Option.toArray_some evMakeSlice evAppend dstOf srcOf zA7 zBO zBL zBJ zBK ikT yB yA qz qy RetP RetN zBs qP evLd evSt evStoreH zAe evAppendM evAppendT tlOf mvOf rowE shp evTake oOf evC evCallP evCallN evCallO unlast zAX zA6 zAZ argsF zCS qu pmC varT vT evField evConv dB0 Option.bind_some Option.bind_none Option.map_some Option.map_none Option.isSome_some Option.isSome_none
attribute [local go_sem] yP zb zA5 yW qw
noncomputable def zcX:zX:=qk (fun p:zF=>[poT p.n p.s p.hn p.h]) (fun p=>p.n<=1000000/\p.hn<=1000000/\∀i,i<p.n->(p.s i).kn<=1000000) (fun p=>[poO (zLf p)])
theorem zZE(p:zF):zcX [poT p.n p.s p.hn p.h]=some (p.n<=1000000/\p.hn<=1000000/\∀i,i<p.n->(p.s i).kn<=1000000,[poO (zLf p)]):=zO (fun l=>zEu (nth l 0 0) (nth l 0 1)) (fun _=>rfl) p
theorem zRH:zy Tryz.prog 135 zcX:=by
 refine zQ qA (GOk.cons zG1 (zG Tryz.func73 rfl rfl) (GOk.cons zXN (zG Tryz.func55 rfl rfl) GOk.nil)) zz Tryz.func135 rfl Tryz.ntmps135 Tryz.results135 5 ?_;rintro p ⟨hn,hm,hk⟩;replace hn:p.n<=1000000:=hn;replace hm:p.hn<=1000000:=hm;refine⟨by simp,?_⟩;simp[go_sem,zHp,zUC,hn,hm];refine⟨hk,fun hR=>?_,fun hR=>?_⟩
 ·rw[zQ4 fun h=>hR h.1];exact⟨⟨TrE.refl _,zW⟩,TrE.refl _,zm⟩
 refine yE (fun k:Nat=>⟨[(4,true,.i k),(3,true,.m false [.p 3 0]),(2,true,.m false [.p 2 0]),(1,true,.m false [.p 1 0])],[(3,.var [.h 7,.h 8]),(7,.row 3 p.n (zk .z (zDx p k).s)),(8,.row 1 p.hn (yT p.h)),(2,.var [.v n0,.v n0]),(1,.var [.s .b 3 p.n (zk .b p.s),.s .b 1 p.hn (yT p.h)])]⟩) (fun k=>p.hn - k) (fun k=>k<=p.hn) 0 ?_ (by simp) ?_
 ·rw[zTj];simp[go_sem]
 rintro k aA;simp[go_sem,qB (show k<=1000000000 by omega),zSM,zHp,hn,hm];refine⟨fun hl=>?_,fun hl=>?_⟩
 ·obtain⟨h0,h1,-,-⟩:=hR.2.2 k hl;refine⟨hl,⟨h0,h1⟩,by omega,by kernel_rfl,k+1,by omega,by omega,by omega,?_⟩;rw[zTi (m:=(p.h k).toNat) (by omega)];exact zUb (zDx p k) _
 ·cases (show k=p.hn by omega);have hw:zg {n:=p.n,s:=(zDx p p.hn).s,hn:=0,h:=fun x=>0}↔zg (zKN p):=zUR (p:=zDx p p.hn);rw[hw];refine⟨fun h=>?_,fun h=>?_⟩
  ·rw[zQ4 fun e=>h e.2];exact⟨hk,⟨TrE.refl _,zW⟩,TrE.refl _,zm⟩
  ·rw[zS2 hR h];exact⟨⟨TrE.refl _,zW⟩,rfl⟩
structure qi where
 name:ByteArray
 origin:Int
 zeL:Int
 rs:Int
 rb:Int
 dn:Nat
 ds:Nat->Int
 db:Nat->Int
structure zl where
 id:Int
 name:ByteArray
 set:ByteArray
 zeL:Int
 time:Int
 rs:Int
 rb:Int
 dn:Nat
 ds:Nat->Int
 db:Nat->Int
structure zB where
 pool:zF
 time:Int
 next:Int
 sn:Nat
 zeK:Nat->qi
 pn:Nat
 zeJ:Nat->zl
structure zDr (w:World) (b o lo hi:Nat) (vd:Value) (s:qi):Prop where
 c0:w.cell? ⟨b,o,none⟩=some (.string s.name)
 c1:w.cell? ⟨b,o+1,none⟩=some (.int .i64 s.origin)
 c2:w.cell? ⟨b,o+2,none⟩=some (.int .i64 s.zeL)
 c3:w.cell? ⟨b,o+3,none⟩=some (.int .i64 s.rs)
 c4:w.cell? ⟨b,o+4,none⟩=some (.int .i64 s.rb)
 c5:w.cell? ⟨b,o+5,none⟩=some vd
 dead:qn w lo hi vd s.dn s.ds s.db
 zeP:s.name.size<=maxLen
theorem zDr.zeF{w w':World}{b o lo hi:Nat}{vd:Value}{s:qi}(h:zDr w b o lo hi vd s)(t:Below w.heap.size w w'):zDr w' b o lo hi vd s:=
 ⟨(t.cell (zH h.c0)).trans h.c0,(t.cell (zH h.c1)).trans h.c1,(t.cell (zH h.c2)).trans h.c2,(t.cell (zH h.c3)).trans h.c3,(t.cell (zH h.c4)).trans h.c4,(t.cell (zH h.c5)).trans h.c5,h.dead.zeF t,h.zeP⟩
structure zDD (w:World) (b o lo hi:Nat) (vd:Value) (s:zl):Prop where
 c0:w.cell? ⟨b,o,none⟩=some (.int .i64 s.id)
 c1:w.cell? ⟨b,o+1,none⟩=some (.string s.name)
 c2:w.cell? ⟨b,o+2,none⟩=some (.string s.set)
 c3:w.cell? ⟨b,o+3,none⟩=some (.int .i64 s.zeL)
 c4:w.cell? ⟨b,o+4,none⟩=some (.int .i64 s.time)
 c5:w.cell? ⟨b,o+5,none⟩=some (.int .i64 s.rs)
 c6:w.cell? ⟨b,o+6,none⟩=some (.int .i64 s.rb)
 c7:w.cell? ⟨b,o+7,none⟩=some vd
 dead:qn w lo hi vd s.dn s.ds s.db
 zeP:s.name.size<=maxLen/\s.set.size<=maxLen
theorem zDD.zeF{w w':World}{b o lo hi:Nat}{vd:Value}{s:zl}(h:zDD w b o lo hi vd s)(t:Below w.heap.size w w'):zDD w' b o lo hi vd s:=
 ⟨(t.cell (zH h.c0)).trans h.c0,(t.cell (zH h.c1)).trans h.c1,(t.cell (zH h.c2)).trans h.c2,(t.cell (zH h.c3)).trans h.c3,(t.cell (zH h.c4)).trans h.c4,(t.cell (zH h.c5)).trans h.c5,(t.cell (zH h.c6)).trans h.c6,(t.cell (zH h.c7)).trans h.c7,h.dead.zeF t,h.zeP⟩
def zCo(w:World)(lo hi:Nat)(v:Value)(n:Nat)(f:Nat->qi):Prop:=
 n<=maxLen/\∃a cap,v = .slice a n cap/\n<=cap/\(0<n->∃b off,a=some ⟨b,off,none⟩/\lo<=b/\b<hi/\∀i,i<n->∃vd,zDr w b (off+i*6) lo hi vd (f i))
def zB1(w:World)(lo hi:Nat)(v:Value)(n:Nat)(f:Nat->zl):Prop:=
 n<=maxLen/\∃a cap,v = .slice a n cap/\n<=cap/\(0<n->∃b off,a=some ⟨b,off,none⟩/\lo<=b/\b<hi/\∀i,i<n->∃vd,zDD w b (off+i*8) lo hi vd (f i))
theorem zCo.zeF{w w':World}{lo hi:Nat}{v:Value}{n:Nat}{f:Nat->qi}(h:zCo w lo hi v n f)(t:Below w.heap.size w w'):zCo w' lo hi v n f:=by
 obtain⟨h0,a,cap,hv,aA,hc⟩:=h;refine⟨h0,a,cap,hv,aA,fun hn=>?_⟩;obtain⟨b,off,ha,h1,h2,h3⟩:=hc hn;refine⟨b,off,ha,h1,h2,fun i hi=>?_⟩;obtain⟨vd,hs⟩:=h3 i hi;exact⟨vd,hs.zeF t⟩
theorem zB1.zeF{w w':World}{lo hi:Nat}{v:Value}{n:Nat}{f:Nat->zl}(h:zB1 w lo hi v n f)(t:Below w.heap.size w w'):zB1 w' lo hi v n f:=by
 obtain⟨h0,a,cap,hv,aA,hc⟩:=h;refine⟨h0,a,cap,hv,aA,fun hn=>?_⟩;obtain⟨b,off,ha,h1,h2,h3⟩:=hc hn;refine⟨b,off,ha,h1,h2,fun i hi=>?_⟩;obtain⟨vd,hs⟩:=h3 i hi;exact⟨vd,hs.zeF t⟩
theorem zCo.cells{w:World}{lo hi:Nat}{a:Option Addr}{n c:Nat}{f:Nat->qi}(h:zCo w lo hi (.slice a n c) n f){i:Nat}(aA:i<n):∃b off vd,a=some ⟨b,off,none⟩/\zDr w b (off+i*6) lo hi vd (f i):=by
 obtain⟨h0,a2,cap,hv,bA,hx⟩:=h;simp only[Value.slice.injEq,true_and]at hv;obtain⟨rfl,rfl⟩:=hv;obtain⟨b,off,ha,h1,h2,h3⟩:=hx (by omega);obtain⟨vd,hs⟩:=h3 i aA;exact⟨b,off,vd,ha,hs⟩
theorem zB1.cells{w:World}{lo hi:Nat}{a:Option Addr}{n c:Nat}{f:Nat->zl}(h:zB1 w lo hi (.slice a n c) n f){i:Nat}(aA:i<n):∃b off vd,a=some ⟨b,off,none⟩/\zDD w b (off+i*8) lo hi vd (f i):=by
 obtain⟨h0,a2,cap,hv,bA,hx⟩:=h;simp only[Value.slice.injEq,true_and]at hv;obtain⟨rfl,rfl⟩:=hv;obtain⟨b,off,ha,h1,h2,h3⟩:=hx (by omega);obtain⟨vd,hs⟩:=h3 i aA;exact⟨b,off,vd,ha,hs⟩
structure yO (w:World) (lo hi:Nat) (v0 v1 v2 v3:Value) (W:zB):Prop where
 pool:zCG w lo hi v0 v1 W.pool
 zeK:zCo w lo hi v2 W.sn W.zeK
 zeJ:zB1 w lo hi v3 W.pn W.zeJ
theorem yO.zeF{w w':World}{lo hi:Nat}{v0 v1 v2 v3:Value}{W:zB}(h:yO w lo hi v0 v1 v2 v3 W)(t:Below w.heap.size w w'):yO w' lo hi v0 v1 v2 v3 W:=⟨h.pool.zeF t,h.zeK.zeF t,h.zeJ.zeF t⟩
abbrev zA8(v0 v1 v2 v3:Value)(W:zB):Value:=.agg #[v0,v1,.int .i64 W.time,.int .i64 W.next,v2,v3]
def yV(W:zB)(id:Int)(k:Nat):Prop:=k<W.pn/\(W.zeJ k).id=id/\∀j,j<k->(W.zeJ j).id≠id
def zDK(W:zB)(name:ByteArray)(k:Nat):Prop:=k<W.sn/\(W.zeK k).name=name/\∀j,j<k->(W.zeK j).name≠name
theorem yV.uniq{W:zB}{id:Int}{i j:Nat}(h:yV W id i)(h':yV W id j):i=j:=by
 rcases Nat.lt_trichotomy i j with e | e | e
 ·exact absurd h.2.1 (h'.2.2 i e)
 ·exact e
 ·exact absurd h'.2.1 (h.2.2 j e)
theorem zDK.uniq{W:zB}{name:ByteArray}{i j:Nat}(h:zDK W name i)(h':zDK W name j):i=j:=by
 rcases Nat.lt_trichotomy i j with e | e | e
 ·exact absurd h.2.1 (h'.2.2 i e)
 ·exact e
 ·exact absurd h'.2.1 (h.2.2 j e)
theorem zC{P:Prop}(h:P):Hid P:=h
def zPy(n:Nat)(P:Nat->Prop)(r:Int):Prop:=(∃k:Nat,k<n/\P k/\(∀j,j<k->¬P j)/\r=k)\/((∀j,j<n->¬P j)/\r = -1)
open Go.Maps
def zDd(t:Int):Prop:=0<=t/\t<=1000000
def zHK(s b:Int):Prop:=0<=s/\s<=199/\1<=b/\b<=1000000
def zTD(n:Nat)(f:Nat->Int):Prop:=∀i,i<n->∀k,k<i->f k≠f i
def zA4(n:Nat)(f g:Nat->Int):Prop:=n<=200/\(∀i,i<n->zHK (f i) (g i))/\zTD n f
def PIn(n:Nat)(f g:Nat->Int)(x y:Int):Prop:=∃j,j<n/\f j=x/\g j=y
def zGJ(n:Nat)(f g:Nat->Int)(m:Nat)(f' g':Nat->Int):Prop:=zA4 n f g/\zA4 m f' g'/\n=m/\∀i,i<n->PIn m f' g' (f i) (g i)
theorem zTD.inj{n:Nat}{f:Nat->Int}(h:zTD n f){i k:Nat}(hi:i<n)(hk:k<n)(e:f i=f k):i=k:=by
 rcases Nat.lt_trichotomy i k with h1 | h1 | h1
 ·exact absurd e (h k hk i h1)
 ·exact h1
 ·exact absurd e.symm (h i hi k h1)
theorem zVx:∀(n m:Nat) (h:Nat->Nat),(∀i,i<n->h i<m)->(∀i k,i<n->k<n->h i=h k->i=k)->n<=m
 | 0,_,_,_,_=>Nat.zero_le _
 | n+1,m,h,h1,h2=>by
  have hm:=h1 n (Nat.lt_succ_self n);have:=zVx n (m - 1) (fun i=>if h i<h n then h i else h i - 1) (fun i hi=>by
   have:=h1 i (by omega);have:h i≠h n:=fun e=>by have:=h2 i n (by omega) (by omega) e;omega
   show(if h i<h n then h i else h i - 1)<m - 1;split<;>omega) (fun i k hi hk e=>by
   have a1:h i≠h n:=fun e=>by have:=h2 i n (by omega) (by omega) e;omega
   have a2:h k≠h n:=fun e=>by have:=h2 k n (by omega) (by omega) e;omega
   have e':(if h i<h n then h i else h i - 1)=(if h k<h n then h k else h k - 1):=e;refine h2 i k (by omega) (by omega) ?_;split at e'<;>split at e'<;>omega)
  omega
theorem zXR{n:Nat}{f g f' g':Nat->Int}(h1:zA4 n f g)(h2:zA4 n f' g')(h:∀i,i<n->PIn n f' g' (f i) (g i)):∀j,j<n->PIn n f g (f' j) (g' j):=by
 intro j hj;by_cases hx:PIn n f g (f' j) (g' j)
 ·exact hx
 ·exfalso;have:=zVx n (n - 1) (fun i=>if hi:i<n then(if (h i hi).choose<j then(h i hi).choose else(h i hi).choose - 1)else 0) (fun i hi=>by
   have hs:=(h i hi).choose_spec;have bA:(h i hi).choose≠j:=fun e=>hx ⟨i,hi,by rw[<-hs.2.1,e],by rw[<-hs.2.2,e]⟩
   simp only[hi,dif_pos];split<;>omega) (fun i k hi hk e=>by
   have hs:=(h i hi).choose_spec;have aA:=(h k hk).choose_spec;have bA:(h i hi).choose≠j:=fun e=>hx ⟨i,hi,by rw[<-hs.2.1,e],by rw[<-hs.2.2,e]⟩
   have cA:(h k hk).choose≠j:=fun e=>hx ⟨k,hk,by rw[<-aA.2.1,e],by rw[<-aA.2.2,e]⟩
   simp only[hi,hk,dif_pos]at e;have e2:(h i hi).choose=(h k hk).choose:=(by split at e<;>split at e<;>omega);refine h1.2.2.inj hi hk ?_;rw[<-hs.2.1,<-aA.2.1,e2])
  omega
theorem zGJ.symm{n m:Nat}{f g f' g':Nat->Int}(h:zGJ n f g m f' g'):zGJ m f' g' n f g:=by
 obtain⟨h1,h2,rfl,h3⟩:=h;exact⟨h2,h1,rfl,zXR h1 h2 h3⟩
def zEg(x:Int):Lit:=.int .i64 x
theorem zLz{x y:Int}(h:x≠y):zEg x≠zEg y:=fun e=>h (by unfold zEg at e;injection e)
theorem zM2(x:Int):WideAt.IsKeyLit (zEg x):=trivial
def zGu(x:Int):DataW Unit:=.lit (.int .i64 x)
theorem zJo{x y:Int}(h:zGu x=zGu y):x=y:=by unfold zGu at h;injection h with h;injection h
def seenD(f g:Nat->Int):Nat->DataW Unit
 | 0=>.map []
 | k+1=>(seenD f g k).put (zEg (f k)) (zGu (g k))
theorem zGd(f g:Nat->Int):∀k,Tidy (seenD f g k)
 | 0=>tidy_empty
 | k+1=>(zGd f g k).put (zM2 _) _
theorem zH0(f g:Nat->Int)(x:Int):∀k,Maps.has (seenD f g k) (zEg x)=true↔∃i,i<k/\f i=x
 | 0=>by
  constructor
  ·intro h;exact absurd h (by simp[seenD,Maps.has])
  ·rintro⟨i,hi,_⟩;omega
 | k+1=>by
  by_cases hx:f k=x
  ·subst hx;exact⟨fun _=>⟨k,by omega,rfl⟩,fun _=>has_put_same (zGd f g k).isMap (zM2 _) _⟩
  ·rw[show Maps.has (seenD f g (k+1)) (zEg x)=Maps.has (seenD f g k) (zEg x)from has_put_other (zLz (Ne.symm hx)) _,zH0 f g x k];constructor
   ·rintro⟨i,hi,e⟩;exact⟨i,by omega,e⟩
   ·rintro⟨i,hi,e⟩;by_cases h:i=k
    ·subst h;exact absurd e hx
    ·exact⟨i,by omega,e⟩
theorem zO4{k:Nat}{f:Nat->Int}:zTD (k+1) f↔zTD k f/\∀i,i<k->f i≠f k:=by
 constructor
 ·exact fun h=>⟨fun i hi=>h i (by omega),fun i hi=>h k (by omega) i hi⟩
 ·rintro⟨h1,h2⟩ i hi j hj;by_cases e:i=k
  ·subst e;exact h2 j hj
  ·exact h1 i (by omega) j hj
theorem zK7(f g:Nat->Int):∀k,Maps.size (seenD f g k)<=k/\(Maps.size (seenD f g k)=k↔zTD k f)
 | 0=>⟨Nat.le_refl _,fun _ i hi=>by omega,fun _=>rfl⟩
 | k+1=>by
  obtain⟨h1,h2⟩:=zK7 f g k;have e:Maps.size (seenD f g (k+1))=if Maps.has (seenD f g k) (zEg (f k))then Maps.size (seenD f g k)else Maps.size (seenD f g k)+1:=size_put (zGd f g k) _
  by_cases hh:Maps.has (seenD f g k) (zEg (f k))=true
  ·rw[if_pos hh]at e;rw[e,zO4];refine⟨by omega,fun h=>by omega,fun h=>?_⟩;obtain⟨i,hi,he⟩:=(zH0 f g (f k) k).1 hh;exact absurd he (h.2 i hi)
  ·rw[if_neg hh]at e;rw[e,zO4,<-h2];refine⟨by omega,fun h=>⟨by omega,fun i hi he=>hh ((zH0 f g (f k) k).2 ⟨i,hi,he⟩)⟩,fun h=>by omega⟩
theorem zV5{n:Nat}{f:Nat->Int}(g:Nat->Int)(hd:zTD n f)(z:DataW Unit):∀k,k<=n->∀i,i<k->(seenD f g k).atKey (zEg (f i)) z=zGu (g i)
 | 0,_,i,hi=>absurd hi (Nat.not_lt_zero _)
 | k+1,hk,i,hi=>by
  by_cases e:i=k
  ·subst e;exact atKey_put_same (zGd f g i).isMap (zM2 _) _ _
  ·exact(atKey_put_other (zLz (fun h=>e (hd.inj (by omega) (by omega) h))) _ _).trans (zV5 g hd z k (by omega) i (by omega))
structure zGI (n:Nat) (f g f':Nat->Int) (k:Nat) (D:DataW Unit):Prop where
 tidy:Tidy D
 size:Maps.size D+k=n
 at':∀x,(∀j,j<k->f' j≠x)->(∀i,i<n->f i=x->D.atKey (zEg x) (zGu 0)=zGu (g i))/\((∀i,i<n->f i≠x)->D.atKey (zEg x) (zGu 0)=zGu 0)
 has:∀x,Maps.has D (zEg x)=true↔(∃i,i<n/\f i=x)/\∀j,j<k->f' j≠x
theorem zGI.start{n:Nat}{f g:Nat->Int}(h:zA4 n f g)(f':Nat->Int):zGI n f g f' 0 (seenD f g n) where
 tidy:=zGd f g n
 size:=by rw[(zK7 f g n).2.2 h.2.2];rfl
 at':=fun x _=>⟨fun i hi e=>by subst e;exact zV5 g h.2.2 _ n (Nat.le_refl _) i hi,fun aA=>by
  refine atKey_of_not_has ?_ _;rw[Bool.eq_false_iff];intro hh;obtain⟨i,hi,e⟩:=(zH0 f g x n).1 hh;exact aA i hi e⟩
 has:=fun x=>by
  rw[zH0];exact⟨fun h=>⟨h,fun j hj=>absurd hj (Nat.not_lt_zero _)⟩,fun h=>h.1⟩
theorem zGI.next{n m:Nat}{f g f' g':Nat->Int}{k:Nat}{D:DataW Unit}(h:zGI n f g f' k D)(h2:zA4 m f' g')(hk:k<m)(e:D.atKey (zEg (f' k)) (zGu 0)=zGu (g' k)):zGI n f g f' (k+1) (D.del (zEg (f' k))):=by
 have bA:Maps.has D (zEg (f' k))=true:=by
  by_cases hh:Maps.has D (zEg (f' k))=true
  ·exact hh
  ·rw[atKey_of_not_has (by simpa using hh)]at e;have:=zJo e;have:=(h2.2.1 k hk).2.2.1;omega
 have hs:=size_del (k:=zEg (f' k)) h.tidy;rw[bA]at hs;refine⟨h.tidy.del _,?_,fun x hx=>?_,fun x=>?_⟩
 ·have:=h.size;have cA:Maps.size (D.del (zEg (f' k)))+1=Maps.size D:=hs;omega
 ·have aA:f' k≠x:=hx k (by omega);rw[atKey_del_other (zLz (Ne.symm aA))];exact h.at' x (fun j hj=>hx j (by omega))
 ·by_cases aA:f' k=x
  ·subst aA;rw[has_del_same];exact⟨fun h=>absurd h (by simp),fun h=>absurd rfl (h.2 k (by omega))⟩
  ·rw[has_del_other (zLz (Ne.symm aA)),h.has x];refine and_congr_right fun _=>⟨fun h j hj=>?_,fun h j hj=>h j (by omega)⟩
   by_cases ej:j=k
   ·subst ej;exact aA
   ·exact h j (by omega)
theorem zGI.no{n m:Nat}{f g f' g':Nat->Int}{k:Nat}{D:DataW Unit}(h:zGI n f g f' k D)(h1:zA4 n f g)(h2:zA4 m f' g')(hk:k<m){c:Int}(e:D.atKey (zEg (f' k)) (zGu 0)=zGu c)(hc:c≠g' k):¬zGJ n f g m f' g':=by
 intro hs;obtain⟨i,hi,e1,e2⟩:=hs.symm.2.2.2 k hk;have:=(h.at' (f' k) (fun j hj=>h2.2.2 k hk j hj)).1 i hi e1;rw[e]at this;exact hc ((zJo this).trans e2)
theorem zGI.end{n m:Nat}{f g f' g':Nat->Int}{D:DataW Unit}(h:zGI n f g f' m D)(h1:zA4 n f g)(h2:zA4 m f' g')(aA:∀j,j<m->PIn n f g (f' j) (g' j)):Maps.size D=0↔zGJ n f g m f' g':=by
 have hs:=h.size;constructor
 ·intro h0;obtain rfl:m=n:=(by omega);exact zGJ.symm ⟨h2,h1,rfl,aA⟩
 ·intro hp;have:=hp.2.2.1;omega
theorem zGI.in{n m:Nat}{f g f' g':Nat->Int}{k:Nat}{D:DataW Unit}(h:zGI n f g f' k D)(h2:zA4 m f' g')(hk:k<m)(e:D.atKey (zEg (f' k)) (zGu 0)=zGu (g' k)):PIn n f g (f' k) (g' k):=by
 by_cases hx:∃i,i<n/\f i=f' k
 ·obtain⟨i,hi,ei⟩:=hx;have:=(h.at' (f' k) (fun j hj=>h2.2.2 k hk j hj)).1 i hi ei;rw[e]at this;exact⟨i,hi,ei,(zJo this).symm⟩
 ·have:=(h.at' (f' k) (fun j hj=>h2.2.2 k hk j hj)).2 (fun i hi e=>hx ⟨i,hi,e⟩);rw[e]at this;have:=zJo this;have:=(h2.2.1 k hk).2.2.1;omega
def ye(f g:Nat->Int)(t:Int):Nat->List (Int×Int)
 | 0=>[]
 | k+1=>if t<g k then ye f g t k ++ [(f k,g k)] else ye f g t k
def zD4(f g:Nat->Int)(t:Int):Nat->List (Int×Int)
 | 0=>[]
 | k+1=>if t<g k then zD4 f g t k else zD4 f g t k ++ [(f k,g k)]
theorem zFJ(f g:Nat->Int)(t:Int):∀k,(ye f g t k).length+(zD4 f g t k).length=k
 | 0=>rfl
 | k+1=>by
  have:=zFJ f g t k;unfold ye zD4;split<;>simp<;>omega
end Go.Proofs.YtjganmlaooofoaaGreatDoor
