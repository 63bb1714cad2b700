/- A part of the proof. -/
import Derived.Test.YtbplmbafodlboaaGreatDoorF13
import Derived.Deep.LoopGhost
import Derived.RegionTactic
import Derived.ChangeAlike
import Derived.BigRegion
import Derived.Maps.OwnSet
set_option linter.unusedVariables false
set_option maxRecDepth 20000
set_option maxHeartbeats 4000000
namespace Go.Proofs.YtbplmbafodlboaaGreatDoor
open Go.RowKit
set_option linter.unusedSimpArgs false
set_option maxRecDepth 20000
set_option maxHeartbeats 1600000
theorem zML{p:zF}(h:zz p):∀i,i<p.n->(p.s i).kn<=8:=fun i hi=>by
 rcases h.2.1 i hi with h1 | h1
 ·have:=h1.2.1;omega
 ·rcases h1.2 with h2 | h2
  ·omega
  ·omega
abbrev toR(t:zD9):Bool×List Tr:=(true,[.s .o 3 t.pool.n (zU .z t.pool.s),.s .o 1 t.pool.hn (qh t.pool.h),.v (.int .i64 t.rs),.v (.int .i64 t.rb),.s .o 2 t.old.length (ptL t.old),.v (.int .i64 t.code)])
abbrev sT(d:ByteArray):Bool×List Tr:=(false,[.v (.string d)])
theorem qA.upE{w:World}{g:Nat->Bs}:∀{l m:List Tr} {cs:List Value},qA TrE l m->qA (Sh w g) l cs->qA (Sh w g) m cs
 | _,_,_,.nil,h=>by cases h;exact .nil
 | _,_,_,.cons e t,h=>by
  cases h with
  | cons y ty=>exact .cons (y.e e) (qA.upE t ty)
theorem zw.up{P:Program}{f:Nat}{m m2:zW}(h:zw P f m)(H:∀al c rs,m2 al=some (c,rs)->∃aA,m aA=some (c,rs)/\qA (fun q q'=>q.1=q'.1/\qA TrE q.2 q'.2) al aA):zw P f m2:=by
 intro w al c rs bA hc g0 ys hg hy;obtain⟨aA,hm,cA⟩:=H al c rs bA;refine h w aA c rs hm hc g0 ys hg ?_;clear bA hm H
 induction cA generalizing ys with
 | nil=>cases hy;exact .nil
 | cons e t ih=>
  cases hy with
  | cons y ty=>
   refine .cons ?_ (ih _ ty)
   rename_i q q' _ _ u _
   obtain⟨q1,q2⟩:=q;obtain⟨r1,r2⟩:=q';obtain⟨e1,e2⟩:=e;cases (show q1=r1 from e1);cases q1
   ·obtain⟨T,hT,hs⟩:=y;cases (show q2 = [T] from hT);cases e2 with
    | cons e2 t2=>cases t2;exact⟨_,rfl,hs.e e2⟩
   ·obtain⟨cs,e,hs⟩:=y;refine⟨cs,e,?_⟩;exact qA.upE e2 hs
theorem zw.upk{P:Program}{f:Nat}{ι κ : Type}{A:ι->List (Bool×List Tr)}{C:ι->Prop}{R:ι->List (Bool×List Tr)}{m:zW}(h:zw P f m)(H:∀x,∃aA,m aA=some (C x,R x)/\qA (fun q q'=>q.1=q'.1/\qA TrE q.2 q'.2) (A x) aA):zw P f (qZ A C R):=h.up fun al c rs e=>by
 unfold qZ at e;split at e
 ·rename_i hx
  cases e;obtain⟨aA,h1,h2⟩:=H hx.choose;rw[hx.choose_spec]at h2;exact⟨aA,h1,h2⟩
 ·cases e
def zY1(a b c d e f:Int):Nat->Nat->Tr:=fun p q=>([Tr.v (.int .i64 a),.v (.int .i64 b),.v (.int .i64 c),.v (.int .i64 d),.v (.int .i64 e),.v (.int .i64 f)]:List Tr)[p*2+q]?.getD (.v (.bool false))
def f3(a b c:Int):Nat->Int
 | 0=>a
 | 1=>b
 | _=>c
theorem qk{fl:Fl}{a b c d e f:Int}:(Tr.s fl 2 3 fun p q=>([Tr.v (.int .i64 a),.v (.int .i64 b),.v (.int .i64 c),.v (.int .i64 d),.v (.int .i64 e),.v (.int .i64 f)]:List Tr)[p*2+q]?.getD (.v (.bool false))).lend = .s .b 2 3 (zY1 a b c d e f):=by
 simp only[Tr.lend];congr 1;funext p q;simp only[zY1];generalize p*2+q=j
 match j with
 | 0 | 1 | 2 | 3 | 4 | 5=>rfl
 | j+6=>rfl
noncomputable def zZ9:zW:=qZ (fun q:(Int×Int×Int)×Int×Int×Int=>[(false,[.s .b 2 3 (zY1 q.1.1 q.2.1 q.1.2.1 q.2.2.1 q.1.2.2 q.2.2.2)])]) (fun q=>(3:Nat)<=1000000) (fun q=>[(false,[.s .o 2 (kidsUp (f3 q.1.1 q.1.2.1 q.1.2.2) (f3 q.2.1 q.2.2.1 q.2.2.2) 3).length (ptL (kidsUp (f3 q.1.1 q.1.2.1 q.1.2.2) (f3 q.2.1 q.2.2.1 q.2.2.2) 3))])])
theorem zQ0(a b c d e f:Int):zZ9 [(false,[.s .b 2 3 (zY1 a b c d e f)])]=some ((3:Nat)<=1000000,[(false,[.s .o 2 (kidsUp (f3 a c e) (f3 b d f) 3).length (ptL (kidsUp (f3 a c e) (f3 b d f) 3))])]):=zO (fun l=>((qg (zCS (nth l 0 0) 0 0),qg (zCS (nth l 0 0) 1 0),qg (zCS (nth l 0 0) 2 0)),qg (zCS (nth l 0 0) 0 1),qg (zCS (nth l 0 0) 1 1),qg (zCS (nth l 0 0) 2 1))) (fun _=>rfl) ((a,c,e),b,d,f)
theorem zUC:zw Tryz.prog 131 zZ9:=zOK.upk (κ:=Nat) fun ⟨⟨a,c,e⟩,b,d,f⟩=>⟨_,zTo 3 (f3 a c e) (f3 b d f),.cons ⟨rfl,.cons (zD2 fun i j hi hj=>by
 match i,j,hi,hj with
 | 0,0,_,_=>rfl
 | 0,1,_,_=>rfl
 | 1,0,_,_=>rfl
 | 1,1,_,_=>rfl
 | 2,0,_,_=>rfl
 | 2,1,_,_=>rfl) .nil⟩ .nil⟩
theorem zYH{p:zF}{xs xb x:Int}{n:Nat}:zJf (zFn p (zJU p xs xb n) (zJT p xs xb n)) (n % 8) x=zBf p xs xb n 1 x:=rfl
theorem zYJ{p:zF}{xs xb x:Int}{n:Nat}:zJf (zFm p (zJU p xs xb n) (zJT p xs xb n)) (n % 8) x=zBZ p xs xb n 1 x:=rfl
theorem zYG{p:zF}{xs xb x:Int}{n:Nat}:zJf (zFn p xs xb) (n / 8) x=zBf p xs xb n 0 x:=rfl
theorem zYI{p:zF}{xs xb x:Int}{n:Nat}:zJf (zFm p xs xb) (n / 8) x=zBZ p xs xb n 0 x:=rfl
attribute [local go_sem] qW List.map_cons List.map_nil Tr.cv yo qG qw qv yn ym yk qu zAv zAx zAw zAs zAu zAt zCK zCM zCL qK zn qL zo qE qD qP yx zk zl yB qJ tmpsOf zAf yA qI zAr yu yq yp yr stpP opds opd opdC kap zAE qF zj coreU bin zAY zB6 get put dlO fgt zA6 zAz zA3 zA4 tyT yj yi Op.operands Call.operands evLoad evLen evStore evAlloc zAZ and_true true_and List.append_nil List.nil_append List.cons_append Ret resCv zBx yP cellM zBT zB3 qX StW StR hpT hpO hpV hpA hpL hpC sg nin zCD bdO tmW obW AvE CsE CvE Av.tup Av.ids Cv.ids inD ObE Ob.ids TrE.refl qH qx qy qM qN qO zm zb za yw zBd zCB zAy evCall argL argOf qj outOb obO yM zy cvO tot Tr.own rid partsOf fillC zT zBS frz frz1 evBuildSlice zc trs Cv.tr evSlice Option.toArray_none Option.toArray_some evMakeSlice evAppend dstOf srcOf zAq zA5 zA2 zA0 zA1 ikT qt qs qq qp RetP RetN zBe qR evLd evSt evStoreH zAP evAppendM evAppendT tlOf mvOf rowE shp evTake oOf evC evCallP evCallN evCallO unlast zAK zAp zAO argsF zCA qn pmC varT vT evField evConv dB0 Option.bind_some Option.bind_none Option.map_some Option.map_none Option.isSome_some Option.isSome_none
attribute [local go_sem] yF zY zAk yN qk
noncomputable def mTW:zW:=qZ (fun q:(zF×Int×Int)×Int×ByteArray×Int=>[poT q.1.1.n q.1.1.s q.1.1.hn q.1.1.h,pT q.1.2.1 q.1.2.2,iT q.2.1,sT q.2.2.1,iT q.2.2.2]) (fun q=>q.1.1.n<=1000000/\q.1.1.hn<=1000000) (fun q=>[toR (zC7 q.1.1 q.1.2.1 q.1.2.2 q.2.1 q.2.2.1 q.2.2.2)])
theorem zau(p:zF)(xs xb aA:Int)(d:ByteArray)(b:Int):mTW [poT p.n p.s p.hn p.h,pT xs xb,iT aA,sT d,iT b]=some (p.n<=1000000/\p.hn<=1000000,[toR (zC7 p xs xb aA d b)]):=zO (fun l=>((zEt (nth l 0 0) (nth l 0 1),qg (nth l 1 0),qg (nth l 1 1)),qg (nth l 2 0),zEA (nth l 3 0),qg (nth l 4 0))) (fun _=>rfl) ((p,xs,xb),aA,d,b)
theorem zO1:zw Tryz.prog 109 mTW:=by
 refine zQ zs (GOk.cons zGP (zE Tryz.func51 rfl rfl) (GOk.cons zIy (zE Tryz.func124 rfl rfl) (GOk.cons zMO (zE Tryz.func125 rfl rfl) (GOk.cons zJJ (zE Tryz.func126 rfl rfl) (GOk.cons zMP (zE Tryz.func127 rfl rfl) (GOk.cons zIY (zE Tryz.func128 rfl rfl) (GOk.cons zUC (zE Tryz.func131 rfl rfl) (GOk.cons zSS (zE Tryz.func132 rfl rfl) (GOk.ptrK zaU (zE Tryz.func130 rfl rfl) GOk.nil))))))))) zr Tryz.func109 rfl Tryz.ntmps109 Tryz.results109 22 ?_;rintro⟨⟨p,xs,xb⟩,bA,d,b⟩ ⟨hn,hm⟩;replace hn:p.n<=1000000:=hn;replace hm:p.hn<=1000000:=hm;refine⟨by simp,?_⟩;by_cases hN:zEl bA;rotate_left
 ·have gA:(0<=bA/\bA<=63)↔False:=⟨hN,False.elim⟩;simp[go_sem,zK6,zJO,zGT,gA,hn,hm];refine⟨fun h=>?_,fun h0=>⟨fun h=>h,fun h=>?_,fun hT hB=>?_⟩⟩
  ·rw[zNN (by omega)];exact⟨rfl,rfl,rfl,rfl,rfl,rfl⟩
  ·rw[zNM (by omega) fun e=>h.elim (· e.1) (· e.2)];exact⟨rfl,rfl,rfl,rfl,rfl,rfl⟩
  ·rw[zKo (by omega) ⟨hT,hB⟩ fun e=>hN e.1];exact⟨rfl,rfl,rfl,rfl,rfl,rfl⟩
 obtain⟨n,rfl⟩:=Int.eq_ofNat_of_zero_le hN.1;have aA:n<64:=by have:=hN.2;omega
 simp[go_sem,zK6,zJO,zGT,zXA,zG8,zQ1,zXH,zY6,zMY,zQ0,hn,hm,zS1 aA,zYE];refine⟨fun h=>?_,fun h0=>⟨fun h=>h,fun h=>?_,fun hT hB=>?_⟩⟩
 ·rw[zNN (by omega)];exact⟨rfl,rfl,rfl,rfl,rfl,rfl⟩
 ·rw[zNM (by omega) fun e=>h.elim (· e.1) (· e.2)];exact⟨rfl,rfl,rfl,rfl,rfl,rfl⟩
 refine⟨fun h=>?_,fun iA hd=>⟨fun h=>?_,fun h=>?_⟩⟩
 ·rw[zKo (by omega) ⟨hT,hB⟩ fun e=>h.elim (fun h=>absurd h (by omega)) (fun h=>h (by exact_mod_cast e.2))];exact⟨rfl,rfl,rfl,rfl,rfl,rfl⟩
 ·rw[zS7 hT aA hB (by exact_mod_cast hd) (by exact_mod_cast h)];exact⟨rfl,rfl,rfl,rfl,rfl,rfl⟩
 have cA:d.size=16:=by exact_mod_cast hd
 have hr:3<=roomN p.s p.n:=by exact_mod_cast h
 obtain⟨i0,f0⟩:=zD0 (f:=p.s) (n:=p.n) (by omega);refine⟨fun i hi=>by have:=zML hT.1 i hi;omega,⟨hT,aA⟩,?_⟩;have fA:zIC p xs xb:=zPk hT;have eA:zIC p (zJU p xs xb n) (zJT p xs xb n):=zPU hT (by omega);have q0:roomN (zBy p b d i0).s p.n+1=roomN p.s p.n:=zHi (s:=zBH b d) f0 (zDq hB.1 cA);obtain⟨i1,f1⟩:=zD0 (f:=(zBy p b d i0).s) (n:=p.n) (by omega);have q1:roomN (zFu p xs xb n b d i0 i1).s p.n+1=roomN (zBy p b d i0).s p.n:=zHi (p:=zBy p b d i0) f1 (zE0 hT aA hB f0);obtain⟨i2,f2⟩:=zD0 (f:=(zFu p xs xb n b d i0 i1).s) (n:=p.n) (by omega);have t0:tk1 p (zBH b d)=(zBy p b d i0,(i0:Int),b,true):=zEb f0;have t1:tk1 (zBy p b d i0) ⟨b,8,zBf p xs xb n 1 (i0:Int),zBZ p xs xb n 1 b,⟨#[]⟩⟩=(zFu p xs xb n b d i0 i1,(i1:Int),b,true):=zEb f1;have t2:tk1 (zFu p xs xb n b d i0 i1) ⟨b,8,zBf p xs xb n 0 (i1:Int),zBZ p xs xb n 0 b,⟨#[]⟩⟩=(zXr p xs xb n b d i0 i1 i2,(i2:Int),b,true):=zEb f2;have e8:((n:Int) % 8).toNat=n % 8:=by omega
 have dA:((n:Int) / 8).toNat=n / 8:=by omega
 simp only[e8,dA,t0,t1,t2,zYH,zYJ,zYG,zYI];rw[zYO hT aA hB cA f0 f1 f2];refine⟨eA,by omega,by omega,hn,fA,by omega,by omega,hn,?_⟩;have eO:zSr p xs xb n 3=kidsUp (f3 (zMt p xs xb n) (zJU p xs xb n) xs) (f3 (zMs p xs xb n) (zJT p xs xb n) xb) 3:=rfl;rw[eO];exact⟨by kernel_rfl,⟨TrE.refl _,zR⟩,⟨TrE.refl _,zX⟩,rfl,rfl,⟨TrE.refl _,zDB⟩,rfl⟩
set_option maxRecDepth 20000
set_option maxHeartbeats 1600000
theorem zSP{f g:Nat->Int}:kidsUp f g 8 = []↔zEM f g:=by
 rw[<-List.length_eq_zero_iff,<-Classical.not_not (a:=zEM f g),<-zX8,<-zGO];omega
theorem zZb{p:zF}{xs xb x y:Int}{n:Nat}:zJf (zBf p xs xb n 0 x) (n / 8) y=zBf p xs xb n 0 y:=by
 funext i;unfold zJf zBf;show(if i=n / 8 then y else if i=n / 8 then x else _)=if i=n / 8 then y else _
 by_cases h:i=n / 8<;>simp[h]
theorem zZc{p:zF}{xs xb x y:Int}{n:Nat}:zJf (zBZ p xs xb n 0 x) (n / 8) y=zBZ p xs xb n 0 y:=by
 funext i;unfold zJf zBZ;show(if i=n / 8 then y else if i=n / 8 then x else _)=if i=n / 8 then y else _
 by_cases h:i=n / 8<;>simp[h]
theorem zFi{f:Nat->zM}:∀{n j:Nat},j<n->yh (f j)->∃i,zBX n f i
 | 0,j,h,_=>absurd h (Nat.not_lt_zero _)
 | n+1,j,h,hf=>by
  by_cases hx:∃k,k<n/\yh (f k)
  ·obtain⟨k,hk,aA⟩:=hx;obtain⟨i,h1,h2,h3⟩:=zFi hk aA;exact⟨i,by omega,h2,h3⟩
  ·have:j=n:=Classical.byContradiction fun e=>hx ⟨j,by omega,hf⟩
   subst this;exact⟨j,h,hf,fun k hk aA=>hx ⟨k,hk,aA⟩⟩
attribute [local go_sem] qW List.map_cons List.map_nil Tr.cv yo qG qw qv yn ym yk qu zAv zAx zAw zAs zAu zAt zCK zCM zCL qK zn qL zo qE qD qP yx zk zl yB qJ tmpsOf zAf yA qI zAr yu yq yp yr stpP opds opd opdC kap zAE qF zj coreU bin zAY zB6 get put dlO fgt zA6 zAz zA3 zA4 tyT yj yi Op.operands Call.operands evLoad evLen evStore evAlloc zAZ and_true true_and List.append_nil List.nil_append List.cons_append Ret resCv zBx yP cellM zBT zB3 qX StW StR hpT hpO hpV hpA hpL hpC sg nin zCD bdO tmW obW AvE CsE CvE Av.tup Av.ids Cv.ids inD ObE Ob.ids TrE.refl qH qx qy qM qN qO zm zb za yw zBd zCB zAy evCall argL argOf qj outOb obO yM zy cvO tot Tr.own rid partsOf fillC zT zBS frz frz1 evBuildSlice zc trs Cv.tr evSlice Option.toArray_none Option.toArray_some evMakeSlice evAppend dstOf srcOf zAq zA5 zA2 zA0 zA1 ikT qt qs qq qp RetP RetN zBe qR evLd evSt evStoreH zAP evAppendM evAppendT tlOf mvOf rowE shp evTake oOf evC evCallP evCallN evCallO unlast zAK zAp zAO argsF zCA qn pmC varT vT evField evConv dB0 Option.bind_some Option.bind_none Option.map_some Option.map_none Option.isSome_some Option.isSome_none
attribute [local go_sem] yF zY zAk yN qk
noncomputable def mTT:zW:=qZ (fun q:(zF×Int×Int)×Int×Int=>[poT q.1.1.n q.1.1.s q.1.1.hn q.1.1.h,pT q.1.2.1 q.1.2.2,iT q.2.1,iT q.2.2]) (fun q=>q.1.1.n<=1000000/\q.1.1.hn<=1000000) (fun q=>[toR (zGj q.1.1 q.1.2.1 q.1.2.2 q.2.1 q.2.2)])
theorem zat(p:zF)(xs xb aA:Int)(b:Int):mTT [poT p.n p.s p.hn p.h,pT xs xb,iT aA,iT b]=some (p.n<=1000000/\p.hn<=1000000,[toR (zGj p xs xb aA b)]):=zO (fun l=>((zEt (nth l 0 0) (nth l 0 1),qg (nth l 1 0),qg (nth l 1 1)),qg (nth l 2 0),qg (nth l 3 0))) (fun _=>rfl) ((p,xs,xb),aA,b)
theorem zP4:zw Tryz.prog 103 mTT:=by
 refine zQ zs (GOk.cons zGP (zE Tryz.func51 rfl rfl) (GOk.cons zIy (zE Tryz.func124 rfl rfl) (GOk.cons zMO (zE Tryz.func125 rfl rfl) (GOk.cons zJJ (zE Tryz.func126 rfl rfl) (GOk.cons zMP (zE Tryz.func127 rfl rfl) (GOk.cons zIY (zE Tryz.func128 rfl rfl) (GOk.cons zUC (zE Tryz.func131 rfl rfl) (GOk.cons zSW (zE Tryz.func129 rfl rfl) (GOk.cons zDt (zE Tryz.func95 rfl rfl) (GOk.ptrK zaU (zE Tryz.func130 rfl rfl) GOk.nil)))))))))) zr Tryz.func103 rfl Tryz.ntmps103 Tryz.results103 22 ?_;rintro⟨⟨p,xs,xb⟩,bA,b⟩ ⟨hn,hm⟩;replace hn:p.n<=1000000:=hn;replace hm:p.hn<=1000000:=hm;refine⟨by simp,?_⟩;by_cases hN:zEl bA;rotate_left
 ·have gA:(0<=bA/\bA<=63)↔False:=⟨hN,False.elim⟩;simp[go_sem,zK6,zJO,zGT,gA,hn,hm];refine⟨fun h=>h,fun h=>?_,fun hT hB=>?_⟩
  ·rw[zOj fun e=>h.elim (· e.1) (· e.2)];exact⟨rfl,rfl,rfl,rfl,rfl,rfl⟩
  ·rw[zS3 ⟨hT,hB⟩ hN];exact⟨rfl,rfl,rfl,rfl,rfl,rfl⟩
 obtain⟨n,rfl⟩:=Int.eq_ofNat_of_zero_le hN.1;have aA:n<64:=by have:=hN.2;omega
 have e8:((n:Int) % 8).toNat=n % 8:=by omega
 have eA:((n:Int) / 8).toNat=n / 8:=by omega
 simp[go_sem,zK6,zJO,zGT,zG8,zQ1,zXH,zMY,zQ0,zXC,zCs,hn,hm,zS1 aA,zYE,e8,eA,zYH,zYJ,zYG,zYI,zSP];refine⟨fun h=>h,fun h=>?_,fun hT hB=>⟨fun h=>absurd h (by omega),fun _=>?_⟩⟩
 ·rw[zOj fun e=>h.elim (· e.1) (· e.2)];exact⟨rfl,rfl,rfl,rfl,rfl,rfl⟩
 refine⟨⟨hT,aA⟩,fun g h=>?_,fun hP=>⟨fun i hi=>by have:=zML hT.1 i hi;omega,zPU hT (by omega),by omega,by omega,zPk hT,by omega,by omega,fun hL=>?_,fun hL=>?_⟩⟩
 ·rw[zVj ⟨hT,hB⟩ hN ⟨g,h⟩];exact⟨rfl,rfl,rfl,rfl,rfl,rfl⟩
 ·rw[zRg ⟨hT,hB⟩ hN fun e=>hP e.1 e.2,Int.toNat_natCast];refine⟨by omega,by omega,?_⟩;simp only[zZb,zZc];by_cases hx:∃i,zBX p.n p.s i
  ·obtain⟨i,hi⟩:=hx;have t1:tk1 p ⟨b,8,zBf p xs xb n 1 0,zBZ p xs xb n 1 0,⟨#[]⟩⟩=(zBn p i (zBt (zBf p xs xb n 1 0) (zBZ p xs xb n 1 0) b),(i:Int),b,true):=zEb hi;have fA:zDR p (zBt (zBf p xs xb n 1 0) (zBZ p xs xb n 1 0) b):=zEw hT aA (by omega) hB (fun s t h=>h) (Or.inl ⟨rfl,rfl⟩);have hl:=zb4 hT aA hB hL hi;have hR:zz (zBn p i (zBt (zBf p xs xb n 1 0) (zBZ p xs xb n 1 0) b)):=zKD hT.1 hi fA;have hF:zDR (zBn p i (zBt (zBf p xs xb n 1 0) (zBZ p xs xb n 1 0) b)) (zBt (zBf p xs xb n 0 (i:Int)) (zBZ p xs xb n 0 b) b):=zEw hT aA (by omega) hB (fun s t h=>zE4 hi.2.1 h) (Or.inr ⟨zId hi hB.1.1,Int.le_refl _⟩);simp only[t1];refine⟨fun hA=>?_,fun hA _=>⟨fun h=>by simp at h,fun _=>?_⟩⟩
   ·replace hA:¬zEM (zBf p xs xb n 0 (i:Int)) (zBZ p xs xb n 0 b):=hA.resolve_right (by simp);refine⟨hn,fun h=>?_,fun _ h=>?_⟩
    ·rw[zOk hl hA hR hF fun j hj hf=>?_]
     ·exact⟨rfl,rfl,rfl,rfl,rfl,rfl⟩
     ·obtain⟨j',cA⟩:=zFi (f:=(zBn p i (zBt (zBf p xs xb n 1 0) (zBZ p xs xb n 1 0) b)).s) hj hf;rw[show tk1 _ _=_ from zEb cA]at h;simp at h
    ·by_cases hy:∃j,zBX p.n (zBn p i (zBt (zBf p xs xb n 1 0) (zBZ p xs xb n 1 0) b)).s j
     ·obtain⟨j,hj⟩:=hy;have t2:tk1 (zBn p i (zBt (zBf p xs xb n 1 0) (zBZ p xs xb n 1 0) b)) ⟨b,8,zBf p xs xb n 0 (i:Int),zBZ p xs xb n 0 b,⟨#[]⟩⟩=(zBn (zBn p i (zBt (zBf p xs xb n 1 0) (zBZ p xs xb n 1 0) b)) j (zBt (zBf p xs xb n 0 (i:Int)) (zBZ p xs xb n 0 b) b),(j:Int),b,true):=zEb hj;simp only[t2];rw[zRh hl hA hR hF hj];exact⟨by kernel_rfl,⟨TrE.refl _,zR⟩,⟨TrE.refl _,zX⟩,rfl,rfl,⟨TrE.refl _,zDB⟩,rfl⟩
     ·rw[zPs (p:=zBn p i (zBt (zBf p xs xb n 1 0) (zBZ p xs xb n 1 0) b)) fun j hj hf=>hy (zFi hj hf)]at h;simp at h
   ·rw[zRf hl hA];exact⟨by kernel_rfl,⟨TrE.refl _,zR⟩,⟨TrE.refl _,zX⟩,rfl,rfl,⟨TrE.refl _,zDB⟩,rfl⟩
  ·have dA:∀j,j<p.n->¬yh (p.s j):=fun j hj hf=>hx (zFi hj hf)
   simp only[zPs dA];rw[zWp hT aA hB hL dA];exact⟨fun _=>⟨hn,fun _=>⟨rfl,rfl,rfl,rfl,rfl,rfl⟩,fun h=>by simp at h⟩,fun _ h=>by simp at h⟩
 ·rw[zRg ⟨hT,hB⟩ hN fun e=>hP e.1 e.2,Int.toNat_natCast];have hl:=zb3 (xs:=xs) (xb:=xb) (b:=b) hL;have hF:zDR p (zBt (zBf p xs xb n 0 0) (zBZ p xs xb n 0 0) b):=zEw hT aA (by omega) hB (fun s t h=>h) (Or.inl ⟨rfl,rfl⟩);refine⟨fun hA=>⟨fun h=>?_,fun h=>?_⟩,fun hA=>?_⟩
  ·rw[zOk hl hA hT.1 hF fun j hj hf=>?_]
   ·exact⟨rfl,rfl,rfl,rfl,rfl,rfl⟩
   ·obtain⟨j',cA⟩:=zFi hj hf;rw[zEb cA]at h;simp at h
  ·by_cases hy:∃j,zBX p.n p.s j
   ·obtain⟨j,hj⟩:=hy;have t2:tk1 p ⟨b,8,zBf p xs xb n 0 0,zBZ p xs xb n 0 0,⟨#[]⟩⟩=(zBn p j (zBt (zBf p xs xb n 0 0) (zBZ p xs xb n 0 0) b),(j:Int),b,true):=zEb hj;simp only[t2];rw[zRh hl hA hT.1 hF hj];exact⟨by kernel_rfl,⟨TrE.refl _,zR⟩,⟨TrE.refl _,zX⟩,rfl,rfl,⟨TrE.refl _,zDB⟩,rfl⟩
   ·rw[zPs fun j hj hf=>hy (zFi hj hf)]at h;simp at h
  ·rw[zRf hl hA];exact⟨by kernel_rfl,⟨TrE.refl _,zR⟩,⟨TrE.refl _,zX⟩,rfl,rfl,⟨TrE.refl _,zDB⟩,rfl⟩
open Classical in
noncomputable def zDA(p:zF)(m:Nat):zF:={n:=p.n,s:=fun i=>if Has m p.h (i:Int)then zDl else p.s i,hn:=p.hn,h:=p.h}
noncomputable def zH8(p:zF):zF:={n:=p.n,s:=(zDA p p.hn).s,hn:=0,h:=p.h}
open Classical in
noncomputable def zE8(p:zF):zF:=if zz p/\zz (zH8 p)then zH8 p else p
theorem zJu{p:zF}{m i:Nat}(h:Has m p.h (i:Int)):(zDA p m).s i=zDl:=if_pos h
theorem zJt{p:zF}{m i:Nat}(h:¬Has m p.h (i:Int)):(zDA p m).s i=p.s i:=if_neg h
theorem zSG(p:zF):zDA p 0=p:=by
 have e:(zDA p 0).s=p.s:=funext fun i=>zJt (fun ⟨j,hj,_⟩=>absurd hj (Nat.not_lt_zero _))
 show zF.mk p.n (zDA p 0).s p.hn p.h=p;rw[e]
theorem zSF{p:zF}{k m:Nat}(hk:p.h k=(m:Int)):zDA p (k+1)=zBn (zDA p k) m zDl:=by
 have e:(zDA p (k+1)).s=(zBn (zDA p k) m zDl).s:=funext fun i=>by
  show _=if i=m then zDl else(zDA p k).s i
  by_cases h1:i=m
  ·rw[if_pos h1,zJu ⟨k,by omega,by rw[hk,h1]⟩]
  ·rw[if_neg h1];by_cases h2:Has k p.h (i:Int)
   ·rw[zJu h2,zJu (by obtain⟨j,hj,e⟩:=h2;exact⟨j,by omega,e⟩)]
   ·rw[zJt h2,zJt (fun ⟨j,hj,e⟩=>h2 ⟨j,by
     by_cases e2:j=k
     ·subst e2;rw[hk]at e;omega
     ·omega,e⟩)]
 show zF.mk p.n (zDA p (k+1)).s p.hn p.h=zF.mk p.n (zBn (zDA p k) m zDl).s p.hn p.h;rw[e]
theorem zNB{p:zF}(h:zz p)(h':zz (zH8 p)):zE8 p=zH8 p:=if_pos ⟨h,h'⟩
theorem zLC{p:zF}(h:¬(zz p/\zz (zH8 p))):zE8 p=p:=if_neg h
set_option linter.unusedSimpArgs false
set_option maxRecDepth 20000
set_option maxHeartbeats 1600000
theorem zZL{P:Program}{f:Nat}{a b:zW}(ha:zw P f a)(hb:zw P f b):zw P f (orSp a b):=by
 intro w al c rs aA hc;unfold orSp at aA;split at aA
 ·rename_i r hr
  cases aA;exact ha w al c rs hr hc
 ·exact hb w al c rs aA hc
noncomputable def zTr:zW:=qZ (fun q:Nat×(Nat->zM)=>[(true,[.s .b 3 q.1 (zU .b q.2),.v n0])]) (fun q=>q.1<=1000000/\(0:Nat)<=1000000) (fun q=>bR (zz {n:=q.1,s:=q.2,hn:=0,h:=fun _=>0}))
noncomputable def zPR:zW:=orSp zSh zTr
theorem zVU:zw Tryz.prog 55 zTr:=zEU.upk (κ:=Nat) fun q=>⟨_,zHe {n:=q.1,s:=q.2,hn:=0,h:=fun _=>0},.cons ⟨rfl,.cons (TrE.refl _) (.cons ⟨rfl,rfl⟩ .nil)⟩ .nil⟩
theorem zVV:zw Tryz.prog 55 zPR:=zZL zEU zVU
theorem zSi(p:zF):zPR [poT p.n p.s p.hn p.h]=some (p.n<=1000000/\p.hn<=1000000,bR (zz p)):=zXa (zHe p)
theorem zQ3(n:Nat)(s:Nat->zM):zPR [(true,[.s .b 3 n (zU .b s),.v n0])]=some (n<=1000000/\(0:Nat)<=1000000,bR (zz {n:=n,s:=s,hn:=0,h:=fun _=>0})):=by
 refine zXc (zOV fun x h=>by simp at h) (zO (fun l=>(zE9 (nth l 0 0),fun i=>zI7 (zCS (nth l 0 0) i 0) (zCS (nth l 0 0) i 1) (zCS (nth l 0 0) i 2))) (fun _=>rfl) (n,s))
theorem zSt{p:zF}{h:Nat->Int}:zz {n:=p.n,s:=p.s,hn:=0,h:=h}↔zz {n:=p.n,s:=p.s,hn:=0,h:=p.h}:=
 ⟨fun x=>⟨x.1,x.2.1,fun i hi=>absurd hi (Nat.not_lt_zero _)⟩,fun x=>⟨x.1,x.2.1,fun i hi=>absurd hi (Nat.not_lt_zero _)⟩⟩
theorem zSy{fl:Fl}(p:zF)(k:Nat):TrE (.s fl 3 p.n (yK (zU .z p.s) k 0 [.v (.int .i64 0),.v n0,.v (.string ⟨#[]⟩)])) (.s fl 3 p.n (zU .z (zBn p k zDl).s)):=by
 refine⟨.inl rfl,rfl,rfl,fun i j hi hj=>?_⟩;by_cases h:i=k
 ·subst h
  match j,hj with
  | 0,_=>exact TrE.of_eq (by simp[yK,zU,zBn,zDl])
  | 1,_=>simp[yK,zU,zBn,zDl,TrE]
  | 2,_=>exact TrE.of_eq (by simp[yK,zU,zBn,zDl])
 ·match j,hj with
  | 0,_=>exact TrE.of_eq (by simp[yK,zU,zBn,h])
  | 1,_=>exact TrE.of_eq (by simp[yK,zU,zBn,h])
  | 2,_=>exact TrE.of_eq (by simp[yK,zU,zBn,h])
attribute [local go_sem] qW List.map_cons List.map_nil Tr.cv yo qG qw qv yn ym yk qu zAv zAx zAw zAs zAu zAt zCK zCM zCL qK zn qL zo qE qD qP yx zk zl yB qJ tmpsOf zAf yA qI zAr yu yq yp yr stpP opds opd opdC kap zAE qF zj coreU bin zAY zB6 get put dlO fgt zA6 zAz zA3 zA4 tyT yj yi Op.operands Call.operands evLoad evLen evStore evAlloc zAZ and_true true_and List.append_nil List.nil_append List.cons_append Ret resCv zBx yP cellM zBT zB3 qX StW StR hpT hpO hpV hpA hpL hpC sg nin zCD bdO tmW obW AvE CsE CvE Av.tup Av.ids Cv.ids inD ObE Ob.ids TrE.refl qH qx qy qM qN qO zm zb za yw zBd zCB zAy evCall argL argOf qj outOb obO yM zy cvO tot Tr.own rid partsOf fillC zT zBS frz frz1 evBuildSlice zc trs Cv.tr evSlice Option.toArray_none Option.toArray_some evMakeSlice evAppend dstOf srcOf zAq zA5 zA2 zA0 zA1 ikT qt qs qq qp RetP RetN zBe qR evLd evSt evStoreH zAP evAppendM evAppendT tlOf mvOf rowE shp evTake oOf evC evCallP evCallN evCallO unlast zAK zAp zAO argsF zCA qn pmC varT vT evField evConv dB0 Option.bind_some Option.bind_none Option.map_some Option.map_none Option.isSome_some Option.isSome_none
attribute [local go_sem] yF zY zAk yN qk
noncomputable def zaM:zW:=qZ (fun p:zF=>[poT p.n p.s p.hn p.h]) (fun p=>p.n<=1000000/\p.hn<=1000000/\∀i,i<p.n->(p.s i).kn<=1000000) (fun p=>[poO (zE8 p)])
theorem zQ6(p:zF):zaM [poT p.n p.s p.hn p.h]=some (p.n<=1000000/\p.hn<=1000000/\∀i,i<p.n->(p.s i).kn<=1000000,[poO (zE8 p)]):=zO (fun l=>zEt (nth l 0 0) (nth l 0 1)) (fun _=>rfl) p
theorem zKM:zw Tryz.prog 36 zaM:=by
 refine zQ zs (GOk.cons zGP (zE Tryz.func51 rfl rfl) (GOk.cons zVV (zE Tryz.func55 rfl rfl) GOk.nil)) zr Tryz.func36 rfl Tryz.ntmps36 Tryz.results36 5 ?_;rintro p ⟨hn,hm,hk⟩;replace hn:p.n<=1000000:=hn;replace hm:p.hn<=1000000:=hm;refine⟨by simp,?_⟩;simp[go_sem,zG8,zSi,hn,hm];refine⟨hk,fun hR=>?_,fun hR=>?_⟩
 ·rw[zLC fun h=>hR h.1];exact⟨⟨TrE.refl _,zR⟩,TrE.refl _,zX⟩
 refine yE (fun k:Nat=>⟨[(4,true,.i k),(3,true,.m false [.p 3 0]),(2,true,.m false [.p 2 0]),(1,true,.m false [.p 1 0])],[(3,.var [.h 7,.h 8]),(7,.row 3 p.n (zU .z (zDA p k).s)),(8,.row 1 p.hn (qh p.h)),(2,.var [.v n0,.v n0]),(1,.var [.s .b 3 p.n (zU .b p.s),.s .b 1 p.hn (qh p.h)])]⟩) (fun k=>p.hn - k) (fun k=>k<=p.hn) 0 ?_ (by simp) ?_
 ·rw[zSG];simp[go_sem]
 rintro k aA;simp[go_sem,qB (show k<=1000000000 by omega),zQ3,zG8,hn,hm];refine⟨fun hl=>?_,fun hl=>?_⟩
 ·obtain⟨h0,h1,-,-⟩:=hR.2.2 k hl;refine⟨hl,⟨h0,h1⟩,by omega,by kernel_rfl,k+1,by omega,by omega,by omega,?_⟩;rw[zSF (m:=(p.h k).toNat) (by omega)];exact zSy (zDA p k) _
 ·cases (show k=p.hn by omega);have hw:zz {n:=p.n,s:=(zDA p p.hn).s,hn:=0,h:=fun x=>0}↔zz (zH8 p):=zSt (p:=zDA p p.hn);rw[hw];refine⟨fun h=>?_,fun h=>?_⟩
  ·rw[zLC fun e=>h e.2];exact⟨hk,⟨TrE.refl _,zR⟩,TrE.refl _,zX⟩
  ·rw[zNB hR h];exact⟨⟨TrE.refl _,zR⟩,rfl⟩
structure zAJ where
 name:ByteArray
 origin:Int
 zcD:Int
 rs:Int
 rb:Int
 dn:Nat
 ds:Nat->Int
 db:Nat->Int
structure zu where
 id:Int
 name:ByteArray
 set:ByteArray
 zcD:Int
 time:Int
 rs:Int
 rb:Int
 dn:Nat
 ds:Nat->Int
 db:Nat->Int
structure zC where
 pool:zF
 time:Int
 next:Int
 sn:Nat
 zcC:Nat->zAJ
 pn:Nat
 zb9:Nat->zu
structure zDV (w:World) (b o lo hi:Nat) (vd:Value) (s:zAJ):Prop where
 c0:w.cell? ⟨b,o,none⟩=some (.string s.name)
 c1:w.cell? ⟨b,o+1,none⟩=some (.int .i64 s.origin)
 c2:w.cell? ⟨b,o+2,none⟩=some (.int .i64 s.zcD)
 c3:w.cell? ⟨b,o+3,none⟩=some (.int .i64 s.rs)
 c4:w.cell? ⟨b,o+4,none⟩=some (.int .i64 s.rb)
 c5:w.cell? ⟨b,o+5,none⟩=some vd
 dead:qi w lo hi vd s.dn s.ds s.db
 zcG:s.name.size<=maxLen
theorem zDV.zb7{w w':World}{b o lo hi:Nat}{vd:Value}{s:zAJ}(h:zDV w b o lo hi vd s)(t:Below w.heap.size w w'):zDV w' b o lo hi vd s:=
 ⟨(t.cell (zH h.c0)).trans h.c0,(t.cell (zH h.c1)).trans h.c1,(t.cell (zH h.c2)).trans h.c2,(t.cell (zH h.c3)).trans h.c3,(t.cell (zH h.c4)).trans h.c4,(t.cell (zH h.c5)).trans h.c5,h.dead.zb7 t,h.zcG⟩
structure zCz (w:World) (b o lo hi:Nat) (vd:Value) (s:zu):Prop where
 c0:w.cell? ⟨b,o,none⟩=some (.int .i64 s.id)
 c1:w.cell? ⟨b,o+1,none⟩=some (.string s.name)
 c2:w.cell? ⟨b,o+2,none⟩=some (.string s.set)
 c3:w.cell? ⟨b,o+3,none⟩=some (.int .i64 s.zcD)
 c4:w.cell? ⟨b,o+4,none⟩=some (.int .i64 s.time)
 c5:w.cell? ⟨b,o+5,none⟩=some (.int .i64 s.rs)
 c6:w.cell? ⟨b,o+6,none⟩=some (.int .i64 s.rb)
 c7:w.cell? ⟨b,o+7,none⟩=some vd
 dead:qi w lo hi vd s.dn s.ds s.db
 zcG:s.name.size<=maxLen/\s.set.size<=maxLen
theorem zCz.zb7{w w':World}{b o lo hi:Nat}{vd:Value}{s:zu}(h:zCz w b o lo hi vd s)(t:Below w.heap.size w w'):zCz w' b o lo hi vd s:=
 ⟨(t.cell (zH h.c0)).trans h.c0,(t.cell (zH h.c1)).trans h.c1,(t.cell (zH h.c2)).trans h.c2,(t.cell (zH h.c3)).trans h.c3,(t.cell (zH h.c4)).trans h.c4,(t.cell (zH h.c5)).trans h.c5,(t.cell (zH h.c6)).trans h.c6,(t.cell (zH h.c7)).trans h.c7,h.dead.zb7 t,h.zcG⟩
def zCd(w:World)(lo hi:Nat)(v:Value)(n:Nat)(f:Nat->zAJ):Prop:=
 n<=maxLen/\∃a cap,v = .slice a n cap/\n<=cap/\(0<n->∃b off,a=some ⟨b,off,none⟩/\lo<=b/\b<hi/\∀i,i<n->∃vd,zDV w b (off+i*6) lo hi vd (f i))
def zBg(w:World)(lo hi:Nat)(v:Value)(n:Nat)(f:Nat->zu):Prop:=
 n<=maxLen/\∃a cap,v = .slice a n cap/\n<=cap/\(0<n->∃b off,a=some ⟨b,off,none⟩/\lo<=b/\b<hi/\∀i,i<n->∃vd,zCz w b (off+i*8) lo hi vd (f i))
theorem zCd.zb7{w w':World}{lo hi:Nat}{v:Value}{n:Nat}{f:Nat->zAJ}(h:zCd w lo hi v n f)(t:Below w.heap.size w w'):zCd w' lo hi v n f:=by
 obtain⟨h0,a,cap,hv,aA,hc⟩:=h;refine⟨h0,a,cap,hv,aA,fun hn=>?_⟩;obtain⟨b,off,ha,h1,h2,h3⟩:=hc hn;refine⟨b,off,ha,h1,h2,fun i hi=>?_⟩;obtain⟨vd,hs⟩:=h3 i hi;exact⟨vd,hs.zb7 t⟩
theorem zBg.zb7{w w':World}{lo hi:Nat}{v:Value}{n:Nat}{f:Nat->zu}(h:zBg w lo hi v n f)(t:Below w.heap.size w w'):zBg w' lo hi v n f:=by
 obtain⟨h0,a,cap,hv,aA,hc⟩:=h;refine⟨h0,a,cap,hv,aA,fun hn=>?_⟩;obtain⟨b,off,ha,h1,h2,h3⟩:=hc hn;refine⟨b,off,ha,h1,h2,fun i hi=>?_⟩;obtain⟨vd,hs⟩:=h3 i hi;exact⟨vd,hs.zb7 t⟩
theorem zCd.cells{w:World}{lo hi:Nat}{a:Option Addr}{n c:Nat}{f:Nat->zAJ}(h:zCd w lo hi (.slice a n c) n f){i:Nat}(aA:i<n):∃b off vd,a=some ⟨b,off,none⟩/\zDV w b (off+i*6) lo hi vd (f i):=by
 obtain⟨h0,a2,cap,hv,bA,hx⟩:=h;simp only[Value.slice.injEq,true_and]at hv;obtain⟨rfl,rfl⟩:=hv;obtain⟨b,off,ha,h1,h2,h3⟩:=hx (by omega);obtain⟨vd,hs⟩:=h3 i aA;exact⟨b,off,vd,ha,hs⟩
theorem zBg.cells{w:World}{lo hi:Nat}{a:Option Addr}{n c:Nat}{f:Nat->zu}(h:zBg w lo hi (.slice a n c) n f){i:Nat}(aA:i<n):∃b off vd,a=some ⟨b,off,none⟩/\zCz w b (off+i*8) lo hi vd (f i):=by
 obtain⟨h0,a2,cap,hv,bA,hx⟩:=h;simp only[Value.slice.injEq,true_and]at hv;obtain⟨rfl,rfl⟩:=hv;obtain⟨b,off,ha,h1,h2,h3⟩:=hx (by omega);obtain⟨vd,hs⟩:=h3 i aA;exact⟨b,off,vd,ha,hs⟩
structure yQ (w:World) (lo hi:Nat) (v0 v1 v2 v3:Value) (W:zC):Prop where
 pool:zCj w lo hi v0 v1 W.pool
 zcC:zCd w lo hi v2 W.sn W.zcC
 zb9:zBg w lo hi v3 W.pn W.zb9
theorem yQ.zb7{w w':World}{lo hi:Nat}{v0 v1 v2 v3:Value}{W:zC}(h:yQ w lo hi v0 v1 v2 v3 W)(t:Below w.heap.size w w'):yQ w' lo hi v0 v1 v2 v3 W:=⟨h.pool.zb7 t,h.zcC.zb7 t,h.zb9.zb7 t⟩
abbrev zBb(v0 v1 v2 v3:Value)(W:zC):Value:=.agg #[v0,v1,.int .i64 W.time,.int .i64 W.next,v2,v3]
def zBQ(W:zC)(id:Int)(k:Nat):Prop:=k<W.pn/\(W.zb9 k).id=id/\∀j,j<k->(W.zb9 j).id≠id
theorem zBQ.uniq{W:zC}{id:Int}{i j:Nat}(h:zBQ W id i)(h':zBQ W id j):i=j:=by
 rcases Nat.lt_trichotomy i j with e | e | e
 ·exact absurd h.2.1 (h'.2.2 i e)
 ·exact e
 ·exact absurd h'.2.1 (h.2.2 j e)
theorem zB{P:Prop}(h:P):Hid P:=h
def zOo(n:Nat)(P:Nat->Prop)(r:Int):Prop:=(∃k:Nat,k<n/\P k/\(∀j,j<k->¬P j)/\r=k)\/((∀j,j<n->¬P j)/\r = -1)
open Go.Maps
def zGr(t:Int):Prop:=0<=t/\t<=1000000
def zGp(s b:Int):Prop:=0<=s/\s<=199/\1<=b/\b<=1000000
def zRm(n:Nat)(f:Nat->Int):Prop:=∀i,i<n->∀k,k<i->f k≠f i
def zAF(n:Nat)(f g:Nat->Int):Prop:=n<=200/\(∀i,i<n->zGp (f i) (g i))/\zRm n f
def PIn(n:Nat)(f g:Nat->Int)(x y:Int):Prop:=∃j,j<n/\f j=x/\g j=y
def zFf(n:Nat)(f g:Nat->Int)(m:Nat)(f' g':Nat->Int):Prop:=zAF n f g/\zAF m f' g'/\n=m/\∀i,i<n->PIn m f' g' (f i) (g i)
theorem zRm.inj{n:Nat}{f:Nat->Int}(h:zRm n f){i k:Nat}(hi:i<n)(hk:k<n)(e:f i=f k):i=k:=by
 rcases Nat.lt_trichotomy i k with h1 | h1 | h1
 ·exact absurd e (h k hk i h1)
 ·exact h1
 ·exact absurd e.symm (h i hi k h1)
theorem zUJ:∀(n m:Nat) (h:Nat->Nat),(∀i,i<n->h i<m)->(∀i k,i<n->k<n->h i=h k->i=k)->n<=m
 | 0,_,_,_,_=>Nat.zero_le _
 | n+1,m,h,h1,h2=>by
  have hm:=h1 n (Nat.lt_succ_self n);have:=zUJ n (m - 1) (fun i=>if h i<h n then h i else h i - 1) (fun i hi=>by
   have:=h1 i (by omega);have:h i≠h n:=fun e=>by have:=h2 i n (by omega) (by omega) e;omega
   show(if h i<h n then h i else h i - 1)<m - 1;split<;>omega) (fun i k hi hk e=>by
   have a1:h i≠h n:=fun e=>by have:=h2 i n (by omega) (by omega) e;omega
   have a2:h k≠h n:=fun e=>by have:=h2 k n (by omega) (by omega) e;omega
   have e':(if h i<h n then h i else h i - 1)=(if h k<h n then h k else h k - 1):=e;refine h2 i k (by omega) (by omega) ?_;split at e'<;>split at e'<;>omega)
  omega
theorem zVX{n:Nat}{f g f' g':Nat->Int}(h1:zAF n f g)(h2:zAF n f' g')(h:∀i,i<n->PIn n f' g' (f i) (g i)):∀j,j<n->PIn n f g (f' j) (g' j):=by
 intro j hj;by_cases hx:PIn n f g (f' j) (g' j)
 ·exact hx
 ·exfalso;have:=zUJ n (n - 1) (fun i=>if hi:i<n then(if (h i hi).choose<j then(h i hi).choose else(h i hi).choose - 1)else 0) (fun i hi=>by
   have hs:=(h i hi).choose_spec;have bA:(h i hi).choose≠j:=fun e=>hx ⟨i,hi,by rw[<-hs.2.1,e],by rw[<-hs.2.2,e]⟩
   simp only[hi,dif_pos];split<;>omega) (fun i k hi hk e=>by
   have hs:=(h i hi).choose_spec;have aA:=(h k hk).choose_spec;have bA:(h i hi).choose≠j:=fun e=>hx ⟨i,hi,by rw[<-hs.2.1,e],by rw[<-hs.2.2,e]⟩
   have cA:(h k hk).choose≠j:=fun e=>hx ⟨k,hk,by rw[<-aA.2.1,e],by rw[<-aA.2.2,e]⟩
   simp only[hi,hk,dif_pos]at e;have e2:(h i hi).choose=(h k hk).choose:=(by split at e<;>split at e<;>omega);refine h1.2.2.inj hi hk ?_;rw[<-hs.2.1,<-aA.2.1,e2])
  omega
theorem zFf.symm{n m:Nat}{f g f' g':Nat->Int}(h:zFf n f g m f' g'):zFf m f' g' n f g:=by
 obtain⟨h1,h2,rfl,h3⟩:=h;exact⟨h2,h1,rfl,zVX h1 h2 h3⟩
def zEE(x:Int):Lit:=.int .i64 x
theorem zK4{x y:Int}(h:x≠y):zEE x≠zEE y:=fun e=>h (by unfold zEE at e;injection e)
theorem zMK(x:Int):WideAt.IsKeyLit (zEE x):=trivial
def zGI(x:Int):DataW Unit:=.lit (.int .i64 x)
theorem zI5{x y:Int}(h:zGI x=zGI y):x=y:=by unfold zGI at h;injection h with h;injection h
def seenD(f g:Nat->Int):Nat->DataW Unit
 | 0=>.map []
 | k+1=>(seenD f g k).put (zEE (f k)) (zGI (g k))
theorem zF1(f g:Nat->Int):∀k,Tidy (seenD f g k)
 | 0=>tidy_empty
 | k+1=>(zF1 f g k).put (zMK _) _
theorem zHK(f g:Nat->Int)(x:Int):∀k,Maps.has (seenD f g k) (zEE x)=true↔∃i,i<k/\f i=x
 | 0=>by
  constructor
  ·intro h;exact absurd h (by simp[seenD,Maps.has])
  ·rintro⟨i,hi,_⟩;omega
 | k+1=>by
  by_cases hx:f k=x
  ·subst hx;exact⟨fun _=>⟨k,by omega,rfl⟩,fun _=>has_put_same (zF1 f g k).isMap (zMK _) _⟩
  ·rw[show Maps.has (seenD f g (k+1)) (zEE x)=Maps.has (seenD f g k) (zEE x)from has_put_other (zK4 (Ne.symm hx)) _,zHK f g x k];constructor
   ·rintro⟨i,hi,e⟩;exact⟨i,by omega,e⟩
   ·rintro⟨i,hi,e⟩;by_cases h:i=k
    ·subst h;exact absurd e hx
    ·exact⟨i,by omega,e⟩
theorem zN2{k:Nat}{f:Nat->Int}:zRm (k+1) f↔zRm k f/\∀i,i<k->f i≠f k:=by
 constructor
 ·exact fun h=>⟨fun i hi=>h i (by omega),fun i hi=>h k (by omega) i hi⟩
 ·rintro⟨h1,h2⟩ i hi j hj;by_cases e:i=k
  ·subst e;exact h2 j hj
  ·exact h1 i (by omega) j hj
theorem zKF(f g:Nat->Int):∀k,Maps.size (seenD f g k)<=k/\(Maps.size (seenD f g k)=k↔zRm k f)
 | 0=>⟨Nat.le_refl _,fun _ i hi=>by omega,fun _=>rfl⟩
 | k+1=>by
  obtain⟨h1,h2⟩:=zKF f g k;have e:Maps.size (seenD f g (k+1))=if Maps.has (seenD f g k) (zEE (f k))then Maps.size (seenD f g k)else Maps.size (seenD f g k)+1:=size_put (zF1 f g k) _
  by_cases hh:Maps.has (seenD f g k) (zEE (f k))=true
  ·rw[if_pos hh]at e;rw[e,zN2];refine⟨by omega,fun h=>by omega,fun h=>?_⟩;obtain⟨i,hi,he⟩:=(zHK f g (f k) k).1 hh;exact absurd he (h.2 i hi)
  ·rw[if_neg hh]at e;rw[e,zN2,<-h2];refine⟨by omega,fun h=>⟨by omega,fun i hi he=>hh ((zHK f g (f k) k).2 ⟨i,hi,he⟩)⟩,fun h=>by omega⟩
theorem zUS{n:Nat}{f:Nat->Int}(g:Nat->Int)(hd:zRm n f)(z:DataW Unit):∀k,k<=n->∀i,i<k->(seenD f g k).atKey (zEE (f i)) z=zGI (g i)
 | 0,_,i,hi=>absurd hi (Nat.not_lt_zero _)
 | k+1,hk,i,hi=>by
  by_cases e:i=k
  ·subst e;exact atKey_put_same (zF1 f g i).isMap (zMK _) _ _
  ·exact(atKey_put_other (zK4 (fun h=>e (hd.inj (by omega) (by omega) h))) _ _).trans (zUS g hd z k (by omega) i (by omega))
structure zFe (n:Nat) (f g f':Nat->Int) (k:Nat) (D:DataW Unit):Prop where
 tidy:Tidy D
 size:Maps.size D+k=n
 at':∀x,(∀j,j<k->f' j≠x)->(∀i,i<n->f i=x->D.atKey (zEE x) (zGI 0)=zGI (g i))/\((∀i,i<n->f i≠x)->D.atKey (zEE x) (zGI 0)=zGI 0)
 has:∀x,Maps.has D (zEE x)=true↔(∃i,i<n/\f i=x)/\∀j,j<k->f' j≠x
theorem zFe.start{n:Nat}{f g:Nat->Int}(h:zAF n f g)(f':Nat->Int):zFe n f g f' 0 (seenD f g n) where
 tidy:=zF1 f g n
 size:=by rw[(zKF f g n).2.2 h.2.2];rfl
 at':=fun x _=>⟨fun i hi e=>by subst e;exact zUS g h.2.2 _ n (Nat.le_refl _) i hi,fun aA=>by
  refine atKey_of_not_has ?_ _;rw[Bool.eq_false_iff];intro hh;obtain⟨i,hi,e⟩:=(zHK f g x n).1 hh;exact aA i hi e⟩
 has:=fun x=>by
  rw[zHK];exact⟨fun h=>⟨h,fun j hj=>absurd hj (Nat.not_lt_zero _)⟩,fun h=>h.1⟩
theorem zFe.next{n m:Nat}{f g f' g':Nat->Int}{k:Nat}{D:DataW Unit}(h:zFe n f g f' k D)(h2:zAF m f' g')(hk:k<m)(e:D.atKey (zEE (f' k)) (zGI 0)=zGI (g' k)):zFe n f g f' (k+1) (D.del (zEE (f' k))):=by
 have bA:Maps.has D (zEE (f' k))=true:=by
  by_cases hh:Maps.has D (zEE (f' k))=true
  ·exact hh
  ·rw[atKey_of_not_has (by simpa using hh)]at e;have:=zI5 e;have:=(h2.2.1 k hk).2.2.1;omega
 have hs:=size_del (k:=zEE (f' k)) h.tidy;rw[bA]at hs;refine⟨h.tidy.del _,?_,fun x hx=>?_,fun x=>?_⟩
 ·have:=h.size;have cA:Maps.size (D.del (zEE (f' k)))+1=Maps.size D:=hs;omega
 ·have aA:f' k≠x:=hx k (by omega);rw[atKey_del_other (zK4 (Ne.symm aA))];exact h.at' x (fun j hj=>hx j (by omega))
 ·by_cases aA:f' k=x
  ·subst aA;rw[has_del_same];exact⟨fun h=>absurd h (by simp),fun h=>absurd rfl (h.2 k (by omega))⟩
  ·rw[has_del_other (zK4 (Ne.symm aA)),h.has x];refine and_congr_right fun _=>⟨fun h j hj=>?_,fun h j hj=>h j (by omega)⟩
   by_cases ej:j=k
   ·subst ej;exact aA
   ·exact h j (by omega)
theorem zFe.no{n m:Nat}{f g f' g':Nat->Int}{k:Nat}{D:DataW Unit}(h:zFe n f g f' k D)(h1:zAF n f g)(h2:zAF m f' g')(hk:k<m){c:Int}(e:D.atKey (zEE (f' k)) (zGI 0)=zGI c)(hc:c≠g' k):¬zFf n f g m f' g':=by
 intro hs;obtain⟨i,hi,e1,e2⟩:=hs.symm.2.2.2 k hk;have:=(h.at' (f' k) (fun j hj=>h2.2.2 k hk j hj)).1 i hi e1;rw[e]at this;exact hc ((zI5 this).trans e2)
theorem zFe.end{n m:Nat}{f g f' g':Nat->Int}{D:DataW Unit}(h:zFe n f g f' m D)(h1:zAF n f g)(h2:zAF m f' g')(aA:∀j,j<m->PIn n f g (f' j) (g' j)):Maps.size D=0↔zFf n f g m f' g':=by
 have hs:=h.size;constructor
 ·intro h0;obtain rfl:m=n:=(by omega);exact zFf.symm ⟨h2,h1,rfl,aA⟩
 ·intro hp;have:=hp.2.2.1;omega
theorem zFe.in{n m:Nat}{f g f' g':Nat->Int}{k:Nat}{D:DataW Unit}(h:zFe n f g f' k D)(h2:zAF m f' g')(hk:k<m)(e:D.atKey (zEE (f' k)) (zGI 0)=zGI (g' k)):PIn n f g (f' k) (g' k):=by
 by_cases hx:∃i,i<n/\f i=f' k
 ·obtain⟨i,hi,ei⟩:=hx;have:=(h.at' (f' k) (fun j hj=>h2.2.2 k hk j hj)).1 i hi ei;rw[e]at this;exact⟨i,hi,ei,(zI5 this).symm⟩
 ·have:=(h.at' (f' k) (fun j hj=>h2.2.2 k hk j hj)).2 (fun i hi e=>hx ⟨i,hi,e⟩);rw[e]at this;have:=zI5 this;have:=(h2.2.1 k hk).2.2.1;omega
def zAc(f g:Nat->Int)(t:Int):Nat->List (Int×Int)
 | 0=>[]
 | k+1=>if t<g k then zAc f g t k ++ [(f k,g k)] else zAc f g t k
def zES(f g:Nat->Int)(t:Int):Nat->List (Int×Int)
 | 0=>[]
 | k+1=>if t<g k then zES f g t k else zES f g t k ++ [(f k,g k)]
theorem zF5(f g:Nat->Int)(t:Int):∀k,(zAc f g t k).length+(zES f g t k).length=k
 | 0=>rfl
 | k+1=>by
  have:=zF5 f g t k;unfold zAc zES;split<;>simp<;>omega
theorem zf{P:Prop}(h:P):Hid P:=h
theorem qi.cellsD{w:World}{lo hi:Nat}{a:Option Addr}{n c:Nat}{f g:Nat->Int}(h:qi w lo hi (.slice a n c) n f g){k:Nat}(hk:k<n):∃b off,a=some ⟨b,off,none⟩/\w.cell? ⟨b,off+k*2,none⟩=some (.int .i64 (f k))/\w.cell? ⟨b,off+k*2+1,none⟩=some (.int .i64 (g k)):=by
 obtain⟨_,a2,c2,hv,_,hx⟩:=h;simp only[Value.slice.injEq,true_and]at hv;obtain⟨rfl,rfl⟩:=hv;obtain⟨b,off,ha,_,_,h3⟩:=hx (by omega);exact⟨b,off,ha,(h3 k hk).1,(h3 k hk).2⟩
theorem zPg(x y:Int)(w:World):Calls Tryz.prog 183 #[.agg #[.int .i64 x,.int .i64 y]] w fun e w'=>zK (zGp x y) e/\Below w.heap.size w w':=by
 have aA:=zD w (.cells #[.int .i64 x,.int .i64 y] 70);by_cases h1:0<=x
 ·by_cases h2:x<200
  ·by_cases h3:zBW y
   ·have H:=zf (show zGp x y from⟨h1,by omega,h3.1,h3.2⟩);have H3:=zf h3;clear h3;go_enter Tryz.func183,Tryz.ntmps183;go_wp2_with (first | (go_at_call 177;refine(zAi y _).mono ?_;rintro e w1 ⟨⟨t,rfl,ht⟩,rfl⟩;obtain rfl:t=true:=ht.2 H3.out;clear ht) | fail);go_wp2;go_ret;exact⟨zK.yes H.out,aA⟩
   ·have H:=zf (show ¬zGp x y from fun h=>h3 ⟨h.2.2.1,h.2.2.2⟩);have H3:=zf h3;clear h3;go_enter Tryz.func183,Tryz.ntmps183;go_wp2_with (first | (go_at_call 177;refine(zAi y _).mono ?_;rintro e w1 ⟨⟨t,rfl,ht⟩,rfl⟩;obtain rfl:t=false:=zAG ht H3.out;clear ht) | fail);go_wp2;go_ret;exact⟨zK.no H.out,aA⟩
  ·go_enter Tryz.func183,Tryz.ntmps183;go_wp2;go_ret;exact⟨zK.no fun h=>by have:=h.2.1;omega,aA⟩
 ·go_enter Tryz.func183,Tryz.ntmps183;go_wp2;go_ret;exact⟨zK.no fun h=>by have:=h.1;omega,aA⟩
theorem zao:Keyed Tryz.prog 2:=int_keyed (q:=.i64) (by kernel_rfl)
theorem zXQ:Tryz.prog.underlying 220=some (.map 2 2):=by kernel_rfl
theorem zYv:Tryz.prog.underlying 2=some (.int .i64):=by kernel_rfl
theorem zb0(w:World):(zeroValue 2).run Tryz.prog w = .ok (.int .i64 0) w:=by kernel_rfl
theorem zNH{x:Int}(h0:0<=x)(h1:x<=1000000):(Lit.int .i64 x).wf=true:=WalkArith.wf_i64 (by omega)
def zVv(w:World)(B n:Nat)(D:DataW Unit):Prop:=w.ownsMap Tryz.prog 2 (plainElem Tryz.prog 2) B n D
theorem zH4(v:Value)(n lo hi:Nat)(f g:Nat->Int)(w:World)(h1:qi w lo hi v n f g)(hn:n<=200)(jA:∀i,i<n->zGp (f i) (g i)) :
  Calls Tryz.prog 182 #[v] w fun e w'=>e = .returned (.map (some w.heap.size))/\zVv w' w.heap.size n (seenD f g n)/\Below w.heap.size w w':=by
 have Hp:=zf h1;have gA:=zf jA;obtain⟨m1,a,c,rfl,mc,_⟩:=id h1;clear h1 jA;have nA:=@run_makeMap Tryz.prog;go_enter Tryz.func182,Tryz.ntmps182;go_wp2
 go_loopw [9] (fun i wr=>∃k:Nat,k<=n/\i = .int .i64 k/\zVv wr w.heap.size k (seenD f g k)/\Below w.heap.size w wr) (fun i _=>n - (intOf i).toNat)
 case atStart=>exact⟨0,Nat.zero_le _,rfl,World.ownsMap_made _ _ _ _,(Below.refl _ _).alloc (Nat.le_refl _) _⟩
 case round=>
  obtain⟨k,hk,rfl,eA,hb⟩:=hrel;have bA:=zf eA;clear eA;by_cases dA:k<n
  ·have mA:(k:Int)<(n:Int):=(by omega);obtain⟨b,off,rfl,q0,q1⟩:=(Hp.out.zb7 hb).cellsD dA;have cA:keyOf Tryz.prog 2 (.int .i64 (f k))=some (zEE (f k)):=keyOf_int_mk zYv (zNH (gA.out k dA).1 (by have:=(gA.out k dA).2.1;omega));have kA:=zNH (x:=g k) (by have:=(gA.out k dA).2.2.1;omega) (gA.out k dA).2.2.2;have iA:=zf cA;have lA:=zf kA;clear cA kA;go_wp2_with (first
    | (at_mapUpdate;refine wpList_mapUpdate_own _ rfl _ _ _ 220 rfl 2 2 zao zXQ _ w.heap.size k _ rfl (bA.out.alloc _) (by unfold maxLen;omega) _ _ _ rfl rfl iA.out _ [] (plainElem_int zYv lA.out) ?_;intro w1 fA aA)
    | go_in)
   go_roundw
   case rel=>exact⟨k+1,by omega,by go_num,fA,(hb.alloc hb.size _).grown aA (by rw[World.size_alloc];have:=hb.size;omega) (fun j hj=>by cases hj;exact Nat.le_refl _)⟩
   case measure=>simp[intOf];omega
  ·obtain rfl:k=n:=(by omega);go_wp2;go_ret;exact⟨rfl,bA.out,hb⟩
theorem zAg(v:Value)(n lo hi:Nat)(f g:Nat->Int)(w:World)(h1:qi w lo hi v n f g) :
  Calls Tryz.prog 172 #[v] w fun e w'=>zK (zAF n f g) e/\Below w.heap.size w w':=by
 have Hp:=zf h1;obtain⟨m1,a,c,rfl,mc,_⟩:=id h1;clear h1;unfold maxLen at m1;by_cases hn:n<=200
 ·have lA:¬(200:Int)<(n:Int):=(by omega);go_enter Tryz.func172,Tryz.ntmps172;go_wp2
  go_loopw [10] (fun i wr=>∃k:Nat,k<=n/\i = .int .i64 k/\(∀i,i<k->zGp (f i) (g i))/\Below w.heap.size w wr) (fun i _=>n - (intOf i).toNat)
  case atStart=>exact⟨0,Nat.zero_le _,rfl,fun j hj=>absurd hj (Nat.not_lt_zero _),Below.refl _ _⟩
  case round=>
   obtain⟨k,hk,rfl,cA,hb⟩:=hrel;have aA:=zf cA;clear cA;by_cases fA:k<n
   ·have kA:(k:Int)<(n:Int):=(by omega);obtain⟨b,off,rfl,q0,q1⟩:=(Hp.out.zb7 hb).cellsD fA;have gA:=zA hb (zD wr (.cells #[.int .i64 (f k),.int .i64 (g k)] 70));go_wp2_with fail;refine(zPg (f k) (g k) _).mono ?_;rintro e w1 ⟨⟨t,rfl,ht⟩,dA⟩;have eA:=zA gA dA;clear dA gA q0 q1;by_cases bA:zGp (f k) (g k)
    ·have Hk:=zf bA;obtain rfl:t=true:=ht.2 bA;clear ht bA;go_wp2;go_roundw
     case rel=>exact⟨k+1,by omega,by go_num,qz fA aA.out Hk.out,eA⟩
     case measure=>simp[intOf];omega
    ·have Hk:=zf bA;obtain rfl:t=false:=zAG ht bA;clear ht bA;go_wp2;go_ret;exact⟨zK.no fun h=>Hk.out (h.2.1 k fA),eA⟩
   ·obtain rfl:k=n:=(by omega);go_wp2_with fail;refine(zH4 _ k lo hi f g _ (Hp.out.zb7 hb) hn aA.out).mono ?_;rintro e w1 ⟨rfl,hm,dA⟩;have eA:=zA hb dA;have Hm:=zf hm;have mA:=zKF f g k;clear hm dA;obtain⟨nA,iA⟩:=mA;have jA:=zf iA;clear iA;go_wp2_with (first
     | (at_len;refine wpList_len_own _ rfl _ 220 rfl 2 2 zXQ _ wr.heap.size k _ rfl Hm.out ?_)
     | go_in)
    go_ret;refine⟨⟨_,rfl,?_⟩,eA⟩;have Ho:=jA.out;have Ha:=aA.out;simp only[beq_iff_eq,Int.natCast_inj];exact Ho.trans ⟨fun h=>⟨hn,Ha,h⟩,fun h=>h.2.2⟩
 ·have lA:(200:Int)<(n:Int):=(by omega);go_enter Tryz.func172,Tryz.ntmps172;go_wp2;go_ret;exact⟨zK.no fun h=>hn h.1,Below.refl _ _⟩
def zHQ(n a b:Int):Prop:=a<=n/\n<=b
end Go.Proofs.YtbplmbafodlboaaGreatDoor
