/- A part of the proof. -/
import Derived.Test.YtbplmbafodlboaaGreatDoorC13
import Derived.Deep.LoopGhost
set_option linter.unusedVariables false
set_option maxRecDepth 20000
set_option maxHeartbeats 4000000
namespace Go.Proofs.YtbplmbafodlboaaGreatDoor
open Go.RowKit
set_option linter.unusedSimpArgs false
set_option maxRecDepth 20000
set_option maxHeartbeats 1600000
attribute [local go_sem] qX List.map_cons List.map_nil Tr.cv yp qD qs qq yo yn ym qp zAu zAw zAv zAr zAt zAs zCF zCH zCG qH zl qI zm qB qA qM yx zi zj qw qG tmpsOf zAf qv qF zAp yv yr yq yu stpP opds opd opdC kap zAG qC zh coreU bin zAb zB0 get put dlO fgt zA8 zA1 zA5 zA6 tyT yj yi Op.operands Call.operands evLoad evLen evStore evAlloc zAa and_true true_and List.append_nil List.nil_append List.cons_append Ret resCv zBs yQ cellM zBV zBw qY StW StR hpT hpO hpV hpA hpL hpC sg nin zB6 bdO tmW obW AvE CsE CvE Av.tup Av.ids Cv.ids inD ObE Ob.ids TrE.refl qE qt qu qJ qK qL zk ze zb yw zBc zB1 zAy evCall argL argOf qh outOb obO yL zy cvO tot Tr.own rid partsOf fillC zW zBU frz frz1 evBuildSlice zc trs Cv.tr evSlice Option.toArray_none Option.toArray_some evMakeSlice evAppend dstOf srcOf zBC zA7 zA4 zA2 zA3 ikT qn qm ql qk RetP RetN zBd qQ evLd evSt evStoreH zAX evAppendM evAppendT tlOf mvOf rowE shp evTake oOf evC evCallP evCallN evCallO unlast zAW zBB zAU argsF zB5 qy pmC varT vT evField evConv dB0 Option.bind_some Option.bind_none Option.map_some Option.map_none Option.isSome_some Option.isSome_none
attribute [local go_sem] yC zX zAg
noncomputable def za5:za:=qZ (fun p:zE=>[poT p.n p.s p.hn p.h]) (fun p=>p.n<=1000000) (fun p=>[iT (roomN p.s p.n:Int)])
theorem zXx(p:zE):za5 [poT p.n p.s p.hn p.h]=some (p.n<=1000000,[iT (roomN p.s p.n:Int)]):=zO (fun l=>zDm (nth l 0 0) (nth l 0 1)) (fun _=>rfl) p
theorem zSt:zp Tryz.prog 132 za5:=by
 refine zR zs (GOk.cons zD1 (zF Tryz.func28 rfl rfl) GOk.nil) zr Tryz.func132 rfl Tryz.ntmps132 Tryz.results132 5 ?_;rintro p hn;replace hn:p.n<=1000000:=hn;refine⟨by simp,?_⟩;simp[go_sem];refine yF (fun k:Nat=>⟨[(1,true,.m false [.p 1 0]),(3,true,.i (roomN p.s k)),(4,true,.i k)],[(1,.var [.s .b 3 p.n (zY .b p.s),.s .b 1 p.hn (qx p.h)])]⟩) (fun k=>p.n - k) (fun k=>k<=p.n) 0 (by simp[go_sem,roomN]) (by simp) ?_;rintro k hk;have hr:=zJf p.s k;simp[go_sem,qN (show k<=1000000000 by omega),qN (show roomN p.s k<=1000000000 by omega),zFM];refine⟨fun hl=>⟨hl,fun h=>⟨k+1,by omega,by omega,by rw[zEC h];rfl,rfl⟩,fun h=>⟨k+1,by omega,by omega,by rw[zEW h],rfl⟩⟩,fun hl=>?_⟩;cases (show k=p.n by omega);rfl
theorem zWQ{fl:Fl}(p:zE)(k:Nat)(s:zM):TrE (.s fl 3 p.n (yK (zY .z p.s) k 0 [.v (.int .i64 s.birth),.s .z 2 s.kn (ptrsT s.ks s.kb),.v (.string s.data)])) (.s fl 3 p.n (zY .z (zBJ p k s).s)):=by
 refine zEF fun i j hi hj=>?_
 by_cases h:i=k
 ·subst h
  match j,hj with
  | 0,_=>simp[yK,zY,zBJ]
  | 1,_=>simp[yK,zY,zBJ]
  | 2,_=>simp[yK,zY,zBJ]
 ·match j,hj with
  | 0,_=>simp[yK,zY,zBJ,h]
  | 1,_=>simp[yK,zY,zBJ,h]
  | 2,_=>simp[yK,zY,zBJ,h]
noncomputable def tk1(p:zE)(s:zM):zE×Int×Int×Bool:=@dite _ (∃i,zBi p.n p.s i) (Classical.propDecidable _) (fun h=>(zBJ p h.choose s,(h.choose:Int),s.birth,true)) (fun _=>(p,0,0,false))
theorem zEw{p:zE}{s:zM}{i:Nat}(h:zBi p.n p.s i):tk1 p s=(zBJ p i s,(i:Int),s.birth,true):=by
 have hx:∃i,zBi p.n p.s i:=⟨i,h⟩;unfold tk1;rw[dif_pos hx,hx.choose_spec.uniq h]
theorem zQC{p:zE}{s:zM}(h:∀i,i<p.n->¬zAA (p.s i)):tk1 p s=(p,0,0,false):=dif_neg fun ⟨i,hi⟩=>h i hi.1 hi.2.1
abbrev poV(p:zE):List Tr:=[.s .o 3 p.n (zY .z p.s),.s .o 1 p.hn (qx p.h)]
abbrev slZ(s:zM):Bool×List Tr:=(true,[.v (.int .i64 s.birth),.s .z 2 s.kn (ptrsT s.ks s.kb),.v (.string s.data)])
noncomputable def zX4:za:=qZ (fun q:zE×zM=>(true,poV q.1) :: [slZ q.2]) (fun q=>q.1.n<=1000000) (fun q=>[poO (tk1 q.1 q.2).1,pT (tk1 q.1 q.2).2.1 (tk1 q.1 q.2).2.2.1,(false,[.v (.bool (tk1 q.1 q.2).2.2.2)])])
theorem zRU(p:zE)(s:zM):zX4 [(true,poV p),slZ s]=some (p.n<=1000000,[poO (tk1 p s).1,pT (tk1 p s).2.1 (tk1 p s).2.2.1,(false,[.v (.bool (tk1 p s).2.2.2)])]):=zO (fun l=>(zDm (nth l 0 0) (nth l 0 1),zJG (nth l 1 0) (nth l 1 1) (nth l 1 2))) (fun _=>rfl) (p,s)
theorem zMV:zBr Tryz.prog 130 zX4:=by
 refine zBa zs (GOk.cons zD1 (zF Tryz.func28 rfl rfl) GOk.nil) zr Tryz.func130 rfl Tryz.ntmps130 Tryz.results130 7 ?_;rintro⟨p,s⟩ hn;replace hn:p.n<=1000000:=hn;refine⟨by simp,?_⟩;simp[go_sem];refine yF (fun k:Nat=>⟨[(6,true,.i k),(4,true,.m false [.p 4 0]),(3,true,.m false [.p 3 0]),(0,true,.m false [.p 0 0])],[(4,.var [.v i0,.v i0]),(3,.var [.v (.int .i64 s.birth),.s .z 2 s.kn (ptrsT s.ks s.kb),.v (.string s.data)]),(0,.var [.h 1000,.h 2000]),(1000,.row 3 p.n (zY .z p.s)),(2000,.row 1 p.hn (qx p.h))]⟩) (fun k=>p.n - k) (fun k=>k<=p.n/\∀i,i<k->¬zAA (p.s i)) 0 (by simp[go_sem]) (by simp) ?_;rintro k ⟨hk,aA⟩;simp[go_sem,qN (show k<=1000000000 by omega),zFM];refine⟨fun hl=>⟨hl,fun h=>?_,fun h=>⟨k+1,⟨by omega,yE hl aA h⟩,by omega,rfl⟩⟩,fun hl=>?_⟩
 ·rw[zEw ⟨hl,h,aA⟩];exact⟨hl,by kernel_rfl,⟨⟨zWQ p k s,zU⟩,TrE.refl _,zd⟩,⟨rfl,rfl⟩,rfl⟩
 ·rw[zQC fun i hi=>aA i (by omega)];exact⟨⟨⟨TrE.refl _,zU⟩,TrE.refl _,zd⟩,⟨rfl,rfl⟩,rfl⟩
def orSp(a b:za):za:=fun l=>match a l with
 | some r=>some r
 | none=>b l
theorem zYM{a b:za}{l:List (Bool×List Tr)}{r:Prop×List (Bool×List Tr)}(h:a l=some r):orSp a b l=some r:=by unfold orSp;rw[h]
theorem zYO{a b:za}{l:List (Bool×List Tr)}{r:Prop×List (Bool×List Tr)}(h:a l=none)(h':b l=some r):orSp a b l=some r:=by unfold orSp;rw[h];exact h'
theorem zOf{ι : Type}{A:ι->List (Bool×List Tr)}{C:ι->Prop}{R:ι->List (Bool×List Tr)}{l:List (Bool×List Tr)}(h:∀x,A x≠l):qZ A C R l=none:=dif_neg fun ⟨x,hx⟩=>h x hx
theorem zYN{P:Program}{f:Nat}{a b:za}(ha:zBr P f a)(hb:zBr P f b):zBr P f (orSp a b):=by
 intro w vs al c rs aA hc;unfold orSp at aA;split at aA
 ·rename_i r hr
  cases aA;exact ha w vs al c rs hr hc
 ·exact hb w vs al c rs aA hc
noncomputable def zTC:za:=qZ (fun q:zE×Int×ByteArray=>(true,poV q.1) :: [(true,[.v (.int .i64 q.2.1),.v n0,.v (.string q.2.2)])]) (fun q=>q.1.n<=1000000) (fun q=>[poO (tk1 q.1 (zBQ q.2.1 q.2.2)).1,pT (tk1 q.1 (zBQ q.2.1 q.2.2)).2.1 (tk1 q.1 (zBQ q.2.1 q.2.2)).2.2.1,(false,[.v (.bool (tk1 q.1 (zBQ q.2.1 q.2.2)).2.2.2)])])
theorem zY5:zBr Tryz.prog 130 zTC:=by
 intro w vs al c rs aA hc E ys ho hy;obtain⟨⟨p,b,d⟩,e,hn,rfl⟩:∃q:zE×Int×ByteArray,(true,poV q.1) :: [(true,[.v (.int .i64 q.2.1),.v n0,.v (.string q.2.2)])]=(true,vs) :: al/\q.1.n<=1000000/\[poO (tk1 q.1 (zBQ q.2.1 q.2.2)).1,pT (tk1 q.1 (zBQ q.2.1 q.2.2)).2.1 (tk1 q.1 (zBQ q.2.1 q.2.2)).2.2.1,(false,[.v (.bool (tk1 q.1 (zBQ q.2.1 q.2.2)).2.2.2)])]=rs:=by
  unfold zTC qZ at aA;split at aA
  ·rename_i hx
   cases aA;exact⟨_,hx.choose_spec,hc,rfl⟩
  ·cases aA
 simp only[List.cons.injEq,Prod.mk.injEq,true_and]at e;obtain⟨rfl,rfl⟩:=e;refine zMV w (poV p) [slZ (zBQ b d)] _ _ (zRU p (zBQ b d)) hn E ys ho ?_;cases hy with
 | cons h1 t=>
  cases t;obtain⟨cs,e,h1⟩:=h1;refine .cons ⟨cs,e,?_⟩ .nil;cases h1 with
  | cons k1 k2=>
   cases k2 with
   | cons k2 k3=>exact .cons k1 (.cons ⟨none,0,k2.1,Nat.le_refl _,fun h0=>absurd h0 (Nat.lt_irrefl _)⟩ k3)
noncomputable def mTk:za:=orSp zX4 zTC
theorem zbJ:zBr Tryz.prog 130 mTk:=zYN zMV zY5
theorem zX5(p:zE)(b:Int)(n:Nat)(ks kb:Nat->Int)(d:ByteArray):mTk [(true,poV p),(true,[.v (.int .i64 b),.s .z 2 n (ptrsT ks kb),.v (.string d)])]=some (p.n<=1000000,[poO (tk1 p ⟨b,n,ks,kb,d⟩).1,pT (tk1 p ⟨b,n,ks,kb,d⟩).2.1 (tk1 p ⟨b,n,ks,kb,d⟩).2.2.1,(false,[.v (.bool (tk1 p ⟨b,n,ks,kb,d⟩).2.2.2)])]):=zYM (zRU p ⟨b,n,ks,kb,d⟩)
theorem zZx(p:zE)(b:Int)(d:ByteArray):mTk [(true,poV p),(true,[.v (.int .i64 b),.v n0,.v (.string d)])]=some (p.n<=1000000,[poO (tk1 p (zBQ b d)).1,pT (tk1 p (zBQ b d)).2.1 (tk1 p (zBQ b d)).2.2.1,(false,[.v (.bool (tk1 p (zBQ b d)).2.2.2)])]):=by
 refine zYO (zOf fun x h=>?_) (zO (fun l=>(zDm (nth l 0 0) (nth l 0 1),qd (nth l 1 0),zDn (nth l 1 2))) (fun _=>rfl) (p,b,d));simp at h
set_option maxRecDepth 20000
set_option maxHeartbeats 1600000
theorem zMT{p:zE}(h:zq p):∀i,i<p.n->(p.s i).kn<=8:=fun i hi=>by
 rcases h.2.1 i hi with h1 | h1
 ·have:=h1.2.1;omega
 ·rcases h1.2 with h2 | h2
  ·omega
  ·omega
abbrev toR(t:zEP):Bool×List Tr:=(true,[.s .o 3 t.pool.n (zY .z t.pool.s),.s .o 1 t.pool.hn (qx t.pool.h),.v (.int .i64 t.rs),.v (.int .i64 t.rb),.s .o 2 t.old.length (ptL t.old),.v (.int .i64 t.code)])
abbrev sT(d:ByteArray):Bool×List Tr:=(false,[.v (.string d)])
theorem qR.upE{w:World}{g:Nat->Bs}:∀{l m:List Tr} {cs:List Value},qR TrE l m->qR (Sh w g) l cs->qR (Sh w g) m cs
 | _,_,_,.nil,h=>by cases h;exact .nil
 | _,_,_,.cons e t,h=>by
  cases h with
  | cons y ty=>exact .cons (y.e e) (qR.upE t ty)
theorem zp.up{P:Program}{f:Nat}{m m2:za}(h:zp P f m)(H:∀al c rs,m2 al=some (c,rs)->∃aA,m aA=some (c,rs)/\qR (fun q q'=>q.1=q'.1/\qR TrE q.2 q'.2) al aA):zp P f m2:=by
 intro w al c rs bA hc g0 ys hg hy;obtain⟨aA,hm,cA⟩:=H al c rs bA;refine h w aA c rs hm hc g0 ys hg ?_;clear bA hm H
 induction cA generalizing ys with
 | nil=>cases hy;exact .nil
 | cons e t ih=>
  cases hy with
  | cons y ty=>
   refine .cons ?_ (ih _ ty)
   rename_i q q' _ _ u _
   obtain⟨q1,q2⟩:=q;obtain⟨r1,r2⟩:=q';obtain⟨e1,e2⟩:=e;cases (show q1=r1 from e1);cases q1
   ·obtain⟨T,hT,hs⟩:=y;cases (show q2 = [T] from hT);cases e2 with
    | cons e2 t2=>cases t2;exact⟨_,rfl,hs.e e2⟩
   ·obtain⟨cs,e,hs⟩:=y;refine⟨cs,e,?_⟩;exact qR.upE e2 hs
theorem zp.upk{P:Program}{f:Nat}{ι κ : Type}{A:ι->List (Bool×List Tr)}{C:ι->Prop}{R:ι->List (Bool×List Tr)}{m:za}(h:zp P f m)(H:∀x,∃aA,m aA=some (C x,R x)/\qR (fun q q'=>q.1=q'.1/\qR TrE q.2 q'.2) (A x) aA):zp P f (qZ A C R):=h.up fun al c rs e=>by
 unfold qZ at e;split at e
 ·rename_i hx
  cases e;obtain⟨aA,h1,h2⟩:=H hx.choose;rw[hx.choose_spec]at h2;exact⟨aA,h1,h2⟩
 ·cases e
def zZs(a b c d e f:Int):Nat->Nat->Tr:=fun p q=>([Tr.v (.int .i64 a),.v (.int .i64 b),.v (.int .i64 c),.v (.int .i64 d),.v (.int .i64 e),.v (.int .i64 f)]:List Tr)[p*2+q]?.getD (.v (.bool false))
def f3(a b c:Int):Nat->Int
 | 0=>a
 | 1=>b
 | _=>c
theorem qe{fl:Fl}{a b c d e f:Int}:(Tr.s fl 2 3 fun p q=>([Tr.v (.int .i64 a),.v (.int .i64 b),.v (.int .i64 c),.v (.int .i64 d),.v (.int .i64 e),.v (.int .i64 f)]:List Tr)[p*2+q]?.getD (.v (.bool false))).lend = .s .b 2 3 (zZs a b c d e f):=by
 simp only[Tr.lend];congr 1;funext p q;simp only[zZs];generalize p*2+q=j
 match j with
 | 0 | 1 | 2 | 3 | 4 | 5=>rfl
 | j+6=>rfl
noncomputable def zay:za:=qZ (fun q:(Int×Int×Int)×Int×Int×Int=>[(false,[.s .b 2 3 (zZs q.1.1 q.2.1 q.1.2.1 q.2.2.1 q.1.2.2 q.2.2.2)])]) (fun q=>(3:Nat)<=1000000) (fun q=>[(false,[.s .o 2 (kidsUp (f3 q.1.1 q.1.2.1 q.1.2.2) (f3 q.2.1 q.2.2.1 q.2.2.2) 3).length (ptL (kidsUp (f3 q.1.1 q.1.2.1 q.1.2.2) (f3 q.2.1 q.2.2.1 q.2.2.2) 3))])])
theorem zRL(a b c d e f:Int):zay [(false,[.s .b 2 3 (zZs a b c d e f)])]=some ((3:Nat)<=1000000,[(false,[.s .o 2 (kidsUp (f3 a c e) (f3 b d f) 3).length (ptL (kidsUp (f3 a c e) (f3 b d f) 3))])]):=zO (fun l=>((qd (zCf (nth l 0 0) 0 0),qd (zCf (nth l 0 0) 1 0),qd (zCf (nth l 0 0) 2 0)),qd (zCf (nth l 0 0) 0 1),qd (zCf (nth l 0 0) 1 1),qd (zCf (nth l 0 0) 2 1))) (fun _=>rfl) ((a,c,e),b,d,f)
theorem zUo:zp Tryz.prog 131 zay:=zOT.upk (κ:=Nat) fun ⟨⟨a,c,e⟩,b,d,f⟩=>⟨_,zUK 3 (f3 a c e) (f3 b d f),.cons ⟨rfl,.cons (zEF fun i j hi hj=>by
 match i,j,hi,hj with
 | 0,0,_,_=>rfl
 | 0,1,_,_=>rfl
 | 1,0,_,_=>rfl
 | 1,1,_,_=>rfl
 | 2,0,_,_=>rfl
 | 2,1,_,_=>rfl) .nil⟩ .nil⟩
theorem zY7{p:zE}{xs xb x:Int}{n:Nat}:zJm (zFK p (zDW p xs xb n) (zDp p xs xb n)) (n % 8) x=zBo p xs xb n 1 x:=rfl
theorem zY9{p:zE}{xs xb x:Int}{n:Nat}:zJm (zFJ p (zDW p xs xb n) (zDp p xs xb n)) (n % 8) x=zBl p xs xb n 1 x:=rfl
theorem zY6{p:zE}{xs xb x:Int}{n:Nat}:zJm (zFK p xs xb) (n / 8) x=zBo p xs xb n 0 x:=rfl
theorem zY8{p:zE}{xs xb x:Int}{n:Nat}:zJm (zFJ p xs xb) (n / 8) x=zBl p xs xb n 0 x:=rfl
attribute [local go_sem] qX List.map_cons List.map_nil Tr.cv yp qD qs qq yo yn ym qp zAu zAw zAv zAr zAt zAs zCF zCH zCG qH zl qI zm qB qA qM yx zi zj qw qG tmpsOf zAf qv qF zAp yv yr yq yu stpP opds opd opdC kap zAG qC zh coreU bin zAb zB0 get put dlO fgt zA8 zA1 zA5 zA6 tyT yj yi Op.operands Call.operands evLoad evLen evStore evAlloc zAa and_true true_and List.append_nil List.nil_append List.cons_append Ret resCv zBs yQ cellM zBV zBw qY StW StR hpT hpO hpV hpA hpL hpC sg nin zB6 bdO tmW obW AvE CsE CvE Av.tup Av.ids Cv.ids inD ObE Ob.ids TrE.refl qE qt qu qJ qK qL zk ze zb yw zBc zB1 zAy evCall argL argOf qh outOb obO yL zy cvO tot Tr.own rid partsOf fillC zW zBU frz frz1 evBuildSlice zc trs Cv.tr evSlice Option.toArray_none Option.toArray_some evMakeSlice evAppend dstOf srcOf zBC zA7 zA4 zA2 zA3 ikT qn qm ql qk RetP RetN zBd qQ evLd evSt evStoreH zAX evAppendM evAppendT tlOf mvOf rowE shp evTake oOf evC evCallP evCallN evCallO unlast zAW zBB zAU argsF zB5 qy pmC varT vT evField evConv dB0 Option.bind_some Option.bind_none Option.map_some Option.map_none Option.isSome_some Option.isSome_none
attribute [local go_sem] yC zX zAg yI qe
noncomputable def mTW:za:=qZ (fun q:(zE×Int×Int)×Int×ByteArray×Int=>[poT q.1.1.n q.1.1.s q.1.1.hn q.1.1.h,pT q.1.2.1 q.1.2.2,iT q.2.1,sT q.2.2.1,iT q.2.2.2]) (fun q=>q.1.1.n<=1000000/\q.1.1.hn<=1000000) (fun q=>[toR (zDH q.1.1 q.1.2.1 q.1.2.2 q.2.1 q.2.2.1 q.2.2.2)])
theorem zbj(p:zE)(xs xb aA:Int)(d:ByteArray)(b:Int):mTW [poT p.n p.s p.hn p.h,pT xs xb,iT aA,sT d,iT b]=some (p.n<=1000000/\p.hn<=1000000,[toR (zDH p xs xb aA d b)]):=zO (fun l=>((zDm (nth l 0 0) (nth l 0 1),qd (nth l 1 0),qd (nth l 1 1)),qd (nth l 2 0),zDn (nth l 3 0),qd (nth l 4 0))) (fun _=>rfl) ((p,xs,xb),aA,d,b)
theorem zPE:zp Tryz.prog 109 mTW:=by
 refine zR zs (GOk.cons zGg (zF Tryz.func51 rfl rfl) (GOk.cons zI7 (zF Tryz.func124 rfl rfl) (GOk.cons zMW (zF Tryz.func125 rfl rfl) (GOk.cons zJV (zF Tryz.func126 rfl rfl) (GOk.cons zMX (zF Tryz.func127 rfl rfl) (GOk.cons zIg (zF Tryz.func128 rfl rfl) (GOk.cons zUo (zF Tryz.func131 rfl rfl) (GOk.cons zSt (zF Tryz.func132 rfl rfl) (GOk.ptrK zbJ (zF Tryz.func130 rfl rfl) GOk.nil))))))))) zr Tryz.func109 rfl Tryz.ntmps109 Tryz.results109 22 ?_;rintro⟨⟨p,xs,xb⟩,bA,d,b⟩ ⟨hn,hm⟩;replace hn:p.n<=1000000:=hn;replace hm:p.hn<=1000000:=hm;refine⟨by simp,?_⟩;by_cases hN:zE6 bA;rotate_left
 ·have gA:(0<=bA/\bA<=63)↔False:=⟨hN,False.elim⟩;simp[go_sem,zLN,zJY,zGk,gA,hn,hm];refine⟨fun h=>?_,fun h0=>⟨fun h=>h,fun h=>?_,fun hT hB=>?_⟩⟩
  ·rw[zNU (by omega)];exact⟨rfl,rfl,rfl,rfl,rfl,rfl⟩
  ·rw[zNT (by omega) fun e=>h.elim (· e.1) (· e.2)];exact⟨rfl,rfl,rfl,rfl,rfl,rfl⟩
  ·rw[zK7 (by omega) ⟨hT,hB⟩ fun e=>hN e.1];exact⟨rfl,rfl,rfl,rfl,rfl,rfl⟩
 obtain⟨n,rfl⟩:=Int.eq_ofNat_of_zero_le hN.1;have aA:n<64:=by have:=hN.2;omega
 simp[go_sem,zLN,zJY,zGk,zXx,zHM,zRM,zX5,zZx,zMj,zRL,hn,hm,zQB aA,zVB];refine⟨fun h=>?_,fun h0=>⟨fun h=>h,fun h=>?_,fun hT hB=>?_⟩⟩
 ·rw[zNU (by omega)];exact⟨rfl,rfl,rfl,rfl,rfl,rfl⟩
 ·rw[zNT (by omega) fun e=>h.elim (· e.1) (· e.2)];exact⟨rfl,rfl,rfl,rfl,rfl,rfl⟩
 refine⟨fun h=>?_,fun iA hd=>⟨fun h=>?_,fun h=>?_⟩⟩
 ·rw[zK7 (by omega) ⟨hT,hB⟩ fun e=>h.elim (fun h=>absurd h (by omega)) (fun h=>h (by exact_mod_cast e.2))];exact⟨rfl,rfl,rfl,rfl,rfl,rfl⟩
 ·rw[zTa hT aA hB (by exact_mod_cast hd) (by exact_mod_cast h)];exact⟨rfl,rfl,rfl,rfl,rfl,rfl⟩
 have cA:d.size=16:=by exact_mod_cast hd
 have hr:3<=roomN p.s p.n:=by exact_mod_cast h
 obtain⟨i0,f0⟩:=zED (f:=p.s) (n:=p.n) (by omega);refine⟨fun i hi=>by have:=zMT hT.1 i hi;omega,⟨hT,aA⟩,?_⟩;have fA:zIM p xs xb:=zP4 hT;have eA:zIM p (zDW p xs xb n) (zDp p xs xb n):=zPn hT (by omega);have q0:roomN (zB3 p b d i0).s p.n+1=roomN p.s p.n:=zHv (s:=zBQ b d) f0 (zDx hB.1 cA);obtain⟨i1,f1⟩:=zED (f:=(zB3 p b d i0).s) (n:=p.n) (by omega);have q1:roomN (zGB p xs xb n b d i0 i1).s p.n+1=roomN (zB3 p b d i0).s p.n:=zHv (p:=zB3 p b d i0) f1 (zFL hT aA hB f0);obtain⟨i2,f2⟩:=zED (f:=(zGB p xs xb n b d i0 i1).s) (n:=p.n) (by omega);have t0:tk1 p (zBQ b d)=(zB3 p b d i0,(i0:Int),b,true):=zEw f0;have t1:tk1 (zB3 p b d i0) ⟨b,8,zBo p xs xb n 1 (i0:Int),zBl p xs xb n 1 b,⟨#[]⟩⟩=(zGB p xs xb n b d i0 i1,(i1:Int),b,true):=zEw f1;have t2:tk1 (zGB p xs xb n b d i0 i1) ⟨b,8,zBo p xs xb n 0 (i1:Int),zBl p xs xb n 0 b,⟨#[]⟩⟩=(zYe p xs xb n b d i0 i1 i2,(i2:Int),b,true):=zEw f2;have e8:((n:Int) % 8).toNat=n % 8:=by omega
 have dA:((n:Int) / 8).toNat=n / 8:=by omega
 simp only[e8,dA,t0,t1,t2,zY7,zY9,zY6,zY8];rw[zZE hT aA hB cA f0 f1 f2];refine⟨eA,by omega,by omega,hn,fA,by omega,by omega,hn,?_⟩;have eO:zTJ p xs xb n 3=kidsUp (f3 (zFO p xs xb n) (zDW p xs xb n) xs) (f3 (zFf p xs xb n) (zDp p xs xb n) xb) 3:=rfl;rw[eO];exact⟨by kernel_rfl,⟨TrE.refl _,zU⟩,⟨TrE.refl _,zd⟩,rfl,rfl,⟨TrE.refl _,zDK⟩,rfl⟩
set_option maxRecDepth 20000
set_option maxHeartbeats 1600000
theorem zSq{f g:Nat->Int}:kidsUp f g 8 = []↔zEZ f g:=by
 rw[<-List.length_eq_zero_iff,<-Classical.not_not (a:=zEZ f g),<-zYy,<-zGf];omega
theorem zaT{p:zE}{xs xb x y:Int}{n:Nat}:zJm (zBo p xs xb n 0 x) (n / 8) y=zBo p xs xb n 0 y:=by
 funext i;unfold zJm zBo;show(if i=n / 8 then y else if i=n / 8 then x else _)=if i=n / 8 then y else _
 by_cases h:i=n / 8<;>simp[h]
theorem zaU{p:zE}{xs xb x y:Int}{n:Nat}:zJm (zBl p xs xb n 0 x) (n / 8) y=zBl p xs xb n 0 y:=by
 funext i;unfold zJm zBl;show(if i=n / 8 then y else if i=n / 8 then x else _)=if i=n / 8 then y else _
 by_cases h:i=n / 8<;>simp[h]
theorem zF4{f:Nat->zM}:∀{n j:Nat},j<n->zAA (f j)->∃i,zBi n f i
 | 0,j,h,_=>absurd h (Nat.not_lt_zero _)
 | n+1,j,h,hf=>by
  by_cases hx:∃k,k<n/\zAA (f k)
  ·obtain⟨k,hk,aA⟩:=hx;obtain⟨i,h1,h2,h3⟩:=zF4 hk aA;exact⟨i,by omega,h2,h3⟩
  ·have:j=n:=Classical.byContradiction fun e=>hx ⟨j,by omega,hf⟩
   subst this;exact⟨j,h,hf,fun k hk aA=>hx ⟨k,hk,aA⟩⟩
attribute [local go_sem] qX List.map_cons List.map_nil Tr.cv yp qD qs qq yo yn ym qp zAu zAw zAv zAr zAt zAs zCF zCH zCG qH zl qI zm qB qA qM yx zi zj qw qG tmpsOf zAf qv qF zAp yv yr yq yu stpP opds opd opdC kap zAG qC zh coreU bin zAb zB0 get put dlO fgt zA8 zA1 zA5 zA6 tyT yj yi Op.operands Call.operands evLoad evLen evStore evAlloc zAa and_true true_and List.append_nil List.nil_append List.cons_append Ret resCv zBs yQ cellM zBV zBw qY StW StR hpT hpO hpV hpA hpL hpC sg nin zB6 bdO tmW obW AvE CsE CvE Av.tup Av.ids Cv.ids inD ObE Ob.ids TrE.refl qE qt qu qJ qK qL zk ze zb yw zBc zB1 zAy evCall argL argOf qh outOb obO yL zy cvO tot Tr.own rid partsOf fillC zW zBU frz frz1 evBuildSlice zc trs Cv.tr evSlice Option.toArray_none Option.toArray_some evMakeSlice evAppend dstOf srcOf zBC zA7 zA4 zA2 zA3 ikT qn qm ql qk RetP RetN zBd qQ evLd evSt evStoreH zAX evAppendM evAppendT tlOf mvOf rowE shp evTake oOf evC evCallP evCallN evCallO unlast zAW zBB zAU argsF zB5 qy pmC varT vT evField evConv dB0 Option.bind_some Option.bind_none Option.map_some Option.map_none Option.isSome_some Option.isSome_none
attribute [local go_sem] yC zX zAg yI qe
noncomputable def mTT:za:=qZ (fun q:(zE×Int×Int)×Int×Int=>[poT q.1.1.n q.1.1.s q.1.1.hn q.1.1.h,pT q.1.2.1 q.1.2.2,iT q.2.1,iT q.2.2]) (fun q=>q.1.1.n<=1000000/\q.1.1.hn<=1000000) (fun q=>[toR (zGx q.1.1 q.1.2.1 q.1.2.2 q.2.1 q.2.2)])
theorem zbi(p:zE)(xs xb aA:Int)(b:Int):mTT [poT p.n p.s p.hn p.h,pT xs xb,iT aA,iT b]=some (p.n<=1000000/\p.hn<=1000000,[toR (zGx p xs xb aA b)]):=zO (fun l=>((zDm (nth l 0 0) (nth l 0 1),qd (nth l 1 0),qd (nth l 1 1)),qd (nth l 2 0),qd (nth l 3 0))) (fun _=>rfl) ((p,xs,xb),aA,b)
theorem zQO:zp Tryz.prog 103 mTT:=by
 refine zR zs (GOk.cons zGg (zF Tryz.func51 rfl rfl) (GOk.cons zI7 (zF Tryz.func124 rfl rfl) (GOk.cons zMW (zF Tryz.func125 rfl rfl) (GOk.cons zJV (zF Tryz.func126 rfl rfl) (GOk.cons zMX (zF Tryz.func127 rfl rfl) (GOk.cons zIg (zF Tryz.func128 rfl rfl) (GOk.cons zUo (zF Tryz.func131 rfl rfl) (GOk.cons zSw (zF Tryz.func129 rfl rfl) (GOk.cons zD2 (zF Tryz.func95 rfl rfl) (GOk.ptrK zbJ (zF Tryz.func130 rfl rfl) GOk.nil)))))))))) zr Tryz.func103 rfl Tryz.ntmps103 Tryz.results103 22 ?_;rintro⟨⟨p,xs,xb⟩,bA,b⟩ ⟨hn,hm⟩;replace hn:p.n<=1000000:=hn;replace hm:p.hn<=1000000:=hm;refine⟨by simp,?_⟩;by_cases hN:zE6 bA;rotate_left
 ·have gA:(0<=bA/\bA<=63)↔False:=⟨hN,False.elim⟩;simp[go_sem,zLN,zJY,zGk,gA,hn,hm];refine⟨fun h=>h,fun h=>?_,fun hT hB=>?_⟩
  ·rw[zOu fun e=>h.elim (· e.1) (· e.2)];exact⟨rfl,rfl,rfl,rfl,rfl,rfl⟩
  ·rw[zTW ⟨hT,hB⟩ hN];exact⟨rfl,rfl,rfl,rfl,rfl,rfl⟩
 obtain⟨n,rfl⟩:=Int.eq_ofNat_of_zero_le hN.1;have aA:n<64:=by have:=hN.2;omega
 have e8:((n:Int) % 8).toNat=n % 8:=by omega
 have eA:((n:Int) / 8).toNat=n / 8:=by omega
 simp[go_sem,zLN,zJY,zGk,zHM,zRM,zX5,zMj,zRL,zXz,zC2,hn,hm,zQB aA,zVB,e8,eA,zY7,zY9,zY6,zY8,zSq];refine⟨fun h=>h,fun h=>?_,fun hT hB=>⟨fun h=>absurd h (by omega),fun _=>?_⟩⟩
 ·rw[zOu fun e=>h.elim (· e.1) (· e.2)];exact⟨rfl,rfl,rfl,rfl,rfl,rfl⟩
 refine⟨⟨hT,aA⟩,fun g h=>?_,fun hP=>⟨fun i hi=>by have:=zMT hT.1 i hi;omega,zPn hT (by omega),by omega,by omega,zP4 hT,by omega,by omega,fun hL=>?_,fun hL=>?_⟩⟩
 ·rw[zWX ⟨hT,hB⟩ hN ⟨g,h⟩];exact⟨rfl,rfl,rfl,rfl,rfl,rfl⟩
 ·rw[zR7 ⟨hT,hB⟩ hN fun e=>hP e.1 e.2,Int.toNat_natCast];refine⟨by omega,by omega,?_⟩;simp only[zaT,zaU];by_cases hx:∃i,zBi p.n p.s i
  ·obtain⟨i,hi⟩:=hx;have t1:tk1 p ⟨b,8,zBo p xs xb n 1 0,zBl p xs xb n 1 0,⟨#[]⟩⟩=(zBJ p i (zBx (zBo p xs xb n 1 0) (zBl p xs xb n 1 0) b),(i:Int),b,true):=zEw hi;have fA:zDZ p (zBx (zBo p xs xb n 1 0) (zBl p xs xb n 1 0) b):=zFH hT aA (by omega) hB (fun s t h=>h) (Or.inl ⟨rfl,rfl⟩);have hl:=zct hT aA hB hL hi;have hR:zq (zBJ p i (zBx (zBo p xs xb n 1 0) (zBl p xs xb n 1 0) b)):=zKD hT.1 hi fA;have hF:zDZ (zBJ p i (zBx (zBo p xs xb n 1 0) (zBl p xs xb n 1 0) b)) (zBx (zBo p xs xb n 0 (i:Int)) (zBl p xs xb n 0 b) b):=zFH hT aA (by omega) hB (fun s t h=>zFQ hi.2.1 h) (Or.inr ⟨zIk hi hB.1.1,Int.le_refl _⟩);simp only[t1];refine⟨fun hA=>?_,fun hA _=>⟨fun h=>by simp at h,fun _=>?_⟩⟩
   ·replace hA:¬zEZ (zBo p xs xb n 0 (i:Int)) (zBl p xs xb n 0 b):=hA.resolve_right (by simp);refine⟨hn,fun h=>?_,fun _ h=>?_⟩
    ·rw[zOv hl hA hR hF fun j hj hf=>?_]
     ·exact⟨rfl,rfl,rfl,rfl,rfl,rfl⟩
     ·obtain⟨j',cA⟩:=zF4 (f:=(zBJ p i (zBx (zBo p xs xb n 1 0) (zBl p xs xb n 1 0) b)).s) hj hf;rw[show tk1 _ _=_ from zEw cA]at h;simp at h
    ·by_cases hy:∃j,zBi p.n (zBJ p i (zBx (zBo p xs xb n 1 0) (zBl p xs xb n 1 0) b)).s j
     ·obtain⟨j,hj⟩:=hy;have t2:tk1 (zBJ p i (zBx (zBo p xs xb n 1 0) (zBl p xs xb n 1 0) b)) ⟨b,8,zBo p xs xb n 0 (i:Int),zBl p xs xb n 0 b,⟨#[]⟩⟩=(zBJ (zBJ p i (zBx (zBo p xs xb n 1 0) (zBl p xs xb n 1 0) b)) j (zBx (zBo p xs xb n 0 (i:Int)) (zBl p xs xb n 0 b) b),(j:Int),b,true):=zEw hj;simp only[t2];rw[zR8 hl hA hR hF hj];exact⟨by kernel_rfl,⟨TrE.refl _,zU⟩,⟨TrE.refl _,zd⟩,rfl,rfl,⟨TrE.refl _,zDK⟩,rfl⟩
     ·rw[zQC (p:=zBJ p i (zBx (zBo p xs xb n 1 0) (zBl p xs xb n 1 0) b)) fun j hj hf=>hy (zF4 hj hf)]at h;simp at h
   ·rw[zR6 hl hA];exact⟨by kernel_rfl,⟨TrE.refl _,zU⟩,⟨TrE.refl _,zd⟩,rfl,rfl,⟨TrE.refl _,zDK⟩,rfl⟩
  ·have dA:∀j,j<p.n->¬zAA (p.s j):=fun j hj hf=>hx (zF4 hj hf)
   simp only[zQC dA];rw[zXc hT aA hB hL dA];exact⟨fun _=>⟨hn,fun _=>⟨rfl,rfl,rfl,rfl,rfl,rfl⟩,fun h=>by simp at h⟩,fun _ h=>by simp at h⟩
 ·rw[zR7 ⟨hT,hB⟩ hN fun e=>hP e.1 e.2,Int.toNat_natCast];have hl:=zcr (xs:=xs) (xb:=xb) (b:=b) hL;have hF:zDZ p (zBx (zBo p xs xb n 0 0) (zBl p xs xb n 0 0) b):=zFH hT aA (by omega) hB (fun s t h=>h) (Or.inl ⟨rfl,rfl⟩);refine⟨fun hA=>⟨fun h=>?_,fun h=>?_⟩,fun hA=>?_⟩
  ·rw[zOv hl hA hT.1 hF fun j hj hf=>?_]
   ·exact⟨rfl,rfl,rfl,rfl,rfl,rfl⟩
   ·obtain⟨j',cA⟩:=zF4 hj hf;rw[zEw cA]at h;simp at h
  ·by_cases hy:∃j,zBi p.n p.s j
   ·obtain⟨j,hj⟩:=hy;have t2:tk1 p ⟨b,8,zBo p xs xb n 0 0,zBl p xs xb n 0 0,⟨#[]⟩⟩=(zBJ p j (zBx (zBo p xs xb n 0 0) (zBl p xs xb n 0 0) b),(j:Int),b,true):=zEw hj;simp only[t2];rw[zR8 hl hA hT.1 hF hj];exact⟨by kernel_rfl,⟨TrE.refl _,zU⟩,⟨TrE.refl _,zd⟩,rfl,rfl,⟨TrE.refl _,zDK⟩,rfl⟩
   ·rw[zQC fun j hj hf=>hy (zF4 hj hf)]at h;simp at h
  ·rw[zR6 hl hA];exact⟨by kernel_rfl,⟨TrE.refl _,zU⟩,⟨TrE.refl _,zd⟩,rfl,rfl,⟨TrE.refl _,zDK⟩,rfl⟩
open Classical in
noncomputable def zAB(s:zM)(hn:Nat)(h:Nat->Int)(k:Nat)(j:Nat):Int:=if j / 2<k/\Has hn h (zQ s (j / 2*2))then 0 else zQ s j
theorem zVh(s:zM)(hn:Nat)(h:Nat->Int):zAB s hn h 0=zQ s:=by
 funext j;exact if_neg (fun e=>absurd e.1 (Nat.not_lt_zero _))
theorem zZn{s:zM}{hn:Nat}{h:Nat->Int}{k:Nat}(hk:¬Has hn h (zQ s (k*2))):zAB s hn h (k+1)=zAB s hn h k:=by
 funext j;have e:(j / 2<k+1/\Has hn h (zQ s (j / 2*2)))↔(j / 2<k/\Has hn h (zQ s (j / 2*2))):=by
  refine⟨fun x=>⟨?_,x.2⟩,fun x=>⟨by omega,x.2⟩⟩;by_cases e3:j / 2=k
  ·exact absurd (e3▸x.2) hk
  ·omega
 unfold zAB;by_cases c:j / 2<k/\Has hn h (zQ s (j / 2*2))
 ·rw[if_pos (e.2 c),if_pos c]
 ·rw[if_neg (fun x=>c (e.1 x)),if_neg c]
theorem zXW{s:zM}{hn:Nat}{h:Nat->Int}{k:Nat}(hk:Has hn h (zQ s (k*2))):zAB s hn h (k+1)=fun j=>if j=k*2 then 0 else if j=k*2+1 then 0 else zAB s hn h k j:=by
 funext j;by_cases e3:j / 2=k
 ·have e0:zAB s hn h (k+1) j=0:=if_pos ⟨by omega,by rw[e3];exact hk⟩;rw[e0];by_cases e4:j=k*2
  ·rw[if_pos e4]
  ·rw[if_neg e4,if_pos (by omega)]
 ·have e5:¬j=k*2:=(by omega);have e6:¬j=k*2+1:=(by omega);have e:(j / 2<k+1/\Has hn h (zQ s (j / 2*2)))↔(j / 2<k/\Has hn h (zQ s (j / 2*2))):=⟨fun x=>⟨by omega,x.2⟩,fun x=>⟨by omega,x.2⟩⟩;show zAB s hn h (k+1) j=if j=k*2 then 0 else if j=k*2+1 then 0 else zAB s hn h k j
  rw[if_neg e5,if_neg e6];unfold zAB;by_cases c:j / 2<k/\Has hn h (zQ s (j / 2*2))
  ·rw[if_pos (e.2 c),if_pos c]
  ·rw[if_neg (fun x=>c (e.1 x)),if_neg c]
theorem zJT(v0 v1 v2 hv:Value)(lo hi pA nA:Nat)(s:zM)(hn:Nat)(h:Nat->Int)(w:World)(h1:zBp w lo hi v0 v1 v2 s)(hk:s.kn=0\/s.kn=8)(h2:zCE w pA nA hv hn h) :
  Calls Tryz.prog 205 #[.agg #[v0,v1,v2],hv] w fun e w'=>e = .returned (.agg (yf (zAB s hn h 8)))/\Below w.heap.size w w':=by
 have Hs:=yH h1;have Hh:=yH h2;obtain⟨rfl,⟨m1,a,c,rfl,mc,g1⟩,rfl,m2⟩:=h1;obtain⟨m3,a',c',rfl,tA,g2⟩:=h2;have Hk:Hid (s.kn=0\/s.kn=8):=hk;clear g1 g2 hk;go_enter Tryz.func205,Tryz.ntmps205;go_wp2_with fail;have eA:=zA (zD w (.cells #[.int .i64 s.birth,.slice a s.kn c,.string s.data] 58)) (zD _ (.cells #[Value.int .i64 0,Value.int .i64 0,Value.int .i64 0,Value.int .i64 0,Value.int .i64 0,Value.int .i64 0,Value.int .i64 0,Value.int .i64 0,Value.int .i64 0,Value.int .i64 0,Value.int .i64 0,Value.int .i64 0,Value.int .i64 0,Value.int .i64 0,Value.int .i64 0,Value.int .i64 0] 215));refine(zD0 _ _ _ lo hi s _ (Hs.out.zcw eA) Hk.out).mono ?_;rintro e w1 ⟨rfl,fA⟩;have lA:=zA eA fA;have HR:Hid (w1.heap[w.heap.size+1]?=some (.cells (yf fun _=>0) 215 (0,0))):=by
  have e:=fA.block (w.heap.size+1) (by simp);have e2:=heap_alloc_last (w.alloc (.cells #[.int .i64 s.birth,.slice a s.kn c,.string s.data] 58)) (.cells #[Value.int .i64 0,Value.int .i64 0,Value.int .i64 0,Value.int .i64 0,Value.int .i64 0,Value.int .i64 0,Value.int .i64 0,Value.int .i64 0,Value.int .i64 0,Value.int .i64 0,Value.int .i64 0,Value.int .i64 0,Value.int .i64 0,Value.int .i64 0,Value.int .i64 0,Value.int .i64 0] 215);rw[World.size_alloc]at e2;exact e.trans e2
 have sA:w.heap.size+1<w1.heap.size:=(Array.getElem?_eq_some_iff.1 HR.out).1;have bA:Hid ((Tryz.prog.info? 215).map (·.size)=some (yU s).size):=by
  show _=_;rw[yU,yk];exact zGe
 clear eA fA;go_wp2_with (first
  | (refine wpList_store_row rfl 215 (.tmp 5) (.tmp 9) rfl w1.heap.size (yU s) rfl rfl 215 #[Value.int .i64 0,Value.int .i64 0,Value.int .i64 0,Value.int .i64 0,Value.int .i64 0,Value.int .i64 0,Value.int .i64 0,Value.int .i64 0,Value.int .i64 0,Value.int .i64 0,Value.int .i64 0,Value.int .i64 0,Value.int .i64 0,Value.int .i64 0,Value.int .i64 0,Value.int .i64 0] (heap_alloc_last _ _) bA.out (by rw[yU,yk];rfl) (zDT _) ?_;rw[World.setRow_alloc_new])
  | (refine wpList_load_row rfl 215 (.tmp 5) rfl w1.heap.size rfl 215 (yU s) (0,0) _ ?hh zLj rfl bA.out ?_;(exact heap_alloc_last _ _)))
 go_loopw [6,7,11] (fun _ _ i wr=>∃(k:Nat),k<=8/\i = .int .i64 k/\wr.heap[w1.heap.size]?=some (.cells (yf (zAB s hn h k)) 215 (0,0))/\Below w1.heap.size w1 wr) (fun _ _ i _=>8 - (intOf i).toNat)
 case atStart=>
  refine⟨0,Nat.zero_le _,rfl,?_,zD _ _⟩;rw[zVh];exact heap_alloc_last _ _
 case round=>
  obtain⟨k,hk,rfl,hK,hb⟩:=hrel;have HK:Hid (wr.heap[w1.heap.size]?=some (.cells (yf (zAB s hn h k)) 215 (0,0))):=hK;clear hK;have iA:w1.heap.size<wr.heap.size:=(Array.getElem?_eq_some_iff.1 HK.out).1;by_cases oA:k<8
  ·have rA:(k:Int)<8:=(by omega);have gA:∀w,(Instr.index 215 (.agg (yU s)) (.int .i64 (k:Int))).run Tryz.prog w = .ok (.agg #[.int .i64 (zQ s (k*2)),.int .i64 (zQ s (k*2+1))]) w:=fun w=>zON (zQ s) k oA w
   go_wp2_with fail;have dA:=zD wr (.cells #[.int .i64 (zQ s (k*2)),.int .i64 (zQ s (k*2+1))] 70);refine(zCW _ hn pA nA h _ _ (Hh.out.zcw (zA (zA lA hb) dA))).mono ?_;rintro e w2 ⟨⟨t,rfl,ht⟩,jA⟩;have cA:Hid (w2.heap[w1.heap.size]?=some (.cells (yf (zAB s hn h k)) 215 (0,0))):=(by rw[jA];exact(dA.block _ iA).trans HK.out);have mA:Below w1.heap.size w1 w2:=(by rw[jA];exact zA hb dA);clear dA gA HK jA;by_cases hH:Has hn h (zQ s (k*2))
   ·obtain rfl:t=true:=ht.2 hH;have HH:=yH hH;clear ht hH;obtain⟨y0,y1⟩:=zG (i:=k*2) cA.out (zCu _ (by omega));obtain⟨y2,y3⟩:=zG (i:=k*2+1) cA.out (zCu _ (by omega));go_wp2;go_roundw
    case rel=>
     refine⟨k+1,by omega,by go_num,?_,(mA.setCell (Nat.le_refl _) _).setCell (Nat.le_refl _) _⟩;have:=zDO (o:=k*2+1) (.int .i64 0) (zDO (o:=k*2) (.int .i64 0) cA.out);rw[zNy _ k oA]at this;rw[zXW HH.out];exact this
    case measure=>simp[intOf];omega
   ·obtain rfl:t=false:=yy ht hH;have HH:=yH hH;clear ht hH;go_wp2;go_roundw
    case rel=>
     refine⟨k+1,by omega,by go_num,?_,mA⟩;rw[zZn HH.out];exact cA.out
    case measure=>simp[intOf];omega
  ·obtain rfl:k=8:=(by omega);have kA:Hid (wr.heap[w.heap.size+1]?=some (.cells (yf fun _=>0) 215 (0,0))):=(hb.block _ sA).trans HR.out;have aA:Hid ((Tryz.prog.info? 215).map (·.size)=some (yf (zAB s hn h 8)).size):=by
    show _=_;rw[yk];exact zGe
   go_wp2_with (first
    | (refine wpList_load_row rfl 215 (.tmp 5) rfl w1.heap.size rfl 215 (yf (zAB s hn h 8)) (0,0) _ HK.out zLj rfl aA.out ?_)
    | (refine wpList_store_row rfl 215 (.tmp 4) (.tmp 23) rfl (w.heap.size+1) (yf (zAB s hn h 8)) rfl rfl 215 (yf fun _=>0) kA.out aA.out (by rw[yk,yk]) (zDT _) ?_))
   refine bodyPost_ret (v:=.agg (yf (zAB s hn h 8))) (results_cell_row (P:=Tryz.prog) (ty:=215) Tryz.results205 _ _ (w.heap.size+1) 215 (yf (zAB s hn h 8)) (0,0) _ rfl (setRow_heap _ _ _ _ _ _ kA.out) zLj rfl aA.out) rfl ⟨rfl,?_⟩;exact below_setRow (zA lA hb) (by omega) _
def zLJ(p:zE)(i:Nat):Prop:=¬Has p.hn p.h (i:Int)/\zJI (zQ (p.s i)) (zAB (p.s i) p.hn p.h 8)=false
def zSI(p:zE):Prop:=∃i,i<p.n/\zLJ p i
theorem zMG(v0 v1:Value)(lo hi:Nat)(p:zE)(w:World)(h1:zCV w lo hi v0 v1 p)(pA:∀i,i<p.n->(p.s i).kn=0\/(p.s i).kn=8) :
  Calls Tryz.prog 204 #[.agg #[v0,v1]] w fun e w'=>zL (zSI p) e/\Below w.heap.size w w':=by
 have Hp:=yH h1;obtain⟨⟨m1,a,c,rfl,mc,g1⟩,⟨m2,a',c',rfl,sA,g2⟩⟩:=h1;unfold maxLen at m1 m2;have kA:=yH pA;clear g1 g2 pA;go_enter Tryz.func204,Tryz.ntmps204;go_wp2
 go_loopw [3,4,8] (fun _ _ i wr=>∃k:Nat,k<=p.n/\i = .int .i64 k/\(∀j,j<k->¬zLJ p j)/\zAZ wr w.heap.size (.slice a p.n c) (.slice a' p.hn c')/\Below w.heap.size w wr) (fun _ _ i _=>p.n - (intOf i).toNat)
 case atStart=>exact⟨0,Nat.zero_le _,rfl,fun j hj=>absurd hj (Nat.not_lt_zero _),zAZ.new _ _ _ _,zD _ _⟩
 case round=>
  obtain⟨k,hk,rfl,jA,hx,hb⟩:=hrel;have Hx:=yH hx;have gA:=yH jA;clear hx jA;by_cases fA:k<p.n
  ·have rA:(k:Int)<(p.n:Int):=(by omega);obtain⟨b,off,ka,kc,rfl,hs⟩:=(Hp.out.1.zcw hb).cells fA;have Hs:=yH hs;obtain⟨q0,q1,q2,_⟩:=hs;go_wp2_with fail;have lA:=zD wr (.cells #[.int .i64 (p.s k).birth,.slice ka (p.s k).kn kc,.string (p.s k).data] 58);have cA:=yH (zDP.new wr (.int .i64 (p.s k).birth) (.slice ka (p.s k).kn kc) (.string (p.s k).data) 58);have eA:=yH (Hx.out.zcw lA);have iA:=yH (Hs.out.slot.zcw lA);have dA:=zA hb lA;generalize wr.alloc (.cells #[.int .i64 (p.s k).birth,.slice ka (p.s k).kn kc,.string (p.s k).data] 58)=W at cA eA iA dA ⊢;generalize wr.heap.size=B at cA ⊢;clear q0 q1 q2 Hs Hx lA hb;obtain⟨⟨x0,x1⟩,⟨x2,x3⟩⟩:=eA.out;obtain⟨⟨y0,y1⟩,⟨y2,y3⟩,⟨y4,y5⟩⟩:=cA.out;by_cases hH:Has p.hn p.h (k:Int)
   ·have HH:=yH hH;clear hH
    go_quiet ((go_at_call 160;refine Calls.quiet_of_same (v:=.bool true) ((zCW _ p.hn lo hi p.h _ _ (Hp.out.2.zcw (zAe dA _))).mono ?_);rintro e w2 ⟨⟨t,rfl,ht⟩,rfl⟩;obtain rfl:t=true:=ht.2 HH.out;exact⟨rfl,rfl⟩))
    go_wp2;go_roundw
    case rel=>exact⟨k+1,by omega,by go_num,yE fA gA.out (fun h=>h.1 HH.out),eA.out.zcw (zAe (Below.refl _ _) _),zAe dA _⟩
    case measure=>simp[intOf];omega
   ·have HH:=yH hH;clear hH;cases he:zJI (zQ (p.s k)) (zAB (p.s k) p.hn p.h 8)with
    | true=>
     have oA:∀w,(binOp .neq 215 (.agg (yU (p.s k))) (.agg (yf (zAB (p.s k) p.hn p.h 8)))).run Tryz.prog w = .ok (.bool false) w:=fun w=>by
      have e:=zUX (zQ (p.s k)) (zAB (p.s k) p.hn p.h 8) w;rw[he]at e;exact e
     have HE:=yH he;clear he;go_region_held3 (fun w'=>w'.cell? ⟨w.heap.size,1,none⟩=some (.slice a' p.hn c')/\w'.cell? ⟨B,0,none⟩=some (.int .i64 (p.s k).birth)/\w'.cell? ⟨B,1,none⟩=some (.slice ka (p.s k).kn kc)/\w'.cell? ⟨B,2,none⟩=some (.string (p.s k).data)) (go_keep)
      (first
       | (go_at_call 160;refine(zCW _ p.hn lo hi p.h _ _ ?_).mono ?_;(exact Hp.out.2.zcw dA.drew);rintro e w2 ⟨⟨t,rfl,ht⟩,rfl⟩;obtain rfl:t=false:=yy ht HH.out;clear ht)
       | (go_at_call 178;refine(zD0 _ _ _ lo hi (p.s k) _ ?_ (kA.out k fA)).mono ?_;(exact iA.out.zcw (Below.refl _ _).drew);rintro e w3 ⟨rfl,mA⟩;have aA:=qU mA;have z0:=(eA.out.zcw aA).2.1;have z1:=(cA.out.zcw aA).1.1;have z2:=(cA.out.zcw aA).2.1.1;have z3:=(cA.out.zcw aA).2.2.1)
       | (go_at_call 205;refine(zJT _ _ _ _ lo hi lo hi (p.s k) p.hn p.h _ ?_ (kA.out k fA) ?_).mono ?_;(exact iA.out.zcw aA);(exact Hp.out.2.zcw (zA dA aA));rintro e w4 ⟨rfl,nA⟩;have bA:=zA aA nA;have z4:=(eA.out.zcw bA).2.1;have z5:=(cA.out.zcw bA).1.1;have z6:=(cA.out.zcw bA).2.1.1;have z7:=(cA.out.zcw bA).2.2.1))
     go_wp2;go_roundw
     case rel=>exact⟨k+1,by omega,by go_num,yE fA gA.out (fun h=>by have:=h.2;rw[HE.out]at this;cases this),eA.out.zcw bA,zA dA bA⟩
     case measure=>simp[intOf];omega
    | false=>
     have oA:∀w,(binOp .neq 215 (.agg (yU (p.s k))) (.agg (yf (zAB (p.s k) p.hn p.h 8)))).run Tryz.prog w = .ok (.bool true) w:=fun w=>by
      have e:=zUX (zQ (p.s k)) (zAB (p.s k) p.hn p.h 8) w;rw[he]at e;exact e
     have HE:=yH he;clear he;go_region_held3 (fun w'=>w'.cell? ⟨w.heap.size,1,none⟩=some (.slice a' p.hn c')/\w'.cell? ⟨B,0,none⟩=some (.int .i64 (p.s k).birth)/\w'.cell? ⟨B,1,none⟩=some (.slice ka (p.s k).kn kc)/\w'.cell? ⟨B,2,none⟩=some (.string (p.s k).data)) (go_keep)
      (first
       | (go_at_call 160;refine(zCW _ p.hn lo hi p.h _ _ ?_).mono ?_;(exact Hp.out.2.zcw dA.drew);rintro e w2 ⟨⟨t,rfl,ht⟩,rfl⟩;obtain rfl:t=false:=yy ht HH.out;clear ht)
       | (go_at_call 178;refine(zD0 _ _ _ lo hi (p.s k) _ ?_ (kA.out k fA)).mono ?_;(exact iA.out.zcw (Below.refl _ _).drew);rintro e w3 ⟨rfl,mA⟩;have aA:=qU mA;have z0:=(eA.out.zcw aA).2.1;have z1:=(cA.out.zcw aA).1.1;have z2:=(cA.out.zcw aA).2.1.1;have z3:=(cA.out.zcw aA).2.2.1)
       | (go_at_call 205;refine(zJT _ _ _ _ lo hi lo hi (p.s k) p.hn p.h _ ?_ (kA.out k fA) ?_).mono ?_;(exact iA.out.zcw aA);(exact Hp.out.2.zcw (zA dA aA));rintro e w4 ⟨rfl,nA⟩;have bA:=zA aA nA;have z4:=(eA.out.zcw bA).2.1;have z5:=(cA.out.zcw bA).1.1;have z6:=(cA.out.zcw bA).2.1.1;have z7:=(cA.out.zcw bA).2.2.1))
     go_wp2;go_ret;exact⟨zL.yes ⟨k,fA,HH.out,HE.out⟩,zA dA bA⟩
  ·obtain rfl:k=p.n:=(by omega);go_wp2;go_ret;exact⟨zL.no (fun ⟨i,hi,h⟩=>gA.out i hi h),hb⟩
open Classical in
noncomputable def zDG(p:zE)(m:Nat):zE:={n:=p.n,s:=fun i=>if Has m p.h (i:Int)then zCU else p.s i,hn:=p.hn,h:=p.h}
noncomputable def zBj(p:zE):zE:={n:=p.n,s:=(zDG p p.hn).s,hn:=0,h:=p.h}
open Classical in
noncomputable def zA0(p:zE):zE:=if zq p/\zq (zBj p)then zBj p else p
theorem zE1{p:zE}{m i:Nat}(h:Has m p.h (i:Int)):(zDG p m).s i=zCU:=if_pos h
theorem zDy{p:zE}{m i:Nat}(h:¬Has m p.h (i:Int)):(zDG p m).s i=p.s i:=if_neg h
theorem zL8(p:zE):zDG p 0=p:=by
 have e:(zDG p 0).s=p.s:=funext fun i=>zDy (fun ⟨j,hj,_⟩=>absurd hj (Nat.not_lt_zero _))
 show zE.mk p.n (zDG p 0).s p.hn p.h=p;rw[e]
theorem zL7{p:zE}{k m:Nat}(hk:p.h k=(m:Int)):zDG p (k+1)=zBJ (zDG p k) m zCU:=by
 have e:(zDG p (k+1)).s=(zBJ (zDG p k) m zCU).s:=funext fun i=>by
  show _=if i=m then zCU else(zDG p k).s i
  by_cases h1:i=m
  ·rw[if_pos h1,zE1 ⟨k,by omega,by rw[hk,h1]⟩]
  ·rw[if_neg h1];by_cases h2:Has k p.h (i:Int)
   ·rw[zE1 h2,zE1 (by obtain⟨j,hj,e⟩:=h2;exact⟨j,by omega,e⟩)]
   ·rw[zDy h2,zDy (fun ⟨j,hj,e⟩=>h2 ⟨j,by
     by_cases e2:j=k
     ·subst e2;rw[hk]at e;omega
     ·omega,e⟩)]
 show zE.mk p.n (zDG p (k+1)).s p.hn p.h=zE.mk p.n (zBJ (zDG p k) m zCU).s p.hn p.h;rw[e]
theorem zKP:zAA zCU:=⟨rfl,rfl,by simp[zCU,Go.ByteArray.toList_eq]⟩
theorem zU8{p:zE}(h:zq p){i:Nat}(hi:i<p.n):(p.s i).kn=0\/(p.s i).kn=8:=by
 rcases h.2.1 i hi with h | h
 ·exact Or.inl h.2.1
 ·rcases h.2 with h | h
  ·exact Or.inl h.1
  ·exact Or.inr h.1
theorem zOP{s:zM}(h:s.kn=8){i:Nat}(hi:i<8):zQ s (i*2)=s.ks i/\zQ s (i*2+1)=s.kb i:=by
 refine⟨?_,?_⟩
 ·unfold zQ;rw[if_pos (by omega),if_pos (by omega),show i*2 / 2=i by omega]
 ·unfold zQ;rw[if_pos (by omega),if_neg (by omega),show(i*2+1) / 2=i by omega]
theorem zOg(p:zE)(i:Nat):zLJ p i↔¬Has p.hn p.h (i:Int)/\∃m,m<8/\Has p.hn p.h (zQ (p.s i) (m*2))/\¬(zQ (p.s i) (m*2)=0/\zQ (p.s i) (m*2+1)=0):=by
 unfold zLJ;refine and_congr Iff.rfl ?_;have hk:∀m,m<8->∀r,r<2->Has p.hn p.h (zQ (p.s i) (m*2))->zAB (p.s i) p.hn p.h 8 (m*2+r)=0:=fun m hm r hr h=>if_pos ⟨by omega,by rw[show(m*2+r) / 2=m by omega];exact h⟩
 have aA:∀m,∀r,r<2->¬Has p.hn p.h (zQ (p.s i) (m*2))->zAB (p.s i) p.hn p.h 8 (m*2+r)=zQ (p.s i) (m*2+r):=fun m r hr h=>if_neg (fun x=>h (by have:=x.2;rw[show(m*2+r) / 2=m by omega]at this;exact this))
 constructor
 ·intro he;apply Classical.byContradiction;intro hx;have:zJI (zQ (p.s i)) (zAB (p.s i) p.hn p.h 8)=true:=(zJJ _ _).2 fun m hm=>by
   by_cases h:Has p.hn p.h (zQ (p.s i) (m*2))
   ·have e0:=hk m hm 0 (by omega) h;have e1:=hk m hm 1 (by omega) h;rw[Nat.add_zero]at e0;rw[e0,e1];apply Classical.byContradiction;intro hy;exact hx ⟨m,hm,h,hy⟩
   ·have e0:=aA m 0 (by omega) h;have e1:=aA m 1 (by omega) h;rw[Nat.add_zero]at e0;rw[e0,e1];exact⟨rfl,rfl⟩
  rw[this]at he;cases he
 ·rintro⟨m,hm,h,hy⟩;apply Bool.eq_false_iff.2;intro he;have:=(zJJ _ _).1 he m hm;have e0:=hk m hm 0 (by omega) h;have e1:=hk m hm 1 (by omega) h;rw[Nat.add_zero]at e0;rw[e0,e1]at this;exact hy this
theorem zMt{p:zE}(hR:zq p):zSI p↔¬zq (zBj p):=by
 constructor
 ·rintro⟨i,hi,h⟩ hS;obtain⟨aA,m,hm,hH,hz⟩:=(zOg p i).1 h;have cA:(p.s i).kn=8:=by
   rcases zU8 hR hi with h | h
   ·exact absurd ⟨by unfold zQ;rw[if_neg (by omega)],by unfold zQ;rw[if_neg (by omega)]⟩ hz
   ·exact h
  obtain⟨e0,e1⟩:=zOP cA hm;rw[e0]at hH;rw[e0,e1]at hz;have bA:(zBj p).s i=p.s i:=zDy aA;have hP:yT p ((p.s i).ks m) ((p.s i).kb m):=by
   rcases hR.2.1 i hi with h | h
   ·have:=h.2.1;omega
   ·rcases h.2 with h | h
    ·omega
    ·rcases h.2.2 m (by omega)with h | h
     ·exact absurd h hz
     ·exact h.1
  rcases hS.2.1 i hi with h | h
  ·rw[bA]at h;have:=h.2.1;omega
  ·rw[bA]at h;rcases h.2 with h | h
   ·omega
   ·rcases h.2.2 m (by omega)with h | h
    ·exact hz h
    ·obtain⟨h1,h2,h3,h4⟩:=h.1;have dA:(zBj p).s ((p.s i).ks m).toNat=zCU:=zE1 (by rw[Int.toNat_of_nonneg h2];exact hH);rw[dA]at h4;have:(0:Int)=(p.s i).kb m:=h4;have:=hP.1;omega
 ·intro hS;apply Classical.byContradiction;intro hN;apply hS;refine⟨hR.1,fun i hi=>?_,fun i hi=>absurd hi (Nat.not_lt_zero _)⟩;by_cases aA:Has p.hn p.h (i:Int)
  ·rw[show(zBj p).s i=zCU from zE1 aA];exact Or.inl zKP
  ·rw[show(zBj p).s i=p.s i from zDy aA];rcases hR.2.1 i hi with h | h
   ·exact Or.inl h
   ·refine Or.inr ⟨h.1,?_⟩;rcases h.2 with h2 | h2
    ·exact Or.inl h2
    ·refine Or.inr ⟨h2.1,h2.2.1,fun m hm=>?_⟩;rcases h2.2.2 m hm with h3 | h3
     ·exact Or.inl h3
     ·by_cases hH:Has p.hn p.h ((p.s i).ks m)
      ·left;apply Classical.byContradiction;intro hz;obtain⟨e0,e1⟩:=zOP h2.1 (i:=m) (by omega);exact hN ⟨i,hi,(zOg p i).2 ⟨aA,m,by omega,by rw[e0];exact hH,by rw[e0,e1];exact hz⟩⟩
      ·right;obtain⟨⟨g1,g2,g3,g4⟩,g5⟩:=h3;exact⟨⟨g1,g2,g3,by rw[show(zBj p).s ((p.s i).ks m).toNat=p.s ((p.s i).ks m).toNat from zDy (by rw[Int.toNat_of_nonneg g2];exact hH)];exact g4⟩,g5⟩
theorem zGK{p:zE}(h:zq p)(h':zq (zBj p)):zA0 p=zBj p:=if_pos ⟨h,h'⟩
theorem zGt{p:zE}(h:¬(zq p/\zq (zBj p))):zA0 p=p:=if_neg h
theorem zAE.noHeld{w:World}{lo hi:Nat}{v0 v1:Value}{p:zE}(h:zAE w lo hi v0 v1 p):zAE w lo hi v0 (.slice none 0 0) {n:=p.n,s:=p.s,hn:=0,h:=p.h}:=by
 obtain⟨bs,hb,kb,kv,h1,h2,h3,h4,h5⟩:=h;refine⟨bs,0,kb,kv,h1,h2,⟨Nat.zero_le _,none,0,rfl,Nat.le_refl _,fun h=>absurd h (Nat.lt_irrefl _),fun h=>absurd h (Nat.lt_irrefl _)⟩,fun h=>absurd h (Nat.lt_irrefl _),fun k hk=>?_⟩;rcases hk with hk | ⟨h,_⟩
 ·exact h5 k (Or.inl hk)
 ·exact absurd h (Nat.lt_irrefl _)
set_option linter.unusedSimpArgs false
set_option maxRecDepth 20000
set_option maxHeartbeats 1600000
theorem zaB{P:Program}{f:Nat}{a b:za}(ha:zp P f a)(hb:zp P f b):zp P f (orSp a b):=by
 intro w al c rs aA hc;unfold orSp at aA;split at aA
 ·rename_i r hr
  cases aA;exact ha w al c rs hr hc
 ·exact hb w al c rs aA hc
noncomputable def zUN:za:=qZ (fun q:Nat×(Nat->zM)=>[(true,[.s .b 3 q.1 (zY .b q.2),.v n0])]) (fun q=>q.1<=1000000/\(0:Nat)<=1000000) (fun q=>bR (zq {n:=q.1,s:=q.2,hn:=0,h:=fun _=>0}))
noncomputable def zPh:za:=orSp zS8 zUN
theorem zWD:zp Tryz.prog 55 zUN:=zEm.upk (κ:=Nat) fun q=>⟨_,zHr {n:=q.1,s:=q.2,hn:=0,h:=fun _=>0},.cons ⟨rfl,.cons (TrE.refl _) (.cons ⟨rfl,rfl⟩ .nil)⟩ .nil⟩
theorem zWF:zp Tryz.prog 55 zPh:=zaB zEm zWD
theorem zS9(p:zE):zPh [poT p.n p.s p.hn p.h]=some (p.n<=1000000/\p.hn<=1000000,bR (zq p)):=zYM (zHr p)
theorem zRO(n:Nat)(s:Nat->zM):zPh [(true,[.s .b 3 n (zY .b s),.v n0])]=some (n<=1000000/\(0:Nat)<=1000000,bR (zq {n:=n,s:=s,hn:=0,h:=fun _=>0})):=by
 refine zYO (zOf fun x h=>by simp at h) (zO (fun l=>(zFr (nth l 0 0),fun i=>zJG (zCf (nth l 0 0) i 0) (zCf (nth l 0 0) i 1) (zCf (nth l 0 0) i 2))) (fun _=>rfl) (n,s))
theorem zTK{p:zE}{h:Nat->Int}:zq {n:=p.n,s:=p.s,hn:=0,h:=h}↔zq {n:=p.n,s:=p.s,hn:=0,h:=p.h}:=
 ⟨fun x=>⟨x.1,x.2.1,fun i hi=>absurd hi (Nat.not_lt_zero _)⟩,fun x=>⟨x.1,x.2.1,fun i hi=>absurd hi (Nat.not_lt_zero _)⟩⟩
theorem zTQ{fl:Fl}(p:zE)(k:Nat):TrE (.s fl 3 p.n (yK (zY .z p.s) k 0 [.v (.int .i64 0),.v n0,.v (.string ⟨#[]⟩)])) (.s fl 3 p.n (zY .z (zBJ p k zCU).s)):=by
 refine⟨.inl rfl,rfl,rfl,fun i j hi hj=>?_⟩;by_cases h:i=k
 ·subst h
  match j,hj with
  | 0,_=>exact TrE.of_eq (by simp[yK,zY,zBJ,zCU])
  | 1,_=>simp[yK,zY,zBJ,zCU,TrE]
  | 2,_=>exact TrE.of_eq (by simp[yK,zY,zBJ,zCU])
 ·match j,hj with
  | 0,_=>exact TrE.of_eq (by simp[yK,zY,zBJ,h])
  | 1,_=>exact TrE.of_eq (by simp[yK,zY,zBJ,h])
  | 2,_=>exact TrE.of_eq (by simp[yK,zY,zBJ,h])
attribute [local go_sem] qX List.map_cons List.map_nil Tr.cv yp qD qs qq yo yn ym qp zAu zAw zAv zAr zAt zAs zCF zCH zCG qH zl qI zm qB qA qM yx zi zj qw qG tmpsOf zAf qv qF zAp yv yr yq yu stpP opds opd opdC kap zAG qC zh coreU bin zAb zB0 get put dlO fgt zA8 zA1 zA5 zA6 tyT yj yi Op.operands Call.operands evLoad evLen evStore evAlloc zAa and_true true_and List.append_nil List.nil_append List.cons_append Ret resCv zBs yQ cellM zBV zBw qY StW StR hpT hpO hpV hpA hpL hpC sg nin zB6 bdO tmW obW AvE CsE CvE Av.tup Av.ids Cv.ids inD ObE Ob.ids TrE.refl qE qt qu qJ qK qL zk ze zb yw zBc zB1 zAy evCall argL argOf qh outOb obO yL zy cvO tot Tr.own rid partsOf fillC zW zBU frz frz1 evBuildSlice zc trs Cv.tr evSlice Option.toArray_none Option.toArray_some evMakeSlice evAppend dstOf srcOf zBC zA7 zA4 zA2 zA3 ikT qn qm ql qk RetP RetN zBd qQ evLd evSt evStoreH zAX evAppendM evAppendT tlOf mvOf rowE shp evTake oOf evC evCallP evCallN evCallO unlast zAW zBB zAU argsF zB5 qy pmC varT vT evField evConv dB0 Option.bind_some Option.bind_none Option.map_some Option.map_none Option.isSome_some Option.isSome_none
attribute [local go_sem] yC zX zAg yI qe
noncomputable def zbB:za:=qZ (fun p:zE=>[poT p.n p.s p.hn p.h]) (fun p=>p.n<=1000000/\p.hn<=1000000/\∀i,i<p.n->(p.s i).kn<=1000000) (fun p=>[poO (zA0 p)])
theorem zRT(p:zE):zbB [poT p.n p.s p.hn p.h]=some (p.n<=1000000/\p.hn<=1000000/\∀i,i<p.n->(p.s i).kn<=1000000,[poO (zA0 p)]):=zO (fun l=>zDm (nth l 0 0) (nth l 0 1)) (fun _=>rfl) p
theorem zKR:zp Tryz.prog 36 zbB:=by
 refine zR zs (GOk.cons zGg (zF Tryz.func51 rfl rfl) (GOk.cons zWF (zF Tryz.func55 rfl rfl) GOk.nil)) zr Tryz.func36 rfl Tryz.ntmps36 Tryz.results36 5 ?_;rintro p ⟨hn,hm,hk⟩;replace hn:p.n<=1000000:=hn;replace hm:p.hn<=1000000:=hm;refine⟨by simp,?_⟩;simp[go_sem,zHM,zS9,hn,hm];refine⟨hk,fun hR=>?_,fun hR=>?_⟩
 ·rw[zGt fun h=>hR h.1];exact⟨⟨TrE.refl _,zU⟩,TrE.refl _,zd⟩
 refine yF (fun k:Nat=>⟨[(4,true,.i k),(3,true,.m false [.p 3 0]),(2,true,.m false [.p 2 0]),(1,true,.m false [.p 1 0])],[(3,.var [.h 7,.h 8]),(7,.row 3 p.n (zY .z (zDG p k).s)),(8,.row 1 p.hn (qx p.h)),(2,.var [.v n0,.v n0]),(1,.var [.s .b 3 p.n (zY .b p.s),.s .b 1 p.hn (qx p.h)])]⟩) (fun k=>p.hn - k) (fun k=>k<=p.hn) 0 ?_ (by simp) ?_
 ·rw[zL8];simp[go_sem]
 rintro k aA;simp[go_sem,qN (show k<=1000000000 by omega),zRO,zHM,hn,hm];refine⟨fun hl=>?_,fun hl=>?_⟩
 ·obtain⟨h0,h1,-,-⟩:=hR.2.2 k hl;refine⟨hl,⟨h0,h1⟩,by omega,by kernel_rfl,k+1,by omega,by omega,by omega,?_⟩;rw[zL7 (m:=(p.h k).toNat) (by omega)];exact zTQ (zDG p k) _
 ·cases (show k=p.hn by omega);have hw:zq {n:=p.n,s:=(zDG p p.hn).s,hn:=0,h:=fun x=>0}↔zq (zBj p):=zTK (p:=zDG p p.hn);rw[hw];refine⟨fun h=>?_,fun h=>?_⟩
  ·rw[zGt fun e=>h e.2];exact⟨hk,⟨TrE.refl _,zU⟩,TrE.refl _,zd⟩
  ·rw[zGK hR h];exact⟨⟨TrE.refl _,zU⟩,rfl⟩
end Go.Proofs.YtbplmbafodlboaaGreatDoor
