/- A part of the proof. -/
import Derived.Test.YtddigaohmfpepaaGreatDoorF18
import Derived.Test.YtddigaohmfpepaaGreatDoorF14
set_option linter.unusedVariables false
set_option maxRecDepth 20000
set_option maxHeartbeats 4000000
namespace Go.Proofs.YtddigaohmfpepaaGreatDoor
noncomputable section
open Go.RowKit
set_option linter.unusedSimpArgs false
set_option maxRecDepth 20000
set_option maxHeartbeats 3200000
def FS(s:Nat->Ab)(k:Nat):Nat->Nat->Tr:=fun i=>if i<k then setsE .o s i else setsE .b s i
def Fp(s:Nat->Aa)(k:Nat):Nat->Nat->Tr:=fun i=>if i<k then snapsE .z s i else snapsE .b s i
variable{n:Nat}
theorem Cj{s:Nat->Ab}:(Tr.s .o 6 n (setsE .o s)).kept:=⟨by simp,fun i j _ a=>by
 match j,a with
 | 0,_ | 1,_ | 2,_ | 3,_ | 4,_=>trivial
 | 5,_=>exact Kj.2 trivial⟩
theorem Ci{s:Nat->Aa}:(Tr.s .o 8 n (snapsE .z s)).kept:=⟨by simp,fun i j _ a=>by
 match j,a with
 | 0,_ | 1,_ | 2,_ | 3,_ | 4,_ | 5,_ | 6,_=>trivial
 | 7,_=>exact⟨by simp,fun p q _ _=>by unfold ptrsT;split<;>trivial⟩⟩
theorem zIH{s:Nat->Ab}:FS s 0=setsE .b s:=by funext i;simp[FS]
theorem zIG{s:Nat->Aa}:Fp s 0=snapsE .b s:=by funext i;simp[Fp]
variable{k i:Nat}
theorem zH6{s:Nat->Ab}(h:k<=i):FS s k i=setsE .b s i:=if_neg (by omega)
theorem zH4{s:Nat->Aa}(h:k<=i):Fp s k i=snapsE .b s i:=if_neg (by omega)
variable{fl:Fl}
theorem zFa{s:Nat->Ab}:TrE (.s fl 6 n (FS s n)) (.s fl 6 n (setsE .o s)):=F9 fun i j hi a=>by rw[FS,if_pos hi]
theorem zFZ{s:Nat->Aa}:TrE (.s fl 8 n (Fp s n)) (.s fl 8 n (snapsE .z s)):=F9 fun i j hi a=>by rw[Fp,if_pos hi]
theorem zFe{s:Nat->Ab}:(fun p q=>(setsE .b s p q).nt)=setsE .b s:=by
 funext p q
 match q with
 | 0 | 1 | 2 | 3 | 4=>rfl
 | 5=>rfl
 | q+6=>rfl
theorem VV{s:Nat->Aa}:(fun p q=>(snapsE .b s p q).nt)=snapsE .b s:=by
 funext p q
 match q with
 | 0 | 1 | 2 | 3 | 4 | 5 | 6=>rfl
 | 7=>rfl
 | q+8=>rfl
variable{F:Nat->Nat->Tr}
theorem zH7{s:Nat->Ab}(hF:TrE (.s .o 2 (s k).dn F) (.s .o 2 (s k).dn (ptrsT (s k).ds (s k).db))):TrE (.s fl 6 n (Ae (FS s k) k 5 [.s .o 2 (s k).dn F])) (.s fl 6 n (FS s (k+1))):=by
 refine⟨.inl rfl,rfl,rfl,fun i j hi a=>?_⟩;by_cases h:i=k
 ·subst h
  match j,a with
  | 0,_ | 1,_ | 2,_ | 3,_ | 4,_=>exact TrE.of_eq (by simp[Ae,FS,setsE])
  | 5,_=>simpa[Ae,FS,setsE]using hF
 ·refine TrE.of_eq ?_;have:(i<k+1)=(i<k):=propext (by omega);simp[Ae,FS,h,this]
theorem zH5{s:Nat->Aa}(hF:TrE (.s .o 2 (s k).dn F) (.s .z 2 (s k).dn (ptrsT (s k).ds (s k).db))):TrE (.s fl 8 n (Ae (Fp s k) k 7 [.s .o 2 (s k).dn F])) (.s fl 8 n (Fp s (k+1))):=by
 refine⟨.inl rfl,rfl,rfl,fun i j hi a=>?_⟩;by_cases h:i=k
 ·subst h
  match j,a with
  | 0,_ | 1,_ | 2,_ | 3,_ | 4,_ | 5,_ | 6,_=>exact TrE.of_eq (by simp[Ae,Fp,snapsE])
  | 7,_=>simpa[Ae,Fp,snapsE]using hF
 ·refine TrE.of_eq ?_;have:(i<k+1)=(i<k):=propext (by omega);simp[Ae,Fp,h,this]
structure Bt (W:A6):Prop extends SmallW W where
 kn:∀i,i<W.pool.n->(W.pool.s i).kn<=1000000
def Zj:AL:=AY (fun W:A6=>[woT W]) (fun W=>Bt W) (fun W=>[woO W])
theorem Dg(W:A6):Zj [woT W]=some (Bt W,[woO W]):=Ag (fun l=>C2 (nth l 0)) (fun _=>rfl) W
theorem ID:An Tryz.prog 30 Zj:=by
 refine B6 Al (GOk.cons OQ (AE Tryz.func70 rfl rfl) GOk.nil) Ak Tryz.func30 rfl Tryz.ntmps30 Tryz.results30 6 ?_;intro W a;replace a:Bt W:=a;have hn:=a.n;have f:=a.hn;have hs:=a.sn;have g:=a.pn;refine⟨by simp,?_⟩;simp[go_sem,Lm,hn,f,GR,TS,Gy,zFe,VV];refine⟨a.kn,by omega,?_⟩;refine BF (fun k:Nat=>⟨[(4,true,.i k),(3,true,.m false [.p 3 0]),(2,true,.m false [.p 2 0]),(1,true,.m false [.p 1 0])],[(3,.var [.h 61,.h 62,.v (.int .i64 W.time),.v (.int .i64 W.next),.h 63,.s .b 8 W.pn (snapsE .b W.A3)]),(63,.row 6 W.sn (FS W.A2 k)),(62,.row 1 W.pool.hn (BH W.pool.h)),(61,.row 3 W.pool.n (Aw .z W.pool.s)),(2,.var [.v n0,.v n0,.v i0,.v i0,.v n0,.v n0]),(1,.var ((woL W).map Tr.cv))]⟩) (fun k=>W.sn - k) (fun k=>k<=W.sn) 0 (by rw[zIH];simp[go_sem]) (Nat.zero_le _) ?_;intro k e;simp[go_sem,Ar (show k<=1000000000 by omega),GR,Gy,VV,zH6 (Nat.le_refl k)];refine⟨fun c=>?_,fun c=>?_⟩
 ·have d:=a.sd k c;exact⟨c,by omega,c,by kernel_rfl,k+1,by omega,by omega,rfl,zH7 (TrE.refl _)⟩
 cases (show k=W.sn by omega);refine⟨by omega,?_⟩;refine BF (fun k:Nat=>⟨[(5,true,.i k),(3,true,.m false [.p 3 0]),(2,true,.m false [.p 2 0]),(1,true,.m false [.p 1 0])],[(3,.var [.h 61,.h 62,.v (.int .i64 W.time),.v (.int .i64 W.next),.h 63,.h 64]),(64,.row 8 W.pn (Fp W.A3 k)),(63,.row 6 W.sn (FS W.A2 W.sn)),(62,.row 1 W.pool.hn (BH W.pool.h)),(61,.row 3 W.pool.n (Aw .z W.pool.s)),(2,.var [.v n0,.v n0,.v i0,.v i0,.v n0,.v n0]),(1,.var ((woL W).map Tr.cv))]⟩) (fun k=>W.pn - k) (fun k=>k<=W.pn) 0 (by rw[zIG];simp[go_sem]) (Nat.zero_le _) ?_;intro k e;simp[go_sem,Ar (show k<=1000000000 by omega),GR,Gy,zH4 (Nat.le_refl k)];refine⟨fun c=>?_,fun c=>?_⟩
 ·have d:=a.pd k c;exact⟨c,by omega,c,by kernel_rfl,k+1,by omega,by omega,rfl,zH5 ⟨.inr ⟨rfl,rfl⟩,rfl,rfl,fun i j _ _=>TrE.refl _⟩⟩
 cases (show k=W.pn by omega);exact⟨Bo,Bz,⟨zFa,Cj⟩,zFZ,Ci⟩
set_option maxRecDepth 20000
set_option maxHeartbeats 3200000
abbrev wuO(o:Bm):Bool×List Tr:=(true,[.s .o 3 o.world.pool.n (Aw .z o.world.pool.s),.s .o 1 o.world.pool.hn (BH o.world.pool.h),.v (.int .i64 o.world.time),.v (.int .i64 o.world.next),.s .o 6 o.world.sn (setsE .o o.world.A2),.s .o 8 o.world.pn (snapsE .z o.world.A3),.v (.int .i64 o.id),.v (.int .i64 o.many),.v (.int .i64 o.code)])
abbrev woV(W:A6):List Tr:=[.s .o 3 W.pool.n (Aw .z W.pool.s),.s .o 1 W.pool.hn (BH W.pool.h),.v (.int .i64 W.time),.v (.int .i64 W.next),.s .o 6 W.sn (setsE .o W.A2),.s .o 8 W.pn (snapsE .z W.A3)]
def GM(W:A6)(l:List (Int×Int)):A6:={W with pool:=BJ W.pool l}
abbrev psL(l:List (Int×Int)):Bool×List Tr:=psT l.length (fun i=>AN l i) (fun i=>AP l i)
def Jz(a:Tr):List (Int×Int):=(List.range (DN a)).map fun i=>(AS (Bp a i 0),AS (Bp a i 1))
theorem Pb(l:List (Int×Int)):Jz (.s .b 2 l.length (ptrsT (fun i=>AN l i) (fun i=>AP l i)))=l:=by
 show(List.range l.length).map (fun i=>(AN l i,AP l i))=l;apply List.ext_getElem
 ·simp
 ·intro i c a;simp[<-LB,<-S9,a]
theorem R0{p:A7}{x:Int}:TrE (.s fl 1 (p.hn+1) (Ai (BH p.h) p.hn (fun a q=>([Tr.v (Value.int .i64 x)][a+q]?.getD (.v (.bool false))).nt))) (.s fl 1 (CQ p x).hn (BH (CQ p x).h)):=F9 fun i j hi b=>by
 cases (show j=0 by omega);unfold Ai;by_cases h:i<p.hn
 ·rw[if_pos h];show _=Tr.v (.int .i64 (if i=p.hn then x else p.h i));rw[if_neg (by omega)];rfl
 ·cases (show i=p.hn by omega);rw[if_neg h,Nat.sub_self];show _=Tr.v (.int .i64 (if p.hn=p.hn then x else p.h p.hn));rw[if_pos rfl];rfl
attribute [-go_sem] Bd
attribute [go_sem] VK PG PH
def ym:AL:=AY (fun c:Int=>[iT c]) (fun _=>True) (fun c=>[wuO (BP c)])
theorem Bx(c:Int):ym [iT c]=some (True,[wuO (BP c)]):=Ag (fun l=>AS (nth l 0 0)) (fun _=>rfl) c
theorem Ge:An Tryz.prog 26 ym:=by
 refine B6 Al GOk.nil Ak Tryz.func26 rfl Tryz.ntmps26 Tryz.results26 3 ?_;intro c a;refine⟨by simp,?_⟩;simp[go_sem,BP,noW,Cs]
open Classical in
def Im(W:A6)(x:ByteArray):Int:=if BL W x then 5 else if 8<=W.sn then 6 else 0
def yo:AL:=AY (fun q:A6×ByteArray=>[woT q.1,sT q.2]) (fun q=>q.1.sn<=1000000) (fun q=>[iT (Im q.1 q.2)])
theorem T7(W:A6)(x:ByteArray):yo [woT W,sT x]=some (W.sn<=1000000,[iT (Im W x)]):=Ag (fun l=>(C2 (nth l 0),CO (nth l 1 0))) (fun _=>rfl) (W,x)
theorem X6:An Tryz.prog 93 yo:=by
 refine B6 Al (GOk.cons IA (AE Tryz.func28 rfl rfl) GOk.nil) Ak Tryz.func93 rfl Tryz.ntmps93 Tryz.results93 5 ?_;rintro⟨W,x⟩ a;replace a:W.sn<=1000000:=a;refine⟨by simp,?_⟩;simp[go_sem,Cb,a,E9,Cn];refine⟨fun h=>(if_pos h).symm,fun h=>⟨fun b=>?_,fun b=>?_⟩⟩
 ·rw[Im,if_neg h,if_pos (by omega)]
 ·rw[Im,if_neg h,if_neg (by omega)]
def Zz:AL:=AY (fun q:A6×ByteArray×ByteArray=>[woT q.1,sT q.2.1,sT q.2.2]) (fun q=>q.1.pn<=1000000) (fun q=>bR (∃i,i<q.1.pn/\(q.1.A3 i).set=q.2.1/\(q.1.A3 i).name=q.2.2))
theorem Jk(W:A6)(x y:ByteArray):Zz [woT W,sT x,sT y]=some (W.pn<=1000000,bR (∃i,i<W.pn/\(W.A3 i).set=x/\(W.A3 i).name=y)):=Ag (fun l=>(C2 (nth l 0),CO (nth l 1 0),CO (nth l 2 0))) (fun _=>rfl) (W,x,y)
theorem Yo:An Tryz.prog 29 Zz:=by
 refine B6 Al GOk.nil Ak Tryz.func29 rfl Tryz.ntmps29 Tryz.results29 8 ?_;rintro⟨W,x,y⟩ hn;replace hn:W.pn<=1000000:=hn;refine⟨by simp,?_⟩;simp[go_sem];refine BF (fun k:Nat=>⟨[(3,true,.m false [.p 3 0]),(1,true,.m false [.v (.string x)]),(2,true,.m false [.v (.string y)]),(7,true,.i k)],[(3,.var ((woL W).map Tr.cv))]⟩) (fun k=>W.pn - k) (fun k=>k<=W.pn/\∀i,i<k->¬((W.A3 i).set=x/\(W.A3 i).name=y)) 0 (by simp[go_sem]) (by simp) ?_;rintro k ⟨f,c⟩;simp[go_sem,Ar (show k<=1000000000 by omega)];refine⟨fun d=>⟨d,fun _=>d,fun a b=>⟨k,d,G7 a,G7 b⟩,fun h=>⟨k+1,⟨by omega,fun i hi=>?_⟩,by omega,rfl⟩⟩,fun d i hi a b=>c i (by omega) ⟨a,b⟩⟩;by_cases e:i=k
 ·subst e;exact fun a b=>h (congrArg ByteArray.toList a) (congrArg ByteArray.toList b)
 ·exact fun a b=>c i (by omega) ⟨a,b⟩
def yu:AL:=AY (fun q:A6×ByteArray=>[woT q.1,sT q.2]) (fun q=>q.1.pn<=1000000) (fun q=>bR (∃i,i<q.1.pn/\(q.1.A3 i).set=q.2))
theorem TB(W:A6)(x:ByteArray):yu [woT W,sT x]=some (W.pn<=1000000,bR (∃i,i<W.pn/\(W.A3 i).set=x)):=Ag (fun l=>(C2 (nth l 0),CO (nth l 1 0))) (fun _=>rfl) (W,x)
theorem zL:An Tryz.prog 150 yu:=by
 refine B6 Al GOk.nil Ak Tryz.func150 rfl Tryz.ntmps150 Tryz.results150 6 ?_;rintro⟨W,x⟩ hn;replace hn:W.pn<=1000000:=hn;refine⟨by simp,?_⟩;simp[go_sem];refine BF (fun k:Nat=>⟨[(2,true,.m false [.p 2 0]),(1,true,.m false [.v (.string x)]),(5,true,.i k)],[(2,.var ((woL W).map Tr.cv))]⟩) (fun k=>W.pn - k) (fun k=>k<=W.pn/\∀i,i<k->¬(W.A3 i).set=x) 0 (by simp[go_sem]) (by simp) ?_;rintro k ⟨c,a⟩;simp[go_sem,Ar (show k<=1000000000 by omega)];exact⟨fun b=>⟨b,fun h=>⟨k,b,G7 h⟩,fun h=>⟨k+1,⟨by omega,Br b a fun e=>h (congrArg ByteArray.toList e)⟩,by omega,rfl⟩⟩,fun b i hi=>a i (by omega)⟩
def qt:AL:=AY (fun q:A6×List (Int×Int)=>(true,woV q.1) :: [psL q.2]) (fun q=>q.1.pool.hn+q.2.length<=1000000) (fun q=>[woO (GM q.1 q.2),iT q.2.length])
theorem QX(W:A6)(l:List (Int×Int)):qt ((true,woV W) :: [psL l])=some (W.pool.hn+l.length<=1000000,[woO (GM W l),iT l.length]):=Ag (fun m=>(C2 (nth m 0),Jz (nth m 1 0))) (fun q=>by exact congrArg (Prod.mk q.1) (Pb q.2)) (W,l)
theorem RL:DK Tryz.prog 149 qt:=by
 refine Ev Al GOk.nil Ak Tryz.func149 rfl Tryz.ntmps149 Tryz.results149 6 ?_;rintro⟨W,l⟩ hn;replace hn:W.pool.hn+l.length<=1000000:=hn;refine⟨by simp,?_⟩;simp[go_sem];refine BF (fun k:Nat=>⟨[(5,true,.i k),(0,true,.m false [.p 0 0]),(1,true,.m false [.s .b 2 l.length (ptrsT (fun i=>AN l i) (fun i=>AP l i))])],[(0,.var [.h 1000,.h 2000,.v (.int .i64 W.time),.v (.int .i64 W.next),.h 5000,.h 6000]),(1000,.row 3 W.pool.n (Aw .z W.pool.s)),(2000,.row 1 (BJ W.pool (l.take k)).hn (BH (BJ W.pool (l.take k)).h)),(5000,.row 6 W.sn (setsE .o W.A2)),(6000,.row 8 W.pn (snapsE .z W.A3))]⟩) (fun k=>l.length - k) (fun k=>k<=l.length) 0 (by simp[go_sem,BJ]) (Nat.zero_le _) ?_;intro k g;obtain⟨p,a⟩:∃p,p=BJ W.pool (l.take k):=⟨_,rfl⟩;have j:p.hn=W.pool.hn+k:=by rw[a,(EQ _ _).2.2,List.length_take,Nat.min_eq_left g]
 have d:k<l.length->BJ W.pool (l.take (k+1))=CQ p (AN l k):=fun h=>by
  rw[a,List.take_succ_eq_append_getElem h,Ot,<-LB];simp[h]
 rw[<-a];simp[go_sem,Ar (show k<=1000000000 by omega)];refine⟨fun c=>⟨c,by omega,by kernel_rfl,k+1,c,by omega,rfl,?_⟩,fun c=>?_⟩
 ·rw[d c];exact R0
 ·cases (show k=l.length by omega);rw[List.take_length]at a;subst a;obtain⟨e,f,-⟩:=EQ l W.pool;refine⟨⟨?_,Bo⟩,⟨TrE.refl _,Bz⟩,rfl,rfl,⟨TrE.refl _,Cj⟩,TrE.refl _,Ci⟩;show TrE _ (Tr.s .o 3 (BJ W.pool l).n (Aw .z (BJ W.pool l).s));rw[e,f];exact TrE.refl _
open Classical in
def EN(W:A6)(x:ByteArray):Nat:=if h:∃k,k<W.sn/\¬Cd (W.A2 k).name x/\∀j,j<k->Cd (W.A2 j).name x then h.choose else W.sn
variable{W:A6}{x:ByteArray}
theorem V6(h:k<W.sn)(b:¬Cd (W.A2 k).name x)(c:∀j,j<k->Cd (W.A2 j).name x):EN W x=k:=by
 have a:∃k,k<W.sn/\¬Cd (W.A2 k).name x/\∀j,j<k->Cd (W.A2 j).name x:=⟨k,h,b,c⟩;unfold EN;rw[dif_pos a];obtain⟨-,d,f⟩:=a.choose_spec;rcases Nat.lt_trichotomy a.choose k with e | e | e
 ·exact absurd (c _ e) d
 ·exact e
 ·exact absurd (f _ e) b
theorem zGY(h:∀j,j<W.sn->Cd (W.A2 j).name x):EN W x=W.sn:=dif_neg fun ⟨k,h1,h2,_⟩=>h2 (h k h1)
abbrev F7(a:ByteArray)(o p rs rb:Int):Ab:=⟨a,o,p,rs,rb,0,fun _=>0,fun _=>0⟩
def yj:AL:=AY (fun q:(A6×ByteArray)×Int×Int×Int×Int=>(true,woV q.1.1) :: [(true,[.v (.string q.1.2),.v (.int .i64 q.2.1),.v (.int .i64 q.2.2.1),.v (.int .i64 q.2.2.2.1),.v (.int .i64 q.2.2.2.2),.v n0])]) (fun q=>q.1.1.sn<=1000000) (fun q=>[woO (JZ q.1.1 (EN q.1.1 q.1.2) (F7 q.1.2 q.2.1 q.2.2.1 q.2.2.2.1 q.2.2.2.2))])
theorem Sz(W:A6)(x:ByteArray)(o p rs rb:Int):yj ((true,woV W) :: [(true,[.v (.string x),.v (.int .i64 o),.v (.int .i64 p),.v (.int .i64 rs),.v (.int .i64 rb),.v n0])])=some (W.sn<=1000000,[woO (JZ W (EN W x) (F7 x o p rs rb))]):=Ag (fun m=>((C2 (nth m 0),CO (nth m 1 0)),AS (nth m 1 1),AS (nth m 1 2),AS (nth m 1 3),AS (nth m 1 4))) (fun _=>rfl) ((W,x),o,p,rs,rb)
theorem X4:DK Tryz.prog 94 yj:=by
 refine Ev Al GOk.nil Ak Tryz.func94 rfl Tryz.ntmps94 Tryz.results94 6 ?_;rintro⟨⟨W,x⟩,o,p,rs,rb⟩ hn;replace hn:W.sn<=1000000:=hn;refine⟨by simp,?_⟩;simp[go_sem];refine BF (fun k:Nat=>⟨[(4,true,.i k),(0,true,.m false [.p 0 0]),(3,true,.m false [.p 3 0])],[(3,.var [.v (.string x),.v (.int .i64 o),.v (.int .i64 p),.v (.int .i64 rs),.v (.int .i64 rb),.v n0]),(0,.var [.h 1000,.h 2000,.v (.int .i64 W.time),.v (.int .i64 W.next),.h 5000,.h 6000]),(1000,.row 3 W.pool.n (Aw .z W.pool.s)),(2000,.row 1 W.pool.hn (BH W.pool.h)),(5000,.row 6 W.sn (setsE .o W.A2)),(6000,.row 8 W.pn (snapsE .z W.A3))]⟩) (fun k=>W.sn - k) (fun k=>k<=W.sn/\∀j,j<k->Cd (W.A2 j).name x) 0 (by simp[go_sem]) (by simp) ?_;rintro k ⟨c,a⟩;simp[go_sem,Ar (show k<=1000000000 by omega)];refine⟨by kernel_rfl,fun b h=>⟨k+1,⟨b,Br b a h⟩,by omega,rfl⟩,fun h=>?_⟩;have hK:EN W x=k:=by
  by_cases b:k<W.sn
  ·exact V6 b (fun e=>by have:=h b;unfold Cd at e;rw[this]at e;simp at e) a
  ·rw[zGY fun j d=>a j (by omega)];omega
 rw[hK];refine⟨c,⟨c,by omega⟩,by omega,c,⟨by omega,by omega⟩,⟨TrE.refl _,Bo⟩,⟨TrE.refl _,Bz⟩,rfl,rfl,⟨?_,Cj⟩,TrE.refl _,Ci⟩;refine⟨.inl rfl,rfl,by show k+1+(W.sn - k)=W.sn+1;omega,fun i j hi d=>?_⟩;show TrE _ (setsE .o (ins W.A2 k (F7 x o p rs rb)) i j);rcases Nat.lt_trichotomy i k with e | e | e
 ·have:setsE .o (ins W.A2 k (F7 x o p rs rb)) i j=setsE .o W.A2 i j:=by
   unfold setsE;rw[Zn e]
  rw[this];exact TrE.of_eq (by simp[Ai,e,show i<k+1 by omega])
 ·subst e;have:setsE .o (ins W.A2 i (F7 x o p rs rb)) i j=setsE .o (fun _=>F7 x o p rs rb) i j:=by
   unfold setsE;rw[Zl]
  rw[this]
  match j,d with
  | 0,_ | 1,_ | 2,_ | 3,_ | 4,_=>exact TrE.of_eq (by simp[Ai,setsE])
  | 5,_=>simp[Ai,setsE,TrE]
 ·have:setsE .o (ins W.A2 k (F7 x o p rs rb)) i j=setsE .o W.A2 (i - 1) j:=by
   unfold setsE;rw[Zm e]
  rw[this];refine TrE.of_eq ?_;simp[Ai,ntR,show ¬i<k+1 by omega,show k+(i - (k+1))=i - 1 by omega,show ¬i - 1<k by omega]
set_option maxRecDepth 20000
set_option maxHeartbeats 3200000
open Classical in
def GX(W:A6)(x:ByteArray):Bm:=if 8000<x.size then BP 2 else if B4 W/\BX x then(if Im W x=0 then⟨JZ W (EN W x) (F7 x 0 0 0 0),0,0,0⟩else BP (Im W x))else BP 1
theorem By{o o':Bm}(h:o'=o):(TrE (.s .o 3 o.world.pool.n (Aw .z o.world.pool.s)) (.s .o 3 o'.world.pool.n (Aw .z o'.world.pool.s))/\(Tr.s .o 3 o'.world.pool.n (Aw .z o'.world.pool.s)).kept)/\(TrE (.s .o 1 o.world.pool.hn (BH o.world.pool.h)) (.s .o 1 o'.world.pool.hn (BH o'.world.pool.h))/\(Tr.s .o 1 o'.world.pool.hn (BH o'.world.pool.h)).kept)/\o.world.time=o'.world.time/\o.world.next=o'.world.next/\(TrE (.s .o 6 o.world.sn (setsE .o o.world.A2)) (.s .o 6 o'.world.sn (setsE .o o'.world.A2))/\(Tr.s .o 6 o'.world.sn (setsE .o o'.world.A2)).kept)/\(TrE (.s .o 8 o.world.pn (snapsE .z o.world.A3)) (.s .o 8 o'.world.pn (snapsE .z o'.world.A3))/\(Tr.s .o 8 o'.world.pn (snapsE .z o'.world.A3)).kept)/\o.id=o'.id/\o.many=o'.many/\o.code=o'.code:=by
 subst h;exact⟨⟨TrE.refl _,Bo⟩,⟨TrE.refl _,Bz⟩,rfl,rfl,⟨TrE.refl _,Cj⟩,⟨TrE.refl _,Ci⟩,rfl,rfl,rfl⟩
theorem KE{x:Int}(h:CK W x):(BO W.pn fun k=>(W.A3 k).id=x)<W.pn:=by
 rcases Y6 (Hd W.pn fun k=>(W.A3 k).id=x)with⟨-,-,b,-⟩ | ⟨a,-⟩
 ·exact b
 ·exact absurd h a
theorem Ib(h:BL W x):(BO W.sn fun k=>(W.A2 k).name=x)<W.sn:=by
 rcases Hd W.sn fun k=>(W.A2 k).name=x with⟨k,a,-,-,b⟩ | ⟨a,b⟩
 ·omega
 ·have:=Cn.2 h;omega
attribute [go_sem] Bd
attribute [-go_sem] Bd
def TE:AL:=AY (fun q:A6×ByteArray=>[woT q.1,sT q.2]) (fun q=>Bt q.1) (fun q=>[wuO (GX q.1 q.2)])
theorem YL(W:A6)(x:ByteArray):TE [woT W,sT x]=some (Bt W,[wuO (GX W x)]):=Ag (fun l=>(C2 (nth l 0),CO (nth l 1 0))) (fun _=>rfl) (W,x)
theorem X8:An Tryz.prog 47 TE:=by
 refine B6 Al (GOk.cons ID (AE Tryz.func30 rfl rfl) (GOk.cons FK (AE Tryz.func14 rfl rfl) (GOk.cons Ge (AE Tryz.func26 rfl rfl) (GOk.cons Oy (AE Tryz.func27 rfl rfl) (GOk.cons X6 (AE Tryz.func93 rfl rfl) (GOk.ptr X4 (AE Tryz.func94 rfl rfl) GOk.nil)))))) Ak Tryz.func47 rfl Tryz.ntmps47 Tryz.results47 7 ?_;rintro⟨W,x⟩ a;replace a:Bt W:=a;have hs:=a.sn;refine⟨by simp,?_⟩;simp[go_sem,Dg,CE,Bx,I4,T7,Sz,a,a.toSmallW,hs];refine⟨fun h=>?_,fun h=>⟨fun b=>?_,fun b d=>⟨fun c=>?_,fun c=>?_⟩⟩⟩
 ·exact By (if_pos (by omega))
 ·exact By ((if_neg (by omega)).trans (if_neg fun e=>b.elim (fun h=>h e.1) (fun h=>h e.2)))
 ·exact By ((if_neg (by omega)).trans ((if_pos ⟨b,d⟩).trans (if_neg c)))
 ·exact By (o:=⟨JZ W (EN W x) (F7 x 0 0 0 0),0,0,0⟩) ((if_neg (by omega)).trans ((if_pos ⟨b,d⟩).trans (if_pos c)))
open Classical in
def Kh(W:A6)(x:Int)(a:ByteArray):Bm:=if 8000<a.size then BP 2 else if B4 W/\BX a then(if CK W x then(if Im W a=0 then⟨JZ W (EN W a) (F7 a x x (W.A3 (BO W.pn fun k=>(W.A3 k).id=x).toNat).rs (W.A3 (BO W.pn fun k=>(W.A3 k).id=x).toNat).rb),0,0,0⟩else BP (Im W a))else BP 4)else BP 1
def Zw:AL:=AY (fun q:A6×Int×ByteArray=>[woT q.1,iT q.2.1,sT q.2.2]) (fun q=>Bt q.1) (fun q=>[wuO (Kh q.1 q.2.1 q.2.2)])
theorem zDb(W:A6)(x:Int)(a:ByteArray):Zw [woT W,iT x,sT a]=some (Bt W,[wuO (Kh W x a)]):=Ag (fun l=>(C2 (nth l 0),AS (nth l 1 0),CO (nth l 2 0))) (fun _=>rfl) (W,x,a)
theorem zBo:An Tryz.prog 100 Zw:=by
 refine B6 Al (GOk.cons ID (AE Tryz.func30 rfl rfl) (GOk.cons FK (AE Tryz.func14 rfl rfl) (GOk.cons J6 (AE Tryz.func31 rfl rfl) (GOk.cons Ge (AE Tryz.func26 rfl rfl) (GOk.cons Oy (AE Tryz.func27 rfl rfl) (GOk.cons X6 (AE Tryz.func93 rfl rfl) (GOk.ptr X4 (AE Tryz.func94 rfl rfl) GOk.nil))))))) Ak Tryz.func100 rfl Tryz.ntmps100 Tryz.results100 10 ?_;rintro⟨W,x,a⟩ c;replace c:Bt W:=c;have hs:=c.sn;have i:=c.pn;refine⟨by simp,?_⟩;simp[go_sem,Dg,CE,Ex,Bx,I4,T7,Sz,c,c.toSmallW,hs,i,JM,Gp];refine⟨fun h=>?_,fun h=>⟨fun d=>?_,fun d f=>⟨fun b=>?_,fun b=>?_⟩⟩⟩
 ·exact By (if_pos (by omega))
 ·exact By ((if_neg (by omega)).trans (if_neg fun e=>d.elim (fun h=>h e.1) (fun h=>h e.2)))
 ·exact By ((if_neg (by omega)).trans ((if_pos ⟨d,f⟩).trans (if_neg b)))
 ·refine⟨fun g=>?_,fun g=>⟨⟨b,KE b⟩,?_⟩⟩
  ·exact By ((if_neg (by omega)).trans ((if_pos ⟨d,f⟩).trans ((if_pos b).trans (if_neg g))))
  ·exact By (o:=⟨JZ W (EN W a) (F7 a x x (W.A3 (BO W.pn fun k=>(W.A3 k).id=x).toNat).rs (W.A3 (BO W.pn fun k=>(W.A3 k).id=x).toNat).rb),0,0,0⟩) ((if_neg (by omega)).trans ((if_pos ⟨d,f⟩).trans ((if_pos b).trans (if_pos g))))
set_option maxRecDepth 20000
set_option maxHeartbeats 3200000
noncomputable abbrev Ay (W:A6) (x:ByteArray):Nat:=(BO W.sn fun k=>(W.A2 k).name=x).toNat
noncomputable abbrev GH (W:A6) (x:Int):Nat:=(BO W.pn fun k=>(W.A3 k).id=x).toNat
open Classical in
def Ef(W:A6)(set name:ByteArray):Bm:=if 8000<set.size\/8000<name.size then BP 2 else if B4 W/\BX name then(if BL W set then(if ∃i,i<W.pn/\(W.A3 i).set=set/\(W.A3 i).name=name then BP 5 else if 20<=W.pn\/900000<=W.time\/900000<=W.next then BP 6 else⟨Co W (Ay W set) name set,W.next,0,0⟩)else BP 4)else BP 1
variable{x:Int}
theorem yU(h:0<=x)(a:x<1000000):IntKind.i64.wrap (x+1)=x+1:=by
 unfold IntKind.wrap;simp[IntKind.signed,IntKind.bits];omega
attribute [go_sem] Bd
attribute [-go_sem] Bd
def Uu:AL:=AY (fun q:A6×ByteArray×ByteArray=>[woT q.1,sT q.2.1,sT q.2.2]) (fun q=>Bt q.1) (fun q=>[wuO (Ef q.1 q.2.1 q.2.2)])
theorem Oh(W:A6)(x a:ByteArray):Uu [woT W,sT x,sT a]=some (Bt W,[wuO (Ef W x a)]):=Ag (fun l=>(C2 (nth l 0),CO (nth l 1 0),CO (nth l 2 0))) (fun _=>rfl) (W,x,a)
theorem YV:An Tryz.prog 7 Uu:=by
 refine B6 Al (GOk.cons ID (AE Tryz.func30 rfl rfl) (GOk.cons FK (AE Tryz.func14 rfl rfl) (GOk.cons IA (AE Tryz.func28 rfl rfl) (GOk.cons Ge (AE Tryz.func26 rfl rfl) (GOk.cons Oy (AE Tryz.func27 rfl rfl) (GOk.cons Yo (AE Tryz.func29 rfl rfl) GOk.nil)))))) Ak Tryz.func7 rfl Tryz.ntmps7 Tryz.results7 10 ?_;rintro⟨W,x,a⟩ c;replace c:Bt W:=c;have hs:=c.sn;have q:=c.pn;refine⟨by simp,?_⟩;by_cases m:8000<x.size\/8000<a.size
 ·have s:(8000:Int)<x.size\/(8000:Int)<a.size:=(by omega);simp[go_sem,Bx,s];exact⟨By (if_pos m),fun h r=>absurd m (by omega)⟩
 have d:¬(8000:Int)<x.size:=by omega
 have f:¬(8000:Int)<a.size:=by omega
 by_cases b:B4 W/\BX a;rotate_left
 ·simp[go_sem,Dg,CE,Cb,Bx,I4,Jk,c,c.toSmallW,hs,q,E9,Cn,d,f];refine⟨fun _=>By ((if_neg m).trans (if_neg b)),fun h r=>absurd ⟨h,r⟩ b⟩
 obtain⟨b,l⟩:=b;by_cases g:BL W x;rotate_left
 ·simp[go_sem,Dg,CE,Cb,Bx,I4,Jk,c,c.toSmallW,hs,q,E9,Cn,d,f,b,l,g];exact By ((if_neg m).trans ((if_pos ⟨b,l⟩).trans (if_neg g)))
 by_cases n:∃i,i<W.pn/\(W.A3 i).set=x/\(W.A3 i).name=a
 ·simp[go_sem,Dg,CE,Cb,Bx,I4,Jk,c,c.toSmallW,hs,q,E9,Cn,d,f,b,l,g,n];exact By ((if_neg m).trans ((if_pos ⟨b,l⟩).trans ((if_pos g).trans (if_pos n))))
 by_cases hF:20<=W.pn\/900000<=W.time\/900000<=W.next
 ·simp[go_sem,Dg,CE,Cb,Bx,I4,Jk,c,c.toSmallW,hs,q,E9,Cn,d,f,b,l,g,n];refine⟨fun _=>By ((if_neg m).trans ((if_pos ⟨b,l⟩).trans ((if_pos g).trans ((if_neg n).trans (if_pos hF))))),fun h r C=>absurd hF (by omega)⟩
 have t:¬(20:Int)<=W.pn:=by omega
 have u:¬900000<=W.time:=by omega
 have v:¬900000<=W.next:=by omega
 have A:=Ib g;simp[go_sem,Dg,CE,Cb,Bx,I4,Jk,c,c.toSmallW,hs,q,E9,Cn,d,f,b,l,g,n,t,u,v];have B:Ef W x a=⟨Co W (Ay W x) a x,W.next,0,0⟩:=by
  unfold Ef;rw[if_neg m,if_pos ⟨b,l⟩,if_pos g,if_neg n,if_neg hF]
 rw[B];have y:Ay W x<W.sn:=by have:=Cn.2 g;show(BO W.sn fun k=>(W.A2 k).name=x).toNat<W.sn;omega
 obtain⟨k,p⟩:∃k,k=Ay W x:=⟨_,rfl⟩;rw[<-p]at y ⊢;refine⟨A,by omega,A,⟨TrE.refl _,Bo⟩,⟨TrE.refl _,Bz⟩,?_⟩;rw[show(BO W.sn fun k=>(W.A2 k).name=x).toNat=k from p.symm];refine⟨yU (by have:=b.Aq.1.1;omega) (by omega),yU (by have:=b.Aq.2.1.1;omega) (by omega),⟨⟨.inl rfl,rfl,rfl,fun i j hi w=>?_⟩,Cj⟩,⟨⟨.inl rfl,rfl,rfl,fun i j hi w=>?_⟩,Ci⟩,rfl,rfl,rfl⟩
 ·show TrE _ (setsE .o (fun j=>if j=k then {W.A2 k with A8:=W.next,dn:=0}else W.A2 j) i j);by_cases e:i=k
  ·subst e
   match j,w with
   | 0,_ | 1,_ | 2,_ | 3,_ | 4,_=>exact TrE.of_eq (by simp[Ae,setsE])
   | 5,_=>simp[Ae,setsE,TrE]
  ·exact TrE.of_eq (by unfold setsE;simp[Ae,e])
 ·show TrE _ (snapsE .z (fun j=>if j=W.pn then Ed W k a x else W.A3 j) i j);by_cases e:i<W.pn
  ·exact TrE.of_eq (by unfold snapsE;simp[Ai,e,show i≠W.pn by omega])
  ·cases (show i=W.pn by omega)
   match j,w with
   | 0,_ | 1,_ | 2,_ | 3,_ | 4,_ | 5,_ | 6,_=>exact TrE.of_eq (by simp[Ai,snapsE,Ed,Tr.nt])
   | 7,_=>exact TrE.of_eq (by simp[Ai,snapsE,Ed,Tr.nt])
set_option maxRecDepth 20000
set_option maxHeartbeats 3200000
def KT(W:A6)(k:Nat)(t:Int):List (Int×Int):=Bl (fun i=>AN (AG W.pool (W.A2 k).rs (W.A2 k).rb) i) (fun i=>AP (AG W.pool (W.A2 k).rs (W.A2 k).rb) i) t (AG W.pool (W.A2 k).rs (W.A2 k).rb).length
def zIl(W:A6)(k j:Nat):A6:={GM W (KT W k (W.A3 j).time)with A2:=fun i=>if i=k then {W.A2 k with rs:=(W.A3 j).rs,rb:=(W.A3 j).rb,dn:=0}else W.A2 i}
open Classical in
def Mg(W:A6)(k:Nat)(x:ByteArray):Bm:=if CK W (W.A2 k).A8/\(W.A3 (GH W (W.A2 k).A8)).set=x then⟨zIl W k (GH W (W.A2 k).A8),0,(KT W k (W.A3 (GH W (W.A2 k).A8)).time).length,0⟩else BP 4
open Classical in
def IR(W:A6)(x:ByteArray):Bm:=if 8000<x.size then BP 2 else if B4 W then(if BL W x then Mg W (Ay W x) x else BP 4)else BP 1
theorem GB(f g:Nat->Int)(t:Int)(n:Nat):(Bl f g t n).length<=n:=by
 have:=Kq f g t n;omega
attribute [go_sem] Bd
attribute [-go_sem] Bd
def yF:AL:=AY (fun q:A6×ByteArray=>[woT q.1,sT q.2]) (fun q=>Bt q.1) (fun q=>[wuO (IR q.1 q.2)])
theorem zFJ(W:A6)(x:ByteArray):yF [woT W,sT x]=some (Bt W,[wuO (IR W x)]):=Ag (fun l=>(C2 (nth l 0),CO (nth l 1 0))) (fun _=>rfl) (W,x)
theorem zBr:An Tryz.prog 102 yF:=by
 refine B6 Al (GOk.cons ID (AE Tryz.func30 rfl rfl) (GOk.cons FK (AE Tryz.func14 rfl rfl) (GOk.cons IA (AE Tryz.func28 rfl rfl) (GOk.cons J6 (AE Tryz.func31 rfl rfl) (GOk.cons Ge (AE Tryz.func26 rfl rfl) (GOk.cons Jr (AE Tryz.func89 rfl rfl) (GOk.cons Og (AE Tryz.func148 rfl rfl) (GOk.ptr RL (AE Tryz.func149 rfl rfl) GOk.nil)))))))) Ak Tryz.func102 rfl Tryz.ntmps102 Tryz.results102 11 ?_;rintro⟨W,x⟩ b;replace b:Bt W:=b;have hs:=b.sn;have p:=b.pn;refine⟨by simp,?_⟩;by_cases m:8000<x.size
 ·simp[go_sem,Bx,show(8000:Int)<x.size by omega];exact By (if_pos m)
 have d:¬(8000:Int)<x.size:=by omega
 by_cases c:B4 W;rotate_left
 ·simp[go_sem,Dg,CE,Cb,Bx,b,b.toSmallW,hs,p,E9,Cn,d,c];exact By ((if_neg m).trans (if_neg c))
 by_cases l:BL W x;rotate_left
 ·simp[go_sem,Dg,CE,Cb,Bx,b,b.toSmallW,hs,p,E9,Cn,d,c,l];exact By ((if_neg m).trans ((if_pos c).trans (if_neg l)))
 have w:=Ib l;have u:=Cn.2 l;have a:Ay W x<W.sn:=by show(BO W.sn fun k=>(W.A2 k).name=x).toNat<W.sn;omega
 obtain⟨k,f⟩:∃k,k=Ay W x:=⟨_,rfl⟩;have n:(BO W.sn fun k=>(W.A2 k).name=x)=(k:Int):=by rw[f];show _=((BO W.sn fun k=>(W.A2 k).name=x).toNat:Int);omega
 rw[<-f]at a;have s:=(c.A2 k a).1;simp[go_sem,Dg,CE,Cb,Ex,Bx,Iy,M6,QX,b,b.toSmallW,hs,p,n,d,c,c.right,s,a,JM,Gp];have q:IR W x=Mg W k x:=by
  unfold IR;rw[if_neg m,if_pos c,if_pos l,<-f]
 refine⟨fun h=>absurd h (by omega),by kernel_rfl,fun h=>⟨h,KE h⟩,fun h=>?_,fun g r=>?_⟩
 ·exact By (q.trans (if_neg fun e=>h.elim (fun h=>h e.1) (fun h=>h (congrArg ByteArray.toList e.2))))
 rw[q,Mg,if_pos ⟨g,G7 r⟩];have hn:=M0 c.right;refine⟨⟨g,KE g⟩,Nat.le_trans (Dh ..) (by omega),by kernel_rfl,?_,⟨g,KE g⟩,a,by kernel_rfl,a,⟨TrE.refl _,Bo⟩,⟨TrE.refl _,Bz⟩,rfl,rfl,⟨⟨.inl rfl,rfl,rfl,fun i j hi t=>?_⟩,Cj⟩,⟨TrE.refl _,Ci⟩,rfl,rfl,rfl⟩
 ·have v:(AG W.pool (W.A2 k).rs (W.A2 k).rb).length<=73:=Dh ..;exact Nat.le_trans (Nat.add_le_add_left (Nat.le_trans (GB ..) v) _) (by omega)
 show TrE _ (setsE .o (fun i=>if i=k then {W.A2 k with rs:=(W.A3 (GH W (W.A2 k).A8)).rs,rb:=(W.A3 (GH W (W.A2 k).A8)).rb,dn:=0}else W.A2 i) i j);by_cases e:i=k
 ·subst e
  match j,t with
  | 0,_ | 1,_ | 2,_ | 3,_ | 4,_=>exact TrE.of_eq (by simp[Ae,setsE,GM])
  | 5,_=>simp[Ae,setsE,TrE]
 ·exact TrE.of_eq (by unfold setsE;simp[Ae,e,GM])
set_option maxRecDepth 20000
set_option maxHeartbeats 3200000
def qi(W:A6)(k:Nat):A6:={GM W (KT W k (AI W (W.A2 k).A8).time)with sn:=W.sn - 1,A2:=fun i=>if i<k then W.A2 i else W.A2 (i+1)}
open Classical in
def IY(W:A6)(x:ByteArray):Bm:=if 8000<x.size then BP 2 else if B4 W then(if BL W x then(if ∃i,i<W.pn/\(W.A3 i).set=x then BP 7 else⟨qi W (Ay W x),0,(KT W (Ay W x) (AI W (W.A2 (Ay W x)).A8).time).length,0⟩)else BP 4)else BP 1
variable{l:List (Int×Int)}
theorem Ue:(GM W l).sn=W.sn:=rfl
theorem YB:(GM W l).A2=W.A2:=rfl
theorem Ud:(GM W l).pn=W.pn:=rfl
theorem Yj:(GM W l).A3=W.A3:=rfl
attribute [go_sem] Bd
attribute [-go_sem] Bd
def qo:AL:=AY (fun q:A6×ByteArray=>[woT q.1,sT q.2]) (fun q=>Bt q.1) (fun q=>[wuO (IY q.1 q.2)])
theorem zFC(W:A6)(x:ByteArray):qo [woT W,sT x]=some (Bt W,[wuO (IY W x)]):=Ag (fun l=>(C2 (nth l 0),CO (nth l 1 0))) (fun _=>rfl) (W,x)
theorem zCk:An Tryz.prog 101 qo:=by
 refine B6 Al (GOk.cons ID (AE Tryz.func30 rfl rfl) (GOk.cons FK (AE Tryz.func14 rfl rfl) (GOk.cons IA (AE Tryz.func28 rfl rfl) (GOk.cons Ge (AE Tryz.func26 rfl rfl) (GOk.cons Kx (AE Tryz.func88 rfl rfl) (GOk.cons Jr (AE Tryz.func89 rfl rfl) (GOk.cons Og (AE Tryz.func148 rfl rfl) (GOk.cons zL (AE Tryz.func150 rfl rfl) (GOk.ptr RL (AE Tryz.func149 rfl rfl) GOk.nil))))))))) Ak Tryz.func101 rfl Tryz.ntmps101 Tryz.results101 12 ?_;rintro⟨W,x⟩ b;replace b:Bt W:=b;have hs:=b.sn;have p:=b.pn;refine⟨by simp,?_⟩;by_cases h:8000<x.size
 ·simp[go_sem,Bx,show(8000:Int)<x.size by omega];exact By (if_pos h)
 have c:¬(8000:Int)<x.size:=by omega
 by_cases a:B4 W;rotate_left
 ·simp[go_sem,Dg,CE,Cb,Bx,b,b.toSmallW,hs,p,E9,Cn,c,a];exact By ((if_neg h).trans (if_neg a))
 by_cases g:BL W x;rotate_left
 ·simp[go_sem,Dg,CE,Cb,Bx,b,b.toSmallW,hs,p,E9,Cn,c,a,g];exact By ((if_neg h).trans ((if_pos a).trans (if_neg g)))
 have q:=Ib g;have u:=Cn.2 g;have f:Ay W x<W.sn:=by show(BO W.sn fun k=>(W.A2 k).name=x).toNat<W.sn;omega
 obtain⟨k,d⟩:∃k,k=Ay W x:=⟨_,rfl⟩;have l:(BO W.sn fun k=>(W.A2 k).name=x)=(k:Int):=by rw[d];show _=((BO W.sn fun k=>(W.A2 k).name=x).toNat:Int);omega
 have m:¬(k:Int)<0:=by omega
 by_cases n:∃i,i<W.pn/\(W.A3 i).set=x
 ·simp[go_sem,Dg,CE,Cb,Bx,TB,b,b.toSmallW,hs,p,l,m,c,a,n];exact By ((if_neg h).trans ((if_pos a).trans ((if_pos g).trans (if_pos n))))
 have r:IY W x=⟨qi W k,0,(KT W k (AI W (W.A2 k).A8).time).length,0⟩:=by
  unfold IY;rw[if_neg h,if_pos a,if_pos g,if_neg n,<-d]
 rw[<-d]at f;have t:=(a.A2 k f).1;have w:=Kf (fun k q=>(a.Aq.ER.ids k q).1) (W.A2 k).A8;simp[go_sem,Dg,CE,Cb,TB,Jj,Bx,Iy,M6,QX,b,b.toSmallW,hs,p,l,m,c,a,n,w,a.right,t,f,r,Ar (show k<=1000000000 by omega),Ue,YB,Ud,Yj];have hn:=M0 a.right;refine⟨by kernel_rfl,Nat.le_trans (Dh ..) (by omega),by kernel_rfl,?_,?_⟩
 ·have v:(AG W.pool (W.A2 k).rs (W.A2 k).rb).length<=73:=Dh ..;exact Nat.le_trans (Nat.add_le_add_left (Nat.le_trans (GB ..) v) _) (by omega)
 refine⟨by omega,⟨by omega,by omega⟩,⟨by omega,by omega⟩,⟨by omega,by omega⟩,by kernel_rfl,⟨TrE.refl _,Bo⟩,⟨TrE.refl _,Bz⟩,rfl,rfl,⟨⟨.inl rfl,rfl,by show k+(W.sn - (k+1))=W.sn - 1;omega,fun i j hi y=>TrE.of_eq ?_⟩,Cj⟩,⟨TrE.refl _,Ci⟩,rfl⟩;show _=setsE .o (fun i=>if i<k then W.A2 i else W.A2 (i+1)) i j;by_cases e:i<k
 ·unfold setsE;simp[Ai,e]
 ·have:k+1+(i - k)=i+1:=(by omega);have s:¬i+1<k:=(by omega);unfold setsE;simp[Ai,e,ntR,this,s]
set_option maxRecDepth 20000
set_option maxHeartbeats 3200000
def E5(W:A6)(other:ByteArray)(id:Int)(n j:Nat):Prop:=∃m x,m<n/\Steps W other id m x/\BW W x j
def MS(W:A6)(other:ByteArray)(id:Int)(j:Nat):Prop:=∃m x,Steps W other id m x/\BW W x j/\(W.A3 j).set=other
open Classical in
def FR(W:A6)(name:ByteArray)(V:Nat->Prop):Nat->Aa:=fun j=>if V j then {W.A3 j with set:=name}else W.A3 j
def Q7(W:A6)(x y:ByteArray):Prop:=∃i,i<W.pn/\(W.A3 i).set=x/\(W.A3 i).name=y
def MZ(W:A6)(k d:Nat)(name other:ByteArray)(id:Int):A6:={W with A3:=FR W name (MS W other id),A2:=fun i=>if i=d then {W.A2 d with origin:=id}else if i=k then {W.A2 k with origin:=(W.A2 d).origin}else W.A2 i}
open Classical in
def MY(W:A6)(k:Nat)(x other:ByteArray)(id:Int):Bm:=if ∃j,MS W other id j/\Q7 W x (W.A3 j).name then BP 5 else⟨MZ W k (Ay W other) x other id,id,0,0⟩
open Classical in
def IH(W:A6)(x:ByteArray):Bm:=if 8000<x.size then BP 2 else if B4 W then(if BL W x then(if (W.A2 (Ay W x)).origin=0 then BP 7 else MY W (Ay W x) x (W.A3 (GH W (W.A2 (Ay W x)).origin)).set (W.A2 (Ay W x)).origin)else BP 4)else BP 1
variable{a:ByteArray}{j:Nat}
theorem Pv{id:Int}(h:Steps W a id n x)(b:BW W x j):E5 W a id (n+1) i↔i=j\/E5 W a id n i:=by
 constructor
 ·rintro⟨m,y,c,hs,hi⟩;by_cases e:m=n
  ·subst e;rw[hs.det h]at hi;exact .inl (hi.uniq b)
  ·exact .inr ⟨m,y,by omega,hs,hi⟩
 ·rintro(rfl | ⟨m,y,c,hs,hi⟩)
  ·exact⟨n,x,by omega,h,b⟩
  ·exact⟨m,y,by omega,hs,hi⟩
theorem Uy{id:Int}(h:Steps W a id n x)(f:¬F5 W a x):E5 W a id n i↔MS W a id i:=by
 constructor
 ·rintro⟨m,y,d,hs,hi⟩;obtain⟨z,c,j,g,b⟩:=h.less d;rw[hs.det c]at hi;refine⟨m,z,c,hi,?_⟩;rw[hi.uniq g];exact b
 ·rintro⟨m,y,hs,hi,b⟩;by_cases d:m<n
  ·exact⟨m,y,d,hs,hi⟩
  ·exfalso;by_cases e:m=n
   ·subst e;rw[hs.det h]at hi;exact f ⟨i,hi,b⟩
   ·obtain⟨z,c,k⟩:=hs.less (show n<m by omega);rw[h.det c]at f;exact f k
attribute [go_sem] Bd
attribute [-go_sem] Bd
def yv:AL:=AY (fun q:A6×ByteArray=>[woT q.1,sT q.2]) (fun q=>Bt q.1) (fun q=>[wuO (IH q.1 q.2)])
theorem zH0(W:A6)(x:ByteArray):yv [woT W,sT x]=some (Bt W,[wuO (IH W x)]):=Ag (fun l=>(C2 (nth l 0),CO (nth l 1 0))) (fun _=>rfl) (W,x)
theorem zBI:An Tryz.prog 103 yv:=by
 refine B6 Al (GOk.cons ID (AE Tryz.func30 rfl rfl) (GOk.cons FK (AE Tryz.func14 rfl rfl) (GOk.cons IA (AE Tryz.func28 rfl rfl) (GOk.cons J6 (AE Tryz.func31 rfl rfl) (GOk.cons Ge (AE Tryz.func26 rfl rfl) (GOk.cons Yo (AE Tryz.func29 rfl rfl) GOk.nil)))))) Ak Tryz.func103 rfl Tryz.ntmps103 Tryz.results103 12 ?_;rintro⟨W,x⟩ t;replace t:Bt W:=t;have hs:=t.sn;have K:=t.pn;refine⟨by simp,?_⟩;by_cases M:8000<x.size
 ·simp[go_sem,Bx,show(8000:Int)<x.size by omega];exact By (if_pos M)
 have D:¬(8000:Int)<x.size:=by omega
 by_cases A:B4 W;rotate_left
 ·simp[go_sem,Dg,CE,Cb,Bx,t,t.toSmallW,hs,K,E9,Cn,D,A];exact By ((if_neg M).trans (if_neg A))
 by_cases J:BL W x;rotate_left
 ·simp[go_sem,Dg,CE,Cb,Bx,t,t.toSmallW,hs,K,E9,Cn,D,A,J];exact By ((if_neg M).trans ((if_pos A).trans (if_neg J)))
 have hk:=Ib J;have lA:=Cn.2 J;have r:Ay W x<W.sn:=by show(BO W.sn fun k=>(W.A2 k).name=x).toNat<W.sn;omega
 obtain⟨k,E⟩:∃k,k=Ay W x:=⟨_,rfl⟩;have T:(BO W.sn fun k=>(W.A2 k).name=x)=(k:Int):=by rw[E];show _=((BO W.sn fun k=>(W.A2 k).name=x).toNat:Int);omega
 have X:¬(k:Int)<0:=by omega
 rw[<-E]at r;by_cases N:(W.A2 k).origin=0
 ·simp[go_sem,Dg,CE,Cb,Bx,t,t.toSmallW,hs,K,T,X,D,A,r,N];exact By ((if_neg M).trans ((if_pos A).trans ((if_pos J).trans (if_pos (E▸N)))))
 have hI:CK W (W.A2 k).origin:=(A.Aq.2.2.2.2.1 k r).2.2.2 N;obtain⟨q,hq⟩:=hI.no;have U:(BO W.pn fun j=>(W.A3 j).id=(W.A2 k).origin)=(q:Int):=I2 hq.1 hq.2.1 hq.2.2;have Y:=hq.1;obtain⟨id,H⟩:∃id,id=(W.A2 k).origin:=⟨_,rfl⟩;obtain⟨b,I⟩:∃o,o=(W.A3 q).set:=⟨_,rfl⟩;simp[go_sem,Dg,CE,Cb,Ex,Bx,Jk,t,t.toSmallW,hs,K,T,X,D,A,r,N,U,Y];rw[<-H,<-I];refine⟨by kernel_rfl,?_⟩;have G:=A.Aq.ER;have hS:BL W b:=by rw[I];exact(A.Aq.2.2.2.2.2 q Y).1.2.2.2.2.2
 have hd:=Ib hS;have kA:=Cn.2 hS;obtain⟨d,P⟩:∃d,d=Ay W b:=⟨_,rfl⟩;have R:(BO W.sn fun k=>(W.A2 k).name=b)=(d:Int):=by rw[P];show _=((BO W.sn fun k=>(W.A2 k).name=b).toNat:Int);omega
 have Q:d<W.sn:=by omega
 have eR:IH W x=MY W k x b id:=by
  unfold IH;rw[if_neg M,if_pos A,if_pos J,<-E,if_neg N,H,I];show MY W k x (W.A3 (BO W.pn fun j=>(W.A3 j).id=(W.A2 k).origin).toNat).set _=_;rw[U,Int.toNat_natCast]
 rw[eR];refine BF (fun q:Nat×Int=>⟨[(9,true,.m false [.v (.int .i64 q.2)]),(8,true,.m false [.p 8 0]),(7,true,.m false [.v (.string b)]),(6,true,.m false [.v (.int .i64 id)]),(5,true,.i k),(4,true,.m false [.p 4 0]),(2,true,.m false [.p 2 0]),(1,true,.m false [.v (.string x)])],[(8,.var [.h 61,.h 62,.v (.int .i64 W.time),.v (.int .i64 W.next),.h 63,.h 64]),(64,.row 8 W.pn (snapsE .z (FR W x (E5 W b id q.1)))),(63,.row 6 W.sn (setsE .o W.A2)),(62,.row 1 W.pool.hn (BH W.pool.h)),(61,.row 3 W.pool.n (Aw .z W.pool.s)),(4,.var [.v n0,.v n0,.v i0,.v i0,.v n0,.v n0,.v i0,.v i0,.v i0]),(2,.var ((woL W).map Tr.cv))]⟩) (fun q=>1000000 - q.1) (fun q=>EZ W b id q.1 q.2/\∀j,E5 W b id q.1 j->¬Q7 W x (W.A3 j).name) (0,id) ?_ ⟨EZ.start G _ (.inr (H▸hI)),fun j ⟨m,y,hm,_⟩=>absurd hm (Nat.not_lt_zero _)⟩ ?_
 ·have e0:FR W x (E5 W b id 0)=W.A3:=funext fun j=>if_neg fun ⟨m,y,hm,_⟩=>absurd hm (Nat.not_lt_zero _)
  simp[go_sem,e0]
 rintro⟨n,y⟩ ⟨u,F⟩;replace u:EZ W b id n y:=u;replace F:∀j,E5 W b id n j->¬Q7 W x (W.A3 j).name:=F;have ha:n<=900000:=by have:=u.least;have:=u.sum;omega
 have hM:¬F5 W b y->FR W x (E5 W b id n)=FR W x (MS W b id):=fun he=>by
  have:E5 W b id n=MS W b id:=funext fun i=>propext (Uy u.steps he)
  rw[this]
 have hK:¬F5 W b y->MY W k x b id=⟨MZ W k d x b id,id,0,0⟩:=fun he=>by
  rw[P];exact if_neg fun ⟨i,C,w⟩=>F i ((Uy u.steps he).2 C) w
 have O:TrE (Tr.s .o 6 W.sn (Ae (Ae (setsE .o W.A2) k 1 [.v (.int .i64 (W.A2 d).origin)]) d 1 [.v (.int .i64 id)])) (Tr.s .o 6 W.sn (setsE .o (MZ W k d x b id).A2)):=F9 fun i j hi l=>by
  show _=setsE .o (fun i=>if i=d then {W.A2 d with origin:=id}else if i=k then {W.A2 k with origin:=(W.A2 d).origin}else W.A2 i) i j;by_cases e1:i=d
  ·subst e1;by_cases L:i=k
   ·subst L
    match j,l with
    | 0,_ | 1,_ | 2,_ | 3,_ | 4,_ | 5,_=>simp[Ae,setsE]
   ·match j,l with
    | 0,_ | 1,_ | 2,_ | 3,_ | 4,_ | 5,_=>simp[Ae,setsE,L]
  ·by_cases L:i=k
   ·subst L
    match j,l with
    | 0,_ | 1,_ | 2,_ | 3,_ | 4,_ | 5,_=>simp[Ae,setsE,e1]
   ·unfold setsE;simp[Ae,e1,L]
 by_cases hy:y=0
 ·subst hy;have f:=Yu G b;simp[go_sem,Cb,hs,R,Q,r];rw[hK f,hM f];exact⟨by kernel_rfl,⟨TrE.refl _,Bo⟩,⟨TrE.refl _,Bz⟩,rfl,rfl,⟨O,Cj⟩,⟨TrE.refl _,Ci⟩,rfl,rfl,rfl⟩
 obtain⟨j,l⟩:=(u.there.resolve_left hy).no;have S:(BO W.pn fun i=>(W.A3 i).id=y)=(j:Int):=I2 l.1 l.2.1 l.2.2;have V:=l.1;by_cases B:(W.A3 j).set=b;rotate_left
 ·have f:=Xe l B;have Z:¬(W.A3 j).set.toList=b.toList:=fun e=>B (G7 e)
  simp[go_sem,Cb,Ex,hs,K,R,Q,r,hy,S,V,Z];rw[hK f,hM f];exact⟨by kernel_rfl,⟨TrE.refl _,Bo⟩,⟨TrE.refl _,Bz⟩,rfl,rfl,⟨O,Cj⟩,⟨TrE.refl _,Ci⟩,rfl,rfl,rfl⟩
 simp[go_sem,Cb,Ex,Bx,Jk,hs,K,hy,S,V,B];refine⟨by kernel_rfl,fun i hi C w=>By (if_pos ⟨j,⟨n,y,u.steps,l,B⟩,i,hi,C,w⟩),fun h=>⟨n+1,_,⟨u.next G l B,fun i hi=>?_⟩,by omega,rfl,F9 fun i c hi hc=>?_⟩⟩
 ·rcases(Pv u.steps l).1 hi with rfl | hi
  ·exact fun ⟨a,C,w,h3⟩=>h a C w h3
  ·exact F i hi
 ·by_cases e:i=j
  ·subst e;have hv:E5 W b id (n+1) i:=(Pv u.steps l).2 (.inl rfl);have C:FR W x (E5 W b id (n+1)) i = {W.A3 i with set:=x}:=if_pos hv;have w:FR W x (E5 W b id n) i = {W.A3 i with set:=x}\/FR W x (E5 W b id n) i=W.A3 i:=by
    by_cases g:E5 W b id n i
    ·exact .inl (if_pos g)
    ·exact .inr (if_neg g)
   rcases w with w | w
   ·match c,hc with
    | 0,_ | 1,_ | 2,_ | 3,_ | 4,_ | 5,_ | 6,_ | 7,_=>simp[Ae,snapsE,C,w]
   ·match c,hc with
    | 0,_ | 1,_ | 2,_ | 3,_ | 4,_ | 5,_ | 6,_ | 7,_=>simp[Ae,snapsE,C,w]
  ·have C:FR W x (E5 W b id (n+1)) i=FR W x (E5 W b id n) i:=by
    have:E5 W b id (n+1) i=E5 W b id n i:=propext ((Pv u.steps l).trans ⟨fun h=>h.resolve_left e,.inr⟩);unfold FR;rw[this]
   unfold snapsE;simp[Ae,e,C]
set_option maxRecDepth 20000
set_option maxHeartbeats 3200000
attribute [go_sem] Bd
attribute [-go_sem] Bd
theorem M8(f g:Nat->Int)(t:Int)(n:Nat):(C6 f g t n).length<=n:=by
 have:=Kq f g t n;omega
variable{f g:Nat->Int}
theorem OZ:(Bu n f g).length=n:=by simp[Bu]
theorem zGB:AN (Bu n f g ++ l) i=if i<n then f i else AN l (i - n):=by
 unfold AN Bu;simp only[List.getD_eq_getElem?_getD,List.getElem?_append,List.length_map,List.length_range];split
 ·rename_i h;simp[h]
 ·rfl
theorem zHM:AP (Bu n f g ++ l) i=if i<n then g i else AP l (i - n):=by
 unfold AP Bu;simp only[List.getD_eq_getElem?_getD,List.getElem?_append,List.length_map,List.length_range];split
 ·rename_i h;simp[h]
 ·rfl
variable{m:Nat}
theorem OA(b:m=n+l.length)(hF:∀i j,i<m->j<2->F i j=if i<n then ptrsT f g i j else DR encP (0,0) l (i - n) j):TrE (.s .o 2 m F) (.s .o 2 (Bu n f g ++ l).length (ptrsT (AN (Bu n f g ++ l)) (AP (Bu n f g ++ l)))):=by
 refine⟨.inl rfl,rfl,by rw[b,List.length_append,OZ],fun i j hi a=>TrE.of_eq ?_⟩;rw[hF i j hi a]
 match j,a with
 | 0,_=>simp only[ptrsT,zGB,PG];split<;>rfl
 | 1,_=>simp only[ptrsT,zHM,PH];split<;>rfl
theorem zJF(f:Nat->Nat->Tr)(k:Nat)(a b:Tr):Ae f k 3 [a,b] k 5=f k 5:=by simp[Ae]
abbrev toV(t:D9):List Tr:=[.s .o 3 t.pool.n (Aw .z t.pool.s),.s .o 1 t.pool.hn (BH t.pool.h),.v (.int .i64 t.rs),.v (.int .i64 t.rb),.s .o 2 t.old.length (ptL t.old),.v (.int .i64 t.code)]
def Zi:AL:=AY (fun q:(A6×Int)×D9=>[woT q.1.1,iT q.1.2,(true,toV q.2)]) (fun q=>Bt q.1.1/\B4 q.1.1/\(0<=q.1.2/\q.1.2<q.1.1.sn)/\(q.2.code=0->q.2.pool.hn+q.2.old.length<=1000000)) (fun q=>[wuO (Dc q.1.1 q.1.2.toNat q.2)])
theorem zGl(l:List (Int×Int)):Jz (.s .o 2 l.length (ptL l))=l:=by
 refine Eq.trans ?_ (Pb l);unfold Jz;congr 1
theorem VR(W:A6)(k:Int)(t:D9):Zi [woT W,iT k,(true,toV t)]=some (Bt W/\B4 W/\(0<=k/\k<W.sn)/\(t.code=0->t.pool.hn+t.old.length<=1000000),[wuO (Dc W k.toNat t)]):=
 Ag (fun m=>((C2 (nth m 0),AS (nth m 1 0)),⟨Cw (nth m 2 0) (nth m 2 1),AS (nth m 2 2),AS (nth m 2 3),Jz (nth m 2 4),AS (nth m 2 5)⟩)) (fun q=>by exact congrArg (fun l=>(q.1,(⟨q.2.pool,q.2.rs,q.2.rb,l,q.2.code⟩:D9))) (zGl q.2.old)) ((W,k),t)
theorem YI:NJ Tryz.prog 145 Zi:=by
 refine zDP (A:=fun q:(A6×Int)×D9=>[woT q.1.1,iT q.1.2]) (V:=fun q=>toV q.2) Al (GOk.cons ID (AE Tryz.func30 rfl rfl) (GOk.cons Ge (AE Tryz.func26 rfl rfl) (GOk.cons Kx (AE Tryz.func88 rfl rfl) (GOk.cons Og (AE Tryz.func148 rfl rfl) (GOk.ptr RL (AE Tryz.func149 rfl rfl) GOk.nil))))) Ak Tryz.func145 rfl Tryz.ntmps145 Tryz.results145 13 ?_;rintro⟨⟨W,h⟩,t⟩ c;obtain⟨c,n,⟨m,g⟩,u⟩:Bt W/\B4 W/\(0<=h/\h<W.sn)/\(t.code=0->t.pool.hn+t.old.length<=1000000):=c;have hs:=c.sn;have s:=c.pn;obtain⟨k,rfl⟩:=Int.eq_ofNat_of_zero_le m;have f:k<W.sn:=by omega
 refine⟨by simp,?_⟩;show ev _ _ _ _ _ _ (Jv _ _ [wuO (Dc W k t)]);by_cases d:t.code=0;rotate_left
 ·simp[go_sem,Bx,d];exact By (if_neg d)
 have v:=Kf (fun k g=>(n.Aq.ER.ids k g).1) (W.A2 k).A8;have l:Dc W k t=⟨Cy W k t,0,((DZ W k t).length:Int),0⟩:=if_pos d;simp[go_sem,Bx,Dg,Jj,M6,QX ⟨t.pool,W.time,W.next,W.sn,W.A2,W.pn,W.A3⟩,c,hs,s,d,v,f,Ar (show k<=1000000000 by omega),zJF,Ue,YB,Ud,Yj,l];have y:=u d;have B:=GB (fun i=>AN t.old i) (fun i=>AP t.old i) (AI W (W.A2 k).A8).time t.old.length;have z:=M8 (fun i=>AN t.old i) (fun i=>AP t.old i) (AI W (W.A2 k).A8).time t.old.length;have x:=c.sd k f;refine⟨by kernel_rfl,by omega,by omega,by omega,by kernel_rfl,⟨TrE.refl _,Bo⟩,⟨TrE.refl _,Bz⟩,rfl,rfl,⟨⟨.inl rfl,rfl,rfl,fun i j hi r=>?_⟩,Cj⟩,⟨TrE.refl _,Ci⟩,rfl⟩;show TrE _ (setsE .o (fun j=>if j=k then Fd W k t else W.A2 j) i j);by_cases e:i=k
 ·subst e
  match j,r with
  | 0,_ | 1,_ | 2,_ | 3,_ | 4,_=>exact TrE.of_eq (by simp[Ae,setsE,Fd])
  | 5,_=>
   simp[Ae,setsE,Fd];exact OA rfl fun a b w p=>by
    unfold Ai;split
    ·rfl
    ·match b,p with
     | 0,_ | 1,_=>rfl
 ·exact TrE.of_eq (by unfold setsE;simp[Ae,e])
open Classical in
def Eb(W:A6)(x:ByteArray)(AM:Int)(d:ByteArray):Bm:=if 8000<x.size\/8000<d.size then BP 2 else if B4 W then(if BL W x then Dc W (Ay W x) (CF W.pool (W.A2 (Ay W x)).rs (W.A2 (Ay W x)).rb AM d W.time)else BP 4)else BP 1
open Classical in
def IQ(W:A6)(x:ByteArray)(AM:Int):Bm:=if 8000<x.size then BP 2 else if B4 W then(if BL W x then Dc W (Ay W x) (FW W.pool (W.A2 (Ay W x)).rs (W.A2 (Ay W x)).rb AM W.time)else BP 4)else BP 1
def qG:AL:=AY (fun q:(A6×ByteArray)×Int×ByteArray=>[woT q.1.1,sT q.1.2,iT q.2.1,sT q.2.2]) (fun q=>Bt q.1.1) (fun q=>[wuO (Eb q.1.1 q.1.2 q.2.1 q.2.2)])
theorem zDi(W:A6)(x:ByteArray)(AM:Int)(d:ByteArray):qG [woT W,sT x,iT AM,sT d]=some (Bt W,[wuO (Eb W x AM d)]):=Ag (fun l=>((C2 (nth l 0),CO (nth l 1 0)),AS (nth l 2 0),CO (nth l 3 0))) (fun _=>rfl) ((W,x),AM,d)
theorem zBs:An Tryz.prog 105 qG:=by
 refine B6 Al (GOk.cons FK (AE Tryz.func14 rfl rfl) (GOk.cons IA (AE Tryz.func28 rfl rfl) (GOk.cons Ge (AE Tryz.func26 rfl rfl) (GOk.cons zCK (AE Tryz.func151 rfl rfl) (GOk.own YI (AE Tryz.func145 rfl rfl) GOk.nil))))) Ak Tryz.func105 rfl Tryz.ntmps105 Tryz.results105 10 ?_;rintro⟨⟨W,x⟩,AM,d⟩ a;replace a:Bt W:=a;have hs:=a.sn;have o:=a.n;have v:=a.hn;refine⟨by simp,?_⟩;by_cases g:8000<x.size\/8000<d.size
 ·rcases Nat.lt_or_ge 8000 x.size with h | h
  ·simp[go_sem,Bx,show(8000:Int)<x.size by omega];exact By (if_pos g)
  ·simp[go_sem,Bx,show ¬(8000:Int)<x.size by omega,show(8000:Int)<d.size by omega];exact By (if_pos g)
 have b:¬(8000:Int)<x.size:=by omega
 have c:¬(8000:Int)<d.size:=by omega
 by_cases e:B4 W;rotate_left
 ·simp[go_sem,CE,Cb,Bx,a,a.toSmallW,hs,o,b,c,e];exact By ((if_neg g).trans (if_neg e))
 by_cases i:BL W x;rotate_left
 ·simp[go_sem,CE,Cb,Bx,a,a.toSmallW,hs,o,E9,Cn,b,c,e,i];exact By ((if_neg g).trans ((if_pos e).trans (if_neg i)))
 have B:=Ib i;have w:=Cn.2 i;have j:Ay W x<W.sn:=by show(BO W.sn fun k=>(W.A2 k).name=x).toNat<W.sn;omega
 obtain⟨k,f⟩:∃k,k=Ay W x:=⟨_,rfl⟩;have l:(BO W.sn fun k=>(W.A2 k).name=x)=(k:Int):=by rw[f];show _=((BO W.sn fun k=>(W.A2 k).name=x).toNat:Int);omega
 have m:¬(k:Int)<0:=by omega
 have q:Eb W x AM d=Dc W k (CF W.pool (W.A2 k).rs (W.A2 k).rb AM d W.time):=by
  unfold Eb;rw[if_neg g,if_pos e,if_pos i,<-f]
 rw[<-f]at j;have p:=Of W.pool (W.A2 k).rs (W.A2 k).rb AM d W.time;obtain⟨t,s⟩:∃t,t=CF W.pool (W.A2 k).rs (W.A2 k).rb AM d W.time:=⟨_,rfl⟩;rw[<-s]at p q;have u:t.pool.hn+t.old.length<=1000000:=by
  have:=Kz e.right;have y:=p.1;have z:=p.2;have A:t.pool.hn<=Ap t.pool:=Nat.le_add_left ..;omega
 have r:=zIE W.pool (W.A2 k).rs (W.A2 k).rb AM d W.time;rw[<-s]at r;simp[go_sem,CE,Cb,Bx,r,VR W k t,a,a.toSmallW,hs,o,v,l,m,b,c,e,j,q,u];exact⟨by kernel_rfl,Bo,Bz,Cj,Ci⟩
def yP:AL:=AY (fun q:(A6×ByteArray)×Int=>[woT q.1.1,sT q.1.2,iT q.2]) (fun q=>Bt q.1.1) (fun q=>[wuO (IQ q.1.1 q.1.2 q.2)])
theorem zEt(W:A6)(x:ByteArray)(AM:Int):yP [woT W,sT x,iT AM]=some (Bt W,[wuO (IQ W x AM)]):=Ag (fun l=>((C2 (nth l 0),CO (nth l 1 0)),AS (nth l 2 0))) (fun _=>rfl) ((W,x),AM)
theorem zB4:An Tryz.prog 97 yP:=by
 refine B6 Al (GOk.cons FK (AE Tryz.func14 rfl rfl) (GOk.cons IA (AE Tryz.func28 rfl rfl) (GOk.cons Ge (AE Tryz.func26 rfl rfl) (GOk.cons zBt (AE Tryz.func146 rfl rfl) (GOk.own YI (AE Tryz.func145 rfl rfl) GOk.nil))))) Ak Tryz.func97 rfl Tryz.ntmps97 Tryz.results97 8 ?_;rintro⟨⟨W,x⟩,AM⟩ a;replace a:Bt W:=a;have hs:=a.sn;have j:=a.n;have r:=a.hn;refine⟨by simp,?_⟩;by_cases g:8000<x.size
 ·simp[go_sem,Bx,show(8000:Int)<x.size by omega];exact By (if_pos g)
 have b:¬(8000:Int)<x.size:=by omega
 by_cases c:B4 W;rotate_left
 ·simp[go_sem,CE,Cb,Bx,a,a.toSmallW,hs,j,b,c];exact By ((if_neg g).trans (if_neg c))
 by_cases e:BL W x;rotate_left
 ·simp[go_sem,CE,Cb,Bx,a,a.toSmallW,hs,j,E9,Cn,b,c,e];exact By ((if_neg g).trans ((if_pos c).trans (if_neg e)))
 have y:=Ib e;have s:=Cn.2 e;have f:Ay W x<W.sn:=by show(BO W.sn fun k=>(W.A2 k).name=x).toNat<W.sn;omega
 obtain⟨k,d⟩:∃k,k=Ay W x:=⟨_,rfl⟩;have h:(BO W.sn fun k=>(W.A2 k).name=x)=(k:Int):=by rw[d];show _=((BO W.sn fun k=>(W.A2 k).name=x).toNat:Int);omega
 have i:¬(k:Int)<0:=by omega
 have m:IQ W x AM=Dc W k (FW W.pool (W.A2 k).rs (W.A2 k).rb AM W.time):=by
  unfold IQ;rw[if_neg g,if_pos c,if_pos e,<-d]
 rw[<-d]at f;have l:=RW W.pool (W.A2 k).rs (W.A2 k).rb AM W.time;obtain⟨t,p⟩:∃t,t=FW W.pool (W.A2 k).rs (W.A2 k).rb AM W.time:=⟨_,rfl⟩;rw[<-p]at l m;have q:t.pool.hn+t.old.length<=1000000:=by
  have:=Kz c.right;have u:=l.1;have v:=l.2;have w:t.pool.hn<=Ap t.pool:=Nat.le_add_left ..;omega
 have o:=zID W.pool (W.A2 k).rs (W.A2 k).rb AM W.time;rw[<-p]at o;simp[go_sem,CE,Cb,Bx,o,VR W k t,a,a.toSmallW,hs,j,r,h,i,b,c,f,m,q];exact⟨by kernel_rfl,Bo,Bz,Cj,Ci⟩
set_option maxRecDepth 20000
set_option maxHeartbeats 3200000
open Classical in
def sdK(W:A6)(x:Int)(k:Nat):Bm:=if h:∃i,Rx W x i then⟨zC W k h.choose,0,((GD W k h.choose).length:Int),0⟩else if h:∃i,Rw W x i then⟨zB W k h.choose,0,((IF W k h.choose).length:Int),0⟩else⟨{W with pn:=W.pn - 1,A3:=del W.A3 k},0,0,0⟩
open Classical in
def sdE(W:A6)(x:Int):Bm:=if B4 W then(if CK W x then(if 1<Dp W x W.sn+EH W x W.pn then BP 7 else sdK W x (GH W x))else BP 4)else BP 1
structure zHx (W:A6) (x:Int) (k:Nat) (o:Bm) (VP:Nat->A7) (VS:Nat->Nat->Ab) (m:Nat->Nat) (UP:Nat->A7) (US:Nat->Nat->Aa) (l:Nat->Nat):Prop where
 v0:VP 0=W.pool/\VS 0=W.A2/\m 0=0
 vn:∀j,(VP j).n=W.pool.n/\m j<=1000000
 cur:∀j,VS j j=W.A2 j
 no:∀j,j<W.sn->(W.A2 j).A8≠x->VP (j+1)=VP j/\VS (j+1)=VS j/\m (j+1)=m j
 yes:∀j,j<W.sn->(W.A2 j).A8=x->VP (j+1)=BJ (VP j) (GD W k j)/\VS (j+1)=(fun i=>if i=j then Md W (W.A3 k) (W.A2 j)else VS j i)/\m (j+1)=m j+(GD W k j).length/\(VP j).hn<=W.pool.hn
 u0:UP 0=VP W.sn/\US 0=W.A3/\l 0=m W.sn
 un:∀j,(UP j).n=W.pool.n/\l j<=1000000
 cur2:∀j,US j j=W.A3 j
 no2:∀j,j<W.pn->(W.A3 j).A8≠x->UP (j+1)=UP j/\US (j+1)=US j/\l (j+1)=l j
 yes2:∀j,j<W.pn->(W.A3 j).A8=x->UP (j+1)=BJ (UP j) (IF W k j)/\US (j+1)=(fun i=>if i=j then N6 W (W.A3 k) (W.A3 j)else US j i)/\l (j+1)=l j+(IF W k j).length/\(UP j).hn<=W.pool.hn
 fin:o=⟨⟨UP W.pn,W.time,W.next,W.sn,VS W.sn,W.pn - 1,del (US W.pn) k⟩,0,l W.pn,0⟩
theorem L8(h:B4 W):(∀j,j<W.sn->(W.A2 j).dn<=200)/\∀j,j<W.pn->(W.A3 j).dn<=200:=by
 refine⟨fun j a=>?_,fun j a=>?_⟩
 ·have:=(XM h (i:=W.pn+j) (by unfold memN;omega) 0).1.1
  rwa [C4]at this
 ·have:=(XM h (i:=j) (by unfold memN;omega) 0).1.1
  rwa [CH a]at this
theorem TW(W:A6)(x:Int):∀n,Dp W x n=Ds (fun i=>(W.A2 i).A8) x n
 | 0=>rfl
 | n+1=>by rw[Dp,Ds,TW]
theorem TU(W:A6)(x:Int):∀n,EH W x n=Ds (fun i=>(W.A3 i).A8) x n
 | 0=>rfl
 | n+1=>by rw[EH,Ds,TU]
theorem zIO(hs:∀i,i<W.sn->(W.A2 i).dn<=1000000)(y:∀i,i<W.pn->(W.A3 i).dn<=1000000)(w:¬1<Dp W x W.sn+EH W x W.pn):∃t u m r s l,zHx W x k (sdK W x k) t u m r s l:=by
 have q:∀i,i<W.sn->(GD W k i).length<=1000000:=fun i hi=>Nat.le_trans (GB ..) (hs i hi)
 have v:∀i,i<W.pn->(IF W k i).length<=1000000:=fun i hi=>Nat.le_trans (GB ..) (y i hi)
 rw[TW,TU]at w;unfold sdK;by_cases c:∃i,Rx W x i
 ·rw[dif_pos c];obtain⟨hi,g,n,o⟩:=c.choose_spec;generalize c.choose=i at *;refine⟨fun j=>if j<=i then W.pool else BJ W.pool (GD W k i),fun j=>if j<=i then W.A2 else SQ W k i,fun j=>if j<=i then 0 else(GD W k i).length,fun _=>BJ W.pool (GD W k i),fun _=>W.A3,fun _=>(GD W k i).length,⟨by simp,fun j=>?_,fun j=>?_,fun j a e=>?_,fun j a e=>?_,?_,fun j=>⟨(EQ _ _).1,q i hi⟩,fun _=>rfl,fun j a e=>⟨rfl,rfl,rfl⟩,fun j a e=>absurd e (o j a),?_⟩⟩
  ·split
   ·exact⟨rfl,by omega⟩
   ·exact⟨(EQ _ _).1,q i hi⟩
  ·split
   ·rfl
   ·unfold SQ;rw[if_neg (by omega)]
  ·have:j≠i:=fun h=>e (by rw[h];exact g)
   have d:(j+1<=i)↔(j<=i):=(by omega);simp[d]
  ·have:j=i:=Classical.not_not.1 fun h=>n j a h e
   subst this;have p:¬j+1<=j:=(by omega);simp[p];rfl
  ·simp[show ¬W.sn<=i by omega]
  ·simp[show ¬W.sn<=i by omega,zC]
 rw[dif_neg c];by_cases b:∃i,Rw W x i
 ·rw[dif_pos b];obtain⟨hi,g,n,o⟩:=b.choose_spec;generalize b.choose=i at *;refine⟨fun _=>W.pool,fun _=>W.A2,fun _=>0,fun j=>if j<=i then W.pool else BJ W.pool (IF W k i),fun j=>if j<=i then W.A3 else SP W k i,fun j=>if j<=i then 0 else(IF W k i).length,⟨by simp,fun j=>⟨rfl,by simp⟩,fun j=>rfl,fun j a e=>⟨rfl,rfl,rfl⟩,fun j a e=>absurd e (o j a),by simp,fun j=>?_,fun j=>?_,fun j a e=>?_,fun j a e=>?_,?_⟩⟩
  ·split
   ·exact⟨rfl,by omega⟩
   ·exact⟨(EQ _ _).1,v i hi⟩
  ·split
   ·rfl
   ·unfold SP;rw[if_neg (by omega)]
  ·have:j≠i:=fun h=>e (by rw[h];exact g)
   have d:(j+1<=i)↔(j<=i):=(by omega);simp[d]
  ·have:j=i:=Classical.not_not.1 fun h=>n j a h e
   subst this;have p:¬j+1<=j:=(by omega);simp[p];rfl
  ·simp[show ¬W.pn<=i by omega,zB]
 rw[dif_neg b];have z:Ml W x≠1:=fun e=>(zH9 e).elim b c
 unfold Ml at z;have A:∀j,j<W.sn->(W.A2 j).A8≠x:=fun j a e=>by
  have:=VG (f:=fun i=>(W.A2 i).A8) a e;omega
 have B:∀j,j<W.pn->(W.A3 j).A8≠x:=fun j a e=>by
  have:=VG (f:=fun i=>(W.A3 i).A8) a e;omega
 exact⟨fun _=>W.pool,fun _=>W.A2,fun _=>0,fun _=>W.pool,fun _=>W.A3,fun _=>0,⟨by simp,fun j=>⟨rfl,by simp⟩,fun j=>rfl,fun j a e=>⟨rfl,rfl,rfl⟩,fun j a e=>absurd e (A j a),by simp,fun j=>⟨rfl,by simp⟩,fun j=>rfl,fun j a e=>⟨rfl,rfl,rfl⟩,fun j a e=>absurd e (B j a),rfl⟩⟩
attribute [go_sem] Bd
attribute [-go_sem] Bd
def Zx:AL:=AY (fun q:((A7×Int×Int)×(Nat×(Nat->Nat->Tr))×(Nat×(Nat->Nat->Tr)))×List (Int×Int)=>(true,[.s .o 3 q.1.1.1.n (Aw .z q.1.1.1.s),.s .o 1 q.1.1.1.hn (BH q.1.1.1.h),.v (.int .i64 q.1.1.2.1),.v (.int .i64 q.1.1.2.2),.s .o 6 q.1.2.1.1 q.1.2.1.2,.s .o 8 q.1.2.2.1 q.1.2.2.2]) :: [psL q.2]) (fun q=>q.1.1.1.hn+q.2.length<=1000000/\(Tr.s .o 6 q.1.2.1.1 q.1.2.1.2).kept/\(Tr.s .o 8 q.1.2.2.1 q.1.2.2.2).kept) (fun q=>[(true,[.s .o 3 q.1.1.1.n (Aw .z q.1.1.1.s),.s .o 1 (BJ q.1.1.1 q.2).hn (BH (BJ q.1.1.1 q.2).h),.v (.int .i64 q.1.1.2.1),.v (.int .i64 q.1.1.2.2),.s .o 6 q.1.2.1.1 q.1.2.1.2,.s .o 8 q.1.2.2.1 q.1.2.2.2]),iT q.2.length])
theorem VN(p:A7)(a b:Int)(n:Nat)(F:Nat->Nat->Tr)(c:Nat)(G:Nat->Nat->Tr)(l:List (Int×Int)):Zx ((true,[.s .o 3 p.n (Aw .z p.s),.s .o 1 p.hn (BH p.h),.v (.int .i64 a),.v (.int .i64 b),.s .o 6 n F,.s .o 8 c G]) :: [psL l])=some (p.hn+l.length<=1000000/\(Tr.s .o 6 n F).kept/\(Tr.s .o 8 c G).kept,[(true,[.s .o 3 p.n (Aw .z p.s),.s .o 1 (BJ p l).hn (BH (BJ p l).h),.v (.int .i64 a),.v (.int .i64 b),.s .o 6 n F,.s .o 8 c G]),iT l.length]):=
 Ag (fun m=>(((Cw (nth m 0 0) (nth m 0 1),AS (nth m 0 2),AS (nth m 0 3)),(DN (nth m 0 4),Bp (nth m 0 4)),(DN (nth m 0 5),Bp (nth m 0 5))),Jz (nth m 1 0))) (fun q=>by exact congrArg (Prod.mk q.1) (Pb q.2)) (((p,a,b),(n,F),(c,G)),l)
theorem zEp:DK Tryz.prog 149 Zx:=by
 refine Ev Al GOk.nil Ak Tryz.func149 rfl Tryz.ntmps149 Tryz.results149 6 ?_;rintro⟨⟨⟨c,a,b⟩,⟨n,F⟩,g,G⟩,l⟩ hn;obtain⟨hn,r,t⟩:c.hn+l.length<=1000000/\(Tr.s .o 6 n F).kept/\(Tr.s .o 8 g G).kept:=hn;refine⟨by simp,?_⟩;simp[go_sem];refine BF (fun k:Nat=>⟨[(5,true,.i k),(0,true,.m false [.p 0 0]),(1,true,.m false [.s .b 2 l.length (ptrsT (fun i=>AN l i) (fun i=>AP l i))])],[(0,.var [.h 1000,.h 2000,.v (.int .i64 a),.v (.int .i64 b),.h 5000,.h 6000]),(1000,.row 3 c.n (Aw .z c.s)),(2000,.row 1 (BJ c (l.take k)).hn (BH (BJ c (l.take k)).h)),(5000,.row 6 n F),(6000,.row 8 g G)]⟩) (fun k=>l.length - k) (fun k=>k<=l.length) 0 (by simp[go_sem,BJ]) (Nat.zero_le _) ?_;intro k j;obtain⟨p,d⟩:∃p,p=BJ c (l.take k):=⟨_,rfl⟩;have q:p.hn=c.hn+k:=by rw[d,(EQ _ _).2.2,List.length_take,Nat.min_eq_left j]
 have f:k<l.length->BJ c (l.take (k+1))=CQ p (AN l k):=fun h=>by
  rw[d,List.take_succ_eq_append_getElem h,Ot,<-LB];simp[h]
 rw[<-d];simp[go_sem,Ar (show k<=1000000000 by omega)];refine⟨fun e=>⟨e,by omega,by kernel_rfl,k+1,e,by omega,rfl,?_⟩,fun e=>?_⟩
 ·rw[f e];exact R0
 ·cases (show k=l.length by omega);rw[List.take_length]at d;subst d;exact⟨Bo,⟨TrE.refl _,Bz⟩,r,t⟩
theorem zF2{a:Nat}{T:Tr}(h:(Tr.s fl k n F).kept)(b:T.kept):(Tr.s fl k n (Ae F a j [T])).kept:=by
 refine⟨h.1,fun i q hi c=>?_⟩;unfold Ae;split
 ·rename_i e
  have:q - j=0:=(by have:=e.2.2;simp at this;omega);rw[this];exact b
 ·exact h.2 i q hi c
theorem zFQ{S:Nat->Ab}{s:Ab}{z:Tr}(h:s.name=(S j).name/\s.origin=(S j).origin/\s.rs=(S j).rs/\s.rb=(S j).rb)(b:TrE (.s .o 2 m F) (.s .o 2 s.dn (ptrsT s.ds s.db))):TrE (.s .o 6 n (Ae (Ae (Ae (setsE .o S) j 5 [z]) j 5 [.s .o 2 m F]) j 2 [.v (.int .i64 s.A8)])) (.s .o 6 n (setsE .o fun i=>if i=j then s else S i)):=by
 refine⟨.inl rfl,rfl,rfl,fun i c hi a=>?_⟩;by_cases e:i=j
 ·subst e;obtain⟨d,f,g,k⟩:=h
  match c,a with
  | 0,_ | 1,_ | 2,_ | 3,_ | 4,_=>exact TrE.of_eq (by simp[Ae,setsE, *])
  | 5,_=>simpa[Ae,setsE]using b
 ·exact TrE.of_eq (by unfold setsE;simp[Ae,e])
theorem zE7{S:Nat->Aa}{s:Aa}(h:s.id=(S j).id/\s.name=(S j).name/\s.set=(S j).set/\s.time=(S j).time/\s.rs=(S j).rs/\s.rb=(S j).rb)(b:TrE (.s .o 2 m F) (.s .o 2 s.dn (ptrsT s.ds s.db))):TrE (.s .o 8 n (Ae (Ae (snapsE .z S) j 7 [.s .o 2 m F]) j 3 [.v (.int .i64 s.A8)])) (.s .o 8 n (snapsE .z fun i=>if i=j then s else S i)):=by
 refine⟨.inl rfl,rfl,rfl,fun i c hi a=>?_⟩;by_cases e:i=j
 ·subst e;obtain⟨d,f,g,k,l,p⟩:=h
  match c,a with
  | 0,_ | 1,_ | 2,_ | 3,_ | 4,_ | 5,_ | 6,_=>exact TrE.of_eq (by simp[Ae,snapsE, *])
  | 7,_=>
   simp[Ae,snapsE];exact⟨.inr ⟨rfl,rfl⟩,b.2⟩
 ·exact TrE.of_eq (by unfold snapsE;simp[Ae,e])
theorem yV{a b:Nat}(h:a<=1000000)(c:b<=1000000):IntKind.i64.wrap ((a:Int)+(b:Int))=((a+b:Nat):Int):=by
 simp[IntKind.wrap,IntKind.bits];omega
def mSd:AL:=AY (fun q:A6×Int=>[woT q.1,iT q.2]) (fun q=>Bt q.1) (fun q=>[wuO (sdE q.1 q.2)])
theorem zIC(W:A6)(x:Int):mSd [woT W,iT x]=some (Bt W,[wuO (sdE W x)]):=Ag (fun l=>(C2 (nth l 0),AS (nth l 1 0))) (fun _=>rfl) (W,x)
theorem zD6:An Tryz.prog 99 mSd:=by
 refine B6 Al (GOk.cons ID (AE Tryz.func30 rfl rfl) (GOk.cons FK (AE Tryz.func14 rfl rfl) (GOk.cons J6 (AE Tryz.func31 rfl rfl) (GOk.cons Ge (AE Tryz.func26 rfl rfl) (GOk.cons Kx (AE Tryz.func88 rfl rfl) (GOk.cons zBV (AE Tryz.func147 rfl rfl) (GOk.cons Og (AE Tryz.func148 rfl rfl) (GOk.ptr zEp (AE Tryz.func149 rfl rfl) GOk.nil)))))))) Ak Tryz.func99 rfl Tryz.ntmps99 Tryz.results99 17 ?_;rintro⟨W,x⟩ g;replace g:Bt W:=g;have hs:=g.sn;have L:=g.pn;refine⟨by simp,?_⟩;by_cases f:B4 W;rotate_left
 ·simp[go_sem,CE,Ex,Bx,g,g.toSmallW,hs,L,f];exact By (if_neg f)
 by_cases E:CK W x;rotate_left
 ·simp[go_sem,CE,Ex,Bx,g,g.toSmallW,hs,L,JM,Gp,f,E];exact By ((if_pos f).trans (if_neg E))
 have R:=KE E;have Z:=Gp.2 E;have w:GH W x<W.pn:=by show(BO W.pn fun k=>(W.A3 k).id=x).toNat<W.pn;omega
 obtain⟨k,D⟩:∃k,k=GH W x:=⟨_,rfl⟩;have G:(BO W.pn fun k=>(W.A3 k).id=x)=(k:Int):=by rw[D];show _=((BO W.pn fun k=>(W.A3 k).id=x).toNat:Int);omega
 have I:¬(k:Int)<0:=by omega
 rw[<-D]at w;by_cases N:1<Dp W x W.sn+EH W x W.pn
 ·simp[go_sem,CE,Ex,Bx,VQ,g,g.toSmallW,hs,L,G,I,f,show(1:Int)<(Dp W x W.sn:Int)+(EH W x W.pn:Int)by omega];exact By ((if_pos f).trans ((if_pos E).trans (if_pos N)))
 have T:sdE W x=sdK W x k:=by
  unfold sdE;rw[if_pos f,if_pos E,if_neg N,<-D]
 obtain⟨K,M,m,J,t,l,run⟩:=zIO (k:=k) g.sd g.pd N;rw[<-T]at run;have hz:=Kf (fun k R=>(f.Aq.ER.ids k R).1) (W.A3 k).A8;have P:¬(1:Int)<(Dp W x W.sn:Int)+(EH W x W.pn:Int):=by omega
 simp[go_sem,CE,Ex,Bx,VQ,Dg,Jj,g,g.toSmallW,hs,L,G,I,f,P,w,hz];have Q:=run.v0;refine BF (fun j:Nat=>⟨[(11,true,.i j),(10,true,.i (m j)),(9,true,.i (AI W (W.A3 k).A8).time),(7,true,.m false [.p 7 0]),(6,true,.m false [.p 6 0]),(5,true,.i k),(4,true,.m false [.p 4 0]),(1,true,.i x)],[(7,.var [.v (.int .i64 (W.A3 k).id),.v (.string (W.A3 k).name),.v (.string (W.A3 k).set),.v (.int .i64 (W.A3 k).A8),.v (.int .i64 (W.A3 k).time),.v (.int .i64 (W.A3 k).rs),.v (.int .i64 (W.A3 k).rb),.s .z 2 (W.A3 k).dn (ptrsT (W.A3 k).ds (W.A3 k).db)]),(6,.var [.h 61,.h 62,.v (.int .i64 W.time),.v (.int .i64 W.next),.h 63,.h 64]),(64,.row 8 W.pn (snapsE .z W.A3)),(63,.row 6 W.sn (setsE .o (M j))),(62,.row 1 (K j).hn (BH (K j).h)),(61,.row 3 (K j).n (Aw .z (K j).s)),(4,.var [.v n0,.v n0,.v i0,.v i0,.v n0,.v n0,.v i0,.v i0,.v i0])]⟩) (fun j=>W.sn - j) (fun j=>j<=W.sn) 0 (by rw[Q.1,Q.2.1,Q.2.2];simp[go_sem]) (Nat.zero_le _) ?_;intro j hj;have F:=run.cur j;simp[go_sem,Ar (show j<=1000000000 by omega),F];refine⟨fun A=>⟨A,?_⟩,fun A=>?_⟩
 ·by_cases y:(W.A2 j).A8=x
  ·simp[go_sem,y,A,F,Ar (show j<=1000000000 by omega),M6,VN,GR,Gy];obtain⟨r,u,B,S⟩:=run.yes j A y;have V:=(L8 f).1 j A;have hy:(Bl (W.A2 j).ds (W.A2 j).db (AI W (W.A3 k).A8).time (W.A2 j).dn).length<=(W.A2 j).dn:=GB ..;have ho:(C6 (W.A2 j).ds (W.A2 j).db (AI W (W.A3 k).A8).time (W.A2 j).dn).length<=(W.A2 j).dn:=M8 ..;have X:=(L8 f).2 k w;have Y:=M0 f.right;refine⟨by omega,⟨by omega,zF2 Cj ⟨by simp,fun p q _ _=>by unfold ptrsT;split<;>trivial⟩,Ci⟩,by omega,by omega,by kernel_rfl,j+1,A,by omega,⟨rfl,?_⟩,?_,?_,?_⟩
   ·rw[B];exact yV (run.vn j).2 (by omega)
   ·rw[u,<-F];refine zFQ (s:=Md W (W.A3 k) (M j j)) ⟨rfl,rfl,rfl,rfl⟩ (OA rfl fun a b U O=>?_);unfold Ai;split
    ·rfl
    ·match b,O with
     | 0,_ | 1,_=>rfl
   ·rw[r];exact TrE.refl _
   ·rw[r,(EQ _ _).1,(EQ _ _).2.1];exact TrE.refl _
  ·obtain⟨r,u,B⟩:=run.no j A y;simp[go_sem,y,Ar (show j<=1000000000 by omega)];exact⟨j+1,A,by omega,⟨rfl,by rw[B]⟩,by rw[u];exact TrE.refl _,by rw[r];exact TrE.refl _,by rw[r];exact TrE.refl _⟩
 cases (show j=W.sn by omega);have q1:=run.u0;refine BF (fun i:Nat=>⟨[(14,true,.i i),(10,true,.i (l i)),(9,true,.i (AI W (W.A3 k).A8).time),(7,true,.m false [.p 7 0]),(6,true,.m false [.p 6 0]),(5,true,.i k),(4,true,.m false [.p 4 0]),(1,true,.i x)],[(7,.var [.v (.int .i64 (W.A3 k).id),.v (.string (W.A3 k).name),.v (.string (W.A3 k).set),.v (.int .i64 (W.A3 k).A8),.v (.int .i64 (W.A3 k).time),.v (.int .i64 (W.A3 k).rs),.v (.int .i64 (W.A3 k).rb),.s .z 2 (W.A3 k).dn (ptrsT (W.A3 k).ds (W.A3 k).db)]),(6,.var [.h 61,.h 62,.v (.int .i64 W.time),.v (.int .i64 W.next),.h 63,.h 64]),(64,.row 8 W.pn (snapsE .z (t i))),(63,.row 6 W.sn (setsE .o (M W.sn))),(62,.row 1 (J i).hn (BH (J i).h)),(61,.row 3 (J i).n (Aw .z (J i).s)),(4,.var [.v n0,.v n0,.v i0,.v i0,.v n0,.v n0,.v i0,.v i0,.v i0])]⟩) (fun i=>W.pn - i) (fun i=>i<=W.pn) 0 (by rw[q1.1,q1.2.1,q1.2.2];simp[go_sem]) (Nat.zero_le _) ?_;intro i hi;have C:=run.cur2 i;simp[go_sem,Ar (show i<=1000000000 by omega),C];refine⟨fun d=>⟨d,?_⟩,fun d=>?_⟩
 ·by_cases y:(W.A3 i).A8=x
  ·simp[go_sem,y,d,C,Ar (show i<=1000000000 by omega),M6,VN,GR,Gy];obtain⟨r,u,B,S⟩:=run.yes2 i d y;have V:=(L8 f).2 i d;have hy:(Bl (W.A3 i).ds (W.A3 i).db (AI W (W.A3 k).A8).time (W.A3 i).dn).length<=(W.A3 i).dn:=GB ..;have ho:(C6 (W.A3 i).ds (W.A3 i).db (AI W (W.A3 k).A8).time (W.A3 i).dn).length<=(W.A3 i).dn:=M8 ..;have X:=(L8 f).2 k w;have Y:=M0 f.right;refine⟨by omega,⟨by omega,Cj,Ci⟩,by omega,by omega,by kernel_rfl,i+1,d,by omega,⟨rfl,?_⟩,?_,?_,?_⟩
   ·rw[B];exact yV (run.un i).2 (by omega)
   ·rw[u,<-C];refine zE7 (s:=N6 W (W.A3 k) (t i i)) ⟨rfl,rfl,rfl,rfl,rfl,rfl⟩ (OA rfl fun a b U O=>?_);unfold Ai;split
    ·rfl
    ·match b,O with
     | 0,_ | 1,_=>rfl
   ·rw[r];exact TrE.refl _
   ·rw[r,(EQ _ _).1,(EQ _ _).2.1];exact TrE.refl _
  ·obtain⟨r,u,B⟩:=run.no2 i d y;simp[go_sem,y,Ar (show i<=1000000000 by omega)];exact⟨i+1,d,by omega,⟨rfl,by rw[B]⟩,by rw[u];exact TrE.refl _,by rw[r];exact TrE.refl _,by rw[r];exact TrE.refl _⟩
 cases (show i=W.pn by omega);rw[run.fin,Ar (show k<=1000000000 by omega)];refine⟨by omega,⟨by omega,by omega⟩,⟨by omega,by omega⟩,⟨by omega,by omega⟩,by kernel_rfl,⟨TrE.refl _,Bo⟩,⟨TrE.refl _,Bz⟩,rfl,rfl,⟨TrE.refl _,Cj⟩,⟨?_,Ci⟩,by simp⟩;refine⟨.inl rfl,rfl,by show k+(W.pn - (k+1))=W.pn - 1;omega,fun i c hi F=>TrE.of_eq ?_⟩;show _=snapsE .z (del (t W.pn) k) i c;have e:∀p,(snapsE .z (t W.pn) p c).nt=snapsE .z (t W.pn) p c:=fun p=>by
  match c,F with
  | 0,_ | 1,_ | 2,_ | 3,_ | 4,_ | 5,_ | 6,_ | 7,_=>rfl
 have u:snapsE .z (del (t W.pn) k) i c=snapsE .z (t W.pn) (if i<k then i else i+1) c:=by
  have:del (t W.pn) k i=t W.pn (if i<k then i else i+1):=(by unfold del;split<;>rfl);unfold snapsE;rw[this]
 rw[u];unfold Ai;by_cases H:i<k
 ·simp[H,e]
 ·simp[H,e,show k+1+(i - k)=i+1 by omega]
set_option maxRecDepth 20000
set_option maxHeartbeats 3200000
structure B5 where
 bn:Nat
 bf:Nat->Int
 pos:Nat
 mix:Int
 size:Int
def Es(h:Nat->Int):Nat->Nat->Tr:=fun i _=>.v (.int .u8 (h i))
variable{h:Nat->Int}
theorem Kg:Es h i j = .v (.int .u8 (h i)):=rfl
abbrev srV(s:B5):List Tr:=[.s .z 1 s.bn (Es s.bf),.v (.int .i64 s.pos),.v (.int .u64 s.mix),.v (.int .i64 s.size)]
def GK(f:Nat->Tr):B5:=⟨DN (f 0),fun i=>match Bp (f 0) i 0 with | .v (.int _ x)=>x | _=>0,(AS (f 1)).toNat,match f 2 with | .v (.int _ x)=>x | _=>0,AS (f 3)⟩
def Mc(a b:Int):Int:=IntKind.u64.wrap ((BitVec.ofInt IntKind.u64.bits a ^^^ BitVec.ofInt IntKind.u64.bits b).toNat)
def SR(a b:Int):Int:=IntKind.u64.wrap (a*2 ^ (min b.toNat IntKind.u64.bits))
def MU(a b:Int):Int:=a.fdiv (2 ^ (min b.toNat IntKind.u64.bits))
variable{a b:Int}
theorem N0:CA .xor .u64 a .u64 b=some (True,.int .u64 (Mc a b)):=rfl
theorem My:CA .shl .u64 a .u64 b=some (0<=b,.int .u64 (SR a b)):=rfl
theorem Mz:CA .shr .u64 a .u64 b=some (0<=b,.int .u64 (MU a b)):=rfl
theorem NK:CA .add .u64 a .u64 b=some (True,.int .u64 (IntKind.u64.wrap (a+b))):=rfl
theorem NA:CA .mul .u64 a .u64 b=some (True,.int .u64 (IntKind.u64.wrap (a*b))):=rfl
theorem NB:CA .rem .u64 a .u64 b=some (b≠0,.int .u64 (a.tmod b)):=rfl
theorem Mt:CA .add .i64 a .i64 b=some (True,.int .i64 (IntKind.i64.wrap (a+b))):=rfl
variable{k:IntKind}
theorem Mx:CA .lss k a k b=some (True,.bool (decide (a<b))):=by simp[CA]
theorem Mw:CA .leq k a k b=some (True,.bool (decide (a<=b))):=by simp[CA]
theorem Mv:CA .gtr k a k b=some (True,.bool (decide (a>b))):=by simp[CA]
theorem Mu:CA .eql k a k b=some (True,.bool (a == b)):=by simp[CA]
theorem Ch:(Tr.s .z 1 n (Es h)).kept:=⟨by simp,fun _ _ _ _=>trivial⟩
theorem yW(a:0<=x)(b:x<=1000000000000000000):IntKind.u64.wrap x=x:=by
 simp[IntKind.wrap,IntKind.bits];omega
def SK(m:Int):Int:=Mc m (SR m 13)
def SL(m:Int):Int:=Mc m (MU m 7)
def SM(m:Int):Int:=Mc m (SR m 17)
def L5(m:Int):Int:=SM (SL (SK m))
def nS(s:B5)(most:Int):B5:=if most<=1 then s else {s with pos:=if s.pos<s.bn then s.pos+1 else s.pos,mix:=L5 s.mix}
def nV(s:B5)(most:Int):Int:=if most<=1 then 0 else IntKind.i64.wrap ((IntKind.u64.wrap ((if s.pos<s.bn then s.bf s.pos else 0)+MU (L5 s.mix) 20)).tmod most)
structure BE (s:B5):Prop where
 bn:s.bn<=2000000
 pos:s.pos<=s.bn
 byte:∀i,i<s.bn->0<=s.bf i/\s.bf i<256
 size:0<=s.size/\s.size<=12
theorem C3{s:B5}(h:BE s)(m:Int):BE (nS s m):=by
 unfold nS;split
 ·exact h
 ·refine⟨h.bn,?_,h.byte,h.size⟩;have:=h.pos;dsimp only;split<;>omega
attribute [-go_sem] CA
attribute [local go_sem] N0 My Mz NK NA NB Mt Mx Mw Mv Mu Kg
def mN:AL:=AY (fun q:B5×Int=>(true,srV q.1) :: [iT q.2]) (fun q=>BE q.1/\q.2<=1000000000000000000) (fun q=>[(true,srV (nS q.1 q.2)),iT (nV q.1 q.2)])
theorem Dk(s:B5)(m:Int):mN ((true,srV s) :: [iT m])=some (BE s/\m<=1000000000000000000,[(true,srV (nS s m)),iT (nV s m)]):=Ag (fun l=>(GK (nth l 0),AS (nth l 1 0))) (fun _=>rfl) (s,m)
theorem II:DK Tryz.prog 49 mN:=by
 refine Ev Al GOk.nil Ak Tryz.func49 rfl Tryz.ntmps49 Tryz.results49 6 ?_;rintro⟨s,m⟩ hs;obtain⟨hs,f⟩:BE s/\m<=1000000000000000000:=hs;have e:=hs.bn;have g:=hs.pos;refine⟨by simp,?_⟩;simp[go_sem,Ar (show s.pos<=1000000000 by omega)];refine⟨fun h=>?_,fun h=>?_⟩
 ·rw[show nS s m=s from if_pos h];exact⟨⟨⟨TrE.refl _,Ch⟩,rfl,rfl,rfl⟩,(if_pos h).symm⟩
 have c:¬m<=1:=by omega
 have d:IntKind.u64.wrap m=m:=yW (by omega) (by omega);have b:m≠0:=by omega
 rw[d];rw[show nS s m=_ from if_neg c,show nV s m=_ from if_neg c];refine⟨by kernel_rfl,fun a=>⟨a,by kernel_rfl,by kernel_rfl,by kernel_rfl,by kernel_rfl,b,⟨⟨TrE.refl _,Ch⟩,?_,rfl,rfl⟩,?_⟩,fun a=>⟨by kernel_rfl,by kernel_rfl,by kernel_rfl,b,⟨⟨TrE.refl _,Ch⟩,?_,rfl,rfl⟩,?_⟩⟩
 ·simp[a]
 ·simp[a,L5,SK,SL,SM,yW (hs.byte _ a).1 (by have:=(hs.byte _ a).2;omega)]
 ·simp[Nat.not_lt.2 a]
 ·simp[Nat.not_lt.2 a,L5,SK,SL,SM]
end
end Go.Proofs.YtddigaohmfpepaaGreatDoor
