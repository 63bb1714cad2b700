/- A part of the proof. -/
import Derived.Test.YtnfjcaoclahfjaaGreatDoorF30
set_option linter.unusedVariables false
set_option maxRecDepth 20000
set_option maxHeartbeats 4000000
namespace Go.Proofs.YtnfjcaoclahfjaaGreatDoor
noncomputable section
open Go.RowKit
set_option linter.unusedSimpArgs false
set_option maxRecDepth 20000
set_option maxHeartbeats 3200000
def FN(s:Nat->Ac)(k:Nat):Nat->Nat->Tr:=fun i=>if i<k then setsE .o s i else setsE .b s i
def Fu(s:Nat->AT)(k:Nat):Nat->Nat->Tr:=fun i=>if i<k then snapsE .z s i else snapsE .b s i
variable{n:Nat}
theorem CO{s:Nat->Ac}:(Tr.s .o 6 n (setsE .o s)).kept:=⟨by simp,fun i j _ a=>by
 match j,a with
 | 0,_ | 1,_ | 2,_ | 3,_ | 4,_=>trivial
 | 5,_=>exact Kk.2 trivial⟩
theorem CN{s:Nat->AT}:(Tr.s .o 8 n (snapsE .z s)).kept:=⟨by simp,fun i j _ a=>by
 match j,a with
 | 0,_ | 1,_ | 2,_ | 3,_ | 4,_ | 5,_ | 6,_=>trivial
 | 7,_=>exact⟨by simp,fun p q _ _=>by unfold ptrsT;split<;>trivial⟩⟩
theorem zI1{s:Nat->Ac}:FN s 0=setsE .b s:=by funext i;simp[FN]
theorem zI0{s:Nat->AT}:Fu s 0=snapsE .b s:=by funext i;simp[Fu]
variable{k i:Nat}
theorem zG0{s:Nat->Ac}(h:k<=i):FN s k i=setsE .b s i:=if_neg (by omega)
theorem zFy{s:Nat->AT}(h:k<=i):Fu s k i=snapsE .b s i:=if_neg (by omega)
variable{fl:Fl}
theorem zEx{s:Nat->Ac}:TrE (.s fl 6 n (FN s n)) (.s fl 6 n (setsE .o s)):=F5 fun i j hi a=>by rw[FN,if_pos hi]
theorem zEw{s:Nat->AT}:TrE (.s fl 8 n (Fu s n)) (.s fl 8 n (snapsE .z s)):=F5 fun i j hi a=>by rw[Fu,if_pos hi]
theorem zF1{s:Nat->Ac}:(fun p q=>(setsE .b s p q).nt)=setsE .b s:=by
 funext p q
 match q with
 | 0 | 1 | 2 | 3 | 4=>rfl
 | 5=>rfl
 | q+6=>rfl
theorem Vd{s:Nat->AT}:(fun p q=>(snapsE .b s p q).nt)=snapsE .b s:=by
 funext p q
 match q with
 | 0 | 1 | 2 | 3 | 4 | 5 | 6=>rfl
 | 7=>rfl
 | q+8=>rfl
variable{F:Nat->Nat->Tr}
theorem zG1{s:Nat->Ac}(hF:TrE (.s .o 2 (s k).dn F) (.s .o 2 (s k).dn (ptrsT (s k).ds (s k).db))):TrE (.s fl 6 n (AZ (FN s k) k 5 [.s .o 2 (s k).dn F])) (.s fl 6 n (FN s (k+1))):=by
 refine⟨.inl rfl,rfl,rfl,fun i j hi a=>?_⟩;by_cases h:i=k
 ·subst h
  match j,a with
  | 0,_ | 1,_ | 2,_ | 3,_ | 4,_=>exact TrE.of_eq (by simp[AZ,FN,setsE])
  | 5,_=>simpa[AZ,FN,setsE]using hF
 ·refine TrE.of_eq ?_;have:(i<k+1)=(i<k):=propext (by omega);simp[AZ,FN,h,this]
theorem zFz{s:Nat->AT}(hF:TrE (.s .o 2 (s k).dn F) (.s .z 2 (s k).dn (ptrsT (s k).ds (s k).db))):TrE (.s fl 8 n (AZ (Fu s k) k 7 [.s .o 2 (s k).dn F])) (.s fl 8 n (Fu s (k+1))):=by
 refine⟨.inl rfl,rfl,rfl,fun i j hi a=>?_⟩;by_cases h:i=k
 ·subst h
  match j,a with
  | 0,_ | 1,_ | 2,_ | 3,_ | 4,_ | 5,_ | 6,_=>exact TrE.of_eq (by simp[AZ,Fu,snapsE])
  | 7,_=>simpa[AZ,Fu,snapsE]using hF
 ·refine TrE.of_eq ?_;have:(i<k+1)=(i<k):=propext (by omega);simp[AZ,Fu,h,this]
structure Bc (W:A4):Prop extends SmallW W where
 kn:∀i,i<W.pool.n->(W.pool.s i).kn<=1000000
def ZI:AH:=AR (fun W:A4=>[woT W]) (fun W=>Bc W) (fun W=>[woO W])
theorem DE(W:A4):ZI [woT W]=some (Bc W,[woO W]):=Aa (fun l=>BW (nth l 0)) (fun _=>rfl) W
theorem IF:Ag Tryz.prog 25 ZI:=by
 refine Au Ai (GOk.cons OR (AA Tryz.func75 rfl rfl) GOk.nil) Ah Tryz.func25 rfl Tryz.ntmps25 Tryz.results25 6 ?_;intro W a;replace a:Bc W:=a;have hn:=a.n;have f:=a.hn;have hs:=a.sn;have g:=a.pn;refine⟨by simp,?_⟩;simp[go_sem,Lo,hn,f,GQ,SX,I0,zF1,Vd];refine⟨a.kn,by omega,?_⟩;refine B2 (fun k:Nat=>⟨[(4,true,.i k),(3,true,.m false [.p 3 0]),(2,true,.m false [.p 2 0]),(1,true,.m false [.p 1 0])],[(3,.var [.h 61,.h 62,.v (.int .i64 W.time),.v (.int .i64 W.next),.h 63,.s .b 8 W.pn (snapsE .b W.A0)]),(63,.row 6 W.sn (FN W.A2 k)),(62,.row 1 W.pool.hn (B5 W.pool.h)),(61,.row 3 W.pool.n (Ao .z W.pool.s)),(2,.var [.v n0,.v n0,.v i0,.v i0,.v n0,.v n0]),(1,.var ((woL W).map Tr.cv))]⟩) (fun k=>W.sn - k) (fun k=>k<=W.sn) 0 (by rw[zI1];simp[go_sem]) (Nat.zero_le _) ?_;intro k e;simp[go_sem,Aj (show k<=1000000000 by omega),GQ,I0,Vd,zG0 (Nat.le_refl k)];refine⟨fun c=>?_,fun c=>?_⟩
 ·have d:=a.sd k c;exact⟨c,by omega,c,by kernel_rfl,k+1,by omega,by omega,rfl,zG1 (TrE.refl _)⟩
 cases (show k=W.sn by omega);refine⟨by omega,?_⟩;refine B2 (fun k:Nat=>⟨[(5,true,.i k),(3,true,.m false [.p 3 0]),(2,true,.m false [.p 2 0]),(1,true,.m false [.p 1 0])],[(3,.var [.h 61,.h 62,.v (.int .i64 W.time),.v (.int .i64 W.next),.h 63,.h 64]),(64,.row 8 W.pn (Fu W.A0 k)),(63,.row 6 W.sn (FN W.A2 W.sn)),(62,.row 1 W.pool.hn (B5 W.pool.h)),(61,.row 3 W.pool.n (Ao .z W.pool.s)),(2,.var [.v n0,.v n0,.v i0,.v i0,.v n0,.v n0]),(1,.var ((woL W).map Tr.cv))]⟩) (fun k=>W.pn - k) (fun k=>k<=W.pn) 0 (by rw[zI0];simp[go_sem]) (Nat.zero_le _) ?_;intro k e;simp[go_sem,Aj (show k<=1000000000 by omega),GQ,I0,zFy (Nat.le_refl k)];refine⟨fun c=>?_,fun c=>?_⟩
 ·have d:=a.pd k c;exact⟨c,by omega,c,by kernel_rfl,k+1,by omega,by omega,rfl,zFz ⟨.inr ⟨rfl,rfl⟩,rfl,rfl,fun i j _ _=>TrE.refl _⟩⟩
 cases (show k=W.pn by omega);exact⟨BZ,Bj,⟨zEx,CO⟩,zEw,CN⟩
set_option maxRecDepth 20000
set_option maxHeartbeats 3200000
abbrev wuO(o:BQ):Bool×List Tr:=(true,[.s .o 3 o.world.pool.n (Ao .z o.world.pool.s),.s .o 1 o.world.pool.hn (B5 o.world.pool.h),.v (.int .i64 o.world.time),.v (.int .i64 o.world.next),.s .o 6 o.world.sn (setsE .o o.world.A2),.s .o 8 o.world.pn (snapsE .z o.world.A0),.v (.int .i64 o.id),.v (.int .i64 o.many),.v (.int .i64 o.code)])
abbrev woV(W:A4):List Tr:=[.s .o 3 W.pool.n (Ao .z W.pool.s),.s .o 1 W.pool.hn (B5 W.pool.h),.v (.int .i64 W.time),.v (.int .i64 W.next),.s .o 6 W.sn (setsE .o W.A2),.s .o 8 W.pn (snapsE .z W.A0)]
def GO(W:A4)(l:List (Int×Int)):A4:={W with pool:=Ak W.pool l}
abbrev psL(l:List (Int×Int)):Bool×List Tr:=psT l.length (fun i=>AI l i) (fun i=>AK l i)
def Jv(a:Tr):List (Int×Int):=(List.range (DI a)).map fun i=>(AO (Bk a i 0),AO (Bk a i 1))
theorem Pv(l:List (Int×Int)):Jv (.s .b 2 l.length (ptrsT (fun i=>AI l i) (fun i=>AK l i)))=l:=by
 show(List.range l.length).map (fun i=>(AI l i,AK l i))=l;apply List.ext_getElem
 ·simp
 ·intro i c a;simp[<-LC,<-Rv,a]
theorem Qt{p:A7}{x:Int}:TrE (.s fl 1 (p.hn+1) (Ae (B5 p.h) p.hn (fun a q=>([Tr.v (Value.int .i64 x)][a+q]?.getD (.v (.bool false))).nt))) (.s fl 1 (C9 p x).hn (B5 (C9 p x).h)):=F5 fun i j hi b=>by
 cases (show j=0 by omega);unfold Ae;by_cases h:i<p.hn
 ·rw[if_pos h];show _=Tr.v (.int .i64 (if i=p.hn then x else p.h i));rw[if_neg (by omega)];rfl
 ·cases (show i=p.hn by omega);rw[if_neg h,Nat.sub_self];show _=Tr.v (.int .i64 (if p.hn=p.hn then x else p.h p.hn));rw[if_pos rfl];rfl
attribute [-go_sem] BV
def qq:AH:=AR (fun c:Int=>[iT c]) (fun _=>True) (fun c=>[wuO (BL c)])
theorem Be(c:Int):qq [iT c]=some (True,[wuO (BL c)]):=Aa (fun l=>AO (nth l 0 0)) (fun _=>rfl) c
theorem Gc:Ag Tryz.prog 22 qq:=by
 refine Au Ai GOk.nil Ah Tryz.func22 rfl Tryz.ntmps22 Tryz.results22 3 ?_;intro c a;refine⟨by simp,?_⟩;simp[go_sem,BL,noW,Ce]
open Classical in
def Io(W:A4)(x:ByteArray):Int:=if CJ W x then 5 else if 8<=W.sn then 6 else 0
def qu:AH:=AR (fun q:A4×ByteArray=>[woT q.1,sT q.2]) (fun q=>q.1.sn<=1000000) (fun q=>[iT (Io q.1 q.2)])
theorem T3(W:A4)(x:ByteArray):qu [woT W,sT x]=some (W.sn<=1000000,[iT (Io W x)]):=Aa (fun l=>(BW (nth l 0),CL (nth l 1 0))) (fun _=>rfl) (W,x)
theorem VQ:Ag Tryz.prog 82 qu:=by
 refine Au Ai (GOk.cons ID (AA Tryz.func79 rfl rfl) GOk.nil) Ah Tryz.func82 rfl Tryz.ntmps82 Tryz.results82 5 ?_;rintro⟨W,x⟩ a;replace a:W.sn<=1000000:=a;refine⟨by simp,?_⟩;simp[go_sem,CI,a,Dk,CW];refine⟨fun h=>(if_pos h).symm,fun h=>⟨fun b=>?_,fun b=>?_⟩⟩
 ·rw[Io,if_neg h,if_pos (by omega)]
 ·rw[Io,if_neg h,if_neg (by omega)]
def ZB:AH:=AR (fun q:A4×ByteArray×ByteArray=>[woT q.1,sT q.2.1,sT q.2.2]) (fun q=>q.1.pn<=1000000) (fun q=>bR (∃i,i<q.1.pn/\(q.1.A0 i).set=q.2.1/\(q.1.A0 i).name=q.2.2))
theorem Jn(W:A4)(x y:ByteArray):ZB [woT W,sT x,sT y]=some (W.pn<=1000000,bR (∃i,i<W.pn/\(W.A0 i).set=x/\(W.A0 i).name=y)):=Aa (fun l=>(BW (nth l 0),CL (nth l 1 0),CL (nth l 2 0))) (fun _=>rfl) (W,x,y)
theorem Y2:Ag Tryz.prog 137 ZB:=by
 refine Au Ai GOk.nil Ah Tryz.func137 rfl Tryz.ntmps137 Tryz.results137 8 ?_;rintro⟨W,x,y⟩ hn;replace hn:W.pn<=1000000:=hn;refine⟨by simp,?_⟩;simp[go_sem];refine B2 (fun k:Nat=>⟨[(3,true,.m false [.p 3 0]),(1,true,.m false [.v (.string x)]),(2,true,.m false [.v (.string y)]),(7,true,.i k)],[(3,.var ((woL W).map Tr.cv))]⟩) (fun k=>W.pn - k) (fun k=>k<=W.pn/\∀i,i<k->¬((W.A0 i).set=x/\(W.A0 i).name=y)) 0 (by simp[go_sem]) (by simp) ?_;rintro k ⟨f,c⟩;simp[go_sem,Aj (show k<=1000000000 by omega)];refine⟨fun d=>⟨d,fun _=>d,fun a b=>⟨k,d,GB a,GB b⟩,fun h=>⟨k+1,⟨by omega,fun i hi=>?_⟩,by omega,rfl⟩⟩,fun d i hi a b=>c i (by omega) ⟨a,b⟩⟩;by_cases e:i=k
 ·subst e;exact fun a b=>h (congrArg ByteArray.toList a) (congrArg ByteArray.toList b)
 ·exact fun a b=>c i (by omega) ⟨a,b⟩
def qz:AH:=AR (fun q:A4×ByteArray=>[woT q.1,sT q.2]) (fun q=>q.1.pn<=1000000) (fun q=>bR (∃i,i<q.1.pn/\(q.1.A0 i).set=q.2))
theorem SH(W:A4)(x:ByteArray):qz [woT W,sT x]=some (W.pn<=1000000,bR (∃i,i<W.pn/\(W.A0 i).set=x)):=Aa (fun l=>(BW (nth l 0),CL (nth l 1 0))) (fun _=>rfl) (W,x)
theorem zC:Ag Tryz.prog 138 qz:=by
 refine Au Ai GOk.nil Ah Tryz.func138 rfl Tryz.ntmps138 Tryz.results138 6 ?_;rintro⟨W,x⟩ hn;replace hn:W.pn<=1000000:=hn;refine⟨by simp,?_⟩;simp[go_sem];refine B2 (fun k:Nat=>⟨[(2,true,.m false [.p 2 0]),(1,true,.m false [.v (.string x)]),(5,true,.i k)],[(2,.var ((woL W).map Tr.cv))]⟩) (fun k=>W.pn - k) (fun k=>k<=W.pn/\∀i,i<k->¬(W.A0 i).set=x) 0 (by simp[go_sem]) (by simp) ?_;rintro k ⟨c,a⟩;simp[go_sem,Aj (show k<=1000000000 by omega)];exact⟨fun b=>⟨b,fun h=>⟨k,b,GB h⟩,fun h=>⟨k+1,⟨by omega,Bf b a fun e=>h (congrArg ByteArray.toList e)⟩,by omega,rfl⟩⟩,fun b i hi=>a i (by omega)⟩
def Zw:AH:=AR (fun q:A4×List (Int×Int)=>(true,woV q.1) :: [psL q.2]) (fun q=>q.1.pool.hn+q.2.length<=1000000) (fun q=>[woO (GO q.1 q.2),iT q.2.length])
theorem QK(W:A4)(l:List (Int×Int)):Zw ((true,woV W) :: [psL l])=some (W.pool.hn+l.length<=1000000,[woO (GO W l),iT l.length]):=Aa (fun m=>(BW (nth m 0),Jv (nth m 1 0))) (fun q=>by exact congrArg (Prod.mk q.1) (Pv q.2)) (W,l)
theorem RL:Ck Tryz.prog 28 Zw:=by
 refine EZ Ai GOk.nil Ah Tryz.func28 rfl Tryz.ntmps28 Tryz.results28 6 ?_;rintro⟨W,l⟩ hn;replace hn:W.pool.hn+l.length<=1000000:=hn;refine⟨by simp,?_⟩;simp[go_sem];refine B2 (fun k:Nat=>⟨[(5,true,.i k),(0,true,.m false [.p 0 0]),(1,true,.m false [.s .b 2 l.length (ptrsT (fun i=>AI l i) (fun i=>AK l i))])],[(0,.var [.h 1000,.h 2000,.v (.int .i64 W.time),.v (.int .i64 W.next),.h 5000,.h 6000]),(1000,.row 3 W.pool.n (Ao .z W.pool.s)),(2000,.row 1 (Ak W.pool (l.take k)).hn (B5 (Ak W.pool (l.take k)).h)),(5000,.row 6 W.sn (setsE .o W.A2)),(6000,.row 8 W.pn (snapsE .z W.A0))]⟩) (fun k=>l.length - k) (fun k=>k<=l.length) 0 (by simp[go_sem,Ak]) (Nat.zero_le _) ?_;intro k g;obtain⟨p,a⟩:∃p,p=Ak W.pool (l.take k):=⟨_,rfl⟩;have j:p.hn=W.pool.hn+k:=by rw[a,(EF _ _).2.2,List.length_take,Nat.min_eq_left g]
 have d:k<l.length->Ak W.pool (l.take (k+1))=C9 p (AI l k):=fun h=>by
  rw[a,List.take_succ_eq_append_getElem h,Om,<-LC];simp[h]
 rw[<-a];simp[go_sem,Aj (show k<=1000000000 by omega)];refine⟨fun c=>⟨c,by omega,by kernel_rfl,k+1,c,by omega,rfl,?_⟩,fun c=>?_⟩
 ·rw[d c];exact Qt
 ·cases (show k=l.length by omega);rw[List.take_length]at a;subst a;obtain⟨e,f,-⟩:=EF l W.pool;refine⟨⟨?_,BZ⟩,⟨TrE.refl _,Bj⟩,rfl,rfl,⟨TrE.refl _,CO⟩,TrE.refl _,CN⟩;show TrE _ (Tr.s .o 3 (Ak W.pool l).n (Ao .z (Ak W.pool l).s));rw[e,f];exact TrE.refl _
open Classical in
def Dz(W:A4)(x:ByteArray):Nat:=if h:∃k,k<W.sn/\¬CM (W.A2 k).name x/\∀j,j<k->CM (W.A2 j).name x then h.choose else W.sn
variable{W:A4}{x:ByteArray}
theorem Up(h:k<W.sn)(b:¬CM (W.A2 k).name x)(c:∀j,j<k->CM (W.A2 j).name x):Dz W x=k:=by
 have a:∃k,k<W.sn/\¬CM (W.A2 k).name x/\∀j,j<k->CM (W.A2 j).name x:=⟨k,h,b,c⟩;unfold Dz;rw[dif_pos a];obtain⟨-,d,f⟩:=a.choose_spec;rcases Nat.lt_trichotomy a.choose k with e | e | e
 ·exact absurd (c _ e) d
 ·exact e
 ·exact absurd (f _ e) b
theorem zGD(h:∀j,j<W.sn->CM (W.A2 j).name x):Dz W x=W.sn:=dif_neg fun ⟨k,h1,h2,_⟩=>h2 (h k h1)
abbrev F3(a:ByteArray)(o p rs rb:Int):Ac:=⟨a,o,p,rs,rb,0,fun _=>0,fun _=>0⟩
def qo:AH:=AR (fun q:(A4×ByteArray)×Int×Int×Int×Int=>(true,woV q.1.1) :: [(true,[.v (.string q.1.2),.v (.int .i64 q.2.1),.v (.int .i64 q.2.2.1),.v (.int .i64 q.2.2.2.1),.v (.int .i64 q.2.2.2.2),.v n0])]) (fun q=>q.1.1.sn<=1000000) (fun q=>[woO (JX q.1.1 (Dz q.1.1 q.1.2) (F3 q.1.2 q.2.1 q.2.2.1 q.2.2.2.1 q.2.2.2.2))])
theorem Sr(W:A4)(x:ByteArray)(o p rs rb:Int):qo ((true,woV W) :: [(true,[.v (.string x),.v (.int .i64 o),.v (.int .i64 p),.v (.int .i64 rs),.v (.int .i64 rb),.v n0])])=some (W.sn<=1000000,[woO (JX W (Dz W x) (F3 x o p rs rb))]):=Aa (fun m=>((BW (nth m 0),CL (nth m 1 0)),AO (nth m 1 1),AO (nth m 1 2),AO (nth m 1 3),AO (nth m 1 4))) (fun _=>rfl) ((W,x),o,p,rs,rb)
theorem VO:Ck Tryz.prog 83 qo:=by
 refine EZ Ai GOk.nil Ah Tryz.func83 rfl Tryz.ntmps83 Tryz.results83 6 ?_;rintro⟨⟨W,x⟩,o,p,rs,rb⟩ hn;replace hn:W.sn<=1000000:=hn;refine⟨by simp,?_⟩;simp[go_sem];refine B2 (fun k:Nat=>⟨[(4,true,.i k),(0,true,.m false [.p 0 0]),(3,true,.m false [.p 3 0])],[(3,.var [.v (.string x),.v (.int .i64 o),.v (.int .i64 p),.v (.int .i64 rs),.v (.int .i64 rb),.v n0]),(0,.var [.h 1000,.h 2000,.v (.int .i64 W.time),.v (.int .i64 W.next),.h 5000,.h 6000]),(1000,.row 3 W.pool.n (Ao .z W.pool.s)),(2000,.row 1 W.pool.hn (B5 W.pool.h)),(5000,.row 6 W.sn (setsE .o W.A2)),(6000,.row 8 W.pn (snapsE .z W.A0))]⟩) (fun k=>W.sn - k) (fun k=>k<=W.sn/\∀j,j<k->CM (W.A2 j).name x) 0 (by simp[go_sem]) (by simp) ?_;rintro k ⟨c,a⟩;simp[go_sem,Aj (show k<=1000000000 by omega)];refine⟨by kernel_rfl,fun b h=>⟨k+1,⟨b,Bf b a h⟩,by omega,rfl⟩,fun h=>?_⟩;have hK:Dz W x=k:=by
  by_cases b:k<W.sn
  ·exact Up b (fun e=>by have:=h b;unfold CM at e;rw[this]at e;simp at e) a
  ·rw[zGD fun j d=>a j (by omega)];omega
 rw[hK];refine⟨c,⟨c,by omega⟩,by omega,c,⟨by omega,by omega⟩,⟨TrE.refl _,BZ⟩,⟨TrE.refl _,Bj⟩,rfl,rfl,⟨?_,CO⟩,TrE.refl _,CN⟩;refine⟨.inl rfl,rfl,by show k+1+(W.sn - k)=W.sn+1;omega,fun i j hi d=>?_⟩;show TrE _ (setsE .o (ins W.A2 k (F3 x o p rs rb)) i j);rcases Nat.lt_trichotomy i k with e | e | e
 ·have:setsE .o (ins W.A2 k (F3 x o p rs rb)) i j=setsE .o W.A2 i j:=by
   unfold setsE;rw[Z3 e]
  rw[this];exact TrE.of_eq (by simp[Ae,e,show i<k+1 by omega])
 ·subst e;have:setsE .o (ins W.A2 i (F3 x o p rs rb)) i j=setsE .o (fun _=>F3 x o p rs rb) i j:=by
   unfold setsE;rw[Z1]
  rw[this]
  match j,d with
  | 0,_ | 1,_ | 2,_ | 3,_ | 4,_=>exact TrE.of_eq (by simp[Ae,setsE])
  | 5,_=>simp[Ae,setsE,TrE]
 ·have:setsE .o (ins W.A2 k (F3 x o p rs rb)) i j=setsE .o W.A2 (i - 1) j:=by
   unfold setsE;rw[Z2 e]
  rw[this];refine TrE.of_eq ?_;simp[Ae,ntR,show ¬i<k+1 by omega,show k+(i - (k+1))=i - 1 by omega,show ¬i - 1<k by omega]
set_option maxRecDepth 20000
set_option maxHeartbeats 3200000
open Classical in
def GX(W:A4)(x:ByteArray):BQ:=if 8000<x.size then BL 2 else if Ab W/\Bp x then(if Io W x=0 then⟨JX W (Dz W x) (F3 x 0 0 0 0),0,0,0⟩else BL (Io W x))else BL 1
theorem Bg{o o':BQ}(h:o'=o):(TrE (.s .o 3 o.world.pool.n (Ao .z o.world.pool.s)) (.s .o 3 o'.world.pool.n (Ao .z o'.world.pool.s))/\(Tr.s .o 3 o'.world.pool.n (Ao .z o'.world.pool.s)).kept)/\(TrE (.s .o 1 o.world.pool.hn (B5 o.world.pool.h)) (.s .o 1 o'.world.pool.hn (B5 o'.world.pool.h))/\(Tr.s .o 1 o'.world.pool.hn (B5 o'.world.pool.h)).kept)/\o.world.time=o'.world.time/\o.world.next=o'.world.next/\(TrE (.s .o 6 o.world.sn (setsE .o o.world.A2)) (.s .o 6 o'.world.sn (setsE .o o'.world.A2))/\(Tr.s .o 6 o'.world.sn (setsE .o o'.world.A2)).kept)/\(TrE (.s .o 8 o.world.pn (snapsE .z o.world.A0)) (.s .o 8 o'.world.pn (snapsE .z o'.world.A0))/\(Tr.s .o 8 o'.world.pn (snapsE .z o'.world.A0)).kept)/\o.id=o'.id/\o.many=o'.many/\o.code=o'.code:=by
 subst h;exact⟨⟨TrE.refl _,BZ⟩,⟨TrE.refl _,Bj⟩,rfl,rfl,⟨TrE.refl _,CO⟩,⟨TrE.refl _,CN⟩,rfl,rfl,rfl⟩
theorem KA{x:Int}(h:BG W x):(BD W.pn fun k=>(W.A0 k).id=x)<W.pn:=by
 rcases Xp (GA W.pn fun k=>(W.A0 k).id=x)with⟨-,-,b,-⟩ | ⟨a,-⟩
 ·exact b
 ·exact absurd h a
theorem IY(h:CJ W x):(BD W.sn fun k=>(W.A2 k).name=x)<W.sn:=by
 rcases GA W.sn fun k=>(W.A2 k).name=x with⟨k,a,-,-,b⟩ | ⟨a,b⟩
 ·omega
 ·have:=CW.2 h;omega
attribute [go_sem] BV
attribute [-go_sem] BV
def SL:AH:=AR (fun q:A4×ByteArray=>[woT q.1,sT q.2]) (fun q=>Bc q.1) (fun q=>[wuO (GX q.1 q.2)])
theorem XK(W:A4)(x:ByteArray):SL [woT W,sT x]=some (Bc W,[wuO (GX W x)]):=Aa (fun l=>(BW (nth l 0),CL (nth l 1 0))) (fun _=>rfl) (W,x)
theorem X5:Ag Tryz.prog 38 SL:=by
 refine Au Ai (GOk.cons IF (AA Tryz.func25 rfl rfl) (GOk.cons FH (AA Tryz.func20 rfl rfl) (GOk.cons Gc (AA Tryz.func22 rfl rfl) (GOk.cons Og (AA Tryz.func81 rfl rfl) (GOk.cons VQ (AA Tryz.func82 rfl rfl) (GOk.ptr VO (AA Tryz.func83 rfl rfl) GOk.nil)))))) Ah Tryz.func38 rfl Tryz.ntmps38 Tryz.results38 7 ?_;rintro⟨W,x⟩ a;replace a:Bc W:=a;have hs:=a.sn;refine⟨by simp,?_⟩;simp[go_sem,DE,Bu,Be,I5,T3,Sr,a,a.toSmallW,hs];refine⟨fun h=>?_,fun h=>⟨fun b=>?_,fun b d=>⟨fun c=>?_,fun c=>?_⟩⟩⟩
 ·exact Bg (if_pos (by omega))
 ·exact Bg ((if_neg (by omega)).trans (if_neg fun e=>b.elim (fun h=>h e.1) (fun h=>h e.2)))
 ·exact Bg ((if_neg (by omega)).trans ((if_pos ⟨b,d⟩).trans (if_neg c)))
 ·exact Bg (o:=⟨JX W (Dz W x) (F3 x 0 0 0 0),0,0,0⟩) ((if_neg (by omega)).trans ((if_pos ⟨b,d⟩).trans (if_pos c)))
open Classical in
def Ki(W:A4)(x:Int)(a:ByteArray):BQ:=if 8000<a.size then BL 2 else if Ab W/\Bp a then(if BG W x then(if Io W a=0 then⟨JX W (Dz W a) (F3 a x x (W.A0 (BD W.pn fun k=>(W.A0 k).id=x).toNat).rs (W.A0 (BD W.pn fun k=>(W.A0 k).id=x).toNat).rb),0,0,0⟩else BL (Io W a))else BL 4)else BL 1
def Yv:AH:=AR (fun q:A4×Int×ByteArray=>[woT q.1,iT q.2.1,sT q.2.2]) (fun q=>Bc q.1) (fun q=>[wuO (Ki q.1 q.2.1 q.2.2)])
theorem yI(W:A4)(x:Int)(a:ByteArray):Yv [woT W,iT x,sT a]=some (Bc W,[wuO (Ki W x a)]):=Aa (fun l=>(BW (nth l 0),AO (nth l 1 0),CL (nth l 2 0))) (fun _=>rfl) (W,x,a)
theorem zC2:Ag Tryz.prog 92 Yv:=by
 refine Au Ai (GOk.cons IF (AA Tryz.func25 rfl rfl) (GOk.cons FH (AA Tryz.func20 rfl rfl) (GOk.cons IG (AA Tryz.func23 rfl rfl) (GOk.cons Gc (AA Tryz.func22 rfl rfl) (GOk.cons Og (AA Tryz.func81 rfl rfl) (GOk.cons VQ (AA Tryz.func82 rfl rfl) (GOk.ptr VO (AA Tryz.func83 rfl rfl) GOk.nil))))))) Ah Tryz.func92 rfl Tryz.ntmps92 Tryz.results92 10 ?_;rintro⟨W,x,a⟩ c;replace c:Bc W:=c;have hs:=c.sn;have i:=c.pn;refine⟨by simp,?_⟩;simp[go_sem,DE,Bu,Dy,Be,I5,T3,Sr,c,c.toSmallW,hs,i,Gx,FX];refine⟨fun h=>?_,fun h=>⟨fun d=>?_,fun d f=>⟨fun b=>?_,fun b=>?_⟩⟩⟩
 ·exact Bg (if_pos (by omega))
 ·exact Bg ((if_neg (by omega)).trans (if_neg fun e=>d.elim (fun h=>h e.1) (fun h=>h e.2)))
 ·exact Bg ((if_neg (by omega)).trans ((if_pos ⟨d,f⟩).trans (if_neg b)))
 ·refine⟨fun g=>?_,fun g=>⟨⟨b,KA b⟩,?_⟩⟩
  ·exact Bg ((if_neg (by omega)).trans ((if_pos ⟨d,f⟩).trans ((if_pos b).trans (if_neg g))))
  ·exact Bg (o:=⟨JX W (Dz W a) (F3 a x x (W.A0 (BD W.pn fun k=>(W.A0 k).id=x).toNat).rs (W.A0 (BD W.pn fun k=>(W.A0 k).id=x).toNat).rb),0,0,0⟩) ((if_neg (by omega)).trans ((if_pos ⟨d,f⟩).trans ((if_pos b).trans (if_pos g))))
set_option maxRecDepth 20000
set_option maxHeartbeats 3200000
noncomputable abbrev BT (W:A4) (x:ByteArray):Nat:=(BD W.sn fun k=>(W.A2 k).name=x).toNat
noncomputable abbrev FQ (W:A4) (x:Int):Nat:=(BD W.pn fun k=>(W.A0 k).id=x).toNat
open Classical in
def It(W:A4)(set name:ByteArray):BQ:=if 8000<set.size\/8000<name.size then BL 2 else if Ab W/\Bp name then(if CJ W set then(if ∃i,i<W.pn/\(W.A0 i).set=set/\(W.A0 i).name=name then BL 5 else if 20<=W.pn\/900000<=W.time\/900000<=W.next then BL 6 else⟨UH W (BT W set) name set,W.next,0,0⟩)else BL 4)else BL 1
variable{x:Int}
theorem qY(h:0<=x)(a:x<1000000):IntKind.i64.wrap (x+1)=x+1:=by
 unfold IntKind.wrap;simp[IntKind.signed,IntKind.bits];omega
attribute [go_sem] BV
attribute [-go_sem] BV
def Tu:AH:=AR (fun q:A4×ByteArray×ByteArray=>[woT q.1,sT q.2.1,sT q.2.2]) (fun q=>Bc q.1) (fun q=>[wuO (It q.1 q.2.1 q.2.2)])
theorem zBD(W:A4)(x a:ByteArray):Tu [woT W,sT x,sT a]=some (Bc W,[wuO (It W x a)]):=Aa (fun l=>(BW (nth l 0),CL (nth l 1 0),CL (nth l 2 0))) (fun _=>rfl) (W,x,a)
theorem zAd:Ag Tryz.prog 90 Tu:=by
 refine Au Ai (GOk.cons IF (AA Tryz.func25 rfl rfl) (GOk.cons FH (AA Tryz.func20 rfl rfl) (GOk.cons ID (AA Tryz.func79 rfl rfl) (GOk.cons Gc (AA Tryz.func22 rfl rfl) (GOk.cons Og (AA Tryz.func81 rfl rfl) (GOk.cons Y2 (AA Tryz.func137 rfl rfl) GOk.nil)))))) Ah Tryz.func90 rfl Tryz.ntmps90 Tryz.results90 10 ?_;rintro⟨W,x,a⟩ c;replace c:Bc W:=c;have hs:=c.sn;have q:=c.pn;refine⟨by simp,?_⟩;by_cases m:8000<x.size\/8000<a.size
 ·have s:(8000:Int)<x.size\/(8000:Int)<a.size:=(by omega);simp[go_sem,Be,s];exact⟨Bg (if_pos m),fun h r=>absurd m (by omega)⟩
 have d:¬(8000:Int)<x.size:=by omega
 have f:¬(8000:Int)<a.size:=by omega
 by_cases b:Ab W/\Bp a;rotate_left
 ·simp[go_sem,DE,Bu,CI,Be,I5,Jn,c,c.toSmallW,hs,q,Dk,CW,d,f];refine⟨fun _=>Bg ((if_neg m).trans (if_neg b)),fun h r=>absurd ⟨h,r⟩ b⟩
 obtain⟨b,l⟩:=b;by_cases g:CJ W x;rotate_left
 ·simp[go_sem,DE,Bu,CI,Be,I5,Jn,c,c.toSmallW,hs,q,Dk,CW,d,f,b,l,g];exact Bg ((if_neg m).trans ((if_pos ⟨b,l⟩).trans (if_neg g)))
 by_cases n:∃i,i<W.pn/\(W.A0 i).set=x/\(W.A0 i).name=a
 ·simp[go_sem,DE,Bu,CI,Be,I5,Jn,c,c.toSmallW,hs,q,Dk,CW,d,f,b,l,g,n];exact Bg ((if_neg m).trans ((if_pos ⟨b,l⟩).trans ((if_pos g).trans (if_pos n))))
 by_cases hF:20<=W.pn\/900000<=W.time\/900000<=W.next
 ·simp[go_sem,DE,Bu,CI,Be,I5,Jn,c,c.toSmallW,hs,q,Dk,CW,d,f,b,l,g,n];refine⟨fun _=>Bg ((if_neg m).trans ((if_pos ⟨b,l⟩).trans ((if_pos g).trans ((if_neg n).trans (if_pos hF))))),fun h r C=>absurd hF (by omega)⟩
 have t:¬(20:Int)<=W.pn:=by omega
 have u:¬900000<=W.time:=by omega
 have v:¬900000<=W.next:=by omega
 have A:=IY g;simp[go_sem,DE,Bu,CI,Be,I5,Jn,c,c.toSmallW,hs,q,Dk,CW,d,f,b,l,g,n,t,u,v];have B:It W x a=⟨UH W (BT W x) a x,W.next,0,0⟩:=by
  unfold It;rw[if_neg m,if_pos ⟨b,l⟩,if_pos g,if_neg n,if_neg hF]
 rw[B];have y:BT W x<W.sn:=by have:=CW.2 g;show(BD W.sn fun k=>(W.A2 k).name=x).toNat<W.sn;omega
 obtain⟨k,p⟩:∃k,k=BT W x:=⟨_,rfl⟩;rw[<-p]at y ⊢;refine⟨A,by omega,A,⟨TrE.refl _,BZ⟩,⟨TrE.refl _,Bj⟩,?_⟩;rw[show(BD W.sn fun k=>(W.A2 k).name=x).toNat=k from p.symm];refine⟨qY (by have:=b.AP.1.1;omega) (by omega),qY (by have:=b.AP.2.1.1;omega) (by omega),⟨⟨.inl rfl,rfl,rfl,fun i j hi w=>?_⟩,CO⟩,⟨⟨.inl rfl,rfl,rfl,fun i j hi w=>?_⟩,CN⟩,rfl,rfl,rfl⟩
 ·show TrE _ (setsE .o (fun j=>if j=k then {W.A2 k with A5:=W.next,dn:=0}else W.A2 j) i j);by_cases e:i=k
  ·subst e
   match j,w with
   | 0,_ | 1,_ | 2,_ | 3,_ | 4,_=>exact TrE.of_eq (by simp[AZ,setsE])
   | 5,_=>simp[AZ,setsE,TrE]
  ·exact TrE.of_eq (by unfold setsE;simp[AZ,e])
 ·show TrE _ (snapsE .z (fun j=>if j=W.pn then M1 W k a x else W.A0 j) i j);by_cases e:i<W.pn
  ·exact TrE.of_eq (by unfold snapsE;simp[Ae,e,show i≠W.pn by omega])
  ·cases (show i=W.pn by omega)
   match j,w with
   | 0,_ | 1,_ | 2,_ | 3,_ | 4,_ | 5,_ | 6,_=>exact TrE.of_eq (by simp[Ae,snapsE,M1,Tr.nt])
   | 7,_=>exact TrE.of_eq (by simp[Ae,snapsE,M1,Tr.nt])
set_option maxRecDepth 20000
set_option maxHeartbeats 3200000
def KR(W:A4)(k:Nat)(t:Int):List (Int×Int):=BE (fun i=>AI (AE W.pool (W.A2 k).rs (W.A2 k).rb) i) (fun i=>AK (AE W.pool (W.A2 k).rs (W.A2 k).rb) i) t (AE W.pool (W.A2 k).rs (W.A2 k).rb).length
def zHr(W:A4)(k j:Nat):A4:={GO W (KR W k (W.A0 j).time)with A2:=fun i=>if i=k then {W.A2 k with rs:=(W.A0 j).rs,rb:=(W.A0 j).rb,dn:=0}else W.A2 i}
open Classical in
def Me(W:A4)(k:Nat)(x:ByteArray):BQ:=if BG W (W.A2 k).A5/\(W.A0 (FQ W (W.A2 k).A5)).set=x then⟨zHr W k (FQ W (W.A2 k).A5),0,(KR W k (W.A0 (FQ W (W.A2 k).A5)).time).length,0⟩else BL 4
open Classical in
def IU(W:A4)(x:ByteArray):BQ:=if 8000<x.size then BL 2 else if Ab W then(if CJ W x then Me W (BT W x) x else BL 4)else BL 1
theorem GF(f g:Nat->Int)(t:Int)(n:Nat):(BE f g t n).length<=n:=by
 have:=Kr f g t n;omega
attribute [go_sem] BV
attribute [-go_sem] BV
def qH:AH:=AR (fun q:A4×ByteArray=>[woT q.1,sT q.2]) (fun q=>Bc q.1) (fun q=>[wuO (IU q.1 q.2)])
theorem zEl(W:A4)(x:ByteArray):qH [woT W,sT x]=some (Bc W,[wuO (IU W x)]):=Aa (fun l=>(BW (nth l 0),CL (nth l 1 0))) (fun _=>rfl) (W,x)
theorem zBl:Ag Tryz.prog 94 qH:=by
 refine Au Ai (GOk.cons IF (AA Tryz.func25 rfl rfl) (GOk.cons FH (AA Tryz.func20 rfl rfl) (GOk.cons ID (AA Tryz.func79 rfl rfl) (GOk.cons IG (AA Tryz.func23 rfl rfl) (GOk.cons Gc (AA Tryz.func22 rfl rfl) (GOk.cons Ix (AA Tryz.func33 rfl rfl) (GOk.cons Oc (AA Tryz.func27 rfl rfl) (GOk.ptr RL (AA Tryz.func28 rfl rfl) GOk.nil)))))))) Ah Tryz.func94 rfl Tryz.ntmps94 Tryz.results94 11 ?_;rintro⟨W,x⟩ b;replace b:Bc W:=b;have hs:=b.sn;have p:=b.pn;refine⟨by simp,?_⟩;by_cases m:8000<x.size
 ·simp[go_sem,Be,show(8000:Int)<x.size by omega];exact Bg (if_pos m)
 have d:¬(8000:Int)<x.size:=by omega
 by_cases c:Ab W;rotate_left
 ·simp[go_sem,DE,Bu,CI,Be,b,b.toSmallW,hs,p,Dk,CW,d,c];exact Bg ((if_neg m).trans (if_neg c))
 by_cases l:CJ W x;rotate_left
 ·simp[go_sem,DE,Bu,CI,Be,b,b.toSmallW,hs,p,Dk,CW,d,c,l];exact Bg ((if_neg m).trans ((if_pos c).trans (if_neg l)))
 have w:=IY l;have u:=CW.2 l;have a:BT W x<W.sn:=by show(BD W.sn fun k=>(W.A2 k).name=x).toNat<W.sn;omega
 obtain⟨k,f⟩:∃k,k=BT W x:=⟨_,rfl⟩;have n:(BD W.sn fun k=>(W.A2 k).name=x)=(k:Int):=by rw[f];show _=((BD W.sn fun k=>(W.A2 k).name=x).toNat:Int);omega
 rw[<-f]at a;have s:=(c.A2 k a).1;simp[go_sem,DE,Bu,CI,Dy,Be,I6,M7,QK,b,b.toSmallW,hs,p,n,d,c,c.right,s,a,Gx,FX];have q:IU W x=Me W k x:=by
  unfold IU;rw[if_neg m,if_pos c,if_pos l,<-f]
 refine⟨fun h=>absurd h (by omega),by kernel_rfl,fun h=>⟨h,KA h⟩,fun h=>?_,fun g r=>?_⟩
 ·exact Bg (q.trans (if_neg fun e=>h.elim (fun h=>h e.1) (fun h=>h (congrArg ByteArray.toList e.2))))
 rw[q,Me,if_pos ⟨g,GB r⟩];have hn:=Lm c.right;refine⟨⟨g,KA g⟩,Nat.le_trans (D7 ..) (by omega),by kernel_rfl,?_,⟨g,KA g⟩,a,by kernel_rfl,a,⟨TrE.refl _,BZ⟩,⟨TrE.refl _,Bj⟩,rfl,rfl,⟨⟨.inl rfl,rfl,rfl,fun i j hi t=>?_⟩,CO⟩,⟨TrE.refl _,CN⟩,rfl,rfl,rfl⟩
 ·have v:(AE W.pool (W.A2 k).rs (W.A2 k).rb).length<=73:=D7 ..;exact Nat.le_trans (Nat.add_le_add_left (Nat.le_trans (GF ..) v) _) (by omega)
 show TrE _ (setsE .o (fun i=>if i=k then {W.A2 k with rs:=(W.A0 (FQ W (W.A2 k).A5)).rs,rb:=(W.A0 (FQ W (W.A2 k).A5)).rb,dn:=0}else W.A2 i) i j);by_cases e:i=k
 ·subst e
  match j,t with
  | 0,_ | 1,_ | 2,_ | 3,_ | 4,_=>exact TrE.of_eq (by simp[AZ,setsE,GO])
  | 5,_=>simp[AZ,setsE,TrE]
 ·exact TrE.of_eq (by unfold setsE;simp[AZ,e,GO])
set_option maxRecDepth 20000
set_option maxHeartbeats 3200000
def Za(W:A4)(k:Nat):A4:={GO W (KR W k (AB W (W.A2 k).A5).time)with sn:=W.sn - 1,A2:=fun i=>if i<k then W.A2 i else W.A2 (i+1)}
open Classical in
def IS(W:A4)(x:ByteArray):BQ:=if 8000<x.size then BL 2 else if Ab W then(if CJ W x then(if ∃i,i<W.pn/\(W.A0 i).set=x then BL 7 else⟨Za W (BT W x),0,(KR W (BT W x) (AB W (W.A2 (BT W x)).A5).time).length,0⟩)else BL 4)else BL 1
variable{l:List (Int×Int)}
theorem Uj:(GO W l).sn=W.sn:=rfl
theorem Xa:(GO W l).A2=W.A2:=rfl
theorem Ui:(GO W l).pn=W.pn:=rfl
theorem Xv:(GO W l).A0=W.A0:=rfl
attribute [go_sem] BV
attribute [-go_sem] BV
def Zf:AH:=AR (fun q:A4×ByteArray=>[woT q.1,sT q.2]) (fun q=>Bc q.1) (fun q=>[wuO (IS q.1 q.2)])
theorem zEe(W:A4)(x:ByteArray):Zf [woT W,sT x]=some (Bc W,[wuO (IS W x)]):=Aa (fun l=>(BW (nth l 0),CL (nth l 1 0))) (fun _=>rfl) (W,x)
theorem zCN:Ag Tryz.prog 93 Zf:=by
 refine Au Ai (GOk.cons IF (AA Tryz.func25 rfl rfl) (GOk.cons FH (AA Tryz.func20 rfl rfl) (GOk.cons ID (AA Tryz.func79 rfl rfl) (GOk.cons Gc (AA Tryz.func22 rfl rfl) (GOk.cons Ks (AA Tryz.func26 rfl rfl) (GOk.cons Ix (AA Tryz.func33 rfl rfl) (GOk.cons Oc (AA Tryz.func27 rfl rfl) (GOk.cons zC (AA Tryz.func138 rfl rfl) (GOk.ptr RL (AA Tryz.func28 rfl rfl) GOk.nil))))))))) Ah Tryz.func93 rfl Tryz.ntmps93 Tryz.results93 12 ?_;rintro⟨W,x⟩ b;replace b:Bc W:=b;have hs:=b.sn;have p:=b.pn;refine⟨by simp,?_⟩;by_cases h:8000<x.size
 ·simp[go_sem,Be,show(8000:Int)<x.size by omega];exact Bg (if_pos h)
 have c:¬(8000:Int)<x.size:=by omega
 by_cases a:Ab W;rotate_left
 ·simp[go_sem,DE,Bu,CI,Be,b,b.toSmallW,hs,p,Dk,CW,c,a];exact Bg ((if_neg h).trans (if_neg a))
 by_cases g:CJ W x;rotate_left
 ·simp[go_sem,DE,Bu,CI,Be,b,b.toSmallW,hs,p,Dk,CW,c,a,g];exact Bg ((if_neg h).trans ((if_pos a).trans (if_neg g)))
 have q:=IY g;have u:=CW.2 g;have f:BT W x<W.sn:=by show(BD W.sn fun k=>(W.A2 k).name=x).toNat<W.sn;omega
 obtain⟨k,d⟩:∃k,k=BT W x:=⟨_,rfl⟩;have l:(BD W.sn fun k=>(W.A2 k).name=x)=(k:Int):=by rw[d];show _=((BD W.sn fun k=>(W.A2 k).name=x).toNat:Int);omega
 have m:¬(k:Int)<0:=by omega
 by_cases n:∃i,i<W.pn/\(W.A0 i).set=x
 ·simp[go_sem,DE,Bu,CI,Be,SH,b,b.toSmallW,hs,p,l,m,c,a,n];exact Bg ((if_neg h).trans ((if_pos a).trans ((if_pos g).trans (if_pos n))))
 have r:IS W x=⟨Za W k,0,(KR W k (AB W (W.A2 k).A5).time).length,0⟩:=by
  unfold IS;rw[if_neg h,if_pos a,if_pos g,if_neg n,<-d]
 rw[<-d]at f;have t:=(a.A2 k f).1;have w:=Kg (fun k q=>(a.AP.Cu.ids k q).1) (W.A2 k).A5;simp[go_sem,DE,Bu,CI,SH,Jm,Be,I6,M7,QK,b,b.toSmallW,hs,p,l,m,c,a,n,w,a.right,t,f,r,Aj (show k<=1000000000 by omega),Uj,Xa,Ui,Xv];have hn:=Lm a.right;refine⟨by kernel_rfl,Nat.le_trans (D7 ..) (by omega),by kernel_rfl,?_,?_⟩
 ·have v:(AE W.pool (W.A2 k).rs (W.A2 k).rb).length<=73:=D7 ..;exact Nat.le_trans (Nat.add_le_add_left (Nat.le_trans (GF ..) v) _) (by omega)
 refine⟨by omega,⟨by omega,by omega⟩,⟨by omega,by omega⟩,⟨by omega,by omega⟩,by kernel_rfl,⟨TrE.refl _,BZ⟩,⟨TrE.refl _,Bj⟩,rfl,rfl,⟨⟨.inl rfl,rfl,by show k+(W.sn - (k+1))=W.sn - 1;omega,fun i j hi y=>TrE.of_eq ?_⟩,CO⟩,⟨TrE.refl _,CN⟩,rfl⟩;show _=setsE .o (fun i=>if i<k then W.A2 i else W.A2 (i+1)) i j;by_cases e:i<k
 ·unfold setsE;simp[Ae,e]
 ·have:k+1+(i - k)=i+1:=(by omega);have s:¬i+1<k:=(by omega);unfold setsE;simp[Ae,e,ntR,this,s]
set_option maxRecDepth 20000
set_option maxHeartbeats 3200000
def DY(W:A4)(other:ByteArray)(id:Int)(n j:Nat):Prop:=∃m x,m<n/\Steps W other id m x/\BB W x j
def MP(W:A4)(other:ByteArray)(id:Int)(j:Nat):Prop:=∃m x,Steps W other id m x/\BB W x j/\(W.A0 j).set=other
open Classical in
def FM(W:A4)(name:ByteArray)(V:Nat->Prop):Nat->AT:=fun j=>if V j then {W.A0 j with set:=name}else W.A0 j
def Pp(W:A4)(x y:ByteArray):Prop:=∃i,i<W.pn/\(W.A0 i).set=x/\(W.A0 i).name=y
def MT(W:A4)(k d:Nat)(name other:ByteArray)(id:Int):A4:={W with A0:=FM W name (MP W other id),A2:=fun i=>if i=d then {W.A2 d with origin:=id}else if i=k then {W.A2 k with origin:=(W.A2 d).origin}else W.A2 i}
open Classical in
def MS(W:A4)(k:Nat)(x other:ByteArray)(id:Int):BQ:=if ∃j,MP W other id j/\Pp W x (W.A0 j).name then BL 5 else⟨MT W k (BT W other) x other id,id,0,0⟩
open Classical in
def II(W:A4)(x:ByteArray):BQ:=if 8000<x.size then BL 2 else if Ab W then(if CJ W x then(if (W.A2 (BT W x)).origin=0 then BL 7 else MS W (BT W x) x (W.A0 (FQ W (W.A2 (BT W x)).origin)).set (W.A2 (BT W x)).origin)else BL 4)else BL 1
variable{a:ByteArray}
theorem Pj{id:Int}{j:Nat}(h:Steps W a id n x)(b:BB W x j):DY W a id (n+1) i↔i=j\/DY W a id n i:=by
 constructor
 ·rintro⟨m,y,c,hs,hi⟩;by_cases e:m=n
  ·subst e;rw[hs.det h]at hi;exact .inl (hi.uniq b)
  ·exact .inr ⟨m,y,by omega,hs,hi⟩
 ·rintro(rfl | ⟨m,y,c,hs,hi⟩)
  ·exact⟨n,x,by omega,h,b⟩
  ·exact⟨m,y,by omega,hs,hi⟩
theorem Tz{id:Int}(h:Steps W a id n x)(f:¬Eh W a x):DY W a id n i↔MP W a id i:=by
 constructor
 ·rintro⟨m,y,d,hs,hi⟩;obtain⟨z,c,j,g,b⟩:=h.less d;rw[hs.det c]at hi;refine⟨m,z,c,hi,?_⟩;rw[hi.uniq g];exact b
 ·rintro⟨m,y,hs,hi,b⟩;by_cases d:m<n
  ·exact⟨m,y,d,hs,hi⟩
  ·exfalso;by_cases e:m=n
   ·subst e;rw[hs.det h]at hi;exact f ⟨i,hi,b⟩
   ·obtain⟨z,c,k⟩:=hs.less (show n<m by omega);rw[h.det c]at f;exact f k
attribute [go_sem] BV
attribute [-go_sem] BV
def yA:AH:=AR (fun q:A4×ByteArray=>[woT q.1,sT q.2]) (fun q=>Bc q.1) (fun q=>[wuO (II q.1 q.2)])
theorem zGk(W:A4)(x:ByteArray):yA [woT W,sT x]=some (Bc W,[wuO (II W x)]):=Aa (fun l=>(BW (nth l 0),CL (nth l 1 0))) (fun _=>rfl) (W,x)
theorem zAb:Ag Tryz.prog 95 yA:=by
 refine Au Ai (GOk.cons IF (AA Tryz.func25 rfl rfl) (GOk.cons FH (AA Tryz.func20 rfl rfl) (GOk.cons ID (AA Tryz.func79 rfl rfl) (GOk.cons IG (AA Tryz.func23 rfl rfl) (GOk.cons Gc (AA Tryz.func22 rfl rfl) (GOk.cons Y2 (AA Tryz.func137 rfl rfl) GOk.nil)))))) Ah Tryz.func95 rfl Tryz.ntmps95 Tryz.results95 12 ?_;rintro⟨W,x⟩ t;replace t:Bc W:=t;have hs:=t.sn;have K:=t.pn;refine⟨by simp,?_⟩;by_cases M:8000<x.size
 ·simp[go_sem,Be,show(8000:Int)<x.size by omega];exact Bg (if_pos M)
 have D:¬(8000:Int)<x.size:=by omega
 by_cases A:Ab W;rotate_left
 ·simp[go_sem,DE,Bu,CI,Be,t,t.toSmallW,hs,K,Dk,CW,D,A];exact Bg ((if_neg M).trans (if_neg A))
 by_cases J:CJ W x;rotate_left
 ·simp[go_sem,DE,Bu,CI,Be,t,t.toSmallW,hs,K,Dk,CW,D,A,J];exact Bg ((if_neg M).trans ((if_pos A).trans (if_neg J)))
 have hk:=IY J;have lA:=CW.2 J;have r:BT W x<W.sn:=by show(BD W.sn fun k=>(W.A2 k).name=x).toNat<W.sn;omega
 obtain⟨k,E⟩:∃k,k=BT W x:=⟨_,rfl⟩;have T:(BD W.sn fun k=>(W.A2 k).name=x)=(k:Int):=by rw[E];show _=((BD W.sn fun k=>(W.A2 k).name=x).toNat:Int);omega
 have X:¬(k:Int)<0:=by omega
 rw[<-E]at r;by_cases N:(W.A2 k).origin=0
 ·simp[go_sem,DE,Bu,CI,Be,t,t.toSmallW,hs,K,T,X,D,A,r,N];exact Bg ((if_neg M).trans ((if_pos A).trans ((if_pos J).trans (if_pos (E▸N)))))
 have hI:BG W (W.A2 k).origin:=(A.AP.2.2.2.2.1 k r).2.2.2 N;obtain⟨q,hq⟩:=hI.no;have U:(BD W.pn fun j=>(W.A0 j).id=(W.A2 k).origin)=(q:Int):=I4 hq.1 hq.2.1 hq.2.2;have Y:=hq.1;obtain⟨id,H⟩:∃id,id=(W.A2 k).origin:=⟨_,rfl⟩;obtain⟨b,I⟩:∃o,o=(W.A0 q).set:=⟨_,rfl⟩;simp[go_sem,DE,Bu,CI,Dy,Be,Jn,t,t.toSmallW,hs,K,T,X,D,A,r,N,U,Y];rw[<-H,<-I];refine⟨by kernel_rfl,?_⟩;have G:=A.AP.Cu;have hS:CJ W b:=by rw[I];exact(A.AP.2.2.2.2.2 q Y).1.2.2.2.2.2
 have hd:=IY hS;have kA:=CW.2 hS;obtain⟨d,P⟩:∃d,d=BT W b:=⟨_,rfl⟩;have R:(BD W.sn fun k=>(W.A2 k).name=b)=(d:Int):=by rw[P];show _=((BD W.sn fun k=>(W.A2 k).name=b).toNat:Int);omega
 have Q:d<W.sn:=by omega
 have eR:II W x=MS W k x b id:=by
  unfold II;rw[if_neg M,if_pos A,if_pos J,<-E,if_neg N,H,I];show MS W k x (W.A0 (BD W.pn fun j=>(W.A0 j).id=(W.A2 k).origin).toNat).set _=_;rw[U,Int.toNat_natCast]
 rw[eR];refine B2 (fun q:Nat×Int=>⟨[(9,true,.m false [.v (.int .i64 q.2)]),(8,true,.m false [.p 8 0]),(7,true,.m false [.v (.string b)]),(6,true,.m false [.v (.int .i64 id)]),(5,true,.i k),(4,true,.m false [.p 4 0]),(2,true,.m false [.p 2 0]),(1,true,.m false [.v (.string x)])],[(8,.var [.h 61,.h 62,.v (.int .i64 W.time),.v (.int .i64 W.next),.h 63,.h 64]),(64,.row 8 W.pn (snapsE .z (FM W x (DY W b id q.1)))),(63,.row 6 W.sn (setsE .o W.A2)),(62,.row 1 W.pool.hn (B5 W.pool.h)),(61,.row 3 W.pool.n (Ao .z W.pool.s)),(4,.var [.v n0,.v n0,.v i0,.v i0,.v n0,.v n0,.v i0,.v i0,.v i0]),(2,.var ((woL W).map Tr.cv))]⟩) (fun q=>1000000 - q.1) (fun q=>ET W b id q.1 q.2/\∀j,DY W b id q.1 j->¬Pp W x (W.A0 j).name) (0,id) ?_ ⟨ET.start G _ (.inr (H▸hI)),fun j ⟨m,y,hm,_⟩=>absurd hm (Nat.not_lt_zero _)⟩ ?_
 ·have e0:FM W x (DY W b id 0)=W.A0:=funext fun j=>if_neg fun ⟨m,y,hm,_⟩=>absurd hm (Nat.not_lt_zero _)
  simp[go_sem,e0]
 rintro⟨n,y⟩ ⟨u,F⟩;replace u:ET W b id n y:=u;replace F:∀j,DY W b id n j->¬Pp W x (W.A0 j).name:=F;have ha:n<=900000:=by have:=u.least;have:=u.sum;omega
 have hM:¬Eh W b y->FM W x (DY W b id n)=FM W x (MP W b id):=fun he=>by
  have:DY W b id n=MP W b id:=funext fun i=>propext (Tz u.steps he)
  rw[this]
 have hK:¬Eh W b y->MS W k x b id=⟨MT W k d x b id,id,0,0⟩:=fun he=>by
  rw[P];exact if_neg fun ⟨i,C,w⟩=>F i ((Tz u.steps he).2 C) w
 have O:TrE (Tr.s .o 6 W.sn (AZ (AZ (setsE .o W.A2) k 1 [.v (.int .i64 (W.A2 d).origin)]) d 1 [.v (.int .i64 id)])) (Tr.s .o 6 W.sn (setsE .o (MT W k d x b id).A2)):=F5 fun i j hi l=>by
  show _=setsE .o (fun i=>if i=d then {W.A2 d with origin:=id}else if i=k then {W.A2 k with origin:=(W.A2 d).origin}else W.A2 i) i j;by_cases e1:i=d
  ·subst e1;by_cases L:i=k
   ·subst L
    match j,l with
    | 0,_ | 1,_ | 2,_ | 3,_ | 4,_ | 5,_=>simp[AZ,setsE]
   ·match j,l with
    | 0,_ | 1,_ | 2,_ | 3,_ | 4,_ | 5,_=>simp[AZ,setsE,L]
  ·by_cases L:i=k
   ·subst L
    match j,l with
    | 0,_ | 1,_ | 2,_ | 3,_ | 4,_ | 5,_=>simp[AZ,setsE,e1]
   ·unfold setsE;simp[AZ,e1,L]
 by_cases hy:y=0
 ·subst hy;have f:=YI G b;simp[go_sem,CI,hs,R,Q,r];rw[hK f,hM f];exact⟨by kernel_rfl,⟨TrE.refl _,BZ⟩,⟨TrE.refl _,Bj⟩,rfl,rfl,⟨O,CO⟩,⟨TrE.refl _,CN⟩,rfl,rfl,rfl⟩
 obtain⟨j,l⟩:=(u.there.resolve_left hy).no;have S:(BD W.pn fun i=>(W.A0 i).id=y)=(j:Int):=I4 l.1 l.2.1 l.2.2;have V:=l.1;by_cases B:(W.A0 j).set=b;rotate_left
 ·have f:=XQ l B;have Z:¬(W.A0 j).set.toList=b.toList:=fun e=>B (GB e)
  simp[go_sem,CI,Dy,hs,K,R,Q,r,hy,S,V,Z];rw[hK f,hM f];exact⟨by kernel_rfl,⟨TrE.refl _,BZ⟩,⟨TrE.refl _,Bj⟩,rfl,rfl,⟨O,CO⟩,⟨TrE.refl _,CN⟩,rfl,rfl,rfl⟩
 simp[go_sem,CI,Dy,Be,Jn,hs,K,hy,S,V,B];refine⟨by kernel_rfl,fun i hi C w=>Bg (if_pos ⟨j,⟨n,y,u.steps,l,B⟩,i,hi,C,w⟩),fun h=>⟨n+1,_,⟨u.next G l B,fun i hi=>?_⟩,by omega,rfl,F5 fun i c hi hc=>?_⟩⟩
 ·rcases(Pj u.steps l).1 hi with rfl | hi
  ·exact fun ⟨a,C,w,h3⟩=>h a C w h3
  ·exact F i hi
 ·by_cases e:i=j
  ·subst e;have hv:DY W b id (n+1) i:=(Pj u.steps l).2 (.inl rfl);have C:FM W x (DY W b id (n+1)) i = {W.A0 i with set:=x}:=if_pos hv;have w:FM W x (DY W b id n) i = {W.A0 i with set:=x}\/FM W x (DY W b id n) i=W.A0 i:=by
    by_cases g:DY W b id n i
    ·exact .inl (if_pos g)
    ·exact .inr (if_neg g)
   rcases w with w | w
   ·match c,hc with
    | 0,_ | 1,_ | 2,_ | 3,_ | 4,_ | 5,_ | 6,_ | 7,_=>simp[AZ,snapsE,C,w]
   ·match c,hc with
    | 0,_ | 1,_ | 2,_ | 3,_ | 4,_ | 5,_ | 6,_ | 7,_=>simp[AZ,snapsE,C,w]
  ·have C:FM W x (DY W b id (n+1)) i=FM W x (DY W b id n) i:=by
    have:DY W b id (n+1) i=DY W b id n i:=propext ((Pj u.steps l).trans ⟨fun h=>h.resolve_left e,.inr⟩);unfold FM;rw[this]
   unfold snapsE;simp[AZ,e,C]
end
end Go.Proofs.YtnfjcaoclahfjaaGreatDoor
