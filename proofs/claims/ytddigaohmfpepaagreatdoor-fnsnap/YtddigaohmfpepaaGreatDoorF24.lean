/- A part of the proof. -/
import Derived.Test.YtddigaohmfpepaaGreatDoorF23
import Derived.Test.YtddigaohmfpepaaGreatDoorF17
set_option linter.unusedVariables false
set_option maxRecDepth 20000
set_option maxHeartbeats 4000000
namespace Go.Proofs.YtddigaohmfpepaaGreatDoor
noncomputable section
open Go.RowKit
set_option linter.unusedSimpArgs false
set_option maxRecDepth 20000
set_option maxHeartbeats 3200000
def E5(W:A6)(other:ByteArray)(id:Int)(n j:Nat):Prop:=∃m x,m<n/\Steps W other id m x/\BW W x j
def MS(W:A6)(other:ByteArray)(id:Int)(j:Nat):Prop:=∃m x,Steps W other id m x/\BW W x j/\(W.A3 j).set=other
open Classical in
def FR(W:A6)(name:ByteArray)(V:Nat->Prop):Nat->Aa:=fun j=>if V j then {W.A3 j with set:=name}else W.A3 j
def Pz(W:A6)(x y:ByteArray):Prop:=∃i,i<W.pn/\(W.A3 i).set=x/\(W.A3 i).name=y
def MZ(W:A6)(k d:Nat)(name other:ByteArray)(id:Int):A6:={W with A3:=FR W name (MS W other id),A2:=fun i=>if i=d then {W.A2 d with origin:=id}else if i=k then {W.A2 k with origin:=(W.A2 d).origin}else W.A2 i}
open Classical in
def MY(W:A6)(k:Nat)(x other:ByteArray)(id:Int):Bm:=if ∃j,MS W other id j/\Pz W x (W.A3 j).name then BP 5 else⟨MZ W k (Ay W other) x other id,id,0,0⟩
open Classical in
def IG(W:A6)(x:ByteArray):Bm:=if 8000<x.size then BP 2 else if B4 W then(if BL W x then(if (W.A2 (Ay W x)).origin=0 then BP 7 else MY W (Ay W x) x (W.A3 (GH W (W.A2 (Ay W x)).origin)).set (W.A2 (Ay W x)).origin)else BP 4)else BP 1
variable{W:A6}{a:ByteArray}{x:Int}{n j i:Nat}
theorem Pm{id:Int}(h:Steps W a id n x)(b:BW W x j):E5 W a id (n+1) i↔i=j\/E5 W a id n i:=by
 constructor
 ·rintro⟨m,y,c,hs,hi⟩;by_cases e:m=n
  ·subst e;rw[hs.det h]at hi;exact .inl (hi.uniq b)
  ·exact .inr ⟨m,y,by omega,hs,hi⟩
 ·rintro(rfl | ⟨m,y,c,hs,hi⟩)
  ·exact⟨n,x,by omega,h,b⟩
  ·exact⟨m,y,by omega,hs,hi⟩
theorem Us{id:Int}(h:Steps W a id n x)(f:¬F5 W a x):E5 W a id n i↔MS W a id i:=by
 constructor
 ·rintro⟨m,y,d,hs,hi⟩;obtain⟨z,c,j,g,b⟩:=h.less d;rw[hs.det c]at hi;refine⟨m,z,c,hi,?_⟩;rw[hi.uniq g];exact b
 ·rintro⟨m,y,hs,hi,b⟩;by_cases d:m<n
  ·exact⟨m,y,d,hs,hi⟩
  ·exfalso;by_cases e:m=n
   ·subst e;rw[hs.det h]at hi;exact f ⟨i,hi,b⟩
   ·obtain⟨z,c,k⟩:=hs.less (show n<m by omega);rw[h.det c]at f;exact f k
attribute [-go_sem] Bh
def yv:AL:=AY (fun q:A6×ByteArray=>[woT q.1,sT q.2]) (fun q=>Bt q.1) (fun q=>[wuO (IG q.1 q.2)])
theorem zH0(W:A6)(x:ByteArray):yv [woT W,sT x]=some (Bt W,[wuO (IG W x)]):=Ag (fun l=>(C2 (nth l 0),CO (nth l 1 0))) (fun _=>rfl) (W,x)
theorem zBM:An Tryz.prog 103 yv:=by
 refine B6 Al (GOk.cons ID (AE Tryz.func30 rfl rfl) (GOk.cons FK (AE Tryz.func14 rfl rfl) (GOk.cons IA (AE Tryz.func28 rfl rfl) (GOk.cons J6 (AE Tryz.func31 rfl rfl) (GOk.cons Ge (AE Tryz.func26 rfl rfl) (GOk.cons Yn (AE Tryz.func29 rfl rfl) GOk.nil)))))) Ak Tryz.func103 rfl Tryz.ntmps103 Tryz.results103 12 ?_;rintro⟨W,x⟩ t;replace t:Bt W:=t;have hs:=t.sn;have K:=t.pn;refine⟨by simp,?_⟩;by_cases M:8000<x.size
 ·simp[go_sem,Bx,show(8000:Int)<x.size by omega];exact By (if_pos M)
 have D:¬(8000:Int)<x.size:=by omega
 by_cases A:B4 W;rotate_left
 ·simp[go_sem,Dg,CE,Cb,Bx,t,t.toSmallW,hs,K,E9,Cn,D,A];exact By ((if_neg M).trans (if_neg A))
 by_cases J:BL W x;rotate_left
 ·simp[go_sem,Dg,CE,Cb,Bx,t,t.toSmallW,hs,K,E9,Cn,D,A,J];exact By ((if_neg M).trans ((if_pos A).trans (if_neg J)))
 have hk:=Ib J;have lA:=Cn.2 J;have r:Ay W x<W.sn:=by show(BO W.sn fun k=>(W.A2 k).name=x).toNat<W.sn;omega
 obtain⟨k,E⟩:∃k,k=Ay W x:=⟨_,rfl⟩;have T:(BO W.sn fun k=>(W.A2 k).name=x)=(k:Int):=by rw[E];show _=((BO W.sn fun k=>(W.A2 k).name=x).toNat:Int);omega
 have X:¬(k:Int)<0:=by omega
 rw[<-E]at r;by_cases N:(W.A2 k).origin=0
 ·simp[go_sem,Dg,CE,Cb,Bx,t,t.toSmallW,hs,K,T,X,D,A,r,N];exact By ((if_neg M).trans ((if_pos A).trans ((if_pos J).trans (if_pos (E▸N)))))
 have hI:CK W (W.A2 k).origin:=(A.Aq.2.2.2.2.1 k r).2.2.2 N;obtain⟨q,hq⟩:=hI.no;have U:(BO W.pn fun j=>(W.A3 j).id=(W.A2 k).origin)=(q:Int):=I2 hq.1 hq.2.1 hq.2.2;have Y:=hq.1;obtain⟨id,H⟩:∃id,id=(W.A2 k).origin:=⟨_,rfl⟩;obtain⟨b,I⟩:∃o,o=(W.A3 q).set:=⟨_,rfl⟩;simp[go_sem,Dg,CE,Cb,Ex,Bx,Jk,t,t.toSmallW,hs,K,T,X,D,A,r,N,U,Y];rw[<-H,<-I];refine⟨by kernel_rfl,?_⟩;have G:=A.Aq.ER;have hS:BL W b:=by rw[I];exact(A.Aq.2.2.2.2.2 q Y).1.2.2.2.2.2
 have hd:=Ib hS;have kA:=Cn.2 hS;obtain⟨d,P⟩:∃d,d=Ay W b:=⟨_,rfl⟩;have R:(BO W.sn fun k=>(W.A2 k).name=b)=(d:Int):=by rw[P];show _=((BO W.sn fun k=>(W.A2 k).name=b).toNat:Int);omega
 have Q:d<W.sn:=by omega
 have eR:IG W x=MY W k x b id:=by
  unfold IG;rw[if_neg M,if_pos A,if_pos J,<-E,if_neg N,H,I];show MY W k x (W.A3 (BO W.pn fun j=>(W.A3 j).id=(W.A2 k).origin).toNat).set _=_;rw[U,Int.toNat_natCast]
 rw[eR];refine BF (fun q:Nat×Int=>⟨[(9,true,.m false [.v (.int .i64 q.2)]),(8,true,.m false [.p 8 0]),(7,true,.m false [.v (.string b)]),(6,true,.m false [.v (.int .i64 id)]),(5,true,.i k),(4,true,.m false [.p 4 0]),(2,true,.m false [.p 2 0]),(1,true,.m false [.v (.string x)])],[(8,.var [.h 61,.h 62,.v (.int .i64 W.time),.v (.int .i64 W.next),.h 63,.h 64]),(64,.row 8 W.pn (snapsE .z (FR W x (E5 W b id q.1)))),(63,.row 6 W.sn (setsE .o W.A2)),(62,.row 1 W.pool.hn (BH W.pool.h)),(61,.row 3 W.pool.n (Aw .z W.pool.s)),(4,.var [.v n0,.v n0,.v i0,.v i0,.v n0,.v n0,.v i0,.v i0,.v i0]),(2,.var ((woL W).map Tr.cv))]⟩) (fun q=>1000000 - q.1) (fun q=>EZ W b id q.1 q.2/\∀j,E5 W b id q.1 j->¬Pz W x (W.A3 j).name) (0,id) ?_ ⟨EZ.start G _ (.inr (H▸hI)),fun j ⟨m,y,hm,_⟩=>absurd hm (Nat.not_lt_zero _)⟩ ?_
 ·have e0:FR W x (E5 W b id 0)=W.A3:=funext fun j=>if_neg fun ⟨m,y,hm,_⟩=>absurd hm (Nat.not_lt_zero _)
  simp[go_sem,e0]
 rintro⟨n,y⟩ ⟨u,F⟩;replace u:EZ W b id n y:=u;replace F:∀j,E5 W b id n j->¬Pz W x (W.A3 j).name:=F;have ha:n<=900000:=by have:=u.least;have:=u.sum;omega
 have hM:¬F5 W b y->FR W x (E5 W b id n)=FR W x (MS W b id):=fun he=>by
  have:E5 W b id n=MS W b id:=funext fun i=>propext (Us u.steps he)
  rw[this]
 have hK:¬F5 W b y->MY W k x b id=⟨MZ W k d x b id,id,0,0⟩:=fun he=>by
  rw[P];exact if_neg fun ⟨i,C,w⟩=>F i ((Us u.steps he).2 C) w
 have O:TrE (Tr.s .o 6 W.sn (Ae (Ae (setsE .o W.A2) k 1 [.v (.int .i64 (W.A2 d).origin)]) d 1 [.v (.int .i64 id)])) (Tr.s .o 6 W.sn (setsE .o (MZ W k d x b id).A2)):=F9 fun i j hi l=>by
  show _=setsE .o (fun i=>if i=d then {W.A2 d with origin:=id}else if i=k then {W.A2 k with origin:=(W.A2 d).origin}else W.A2 i) i j;by_cases e1:i=d
  ·subst e1;by_cases L:i=k
   ·subst L
    match j,l with
    | 0,_ | 1,_ | 2,_ | 3,_ | 4,_ | 5,_=>simp[Ae,setsE]
   ·match j,l with
    | 0,_ | 1,_ | 2,_ | 3,_ | 4,_ | 5,_=>simp[Ae,setsE,L]
  ·by_cases L:i=k
   ·subst L
    match j,l with
    | 0,_ | 1,_ | 2,_ | 3,_ | 4,_ | 5,_=>simp[Ae,setsE,e1]
   ·unfold setsE;simp[Ae,e1,L]
 by_cases hy:y=0
 ·subst hy;have f:=Yu G b;simp[go_sem,Cb,hs,R,Q,r];rw[hK f,hM f];exact⟨by kernel_rfl,⟨TrE.refl _,Bo⟩,⟨TrE.refl _,Bz⟩,rfl,rfl,⟨O,Cj⟩,⟨TrE.refl _,Ci⟩,rfl,rfl,rfl⟩
 obtain⟨j,l⟩:=(u.there.resolve_left hy).no;have S:(BO W.pn fun i=>(W.A3 i).id=y)=(j:Int):=I2 l.1 l.2.1 l.2.2;have V:=l.1;by_cases B:(W.A3 j).set=b;rotate_left
 ·have f:=Xy l B;have Z:¬(W.A3 j).set.toList=b.toList:=fun e=>B (G7 e)
  simp[go_sem,Cb,Ex,hs,K,R,Q,r,hy,S,V,Z];rw[hK f,hM f];exact⟨by kernel_rfl,⟨TrE.refl _,Bo⟩,⟨TrE.refl _,Bz⟩,rfl,rfl,⟨O,Cj⟩,⟨TrE.refl _,Ci⟩,rfl,rfl,rfl⟩
 simp[go_sem,Cb,Ex,Bx,Jk,hs,K,hy,S,V,B];refine⟨by kernel_rfl,fun i hi C w=>By (if_pos ⟨j,⟨n,y,u.steps,l,B⟩,i,hi,C,w⟩),fun h=>⟨n+1,_,⟨u.next G l B,fun i hi=>?_⟩,by omega,rfl,F9 fun i c hi hc=>?_⟩⟩
 ·rcases(Pm u.steps l).1 hi with rfl | hi
  ·exact fun ⟨a,C,w,h3⟩=>h a C w h3
  ·exact F i hi
 ·by_cases e:i=j
  ·subst e;have hv:E5 W b id (n+1) i:=(Pm u.steps l).2 (.inl rfl);have C:FR W x (E5 W b id (n+1)) i = {W.A3 i with set:=x}:=if_pos hv;have w:FR W x (E5 W b id n) i = {W.A3 i with set:=x}\/FR W x (E5 W b id n) i=W.A3 i:=by
    by_cases g:E5 W b id n i
    ·exact .inl (if_pos g)
    ·exact .inr (if_neg g)
   rcases w with w | w
   ·match c,hc with
    | 0,_ | 1,_ | 2,_ | 3,_ | 4,_ | 5,_ | 6,_ | 7,_=>simp[Ae,snapsE,C,w]
   ·match c,hc with
    | 0,_ | 1,_ | 2,_ | 3,_ | 4,_ | 5,_ | 6,_ | 7,_=>simp[Ae,snapsE,C,w]
  ·have C:FR W x (E5 W b id (n+1)) i=FR W x (E5 W b id n) i:=by
    have:E5 W b id (n+1) i=E5 W b id n i:=propext ((Pm u.steps l).trans ⟨fun h=>h.resolve_left e,.inr⟩);unfold FR;rw[this]
   unfold snapsE;simp[Ae,e,C]
set_option maxRecDepth 20000
set_option maxHeartbeats 3200000
attribute [go_sem] Bh
attribute [-go_sem] Bh
theorem M8(f g:Nat->Int)(t:Int)(n:Nat):(C6 f g t n).length<=n:=by
 have:=Kq f g t n;omega
variable{f g:Nat->Int}
theorem OO:(Bu n f g).length=n:=by simp[Bu]
variable{l:List (Int×Int)}
theorem zGB:AN (Bu n f g ++ l) i=if i<n then f i else AN l (i - n):=by
 unfold AN Bu;simp only[List.getD_eq_getElem?_getD,List.getElem?_append,List.length_map,List.length_range];split
 ·rename_i h;simp[h]
 ·rfl
theorem zHM:AP (Bu n f g ++ l) i=if i<n then g i else AP l (i - n):=by
 unfold AP Bu;simp only[List.getD_eq_getElem?_getD,List.getElem?_append,List.length_map,List.length_range];split
 ·rename_i h;simp[h]
 ·rfl
variable{m:Nat}{F:Nat->Nat->Tr}
theorem Nz(b:m=n+l.length)(hF:∀i j,i<m->j<2->F i j=if i<n then ptrsT f g i j else DR encP (0,0) l (i - n) j):TrE (.s .o 2 m F) (.s .o 2 (Bu n f g ++ l).length (ptrsT (AN (Bu n f g ++ l)) (AP (Bu n f g ++ l)))):=by
 refine⟨.inl rfl,rfl,by rw[b,List.length_append,OO],fun i j hi a=>TrE.of_eq ?_⟩;rw[hF i j hi a]
 match j,a with
 | 0,_=>simp only[ptrsT,zGB,P5];split<;>rfl
 | 1,_=>simp only[ptrsT,zHM,P6];split<;>rfl
theorem zJF(f:Nat->Nat->Tr)(k:Nat)(a b:Tr):Ae f k 3 [a,b] k 5=f k 5:=by simp[Ae]
abbrev toV(t:D9):List Tr:=[.s .o 3 t.pool.n (Aw .z t.pool.s),.s .o 1 t.pool.hn (BH t.pool.h),.v (.int .i64 t.rs),.v (.int .i64 t.rb),.s .o 2 t.old.length (ptL t.old),.v (.int .i64 t.code)]
def Zi:AL:=AY (fun q:(A6×Int)×D9=>[woT q.1.1,iT q.1.2,(true,toV q.2)]) (fun q=>Bt q.1.1/\B4 q.1.1/\(0<=q.1.2/\q.1.2<q.1.1.sn)/\(q.2.code=0->q.2.pool.hn+q.2.old.length<=1000000)) (fun q=>[wuO (Dc q.1.1 q.1.2.toNat q.2)])
theorem zGl(l:List (Int×Int)):K3 (.s .o 2 l.length (ptL l))=l:=by
 refine Eq.trans ?_ (Pw l);unfold K3;congr 1
theorem VO(W:A6)(k:Int)(t:D9):Zi [woT W,iT k,(true,toV t)]=some (Bt W/\B4 W/\(0<=k/\k<W.sn)/\(t.code=0->t.pool.hn+t.old.length<=1000000),[wuO (Dc W k.toNat t)]):=
 Ag (fun m=>((C2 (nth m 0),AS (nth m 1 0)),⟨Cw (nth m 2 0) (nth m 2 1),AS (nth m 2 2),AS (nth m 2 3),K3 (nth m 2 4),AS (nth m 2 5)⟩)) (fun q=>by exact congrArg (fun l=>(q.1,(⟨q.2.pool,q.2.rs,q.2.rb,l,q.2.code⟩:D9))) (zGl q.2.old)) ((W,k),t)
theorem YI:N8 Tryz.prog 145 Zi:=by
 refine zDO (A:=fun q:(A6×Int)×D9=>[woT q.1.1,iT q.1.2]) (V:=fun q=>toV q.2) Al (GOk.cons ID (AE Tryz.func30 rfl rfl) (GOk.cons Ge (AE Tryz.func26 rfl rfl) (GOk.cons Kx (AE Tryz.func88 rfl rfl) (GOk.cons OZ (AE Tryz.func148 rfl rfl) (GOk.ptr RB (AE Tryz.func149 rfl rfl) GOk.nil))))) Ak Tryz.func145 rfl Tryz.ntmps145 Tryz.results145 13 ?_;rintro⟨⟨W,h⟩,t⟩ c;obtain⟨c,n,⟨m,g⟩,u⟩:Bt W/\B4 W/\(0<=h/\h<W.sn)/\(t.code=0->t.pool.hn+t.old.length<=1000000):=c;have hs:=c.sn;have s:=c.pn;obtain⟨k,rfl⟩:=Int.eq_ofNat_of_zero_le m;have f:k<W.sn:=by omega
 refine⟨by simp,?_⟩;show ev _ _ _ _ _ _ (Jw _ _ [wuO (Dc W k t)]);by_cases d:t.code=0;rotate_left
 ·simp[go_sem,Bx,d];exact By (if_neg d)
 have v:=Kg (fun k g=>(n.Aq.ER.ids k g).1) (W.A2 k).A8;have l:Dc W k t=⟨Cy W k t,0,((DZ W k t).length:Int),0⟩:=if_pos d;simp[go_sem,Bx,Dg,Jj,M6,QO ⟨t.pool,W.time,W.next,W.sn,W.A2,W.pn,W.A3⟩,c,hs,s,d,v,f,Ar (show k<=1000000000 by omega),zJF,UY,YB,UX,Yi,l];have y:=u d;have B:=GB (fun i=>AN t.old i) (fun i=>AP t.old i) (AI W (W.A2 k).A8).time t.old.length;have z:=M8 (fun i=>AN t.old i) (fun i=>AP t.old i) (AI W (W.A2 k).A8).time t.old.length;have x:=c.sd k f;refine⟨by kernel_rfl,by omega,by omega,by omega,by kernel_rfl,⟨TrE.refl _,Bo⟩,⟨TrE.refl _,Bz⟩,rfl,rfl,⟨⟨.inl rfl,rfl,rfl,fun i j hi r=>?_⟩,Cj⟩,⟨TrE.refl _,Ci⟩,rfl⟩;show TrE _ (setsE .o (fun j=>if j=k then Fd W k t else W.A2 j) i j);by_cases e:i=k
 ·subst e
  match j,r with
  | 0,_ | 1,_ | 2,_ | 3,_ | 4,_=>exact TrE.of_eq (by simp[Ae,setsE,Fd])
  | 5,_=>
   simp[Ae,setsE,Fd];exact Nz rfl fun a b w p=>by
    unfold Ai;split
    ·rfl
    ·match b,p with
     | 0,_ | 1,_=>rfl
 ·exact TrE.of_eq (by unfold setsE;simp[Ae,e])
open Classical in
def Eb(W:A6)(x:ByteArray)(AM:Int)(d:ByteArray):Bm:=if 8000<x.size\/8000<d.size then BP 2 else if B4 W then(if BL W x then Dc W (Ay W x) (CF W.pool (W.A2 (Ay W x)).rs (W.A2 (Ay W x)).rb AM d W.time)else BP 4)else BP 1
open Classical in
def IP(W:A6)(x:ByteArray)(AM:Int):Bm:=if 8000<x.size then BP 2 else if B4 W then(if BL W x then Dc W (Ay W x) (FW W.pool (W.A2 (Ay W x)).rs (W.A2 (Ay W x)).rb AM W.time)else BP 4)else BP 1
def qG:AL:=AY (fun q:(A6×ByteArray)×Int×ByteArray=>[woT q.1.1,sT q.1.2,iT q.2.1,sT q.2.2]) (fun q=>Bt q.1.1) (fun q=>[wuO (Eb q.1.1 q.1.2 q.2.1 q.2.2)])
theorem zDi(W:A6)(x:ByteArray)(AM:Int)(d:ByteArray):qG [woT W,sT x,iT AM,sT d]=some (Bt W,[wuO (Eb W x AM d)]):=Ag (fun l=>((C2 (nth l 0),CO (nth l 1 0)),AS (nth l 2 0),CO (nth l 3 0))) (fun _=>rfl) ((W,x),AM,d)
theorem zBu:An Tryz.prog 105 qG:=by
 refine B6 Al (GOk.cons FK (AE Tryz.func14 rfl rfl) (GOk.cons IA (AE Tryz.func28 rfl rfl) (GOk.cons Ge (AE Tryz.func26 rfl rfl) (GOk.cons zCQ (AE Tryz.func151 rfl rfl) (GOk.own YI (AE Tryz.func145 rfl rfl) GOk.nil))))) Ak Tryz.func105 rfl Tryz.ntmps105 Tryz.results105 10 ?_;rintro⟨⟨W,x⟩,AM,d⟩ a;replace a:Bt W:=a;have hs:=a.sn;have o:=a.n;have v:=a.hn;refine⟨by simp,?_⟩;by_cases g:8000<x.size\/8000<d.size
 ·rcases Nat.lt_or_ge 8000 x.size with h | h
  ·simp[go_sem,Bx,show(8000:Int)<x.size by omega];exact By (if_pos g)
  ·simp[go_sem,Bx,show ¬(8000:Int)<x.size by omega,show(8000:Int)<d.size by omega];exact By (if_pos g)
 have b:¬(8000:Int)<x.size:=by omega
 have c:¬(8000:Int)<d.size:=by omega
 by_cases e:B4 W;rotate_left
 ·simp[go_sem,CE,Cb,Bx,a,a.toSmallW,hs,o,b,c,e];exact By ((if_neg g).trans (if_neg e))
 by_cases i:BL W x;rotate_left
 ·simp[go_sem,CE,Cb,Bx,a,a.toSmallW,hs,o,E9,Cn,b,c,e,i];exact By ((if_neg g).trans ((if_pos e).trans (if_neg i)))
 have B:=Ib i;have w:=Cn.2 i;have j:Ay W x<W.sn:=by show(BO W.sn fun k=>(W.A2 k).name=x).toNat<W.sn;omega
 obtain⟨k,f⟩:∃k,k=Ay W x:=⟨_,rfl⟩;have l:(BO W.sn fun k=>(W.A2 k).name=x)=(k:Int):=by rw[f];show _=((BO W.sn fun k=>(W.A2 k).name=x).toNat:Int);omega
 have m:¬(k:Int)<0:=by omega
 have q:Eb W x AM d=Dc W k (CF W.pool (W.A2 k).rs (W.A2 k).rb AM d W.time):=by
  unfold Eb;rw[if_neg g,if_pos e,if_pos i,<-f]
 rw[<-f]at j;have p:=OV W.pool (W.A2 k).rs (W.A2 k).rb AM d W.time;obtain⟨t,s⟩:∃t,t=CF W.pool (W.A2 k).rs (W.A2 k).rb AM d W.time:=⟨_,rfl⟩;rw[<-s]at p q;have u:t.pool.hn+t.old.length<=1000000:=by
  have:=Kz e.right;have y:=p.1;have z:=p.2;have A:t.pool.hn<=Ap t.pool:=Nat.le_add_left ..;omega
 have r:=zIE W.pool (W.A2 k).rs (W.A2 k).rb AM d W.time;rw[<-s]at r;simp[go_sem,CE,Cb,Bx,r,VO W k t,a,a.toSmallW,hs,o,v,l,m,b,c,e,j,q,u];exact⟨by kernel_rfl,Bo,Bz,Cj,Ci⟩
def yP:AL:=AY (fun q:(A6×ByteArray)×Int=>[woT q.1.1,sT q.1.2,iT q.2]) (fun q=>Bt q.1.1) (fun q=>[wuO (IP q.1.1 q.1.2 q.2)])
theorem zEt(W:A6)(x:ByteArray)(AM:Int):yP [woT W,sT x,iT AM]=some (Bt W,[wuO (IP W x AM)]):=Ag (fun l=>((C2 (nth l 0),CO (nth l 1 0)),AS (nth l 2 0))) (fun _=>rfl) ((W,x),AM)
theorem zBN:An Tryz.prog 97 yP:=by
 refine B6 Al (GOk.cons FK (AE Tryz.func14 rfl rfl) (GOk.cons IA (AE Tryz.func28 rfl rfl) (GOk.cons Ge (AE Tryz.func26 rfl rfl) (GOk.cons zBv (AE Tryz.func146 rfl rfl) (GOk.own YI (AE Tryz.func145 rfl rfl) GOk.nil))))) Ak Tryz.func97 rfl Tryz.ntmps97 Tryz.results97 8 ?_;rintro⟨⟨W,x⟩,AM⟩ a;replace a:Bt W:=a;have hs:=a.sn;have j:=a.n;have r:=a.hn;refine⟨by simp,?_⟩;by_cases g:8000<x.size
 ·simp[go_sem,Bx,show(8000:Int)<x.size by omega];exact By (if_pos g)
 have b:¬(8000:Int)<x.size:=by omega
 by_cases c:B4 W;rotate_left
 ·simp[go_sem,CE,Cb,Bx,a,a.toSmallW,hs,j,b,c];exact By ((if_neg g).trans (if_neg c))
 by_cases e:BL W x;rotate_left
 ·simp[go_sem,CE,Cb,Bx,a,a.toSmallW,hs,j,E9,Cn,b,c,e];exact By ((if_neg g).trans ((if_pos c).trans (if_neg e)))
 have y:=Ib e;have s:=Cn.2 e;have f:Ay W x<W.sn:=by show(BO W.sn fun k=>(W.A2 k).name=x).toNat<W.sn;omega
 obtain⟨k,d⟩:∃k,k=Ay W x:=⟨_,rfl⟩;have h:(BO W.sn fun k=>(W.A2 k).name=x)=(k:Int):=by rw[d];show _=((BO W.sn fun k=>(W.A2 k).name=x).toNat:Int);omega
 have i:¬(k:Int)<0:=by omega
 have m:IP W x AM=Dc W k (FW W.pool (W.A2 k).rs (W.A2 k).rb AM W.time):=by
  unfold IP;rw[if_neg g,if_pos c,if_pos e,<-d]
 rw[<-d]at f;have l:=RM W.pool (W.A2 k).rs (W.A2 k).rb AM W.time;obtain⟨t,p⟩:∃t,t=FW W.pool (W.A2 k).rs (W.A2 k).rb AM W.time:=⟨_,rfl⟩;rw[<-p]at l m;have q:t.pool.hn+t.old.length<=1000000:=by
  have:=Kz c.right;have u:=l.1;have v:=l.2;have w:t.pool.hn<=Ap t.pool:=Nat.le_add_left ..;omega
 have o:=zID W.pool (W.A2 k).rs (W.A2 k).rb AM W.time;rw[<-p]at o;simp[go_sem,CE,Cb,Bx,o,VO W k t,a,a.toSmallW,hs,j,r,h,i,b,c,f,m,q];exact⟨by kernel_rfl,Bo,Bz,Cj,Ci⟩
set_option maxRecDepth 20000
set_option maxHeartbeats 3200000
open Classical in
def sdK(W:A6)(x:Int)(k:Nat):Bm:=if h:∃i,Rn W x i then⟨zC W k h.choose,0,((GD W k h.choose).length:Int),0⟩else if h:∃i,Rm W x i then⟨zB W k h.choose,0,((IF W k h.choose).length:Int),0⟩else⟨{W with pn:=W.pn - 1,A3:=del W.A3 k},0,0,0⟩
open Classical in
def sdE(W:A6)(x:Int):Bm:=if B4 W then(if CK W x then(if 1<Dp W x W.sn+EH W x W.pn then BP 7 else sdK W x (GH W x))else BP 4)else BP 1
structure zHx (W:A6) (x:Int) (k:Nat) (o:Bm) (VP:Nat->A7) (VS:Nat->Nat->Ab) (m:Nat->Nat) (UP:Nat->A7) (US:Nat->Nat->Aa) (l:Nat->Nat):Prop where
 v0:VP 0=W.pool/\VS 0=W.A2/\m 0=0
 vn:∀j,(VP j).n=W.pool.n/\m j<=1000000
 cur:∀j,VS j j=W.A2 j
 no:∀j,j<W.sn->(W.A2 j).A8≠x->VP (j+1)=VP j/\VS (j+1)=VS j/\m (j+1)=m j
 yes:∀j,j<W.sn->(W.A2 j).A8=x->VP (j+1)=BJ (VP j) (GD W k j)/\VS (j+1)=(fun i=>if i=j then Mf W (W.A3 k) (W.A2 j)else VS j i)/\m (j+1)=m j+(GD W k j).length/\(VP j).hn<=W.pool.hn
 u0:UP 0=VP W.sn/\US 0=W.A3/\l 0=m W.sn
 un:∀j,(UP j).n=W.pool.n/\l j<=1000000
 cur2:∀j,US j j=W.A3 j
 no2:∀j,j<W.pn->(W.A3 j).A8≠x->UP (j+1)=UP j/\US (j+1)=US j/\l (j+1)=l j
 yes2:∀j,j<W.pn->(W.A3 j).A8=x->UP (j+1)=BJ (UP j) (IF W k j)/\US (j+1)=(fun i=>if i=j then Mz W (W.A3 k) (W.A3 j)else US j i)/\l (j+1)=l j+(IF W k j).length/\(UP j).hn<=W.pool.hn
 fin:o=⟨⟨UP W.pn,W.time,W.next,W.sn,VS W.sn,W.pn - 1,del (US W.pn) k⟩,0,l W.pn,0⟩
theorem L7(h:B4 W):(∀j,j<W.sn->(W.A2 j).dn<=200)/\∀j,j<W.pn->(W.A3 j).dn<=200:=by
 refine⟨fun j a=>?_,fun j a=>?_⟩
 ·have:=(XK h (i:=W.pn+j) (by unfold memN;omega) 0).1.1
  rwa [C4]at this
 ·have:=(XK h (i:=j) (by unfold memN;omega) 0).1.1
  rwa [CH a]at this
theorem TF(W:A6)(x:Int):∀n,Dp W x n=Ds (fun i=>(W.A2 i).A8) x n
 | 0=>rfl
 | n+1=>by rw[Dp,Ds,TF]
theorem TD(W:A6)(x:Int):∀n,EH W x n=Ds (fun i=>(W.A3 i).A8) x n
 | 0=>rfl
 | n+1=>by rw[EH,Ds,TD]
theorem zIO{k:Nat}(hs:∀i,i<W.sn->(W.A2 i).dn<=1000000)(y:∀i,i<W.pn->(W.A3 i).dn<=1000000)(w:¬1<Dp W x W.sn+EH W x W.pn):∃t u m r s l,zHx W x k (sdK W x k) t u m r s l:=by
 have q:∀i,i<W.sn->(GD W k i).length<=1000000:=fun i hi=>Nat.le_trans (GB ..) (hs i hi)
 have v:∀i,i<W.pn->(IF W k i).length<=1000000:=fun i hi=>Nat.le_trans (GB ..) (y i hi)
 rw[TF,TD]at w;unfold sdK;by_cases c:∃i,Rn W x i
 ·rw[dif_pos c];obtain⟨hi,g,n,o⟩:=c.choose_spec;generalize c.choose=i at *;refine⟨fun j=>if j<=i then W.pool else BJ W.pool (GD W k i),fun j=>if j<=i then W.A2 else SO W k i,fun j=>if j<=i then 0 else(GD W k i).length,fun _=>BJ W.pool (GD W k i),fun _=>W.A3,fun _=>(GD W k i).length,⟨by simp,fun j=>?_,fun j=>?_,fun j a e=>?_,fun j a e=>?_,?_,fun j=>⟨(EQ _ _).1,q i hi⟩,fun _=>rfl,fun j a e=>⟨rfl,rfl,rfl⟩,fun j a e=>absurd e (o j a),?_⟩⟩
  ·split
   ·exact⟨rfl,by omega⟩
   ·exact⟨(EQ _ _).1,q i hi⟩
  ·split
   ·rfl
   ·unfold SO;rw[if_neg (by omega)]
  ·have:j≠i:=fun h=>e (by rw[h];exact g)
   have d:(j+1<=i)↔(j<=i):=(by omega);simp[d]
  ·have:j=i:=Classical.not_not.1 fun h=>n j a h e
   subst this;have p:¬j+1<=j:=(by omega);simp[p];rfl
  ·simp[show ¬W.sn<=i by omega]
  ·simp[show ¬W.sn<=i by omega,zC]
 rw[dif_neg c];by_cases b:∃i,Rm W x i
 ·rw[dif_pos b];obtain⟨hi,g,n,o⟩:=b.choose_spec;generalize b.choose=i at *;refine⟨fun _=>W.pool,fun _=>W.A2,fun _=>0,fun j=>if j<=i then W.pool else BJ W.pool (IF W k i),fun j=>if j<=i then W.A3 else SN W k i,fun j=>if j<=i then 0 else(IF W k i).length,⟨by simp,fun j=>⟨rfl,by simp⟩,fun j=>rfl,fun j a e=>⟨rfl,rfl,rfl⟩,fun j a e=>absurd e (o j a),by simp,fun j=>?_,fun j=>?_,fun j a e=>?_,fun j a e=>?_,?_⟩⟩
  ·split
   ·exact⟨rfl,by omega⟩
   ·exact⟨(EQ _ _).1,v i hi⟩
  ·split
   ·rfl
   ·unfold SN;rw[if_neg (by omega)]
  ·have:j≠i:=fun h=>e (by rw[h];exact g)
   have d:(j+1<=i)↔(j<=i):=(by omega);simp[d]
  ·have:j=i:=Classical.not_not.1 fun h=>n j a h e
   subst this;have p:¬j+1<=j:=(by omega);simp[p];rfl
  ·simp[show ¬W.pn<=i by omega,zB]
 rw[dif_neg b];have z:Mj W x≠1:=fun e=>(zH9 e).elim b c
 unfold Mj at z;have A:∀j,j<W.sn->(W.A2 j).A8≠x:=fun j a e=>by
  have:=VE (f:=fun i=>(W.A2 i).A8) a e;omega
 have B:∀j,j<W.pn->(W.A3 j).A8≠x:=fun j a e=>by
  have:=VE (f:=fun i=>(W.A3 i).A8) a e;omega
 exact⟨fun _=>W.pool,fun _=>W.A2,fun _=>0,fun _=>W.pool,fun _=>W.A3,fun _=>0,⟨by simp,fun j=>⟨rfl,by simp⟩,fun j=>rfl,fun j a e=>⟨rfl,rfl,rfl⟩,fun j a e=>absurd e (A j a),by simp,fun j=>⟨rfl,by simp⟩,fun j=>rfl,fun j a e=>⟨rfl,rfl,rfl⟩,fun j a e=>absurd e (B j a),rfl⟩⟩
attribute [go_sem] Bh
attribute [-go_sem] Bh
def Zx:AL:=AY (fun q:((A7×Int×Int)×(Nat×(Nat->Nat->Tr))×(Nat×(Nat->Nat->Tr)))×List (Int×Int)=>(true,[.s .o 3 q.1.1.1.n (Aw .z q.1.1.1.s),.s .o 1 q.1.1.1.hn (BH q.1.1.1.h),.v (.int .i64 q.1.1.2.1),.v (.int .i64 q.1.1.2.2),.s .o 6 q.1.2.1.1 q.1.2.1.2,.s .o 8 q.1.2.2.1 q.1.2.2.2]) :: [psL q.2]) (fun q=>q.1.1.1.hn+q.2.length<=1000000/\(Tr.s .o 6 q.1.2.1.1 q.1.2.1.2).kept/\(Tr.s .o 8 q.1.2.2.1 q.1.2.2.2).kept) (fun q=>[(true,[.s .o 3 q.1.1.1.n (Aw .z q.1.1.1.s),.s .o 1 (BJ q.1.1.1 q.2).hn (BH (BJ q.1.1.1 q.2).h),.v (.int .i64 q.1.1.2.1),.v (.int .i64 q.1.1.2.2),.s .o 6 q.1.2.1.1 q.1.2.1.2,.s .o 8 q.1.2.2.1 q.1.2.2.2]),iT q.2.length])
theorem VL(p:A7)(a b:Int)(n:Nat)(F:Nat->Nat->Tr)(c:Nat)(G:Nat->Nat->Tr)(l:List (Int×Int)):Zx ((true,[.s .o 3 p.n (Aw .z p.s),.s .o 1 p.hn (BH p.h),.v (.int .i64 a),.v (.int .i64 b),.s .o 6 n F,.s .o 8 c G]) :: [psL l])=some (p.hn+l.length<=1000000/\(Tr.s .o 6 n F).kept/\(Tr.s .o 8 c G).kept,[(true,[.s .o 3 p.n (Aw .z p.s),.s .o 1 (BJ p l).hn (BH (BJ p l).h),.v (.int .i64 a),.v (.int .i64 b),.s .o 6 n F,.s .o 8 c G]),iT l.length]):=
 Ag (fun m=>(((Cw (nth m 0 0) (nth m 0 1),AS (nth m 0 2),AS (nth m 0 3)),(DN (nth m 0 4),Bp (nth m 0 4)),(DN (nth m 0 5),Bp (nth m 0 5))),K3 (nth m 1 0))) (fun q=>by exact congrArg (Prod.mk q.1) (Pw q.2)) (((p,a,b),(n,F),(c,G)),l)
theorem zEp:DK Tryz.prog 149 Zx:=by
 refine Ev Al GOk.nil Ak Tryz.func149 rfl Tryz.ntmps149 Tryz.results149 6 ?_;rintro⟨⟨⟨c,a,b⟩,⟨n,F⟩,g,G⟩,l⟩ hn;obtain⟨hn,r,t⟩:c.hn+l.length<=1000000/\(Tr.s .o 6 n F).kept/\(Tr.s .o 8 g G).kept:=hn;refine⟨by simp,?_⟩;simp[go_sem];refine BF (fun k:Nat=>⟨[(5,true,.i k),(0,true,.m false [.p 0 0]),(1,true,.m false [.s .b 2 l.length (ptrsT (fun i=>AN l i) (fun i=>AP l i))])],[(0,.var [.h 1000,.h 2000,.v (.int .i64 a),.v (.int .i64 b),.h 5000,.h 6000]),(1000,.row 3 c.n (Aw .z c.s)),(2000,.row 1 (BJ c (l.take k)).hn (BH (BJ c (l.take k)).h)),(5000,.row 6 n F),(6000,.row 8 g G)]⟩) (fun k=>l.length - k) (fun k=>k<=l.length) 0 (by simp[go_sem,BJ]) (Nat.zero_le _) ?_;intro k j;obtain⟨p,d⟩:∃p,p=BJ c (l.take k):=⟨_,rfl⟩;have q:p.hn=c.hn+k:=by rw[d,(EQ _ _).2.2,List.length_take,Nat.min_eq_left j]
 have f:k<l.length->BJ c (l.take (k+1))=CQ p (AN l k):=fun h=>by
  rw[d,List.take_succ_eq_append_getElem h,Of,<-LD];simp[h]
 rw[<-d];simp[go_sem,Ar (show k<=1000000000 by omega)];refine⟨fun e=>⟨e,by omega,by kernel_rfl,k+1,e,by omega,rfl,?_⟩,fun e=>?_⟩
 ·rw[f e];exact Qq
 ·cases (show k=l.length by omega);rw[List.take_length]at d;subst d;exact⟨Bo,⟨TrE.refl _,Bz⟩,r,t⟩
variable{fl:Fl}
theorem zF2{k a:Nat}{T:Tr}(h:(Tr.s fl k n F).kept)(b:T.kept):(Tr.s fl k n (Ae F a j [T])).kept:=by
 refine⟨h.1,fun i q hi c=>?_⟩;unfold Ae;split
 ·rename_i e
  have:q - j=0:=(by have:=e.2.2;simp at this;omega);rw[this];exact b
 ·exact h.2 i q hi c
theorem zFQ{S:Nat->Ab}{s:Ab}{z:Tr}(h:s.name=(S j).name/\s.origin=(S j).origin/\s.rs=(S j).rs/\s.rb=(S j).rb)(b:TrE (.s .o 2 m F) (.s .o 2 s.dn (ptrsT s.ds s.db))):TrE (.s .o 6 n (Ae (Ae (Ae (setsE .o S) j 5 [z]) j 5 [.s .o 2 m F]) j 2 [.v (.int .i64 s.A8)])) (.s .o 6 n (setsE .o fun i=>if i=j then s else S i)):=by
 refine⟨.inl rfl,rfl,rfl,fun i c hi a=>?_⟩;by_cases e:i=j
 ·subst e;obtain⟨d,f,g,k⟩:=h
  match c,a with
  | 0,_ | 1,_ | 2,_ | 3,_ | 4,_=>exact TrE.of_eq (by simp[Ae,setsE, *])
  | 5,_=>simpa[Ae,setsE]using b
 ·exact TrE.of_eq (by unfold setsE;simp[Ae,e])
theorem zE7{S:Nat->Aa}{s:Aa}(h:s.id=(S j).id/\s.name=(S j).name/\s.set=(S j).set/\s.time=(S j).time/\s.rs=(S j).rs/\s.rb=(S j).rb)(b:TrE (.s .o 2 m F) (.s .o 2 s.dn (ptrsT s.ds s.db))):TrE (.s .o 8 n (Ae (Ae (snapsE .z S) j 7 [.s .o 2 m F]) j 3 [.v (.int .i64 s.A8)])) (.s .o 8 n (snapsE .z fun i=>if i=j then s else S i)):=by
 refine⟨.inl rfl,rfl,rfl,fun i c hi a=>?_⟩;by_cases e:i=j
 ·subst e;obtain⟨d,f,g,k,l,p⟩:=h
  match c,a with
  | 0,_ | 1,_ | 2,_ | 3,_ | 4,_ | 5,_ | 6,_=>exact TrE.of_eq (by simp[Ae,snapsE, *])
  | 7,_=>
   simp[Ae,snapsE];exact⟨.inr ⟨rfl,rfl⟩,b.2⟩
 ·exact TrE.of_eq (by unfold snapsE;simp[Ae,e])
theorem yV{a b:Nat}(h:a<=1000000)(c:b<=1000000):IntKind.i64.wrap ((a:Int)+(b:Int))=((a+b:Nat):Int):=by
 simp[IntKind.wrap,IntKind.bits];omega
def mSd:AL:=AY (fun q:A6×Int=>[woT q.1,iT q.2]) (fun q=>Bt q.1) (fun q=>[wuO (sdE q.1 q.2)])
theorem zIC(W:A6)(x:Int):mSd [woT W,iT x]=some (Bt W,[wuO (sdE W x)]):=Ag (fun l=>(C2 (nth l 0),AS (nth l 1 0))) (fun _=>rfl) (W,x)
theorem zDD:An Tryz.prog 99 mSd:=by
 refine B6 Al (GOk.cons ID (AE Tryz.func30 rfl rfl) (GOk.cons FK (AE Tryz.func14 rfl rfl) (GOk.cons J6 (AE Tryz.func31 rfl rfl) (GOk.cons Ge (AE Tryz.func26 rfl rfl) (GOk.cons Kx (AE Tryz.func88 rfl rfl) (GOk.cons zBb (AE Tryz.func147 rfl rfl) (GOk.cons OZ (AE Tryz.func148 rfl rfl) (GOk.ptr zEp (AE Tryz.func149 rfl rfl) GOk.nil)))))))) Ak Tryz.func99 rfl Tryz.ntmps99 Tryz.results99 17 ?_;rintro⟨W,x⟩ g;replace g:Bt W:=g;have hs:=g.sn;have L:=g.pn;refine⟨by simp,?_⟩;by_cases f:B4 W;rotate_left
 ·simp[go_sem,CE,Ex,Bx,g,g.toSmallW,hs,L,f];exact By (if_neg f)
 by_cases E:CK W x;rotate_left
 ·simp[go_sem,CE,Ex,Bx,g,g.toSmallW,hs,L,JL,Gp,f,E];exact By ((if_pos f).trans (if_neg E))
 have R:=KF E;have Z:=Gp.2 E;have w:GH W x<W.pn:=by show(BO W.pn fun k=>(W.A3 k).id=x).toNat<W.pn;omega
 obtain⟨k,D⟩:∃k,k=GH W x:=⟨_,rfl⟩;have G:(BO W.pn fun k=>(W.A3 k).id=x)=(k:Int):=by rw[D];show _=((BO W.pn fun k=>(W.A3 k).id=x).toNat:Int);omega
 have I:¬(k:Int)<0:=by omega
 rw[<-D]at w;by_cases N:1<Dp W x W.sn+EH W x W.pn
 ·simp[go_sem,CE,Ex,Bx,VN,g,g.toSmallW,hs,L,G,I,f,show(1:Int)<(Dp W x W.sn:Int)+(EH W x W.pn:Int)by omega];exact By ((if_pos f).trans ((if_pos E).trans (if_pos N)))
 have T:sdE W x=sdK W x k:=by
  unfold sdE;rw[if_pos f,if_pos E,if_neg N,<-D]
 obtain⟨K,M,m,J,t,l,run⟩:=zIO (k:=k) g.sd g.pd N;rw[<-T]at run;have hz:=Kg (fun k R=>(f.Aq.ER.ids k R).1) (W.A3 k).A8;have P:¬(1:Int)<(Dp W x W.sn:Int)+(EH W x W.pn:Int):=by omega
 simp[go_sem,CE,Ex,Bx,VN,Dg,Jj,g,g.toSmallW,hs,L,G,I,f,P,w,hz];have Q:=run.v0;refine BF (fun j:Nat=>⟨[(11,true,.i j),(10,true,.i (m j)),(9,true,.i (AI W (W.A3 k).A8).time),(7,true,.m false [.p 7 0]),(6,true,.m false [.p 6 0]),(5,true,.i k),(4,true,.m false [.p 4 0]),(1,true,.i x)],[(7,.var [.v (.int .i64 (W.A3 k).id),.v (.string (W.A3 k).name),.v (.string (W.A3 k).set),.v (.int .i64 (W.A3 k).A8),.v (.int .i64 (W.A3 k).time),.v (.int .i64 (W.A3 k).rs),.v (.int .i64 (W.A3 k).rb),.s .z 2 (W.A3 k).dn (ptrsT (W.A3 k).ds (W.A3 k).db)]),(6,.var [.h 61,.h 62,.v (.int .i64 W.time),.v (.int .i64 W.next),.h 63,.h 64]),(64,.row 8 W.pn (snapsE .z W.A3)),(63,.row 6 W.sn (setsE .o (M j))),(62,.row 1 (K j).hn (BH (K j).h)),(61,.row 3 (K j).n (Aw .z (K j).s)),(4,.var [.v n0,.v n0,.v i0,.v i0,.v n0,.v n0,.v i0,.v i0,.v i0])]⟩) (fun j=>W.sn - j) (fun j=>j<=W.sn) 0 (by rw[Q.1,Q.2.1,Q.2.2];simp[go_sem]) (Nat.zero_le _) ?_;intro j hj;have F:=run.cur j;simp[go_sem,Ar (show j<=1000000000 by omega),F];refine⟨fun A=>⟨A,?_⟩,fun A=>?_⟩
 ·by_cases y:(W.A2 j).A8=x
  ·simp[go_sem,y,A,F,Ar (show j<=1000000000 by omega),M6,VL,GR,Gy];obtain⟨r,u,B,S⟩:=run.yes j A y;have V:=(L7 f).1 j A;have hy:(Bl (W.A2 j).ds (W.A2 j).db (AI W (W.A3 k).A8).time (W.A2 j).dn).length<=(W.A2 j).dn:=GB ..;have ho:(C6 (W.A2 j).ds (W.A2 j).db (AI W (W.A3 k).A8).time (W.A2 j).dn).length<=(W.A2 j).dn:=M8 ..;have X:=(L7 f).2 k w;have Y:=Lz f.right;refine⟨by omega,⟨by omega,zF2 Cj ⟨by simp,fun p q _ _=>by unfold ptrsT;split<;>trivial⟩,Ci⟩,by omega,by omega,by kernel_rfl,j+1,A,by omega,⟨rfl,?_⟩,?_,?_,?_⟩
   ·rw[B];exact yV (run.vn j).2 (by omega)
   ·rw[u,<-F];refine zFQ (s:=Mf W (W.A3 k) (M j j)) ⟨rfl,rfl,rfl,rfl⟩ (Nz rfl fun a b U O=>?_);unfold Ai;split
    ·rfl
    ·match b,O with
     | 0,_ | 1,_=>rfl
   ·rw[r];exact TrE.refl _
   ·rw[r,(EQ _ _).1,(EQ _ _).2.1];exact TrE.refl _
  ·obtain⟨r,u,B⟩:=run.no j A y;simp[go_sem,y,Ar (show j<=1000000000 by omega)];exact⟨j+1,A,by omega,⟨rfl,by rw[B]⟩,by rw[u];exact TrE.refl _,by rw[r];exact TrE.refl _,by rw[r];exact TrE.refl _⟩
 cases (show j=W.sn by omega);have q1:=run.u0;refine BF (fun i:Nat=>⟨[(14,true,.i i),(10,true,.i (l i)),(9,true,.i (AI W (W.A3 k).A8).time),(7,true,.m false [.p 7 0]),(6,true,.m false [.p 6 0]),(5,true,.i k),(4,true,.m false [.p 4 0]),(1,true,.i x)],[(7,.var [.v (.int .i64 (W.A3 k).id),.v (.string (W.A3 k).name),.v (.string (W.A3 k).set),.v (.int .i64 (W.A3 k).A8),.v (.int .i64 (W.A3 k).time),.v (.int .i64 (W.A3 k).rs),.v (.int .i64 (W.A3 k).rb),.s .z 2 (W.A3 k).dn (ptrsT (W.A3 k).ds (W.A3 k).db)]),(6,.var [.h 61,.h 62,.v (.int .i64 W.time),.v (.int .i64 W.next),.h 63,.h 64]),(64,.row 8 W.pn (snapsE .z (t i))),(63,.row 6 W.sn (setsE .o (M W.sn))),(62,.row 1 (J i).hn (BH (J i).h)),(61,.row 3 (J i).n (Aw .z (J i).s)),(4,.var [.v n0,.v n0,.v i0,.v i0,.v n0,.v n0,.v i0,.v i0,.v i0])]⟩) (fun i=>W.pn - i) (fun i=>i<=W.pn) 0 (by rw[q1.1,q1.2.1,q1.2.2];simp[go_sem]) (Nat.zero_le _) ?_;intro i hi;have C:=run.cur2 i;simp[go_sem,Ar (show i<=1000000000 by omega),C];refine⟨fun d=>⟨d,?_⟩,fun d=>?_⟩
 ·by_cases y:(W.A3 i).A8=x
  ·simp[go_sem,y,d,C,Ar (show i<=1000000000 by omega),M6,VL,GR,Gy];obtain⟨r,u,B,S⟩:=run.yes2 i d y;have V:=(L7 f).2 i d;have hy:(Bl (W.A3 i).ds (W.A3 i).db (AI W (W.A3 k).A8).time (W.A3 i).dn).length<=(W.A3 i).dn:=GB ..;have ho:(C6 (W.A3 i).ds (W.A3 i).db (AI W (W.A3 k).A8).time (W.A3 i).dn).length<=(W.A3 i).dn:=M8 ..;have X:=(L7 f).2 k w;have Y:=Lz f.right;refine⟨by omega,⟨by omega,Cj,Ci⟩,by omega,by omega,by kernel_rfl,i+1,d,by omega,⟨rfl,?_⟩,?_,?_,?_⟩
   ·rw[B];exact yV (run.un i).2 (by omega)
   ·rw[u,<-C];refine zE7 (s:=Mz W (W.A3 k) (t i i)) ⟨rfl,rfl,rfl,rfl,rfl,rfl⟩ (Nz rfl fun a b U O=>?_);unfold Ai;split
    ·rfl
    ·match b,O with
     | 0,_ | 1,_=>rfl
   ·rw[r];exact TrE.refl _
   ·rw[r,(EQ _ _).1,(EQ _ _).2.1];exact TrE.refl _
  ·obtain⟨r,u,B⟩:=run.no2 i d y;simp[go_sem,y,Ar (show i<=1000000000 by omega)];exact⟨i+1,d,by omega,⟨rfl,by rw[B]⟩,by rw[u];exact TrE.refl _,by rw[r];exact TrE.refl _,by rw[r];exact TrE.refl _⟩
 cases (show i=W.pn by omega);rw[run.fin,Ar (show k<=1000000000 by omega)];refine⟨by omega,⟨by omega,by omega⟩,⟨by omega,by omega⟩,⟨by omega,by omega⟩,by kernel_rfl,⟨TrE.refl _,Bo⟩,⟨TrE.refl _,Bz⟩,rfl,rfl,⟨TrE.refl _,Cj⟩,⟨?_,Ci⟩,by simp⟩;refine⟨.inl rfl,rfl,by show k+(W.pn - (k+1))=W.pn - 1;omega,fun i c hi F=>TrE.of_eq ?_⟩;show _=snapsE .z (del (t W.pn) k) i c;have e:∀p,(snapsE .z (t W.pn) p c).nt=snapsE .z (t W.pn) p c:=fun p=>by
  match c,F with
  | 0,_ | 1,_ | 2,_ | 3,_ | 4,_ | 5,_ | 6,_ | 7,_=>rfl
 have u:snapsE .z (del (t W.pn) k) i c=snapsE .z (t W.pn) (if i<k then i else i+1) c:=by
  have:del (t W.pn) k i=t W.pn (if i<k then i else i+1):=(by unfold del;split<;>rfl);unfold snapsE;rw[this]
 rw[u];unfold Ai;by_cases H:i<k
 ·simp[H,e]
 ·simp[H,e,show k+1+(i - k)=i+1 by omega]
set_option maxRecDepth 20000
set_option maxHeartbeats 3200000
structure B5 where
 bn:Nat
 bf:Nat->Int
 pos:Nat
 mix:Int
 size:Int
def Es(h:Nat->Int):Nat->Nat->Tr:=fun i _=>.v (.int .u8 (h i))
variable{h:Nat->Int}
theorem M2:Es h i j = .v (.int .u8 (h i)):=rfl
abbrev srV(s:B5):List Tr:=[.s .z 1 s.bn (Es s.bf),.v (.int .i64 s.pos),.v (.int .u64 s.mix),.v (.int .i64 s.size)]
def GK(f:Nat->Tr):B5:=⟨DN (f 0),fun i=>match Bp (f 0) i 0 with | .v (.int _ x)=>x | _=>0,(AS (f 1)).toNat,match f 2 with | .v (.int _ x)=>x | _=>0,AS (f 3)⟩
def Mc(a b:Int):Int:=IntKind.u64.wrap ((BitVec.ofInt IntKind.u64.bits a ^^^ BitVec.ofInt IntKind.u64.bits b).toNat)
def SP(a b:Int):Int:=IntKind.u64.wrap (a*2 ^ (min b.toNat IntKind.u64.bits))
def MU(a b:Int):Int:=a.fdiv (2 ^ (min b.toNat IntKind.u64.bits))
variable{a b:Int}
theorem Rv:CA .xor .u64 a .u64 b=some (True,.int .u64 (Mc a b)):=rfl
theorem Rt:CA .shl .u64 a .u64 b=some (0<=b,.int .u64 (SP a b)):=rfl
theorem Ru:CA .shr .u64 a .u64 b=some (0<=b,.int .u64 (MU a b)):=rfl
theorem PF:CA .add .u64 a .u64 b=some (True,.int .u64 (IntKind.u64.wrap (a+b))):=rfl
theorem PG:CA .mul .u64 a .u64 b=some (True,.int .u64 (IntKind.u64.wrap (a*b))):=rfl
theorem PH:CA .rem .u64 a .u64 b=some (b≠0,.int .u64 (a.tmod b)):=rfl
theorem Ro:CA .add .i64 a .i64 b=some (True,.int .i64 (IntKind.i64.wrap (a+b))):=rfl
variable{k:IntKind}
theorem Rs:CA .lss k a k b=some (True,.bool (decide (a<b))):=by simp[CA]
theorem Rr:CA .leq k a k b=some (True,.bool (decide (a<=b))):=by simp[CA]
theorem Rq:CA .gtr k a k b=some (True,.bool (decide (a>b))):=by simp[CA]
theorem Rp:CA .eql k a k b=some (True,.bool (a == b)):=by simp[CA]
theorem Ch:(Tr.s .z 1 n (Es h)).kept:=⟨by simp,fun _ _ _ _=>trivial⟩
theorem yW(a:0<=x)(b:x<=1000000000000000000):IntKind.u64.wrap x=x:=by
 simp[IntKind.wrap,IntKind.bits];omega
def SI(m:Int):Int:=Mc m (SP m 13)
def SJ(m:Int):Int:=Mc m (MU m 7)
def SK(m:Int):Int:=Mc m (SP m 17)
def L4(m:Int):Int:=SK (SJ (SI m))
def nS(s:B5)(most:Int):B5:=if most<=1 then s else {s with pos:=if s.pos<s.bn then s.pos+1 else s.pos,mix:=L4 s.mix}
def nV(s:B5)(most:Int):Int:=if most<=1 then 0 else IntKind.i64.wrap ((IntKind.u64.wrap ((if s.pos<s.bn then s.bf s.pos else 0)+MU (L4 s.mix) 20)).tmod most)
structure BE (s:B5):Prop where
 bn:s.bn<=2000000
 pos:s.pos<=s.bn
 byte:∀i,i<s.bn->0<=s.bf i/\s.bf i<256
 size:0<=s.size/\s.size<=12
theorem C3{s:B5}(h:BE s)(m:Int):BE (nS s m):=by
 unfold nS;split
 ·exact h
 ·refine⟨h.bn,?_,h.byte,h.size⟩;have:=h.pos;dsimp only;split<;>omega
attribute [-go_sem] CA
attribute [local go_sem] Rv Rt Ru PF PG PH Ro Rs Rr Rq Rp M2
def mN:AL:=AY (fun q:B5×Int=>(true,srV q.1) :: [iT q.2]) (fun q=>BE q.1/\q.2<=1000000000000000000) (fun q=>[(true,srV (nS q.1 q.2)),iT (nV q.1 q.2)])
theorem Dk(s:B5)(m:Int):mN ((true,srV s) :: [iT m])=some (BE s/\m<=1000000000000000000,[(true,srV (nS s m)),iT (nV s m)]):=Ag (fun l=>(GK (nth l 0),AS (nth l 1 0))) (fun _=>rfl) (s,m)
theorem IH:DK Tryz.prog 49 mN:=by
 refine Ev Al GOk.nil Ak Tryz.func49 rfl Tryz.ntmps49 Tryz.results49 6 ?_;rintro⟨s,m⟩ hs;obtain⟨hs,f⟩:BE s/\m<=1000000000000000000:=hs;have e:=hs.bn;have g:=hs.pos;refine⟨by simp,?_⟩;simp[go_sem,Ar (show s.pos<=1000000000 by omega)];refine⟨fun h=>?_,fun h=>?_⟩
 ·rw[show nS s m=s from if_pos h];exact⟨⟨⟨TrE.refl _,Ch⟩,rfl,rfl,rfl⟩,(if_pos h).symm⟩
 have c:¬m<=1:=by omega
 have d:IntKind.u64.wrap m=m:=yW (by omega) (by omega);have b:m≠0:=by omega
 rw[d];rw[show nS s m=_ from if_neg c,show nV s m=_ from if_neg c];refine⟨by kernel_rfl,fun a=>⟨a,by kernel_rfl,by kernel_rfl,by kernel_rfl,by kernel_rfl,b,⟨⟨TrE.refl _,Ch⟩,?_,rfl,rfl⟩,?_⟩,fun a=>⟨by kernel_rfl,by kernel_rfl,by kernel_rfl,b,⟨⟨TrE.refl _,Ch⟩,?_,rfl,rfl⟩,?_⟩⟩
 ·simp[a]
 ·simp[a,L4,SI,SJ,SK,yW (hs.byte _ a).1 (by have:=(hs.byte _ a).2;omega)]
 ·simp[Nat.not_lt.2 a]
 ·simp[Nat.not_lt.2 a,L4,SI,SJ,SK]
set_option maxRecDepth 20000
set_option maxHeartbeats 3200000
theorem zBn(x:Int):0<=IntKind.u64.wrap x:=by
 simp[IntKind.wrap,IntKind.bits,IntKind.signed];omega
theorem I0(h:-1000000000000000000<=x)(a:x<=1000000000000000000):IntKind.i64.wrap x=x:=by
 simp[IntKind.wrap,IntKind.bits,IntKind.signed];omega
theorem GO(s:B5){m:Int}(h:1<m)(c:m<=1000000000000000000):0<=nV s m/\nV s m<m:=by
 unfold nV;rw[if_neg (by omega)];have a:=Int.tmod_nonneg m (zBn ((if s.pos<s.bn then s.bf s.pos else 0)+MU (L4 s.mix) 20));have b:=Int.tmod_lt_of_pos (IntKind.u64.wrap ((if s.pos<s.bn then s.bf s.pos else 0)+MU (L4 s.mix) 20)) (show 0<m by omega);rw[I0 (by omega) (by omega)];exact⟨a,b⟩
theorem JG(s:B5){m:Int}(a:m<=1000000000000000000):0<=nV s m/\(nV s m<m\/nV s m=0):=by
 by_cases h:1<m
 ·exact⟨(GO s h a).1,.inl (GO s h a).2⟩
 ·have:nV s m=0:=if_pos (by omega);omega
attribute [go_sem] CA
attribute [-go_sem] CA
def yr:AL:=AY (fun q:B5×Int=>(true,srV q.1) :: [iT q.2]) (fun q=>BE q.1/\q.2<=1000000000000000000) (fun q=>(true,srV (nS q.1 q.2)) :: bR (nV q.1 q.2=0))
theorem Ec(s:B5)(m:Int):yr ((true,srV s) :: [iT m])=some (BE s/\m<=1000000000000000000,(true,srV (nS s m)) :: bR (nV s m=0)):=Ag (fun l=>(GK (nth l 0),AS (nth l 1 0))) (fun _=>rfl) (s,m)
theorem P3:DK Tryz.prog 51 yr:=by
 refine Ev Al (GOk.ptr IH (AE Tryz.func49 rfl rfl) GOk.nil) Ak Tryz.func51 rfl Tryz.ntmps51 Tryz.results51 5 ?_;rintro⟨s,m⟩ hs;obtain⟨hs,a⟩:BE s/\m<=1000000000000000000:=hs;refine⟨by simp,?_⟩;simp[go_sem,Dk,hs,a,Ch]
def yn:AL:=AY (fun q:Int×Int=>[iT q.1,iT q.2]) (fun _=>True) (fun q=>[iT (max q.1 q.2)])
theorem zGy(a b:Int):yn [iT a,iT b]=some (True,[iT (max a b)]):=Ag (fun l=>(AS (nth l 0 0),AS (nth l 1 0))) (fun _=>rfl) (a,b)
theorem zx:An Tryz.prog 96 yn:=by
 refine B6 Al GOk.nil Ak Tryz.func96 rfl Tryz.ntmps96 Tryz.results96 5 ?_;rintro⟨a,b⟩ -;refine⟨by simp,?_⟩;simp[go_sem];omega
abbrev sT'(d:ByteArray):Bool×List Tr:=(false,[.v (.string d)])
def qf:List Int:=[0,1,-1,2,1000,1001,2147483648,2147483647,-2147483648,4611686018427387904,9223372036854775807,-9223372036854775808,1000000,1000001]
def LL(s:B5):Int:=qf.getD (nV s 14).toNat 0
def qp:AL:=AY (fun s:B5=>[(true,srV s)]) (fun s=>BE s) (fun s=>[(true,srV (nS s 14)),iT (LL s)])
theorem Lm(s:B5):qp [(true,srV s)]=some (BE s,[(true,srV (nS s 14)),iT (LL s)]):=Ag (fun l=>GK (nth l 0)) (fun _=>rfl) s
theorem To:DK Tryz.prog 107 qp:=by
 refine Ev (A:=fun _=>[]) Al (GOk.ptr IH (AE Tryz.func49 rfl rfl) GOk.nil) Ak Tryz.func107 rfl Tryz.ntmps107 Tryz.results107 3 ?_;rintro s hs;replace hs:BE s:=hs;have hv:=GO s (m:=14) (by omega) (by omega);refine⟨by simp,?_⟩;rcases(show nV s 14=0\/nV s 14=1\/nV s 14=2\/nV s 14=3\/nV s 14=4\/nV s 14=5\/nV s 14=6\/nV s 14=7\/nV s 14=8\/nV s 14=9\/nV s 14=10\/nV s 14=11\/nV s 14=12\/nV s 14=13 by omega)with h | h | h | h | h | h | h | h | h | h | h | h | h | h<;>simp[go_sem,Dk,hs,h,LL,qf,Ch]
def FT(s:B5):B5:=if nV s 20=0 then nS (nS (nS s 20) 14) 4 else nS (nS s 20) 7
def II(s:B5):Int:=if nV s 20=0 then [-1,63,64,LL (nS s 20)].getD (nV (nS (nS s 20) 14) 4).toNat 0 else [0,1,2,7,8,9,63].getD (nV (nS s 20) 7).toNat 0
theorem Po{s:B5}(h:BE s):BE (FT s):=by
 unfold FT;split
 ·exact C3 (C3 (C3 h _) _) _
 ·exact C3 (C3 h _) _
def yp:AL:=AY (fun s:B5=>[(true,srV s)]) (fun s=>BE s) (fun s=>[(true,srV (FT s)),iT (II s)])
theorem zGz(s:B5):yp [(true,srV s)]=some (BE s,[(true,srV (FT s)),iT (II s)]):=Ag (fun l=>GK (nth l 0)) (fun _=>rfl) s
theorem zAW:DK Tryz.prog 98 yp:=by
 refine Ev (A:=fun _=>[]) Al (GOk.ptr IH (AE Tryz.func49 rfl rfl) (GOk.ptr P3 (AE Tryz.func51 rfl rfl) (GOk.ptr To (AE Tryz.func107 rfl rfl) GOk.nil))) Ak Tryz.func98 rfl Tryz.ntmps98 Tryz.results98 3 ?_;rintro s hs;replace hs:BE s:=hs;have a:=C3 hs 20;have c:=C3 a 14;refine⟨by simp,?_⟩;by_cases b:nV s 20=0
 ·have hv:=GO (nS (nS s 20) 14) (m:=4) (by omega) (by omega);rcases(show nV (nS (nS s 20) 14) 4=0\/nV (nS (nS s 20) 14) 4=1\/nV (nS (nS s 20) 14) 4=2\/nV (nS (nS s 20) 14) 4=3 by omega)with h | h | h | h<;>simp[go_sem,Dk,Ec,Lm,hs,a,c,b,h,FT,II,Ch]
 ·have hv:=GO (nS s 20) (m:=7) (by omega) (by omega);rcases(show nV (nS s 20) 7=0\/nV (nS s 20) 7=1\/nV (nS s 20) 7=2\/nV (nS s 20) 7=3\/nV (nS s 20) 7=4\/nV (nS s 20) 7=5\/nV (nS s 20) 7=6 by omega)with h | h | h | h | h | h | h<;>simp[go_sem,Dk,Ec,Lm,hs,a,c,b,h,FT,II,Ch]
def K6:AL:=AY (fun q:B5×Nat×(Nat->Nat->Tr)=>(true,srV q.1) :: [(false,[.s .b 1 q.2.1 q.2.2])]) (fun q=>BE q.1/\(0<q.2.1/\q.2.1<=1000000)/\∀i,i<q.2.1->∃t,q.2.2 i 0 = .v (.string t)) (fun q=>[(true,srV (nS q.1 q.2.1)),sT' (CO (q.2.2 (nV q.1 q.2.1).toNat 0))])
theorem zFG(s:B5)(n:Nat)(F:Nat->Nat->Tr):K6 ((true,srV s) :: [(false,[.s .b 1 n F])])=some (BE s/\(0<n/\n<=1000000)/\∀i,i<n->∃t,F i 0 = .v (.string t),[(true,srV (nS s n)),sT' (CO (F (nV s n).toNat 0))]):=Ag (fun l=>(GK (nth l 0),DN (nth l 1 0),Bp (nth l 1 0))) (fun _=>rfl) (s,n,F)
theorem PO:DK Tryz.prog 18 K6:=by
 refine Ev Al (GOk.ptr IH (AE Tryz.func49 rfl rfl) GOk.nil) Ak Tryz.func18 rfl Tryz.ntmps18 Tryz.results18 5 ?_;rintro⟨s,n,F⟩ hs;obtain⟨hs,⟨hn,a⟩,hF⟩:BE s/\(0<n/\n<=1000000)/\∀i,i<n->∃t,F i 0 = .v (.string t):=hs;have hv:=JG s (m:=n) (by omega);obtain⟨t,b⟩:=hF (nV s n).toNat (by omega);refine⟨by simp,?_⟩;simp[go_sem,Dk,hs,b,Ch,CO];omega
set_option maxRecDepth 20000
set_option maxHeartbeats 3200000
theorem zIk:CA .quo .i64 a .i64 b=some (b≠0,.int .i64 (IntKind.i64.wrap (a.tdiv b))):=rfl
def Em(l:List ByteArray):Nat->Nat->Tr:=fun p q=>(l.map fun t=>Tr.v (.string t))[p+q]?.getD (.v (.bool false))
theorem U9{l:List ByteArray}(h:i<l.length):Em l i 0 = .v (.string (l.getD i ⟨#[]⟩)):=by
 unfold Em;simp[h]
theorem Qs(l:List ByteArray):(Tr.s fl 1 n (Em l)).CY = .s .b 1 n (Em l):=by
 show Tr.s .b 1 n (fun p q=>(Em l p q).CY)=_;congr 1;funext p q;unfold Em;rw[List.getElem?_map];cases l[p+q]?<;>rfl
variable{a b c:ByteArray}
theorem Pf:(Tr.s fl 1 3 fun p q=>([.v (.string a),.v (.string b),.v (.string c)]:List Tr)[p+q]?.getD (.v (.bool false))).CY = .s .b 1 3 (Em [a,b,c]):=Qs [a,b,c]
theorem Pg{d e:ByteArray}:(Tr.s fl 1 5 fun p q=>([.v (.string a),.v (.string b),.v (.string c),.v (.string d),.v (.string e)]:List Tr)[p+q]?.getD (.v (.bool false))).CY = .s .b 1 5 (Em [a,b,c,d,e]):=Qs [a,b,c,d,e]
theorem RE(s:B5)(l:List ByteArray)(h:0<l.length/\l.length<=1000000):K6 ((true,srV s) :: [(false,[.s .b 1 l.length (Em l)])])=some (BE s,[(true,srV (nS s l.length)),sT' (l.getD (nV s l.length).toNat ⟨#[]⟩)]):=by
 have hv:=JG s (m:=l.length) (by omega);rw[zFG,U9 (by omega)];have e:(BE s/\(0<l.length/\l.length<=1000000)/\∀i,i<l.length->∃t,Em l i 0 = .v (.string t))=BE s:=by
  refine propext ⟨fun h=>h.1,fun hs=>⟨hs,h,fun i hi=>⟨_,U9 hi⟩⟩⟩
 rw[e];rfl
theorem zDd(s:B5)(a b c:ByteArray):K6 ((true,srV s) :: [(false,[.s .b 1 3 (Em [a,b,c])])])=some (BE s,[(true,srV (nS s 3)),sT' ([a,b,c].getD (nV s 3).toNat ⟨#[]⟩)]):=RE s [a,b,c] ⟨by simp,by simp⟩
theorem zDf(s:B5)(a b c d e:ByteArray):K6 ((true,srV s) :: [(false,[.s .b 1 5 (Em [a,b,c,d,e])])])=some (BE s,[(true,srV (nS s 5)),sT' ([a,b,c,d,e].getD (nV s 5).toNat ⟨#[]⟩)]):=RE s [a,b,c,d,e] ⟨by simp,by simp⟩
attribute [go_sem] CA
attribute [local go_sem] Pf Pg
attribute [-go_sem] CA
attribute [local go_sem] zIk
def S5:List ByteArray:=[⟨#[97]⟩,⟨#[97]⟩,⟨#[98]⟩,⟨#[99]⟩,⟨#[100]⟩]
def Ia(s:B5):ByteArray:=S5.getD (nV s 5).toNat ⟨#[]⟩
def Zy:AL:=AY (fun s:B5=>[(true,srV s)]) (fun s=>BE s) (fun s=>[(true,srV (nS s 5)),sT' (Ia s)])
theorem VM(s:B5):Zy [(true,srV s)]=some (BE s,[(true,srV (nS s 5)),sT' (Ia s)]):=Ag (fun l=>GK (nth l 0)) (fun _=>rfl) s
theorem YH:DK Tryz.prog 17 Zy:=by
 refine Ev (A:=fun _=>[]) Al (GOk.ptr PO (AE Tryz.func18 rfl rfl) GOk.nil) Ak Tryz.func17 rfl Tryz.ntmps17 Tryz.results17 3 ?_;rintro s hs;replace hs:BE s:=hs;refine⟨by simp,?_⟩;simp[go_sem,zDf,hs,Ia,S5,Ch]
def Rw(a b:Int):Nat->Nat->Tr:=Ae (Ae (fun _ q=>Tr.v ([Value.int IntKind.u8 0][q]?.getD (Value.bool false))) 0 0 [.v (.int .u8 (IntKind.u8.wrap a))]) 15 0 [.v (.int .u8 (IntKind.u8.wrap (IntKind.i64.wrap (97+b))))]
theorem zEd(a b:Int)(p:Nat):∃x,Rw a b p 0 = .v (.int .u8 x):=by
 unfold Rw Ae;by_cases c:p=15
 ·exact⟨IntKind.u8.wrap (IntKind.i64.wrap (97+b)),by simp[c]⟩
 ·by_cases d:p=0
  ·exact⟨IntKind.u8.wrap a,by simp[d]⟩
  ·exact⟨0,by simp[c,d]⟩
def Ms(s:B5):B5:=nS (nS s 256) 3
def Mt(s:B5):ByteArray:=Md 16 (Rw (nV s 256) (nV (nS s 256) 3))
def qm:AL:=AY (fun s:B5=>[(true,srV s)]) (fun s=>BE s) (fun s=>[(true,srV (Ms s)),sT' (Mt s)])
theorem zFB(s:B5):qm [(true,srV s)]=some (BE s,[(true,srV (Ms s)),sT' (Mt s)]):=Ag (fun l=>GK (nth l 0)) (fun _=>rfl) s
theorem zAu:DK Tryz.prog 106 qm:=by
 refine Ev (A:=fun _=>[]) Al (GOk.ptr IH (AE Tryz.func49 rfl rfl) GOk.nil) Ak Tryz.func106 rfl Tryz.ntmps106 Tryz.results106 4 ?_;rintro s hs;replace hs:BE s:=hs;have a:=C3 hs 256;refine⟨by simp,?_⟩;simp[go_sem,Dk,hs,a,Ch];exact⟨fun p _=>zEd _ _ p,⟨TrE.refl _,rfl,rfl,rfl⟩,rfl⟩
def Mi(f:Nat->Int):Nat->Int
 | 0=>88172645463325252
 | k+1=>IntKind.u64.wrap (Mc (Mi f k) (IntKind.u64.wrap (f k))*1099511628211)
def JV(n:Nat)(f:Nat->Int):B5:=⟨n,f,0,Mi f (min n 64),min ((n / 20:Nat):Int) 12⟩
def Sz:AL:=AY (fun q:Nat×(Nat->Int)=>[(false,[.s .z 1 q.1 (Es q.2)])]) (fun q=>q.1<=2000000) (fun q=>[(true,srV (JV q.1 q.2))])
theorem zBA(n:Nat)(f:Nat->Int):Sz [(false,[.s .z 1 n (Es f)])]=some (n<=2000000,[(true,srV (JV n f))]):=Ag (fun l=>(DN (nth l 0 0),fun i=>match Bp (nth l 0 0) i 0 with | .v (.int _ x)=>x | _=>0)) (fun _=>rfl) (n,f)
theorem zCL:N7 Tryz.prog 15 Sz:=by
 refine zEJ Al GOk.nil Ak Tryz.func15 rfl Tryz.ntmps15 Tryz.results15 5 ?_;rintro⟨n,f⟩ hn;replace hn:n<=2000000:=hn;refine⟨by simp,?_⟩;simp[go_sem];refine BF (fun k:Nat=>⟨[(4,true,.i k),(3,true,.m false [.p 7 0]),(0,true,.m false [.s .z 1 n (Es f)])],[(7,.var [.s .z 1 n (Es f),.v i0,.v (.int .u64 (Mi f k)),.v i0])]⟩) (fun k=>n - k) (fun k=>k<=n/\k<=64) 0 (by simp[go_sem,Mi]) (by simp) ?_;rintro k ⟨e,c⟩;simp[go_sem,Ar (show k<=1000000000 by omega)];refine⟨fun a d=>⟨a,by kernel_rfl,k+1,by omega,by omega,rfl,rfl⟩,fun h=>?_⟩;have b:min n 64=k:=by omega
 rw[I0 (x:=(n:Int) / 20) (by omega) (by omega)];refine⟨fun a=>⟨⟨TrE.refl _,Ch⟩,rfl,by rw[<-b];rfl,?_⟩,fun a=>⟨⟨TrE.refl _,Ch⟩,rfl,by rw[<-b];rfl,?_⟩⟩
 ·show(12:Int)=min ((n / 20:Nat):Int) 12;omega
 ·show(n:Int) / 20=min ((n / 20:Nat):Int) 12;omega
theorem Vk(h:n<=2000000)(a:∀i,i<n->0<=f i/\f i<256):BE (JV n f):=⟨h,Nat.zero_le _,a,by show 0<=min ((n / 20:Nat):Int) 12/\min ((n / 20:Nat):Int) 12<=12;omega⟩
end
end Go.Proofs.YtddigaohmfpepaaGreatDoor
