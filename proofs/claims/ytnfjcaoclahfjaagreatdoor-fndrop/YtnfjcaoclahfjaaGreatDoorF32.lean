/- A part of the proof. -/
import Derived.Test.YtnfjcaoclahfjaaGreatDoorF31
import Derived.Test.YtnfjcaoclahfjaaGreatDoorF21
set_option linter.unusedVariables false
set_option maxRecDepth 20000
set_option maxHeartbeats 4000000
namespace Go.Proofs.YtnfjcaoclahfjaaGreatDoor
noncomputable section
open Go.RowKit
set_option linter.unusedSimpArgs false
set_option maxRecDepth 20000
set_option maxHeartbeats 3200000
attribute [-go_sem] BV
theorem Lw(f g:Nat->Int)(t:Int)(n:Nat):(BS f g t n).length<=n:=by
 have:=Kr f g t n;omega
variable{n:Nat}{f g:Nat->Int}
theorem OV:(B3 n f g).length=n:=by simp[B3]
variable{l:List (Int×Int)}{i:Nat}
theorem zGa:AI (B3 n f g ++ l) i=if i<n then f i else AI l (i - n):=by
 unfold AI B3;simp only[List.getD_eq_getElem?_getD,List.getElem?_append,List.length_map,List.length_range];split
 ·rename_i h;simp[h]
 ·rfl
theorem zHE:AK (B3 n f g ++ l) i=if i<n then g i else AK l (i - n):=by
 unfold AK B3;simp only[List.getD_eq_getElem?_getD,List.getElem?_append,List.length_map,List.length_range];split
 ·rename_i h;simp[h]
 ·rfl
variable{m:Nat}{F:Nat->Nat->Tr}
theorem O2(b:m=n+l.length)(hF:∀i j,i<m->j<2->F i j=if i<n then ptrsT f g i j else Cy encP (0,0) l (i - n) j):TrE (.s .o 2 m F) (.s .o 2 (B3 n f g ++ l).length (ptrsT (AI (B3 n f g ++ l)) (AK (B3 n f g ++ l)))):=by
 refine⟨.inl rfl,rfl,by rw[b,List.length_append,OV],fun i j hi a=>TrE.of_eq ?_⟩;rw[hF i j hi a]
 match j,a with
 | 0,_=>simp only[ptrsT,zGa,N4];split<;>rfl
 | 1,_=>simp only[ptrsT,zHE,N5];split<;>rfl
theorem zIs(f:Nat->Nat->Tr)(k:Nat)(a b:Tr):AZ f k 3 [a,b] k 5=f k 5:=by simp[AZ]
abbrev toV(t:Dt):List Tr:=[.s .o 3 t.pool.n (Ao .z t.pool.s),.s .o 1 t.pool.hn (B5 t.pool.h),.v (.int .i64 t.rs),.v (.int .i64 t.rb),.s .o 2 t.old.length (ptL t.old),.v (.int .i64 t.code)]
def ZH:AH:=AR (fun q:(A4×Int)×Dt=>[woT q.1.1,iT q.1.2,(true,toV q.2)]) (fun q=>Bc q.1.1/\Ab q.1.1/\(0<=q.1.2/\q.1.2<q.1.1.sn)/\(q.2.code=0->q.2.pool.hn+q.2.old.length<=1000000)) (fun q=>[wuO (GS q.1.1 q.1.2.toNat q.2)])
theorem zGQ(l:List (Int×Int)):Jv (.s .o 2 l.length (ptL l))=l:=by
 refine Eq.trans ?_ (Pv l);unfold Jv;congr 1
theorem VZ(W:A4)(k:Int)(t:Dt):ZH [woT W,iT k,(true,toV t)]=some (Bc W/\Ab W/\(0<=k/\k<W.sn)/\(t.code=0->t.pool.hn+t.old.length<=1000000),[wuO (GS W k.toNat t)]):=
 Aa (fun m=>((BW (nth m 0),AO (nth m 1 0)),⟨Cd (nth m 2 0) (nth m 2 1),AO (nth m 2 2),AO (nth m 2 3),Jv (nth m 2 4),AO (nth m 2 5)⟩)) (fun q=>by exact congrArg (fun l=>(q.1,(⟨q.2.pool,q.2.rs,q.2.rb,l,q.2.code⟩:Dt))) (zGQ q.2.old)) ((W,k),t)
theorem XE:NG Tryz.prog 135 ZH:=by
 refine zDr (A:=fun q:(A4×Int)×Dt=>[woT q.1.1,iT q.1.2]) (V:=fun q=>toV q.2) Ai (GOk.cons IF (AA Tryz.func25 rfl rfl) (GOk.cons Gc (AA Tryz.func22 rfl rfl) (GOk.cons Ks (AA Tryz.func26 rfl rfl) (GOk.cons Oc (AA Tryz.func27 rfl rfl) (GOk.ptr RL (AA Tryz.func28 rfl rfl) GOk.nil))))) Ah Tryz.func135 rfl Tryz.ntmps135 Tryz.results135 13 ?_;rintro⟨⟨W,h⟩,t⟩ c;obtain⟨c,n,⟨m,g⟩,u⟩:Bc W/\Ab W/\(0<=h/\h<W.sn)/\(t.code=0->t.pool.hn+t.old.length<=1000000):=c;have hs:=c.sn;have s:=c.pn;obtain⟨k,rfl⟩:=Int.eq_ofNat_of_zero_le m;have f:k<W.sn:=by omega
 refine⟨by simp,?_⟩;show ev _ _ _ _ _ _ (K4 _ _ [wuO (GS W k t)]);by_cases d:t.code=0;rotate_left
 ·simp[go_sem,Be,d];exact Bg (if_neg d)
 have v:=Kg (fun k g=>(n.AP.Cu.ids k g).1) (W.A2 k).A5;have l:GS W k t=⟨qn W k t,0,((P6 W k t).length:Int),0⟩:=if_pos d;simp[go_sem,Be,DE,Jm,M7,QK ⟨t.pool,W.time,W.next,W.sn,W.A2,W.pn,W.A0⟩,c,hs,s,d,v,f,Aj (show k<=1000000000 by omega),zIs,Uj,Xa,Ui,Xv,l];have y:=u d;have B:=GF (fun i=>AI t.old i) (fun i=>AK t.old i) (AB W (W.A2 k).A5).time t.old.length;have z:=Lw (fun i=>AI t.old i) (fun i=>AK t.old i) (AB W (W.A2 k).A5).time t.old.length;have x:=c.sd k f;refine⟨by kernel_rfl,by omega,by omega,by omega,by kernel_rfl,⟨TrE.refl _,BZ⟩,⟨TrE.refl _,Bj⟩,rfl,rfl,⟨⟨.inl rfl,rfl,rfl,fun i j hi r=>?_⟩,CO⟩,⟨TrE.refl _,CN⟩,rfl⟩;show TrE _ (setsE .o (fun j=>if j=k then LK W k t else W.A2 j) i j);by_cases e:i=k
 ·subst e
  match j,r with
  | 0,_ | 1,_ | 2,_ | 3,_ | 4,_=>exact TrE.of_eq (by simp[AZ,setsE,LK])
  | 5,_=>
   simp[AZ,setsE,LK];exact O2 rfl fun a b w p=>by
    unfold Ae;split
    ·rfl
    ·match b,p with
     | 0,_ | 1,_=>rfl
 ·exact TrE.of_eq (by unfold setsE;simp[AZ,e])
open Classical in
def IX(W:A4)(x:ByteArray)(page:Int)(d:ByteArray):BQ:=if 8000<x.size\/8000<d.size then BL 2 else if Ab W then(if CJ W x then GS W (BT W x) (EA W.pool (W.A2 (BT W x)).rs (W.A2 (BT W x)).rb page d W.time)else BL 4)else BL 1
open Classical in
def IW(W:A4)(x:ByteArray)(page:Int):BQ:=if 8000<x.size then BL 2 else if Ab W then(if CJ W x then GS W (BT W x) (FU W.pool (W.A2 (BT W x)).rs (W.A2 (BT W x)).rb page W.time)else BL 4)else BL 1
def ZK:AH:=AR (fun q:(A4×ByteArray)×Int×ByteArray=>[woT q.1.1,sT q.1.2,iT q.2.1,sT q.2.2]) (fun q=>Bc q.1.1) (fun q=>[wuO (IX q.1.1 q.1.2 q.2.1 q.2.2)])
theorem yP(W:A4)(x:ByteArray)(a:Int)(d:ByteArray):ZK [woT W,sT x,iT a,sT d]=some (Bc W,[wuO (IX W x a d)]):=Aa (fun l=>((BW (nth l 0),CL (nth l 1 0)),AO (nth l 2 0),CL (nth l 3 0))) (fun _=>rfl) ((W,x),a,d)
theorem zBm:Ag Tryz.prog 97 ZK:=by
 refine Au Ai (GOk.cons FH (AA Tryz.func20 rfl rfl) (GOk.cons ID (AA Tryz.func79 rfl rfl) (GOk.cons Gc (AA Tryz.func22 rfl rfl) (GOk.cons zC5 (AA Tryz.func139 rfl rfl) (GOk.own XE (AA Tryz.func135 rfl rfl) GOk.nil))))) Ah Tryz.func97 rfl Tryz.ntmps97 Tryz.results97 10 ?_;rintro⟨⟨W,x⟩,a,d⟩ b;replace b:Bc W:=b;have hs:=b.sn;have p:=b.n;have w:=b.hn;refine⟨by simp,?_⟩;by_cases i:8000<x.size\/8000<d.size
 ·rcases Nat.lt_or_ge 8000 x.size with h | h
  ·simp[go_sem,Be,show(8000:Int)<x.size by omega];exact Bg (if_pos i)
  ·simp[go_sem,Be,show ¬(8000:Int)<x.size by omega,show(8000:Int)<d.size by omega];exact Bg (if_pos i)
 have c:¬(8000:Int)<x.size:=by omega
 have e:¬(8000:Int)<d.size:=by omega
 by_cases f:Ab W;rotate_left
 ·simp[go_sem,Bu,CI,Be,b,b.toSmallW,hs,p,c,e,f];exact Bg ((if_neg i).trans (if_neg f))
 by_cases j:CJ W x;rotate_left
 ·simp[go_sem,Bu,CI,Be,b,b.toSmallW,hs,p,Dk,CW,c,e,f,j];exact Bg ((if_neg i).trans ((if_pos f).trans (if_neg j)))
 have C:=IY j;have y:=CW.2 j;have l:BT W x<W.sn:=by show(BD W.sn fun k=>(W.A2 k).name=x).toNat<W.sn;omega
 obtain⟨k,g⟩:∃k,k=BT W x:=⟨_,rfl⟩;have m:(BD W.sn fun k=>(W.A2 k).name=x)=(k:Int):=by rw[g];show _=((BD W.sn fun k=>(W.A2 k).name=x).toNat:Int);omega
 have o:¬(k:Int)<0:=by omega
 have r:IX W x a d=GS W k (EA W.pool (W.A2 k).rs (W.A2 k).rb a d W.time):=by
  unfold IX;rw[if_neg i,if_pos f,if_pos j,<-g]
 rw[<-g]at l;have q:=RM W.pool (W.A2 k).rs (W.A2 k).rb a d W.time;obtain⟨t,u⟩:∃t,t=EA W.pool (W.A2 k).rs (W.A2 k).rb a d W.time:=⟨_,rfl⟩;rw[<-u]at q r;have v:t.pool.hn+t.old.length<=1000000:=by
  have:=MK f.right;have z:=q.1;have A:=q.2;have B:t.pool.hn<=As t.pool:=Nat.le_add_left ..;omega
 have s:=zHz W.pool (W.A2 k).rs (W.A2 k).rb a d W.time;rw[<-u]at s;simp[go_sem,Bu,CI,Be,s,VZ W k t,b,b.toSmallW,hs,p,w,m,o,c,e,f,l,r,v];exact⟨by kernel_rfl,BZ,Bj,CO,CN⟩
def qR:AH:=AR (fun q:(A4×ByteArray)×Int=>[woT q.1.1,sT q.1.2,iT q.2]) (fun q=>Bc q.1.1) (fun q=>[wuO (IW q.1.1 q.1.2 q.2)])
theorem zEr(W:A4)(x:ByteArray)(a:Int):qR [woT W,sT x,iT a]=some (Bc W,[wuO (IW W x a)]):=Aa (fun l=>((BW (nth l 0),CL (nth l 1 0)),AO (nth l 2 0))) (fun _=>rfl) ((W,x),a)
theorem zAc:Ag Tryz.prog 88 qR:=by
 refine Au Ai (GOk.cons FH (AA Tryz.func20 rfl rfl) (GOk.cons ID (AA Tryz.func79 rfl rfl) (GOk.cons Gc (AA Tryz.func22 rfl rfl) (GOk.cons zBn (AA Tryz.func136 rfl rfl) (GOk.own XE (AA Tryz.func135 rfl rfl) GOk.nil))))) Ah Tryz.func88 rfl Tryz.ntmps88 Tryz.results88 8 ?_;rintro⟨⟨W,x⟩,a⟩ b;replace b:Bc W:=b;have hs:=b.sn;have l:=b.n;have s:=b.hn;refine⟨by simp,?_⟩;by_cases h:8000<x.size
 ·simp[go_sem,Be,show(8000:Int)<x.size by omega];exact Bg (if_pos h)
 have c:¬(8000:Int)<x.size:=by omega
 by_cases d:Ab W;rotate_left
 ·simp[go_sem,Bu,CI,Be,b,b.toSmallW,hs,l,c,d];exact Bg ((if_neg h).trans (if_neg d))
 by_cases f:CJ W x;rotate_left
 ·simp[go_sem,Bu,CI,Be,b,b.toSmallW,hs,l,Dk,CW,c,d,f];exact Bg ((if_neg h).trans ((if_pos d).trans (if_neg f)))
 have z:=IY f;have u:=CW.2 f;have g:BT W x<W.sn:=by show(BD W.sn fun k=>(W.A2 k).name=x).toNat<W.sn;omega
 obtain⟨k,e⟩:∃k,k=BT W x:=⟨_,rfl⟩;have i:(BD W.sn fun k=>(W.A2 k).name=x)=(k:Int):=by rw[e];show _=((BD W.sn fun k=>(W.A2 k).name=x).toNat:Int);omega
 have j:¬(k:Int)<0:=by omega
 have o:IW W x a=GS W k (FU W.pool (W.A2 k).rs (W.A2 k).rb a W.time):=by
  unfold IW;rw[if_neg h,if_pos d,if_pos f,<-e]
 rw[<-e]at g;have m:=RC W.pool (W.A2 k).rs (W.A2 k).rb a W.time;obtain⟨t,q⟩:∃t,t=FU W.pool (W.A2 k).rs (W.A2 k).rb a W.time:=⟨_,rfl⟩;rw[<-q]at m o;have r:t.pool.hn+t.old.length<=1000000:=by
  have:=MK d.right;have v:=m.1;have w:=m.2;have y:t.pool.hn<=As t.pool:=Nat.le_add_left ..;omega
 have p:=zHy W.pool (W.A2 k).rs (W.A2 k).rb a W.time;rw[<-q]at p;simp[go_sem,Bu,CI,Be,p,VZ W k t,b,b.toSmallW,hs,l,s,i,j,c,d,g,o,r];exact⟨by kernel_rfl,BZ,Bj,CO,CN⟩
set_option maxRecDepth 20000
set_option maxHeartbeats 3200000
open Classical in
def sdK(W:A4)(x:Int)(k:Nat):BQ:=if h:∃i,EP W x i then⟨Gk W k h.choose,0,((D2 W k h.choose).length:Int),0⟩else if h:∃i,EO W x i then⟨Gj W k h.choose,0,((Cz W k h.choose).length:Int),0⟩else⟨{W with pn:=W.pn - 1,A0:=del W.A0 k},0,0,0⟩
open Classical in
def sdE(W:A4)(x:Int):BQ:=if Ab W then(if BG W x then(if 1<DH W x W.sn+Da W x W.pn then BL 7 else sdK W x (FQ W x))else BL 4)else BL 1
structure zHo (W:A4) (x:Int) (k:Nat) (o:BQ) (VP:Nat->A7) (VS:Nat->Nat->Ac) (m:Nat->Nat) (UP:Nat->A7) (US:Nat->Nat->AT) (l:Nat->Nat):Prop where
 v0:VP 0=W.pool/\VS 0=W.A2/\m 0=0
 vn:∀j,(VP j).n=W.pool.n/\m j<=1000000
 cur:∀j,VS j j=W.A2 j
 no:∀j,j<W.sn->(W.A2 j).A5≠x->VP (j+1)=VP j/\VS (j+1)=VS j/\m (j+1)=m j
 yes:∀j,j<W.sn->(W.A2 j).A5=x->VP (j+1)=Ak (VP j) (D2 W k j)/\VS (j+1)=(fun i=>if i=j then E8 W (W.A0 k) (W.A2 j)else VS j i)/\m (j+1)=m j+(D2 W k j).length/\(VP j).hn<=W.pool.hn
 u0:UP 0=VP W.sn/\US 0=W.A0/\l 0=m W.sn
 un:∀j,(UP j).n=W.pool.n/\l j<=1000000
 cur2:∀j,US j j=W.A0 j
 no2:∀j,j<W.pn->(W.A0 j).A5≠x->UP (j+1)=UP j/\US (j+1)=US j/\l (j+1)=l j
 yes2:∀j,j<W.pn->(W.A0 j).A5=x->UP (j+1)=Ak (UP j) (Cz W k j)/\US (j+1)=(fun i=>if i=j then Dj W (W.A0 k) (W.A0 j)else US j i)/\l (j+1)=l j+(Cz W k j).length/\(UP j).hn<=W.pool.hn
 fin:o=⟨⟨UP W.pn,W.time,W.next,W.sn,VS W.sn,W.pn - 1,del (US W.pn) k⟩,0,l W.pn,0⟩
variable{W:A4}
theorem L9(h:Ab W):(∀j,j<W.sn->(W.A2 j).dn<=200)/\∀j,j<W.pn->(W.A0 j).dn<=200:=by
 refine⟨fun j a=>?_,fun j a=>?_⟩
 ·have:=(M4 h (i:=W.pn+j) (by unfold memN;omega) 0).1.1
  rwa [By]at this
 ·have:=(M4 h (i:=j) (by unfold memN;omega) 0).1.1
  rwa [B9 a]at this
theorem PS(W:A4)(x:Int):∀n,DH W x n=Bd (fun i=>(W.A2 i).A5) x n
 | 0=>rfl
 | n+1=>by rw[DH,Bd,PS]
theorem PR(W:A4)(x:Int):∀n,Da W x n=Bd (fun i=>(W.A0 i).A5) x n
 | 0=>rfl
 | n+1=>by rw[Da,Bd,PR]
variable{k:Nat}
theorem zID{x:Int}(hs:∀i,i<W.sn->(W.A2 i).dn<=1000000)(y:∀i,i<W.pn->(W.A0 i).dn<=1000000)(w:¬1<DH W x W.sn+Da W x W.pn):∃t u m r s l,zHo W x k (sdK W x k) t u m r s l:=by
 have q:∀i,i<W.sn->(D2 W k i).length<=1000000:=fun i hi=>Nat.le_trans (GF ..) (hs i hi)
 have v:∀i,i<W.pn->(Cz W k i).length<=1000000:=fun i hi=>Nat.le_trans (GF ..) (y i hi)
 rw[PS,PR]at w;unfold sdK;by_cases c:∃i,EP W x i
 ·rw[dif_pos c];obtain⟨hi,g,n,o⟩:=c.choose_spec;generalize c.choose=i at *;refine⟨fun j=>if j<=i then W.pool else Ak W.pool (D2 W k i),fun j=>if j<=i then W.A2 else Fs W k i,fun j=>if j<=i then 0 else(D2 W k i).length,fun _=>Ak W.pool (D2 W k i),fun _=>W.A0,fun _=>(D2 W k i).length,⟨by simp,fun j=>?_,fun j=>?_,fun j a e=>?_,fun j a e=>?_,?_,fun j=>⟨(EF _ _).1,q i hi⟩,fun _=>rfl,fun j a e=>⟨rfl,rfl,rfl⟩,fun j a e=>absurd e (o j a),?_⟩⟩
  ·split
   ·exact⟨rfl,by omega⟩
   ·exact⟨(EF _ _).1,q i hi⟩
  ·split
   ·rfl
   ·unfold Fs;rw[if_neg (by omega)]
  ·have:j≠i:=fun h=>e (by rw[h];exact g)
   have d:(j+1<=i)↔(j<=i):=(by omega);simp[d]
  ·have:j=i:=Classical.not_not.1 fun h=>n j a h e
   subst this;have p:¬j+1<=j:=(by omega);simp[p];rfl
  ·simp[show ¬W.sn<=i by omega]
  ·simp[show ¬W.sn<=i by omega,Gk]
 rw[dif_neg c];by_cases b:∃i,EO W x i
 ·rw[dif_pos b];obtain⟨hi,g,n,o⟩:=b.choose_spec;generalize b.choose=i at *;refine⟨fun _=>W.pool,fun _=>W.A2,fun _=>0,fun j=>if j<=i then W.pool else Ak W.pool (Cz W k i),fun j=>if j<=i then W.A0 else E7 W k i,fun j=>if j<=i then 0 else(Cz W k i).length,⟨by simp,fun j=>⟨rfl,by simp⟩,fun j=>rfl,fun j a e=>⟨rfl,rfl,rfl⟩,fun j a e=>absurd e (o j a),by simp,fun j=>?_,fun j=>?_,fun j a e=>?_,fun j a e=>?_,?_⟩⟩
  ·split
   ·exact⟨rfl,by omega⟩
   ·exact⟨(EF _ _).1,v i hi⟩
  ·split
   ·rfl
   ·unfold E7;rw[if_neg (by omega)]
  ·have:j≠i:=fun h=>e (by rw[h];exact g)
   have d:(j+1<=i)↔(j<=i):=(by omega);simp[d]
  ·have:j=i:=Classical.not_not.1 fun h=>n j a h e
   subst this;have p:¬j+1<=j:=(by omega);simp[p];rfl
  ·simp[show ¬W.pn<=i by omega,Gj]
 rw[dif_neg b];have z0:D4 W x≠1:=fun e=>(PO e).elim b c
 unfold D4 at z0;have z1:∀j,j<W.sn->(W.A2 j).A5≠x:=fun j a e=>by
  have:=Nx (f:=fun i=>(W.A2 i).A5) a e;omega
 have z2:∀j,j<W.pn->(W.A0 j).A5≠x:=fun j a e=>by
  have:=Nx (f:=fun i=>(W.A0 i).A5) a e;omega
 exact⟨fun _=>W.pool,fun _=>W.A2,fun _=>0,fun _=>W.pool,fun _=>W.A0,fun _=>0,⟨by simp,fun j=>⟨rfl,by simp⟩,fun j=>rfl,fun j a e=>⟨rfl,rfl,rfl⟩,fun j a e=>absurd e (z1 j a),by simp,fun j=>⟨rfl,by simp⟩,fun j=>rfl,fun j a e=>⟨rfl,rfl,rfl⟩,fun j a e=>absurd e (z2 j a),rfl⟩⟩
attribute [go_sem] BV
attribute [-go_sem] BV
def Z9:AH:=AR (fun q:((A7×Int×Int)×(Nat×(Nat->Nat->Tr))×(Nat×(Nat->Nat->Tr)))×List (Int×Int)=>(true,[.s .o 3 q.1.1.1.n (Ao .z q.1.1.1.s),.s .o 1 q.1.1.1.hn (B5 q.1.1.1.h),.v (.int .i64 q.1.1.2.1),.v (.int .i64 q.1.1.2.2),.s .o 6 q.1.2.1.1 q.1.2.1.2,.s .o 8 q.1.2.2.1 q.1.2.2.2]) :: [psL q.2]) (fun q=>q.1.1.1.hn+q.2.length<=1000000/\(Tr.s .o 6 q.1.2.1.1 q.1.2.1.2).kept/\(Tr.s .o 8 q.1.2.2.1 q.1.2.2.2).kept) (fun q=>[(true,[.s .o 3 q.1.1.1.n (Ao .z q.1.1.1.s),.s .o 1 (Ak q.1.1.1 q.2).hn (B5 (Ak q.1.1.1 q.2).h),.v (.int .i64 q.1.1.2.1),.v (.int .i64 q.1.1.2.2),.s .o 6 q.1.2.1.1 q.1.2.1.2,.s .o 8 q.1.2.2.1 q.1.2.2.2]),iT q.2.length])
theorem VW(p:A7)(a b:Int)(n:Nat)(F:Nat->Nat->Tr)(c:Nat)(G:Nat->Nat->Tr)(l:List (Int×Int)):Z9 ((true,[.s .o 3 p.n (Ao .z p.s),.s .o 1 p.hn (B5 p.h),.v (.int .i64 a),.v (.int .i64 b),.s .o 6 n F,.s .o 8 c G]) :: [psL l])=some (p.hn+l.length<=1000000/\(Tr.s .o 6 n F).kept/\(Tr.s .o 8 c G).kept,[(true,[.s .o 3 p.n (Ao .z p.s),.s .o 1 (Ak p l).hn (B5 (Ak p l).h),.v (.int .i64 a),.v (.int .i64 b),.s .o 6 n F,.s .o 8 c G]),iT l.length]):=
 Aa (fun m=>(((Cd (nth m 0 0) (nth m 0 1),AO (nth m 0 2),AO (nth m 0 3)),(DI (nth m 0 4),Bk (nth m 0 4)),(DI (nth m 0 5),Bk (nth m 0 5))),Jv (nth m 1 0))) (fun q=>by exact congrArg (Prod.mk q.1) (Pv q.2)) (((p,a,b),(n,F),(c,G)),l)
theorem zEM:Ck Tryz.prog 28 Z9:=by
 refine EZ Ai GOk.nil Ah Tryz.func28 rfl Tryz.ntmps28 Tryz.results28 6 ?_;rintro⟨⟨⟨c,a,b⟩,⟨n,F⟩,g,G⟩,l⟩ hn;obtain⟨hn,r,t⟩:c.hn+l.length<=1000000/\(Tr.s .o 6 n F).kept/\(Tr.s .o 8 g G).kept:=hn;refine⟨by simp,?_⟩;simp[go_sem];refine B2 (fun k:Nat=>⟨[(5,true,.i k),(0,true,.m false [.p 0 0]),(1,true,.m false [.s .b 2 l.length (ptrsT (fun i=>AI l i) (fun i=>AK l i))])],[(0,.var [.h 1000,.h 2000,.v (.int .i64 a),.v (.int .i64 b),.h 5000,.h 6000]),(1000,.row 3 c.n (Ao .z c.s)),(2000,.row 1 (Ak c (l.take k)).hn (B5 (Ak c (l.take k)).h)),(5000,.row 6 n F),(6000,.row 8 g G)]⟩) (fun k=>l.length - k) (fun k=>k<=l.length) 0 (by simp[go_sem,Ak]) (Nat.zero_le _) ?_;intro k j;obtain⟨p,d⟩:∃p,p=Ak c (l.take k):=⟨_,rfl⟩;have q:p.hn=c.hn+k:=by rw[d,(EF _ _).2.2,List.length_take,Nat.min_eq_left j]
 have f:k<l.length->Ak c (l.take (k+1))=C9 p (AI l k):=fun h=>by
  rw[d,List.take_succ_eq_append_getElem h,Om,<-LC];simp[h]
 rw[<-d];simp[go_sem,Aj (show k<=1000000000 by omega)];refine⟨fun e=>⟨e,by omega,by kernel_rfl,k+1,e,by omega,rfl,?_⟩,fun e=>?_⟩
 ·rw[f e];exact Qt
 ·cases (show k=l.length by omega);rw[List.take_length]at d;subst d;exact⟨BZ,⟨TrE.refl _,Bj⟩,r,t⟩
variable{j:Nat}
theorem zEY{fl:Fl}{a:Nat}{T:Tr}(h:(Tr.s fl k n F).kept)(b:T.kept):(Tr.s fl k n (AZ F a j [T])).kept:=by
 refine⟨h.1,fun i q hi c=>?_⟩;unfold AZ;split
 ·rename_i e
  have:q - j=0:=(by have:=e.2.2;simp at this;omega);rw[this];exact b
 ·exact h.2 i q hi c
theorem zFa{S:Nat->Ac}{s:Ac}{z:Tr}(h:s.name=(S j).name/\s.origin=(S j).origin/\s.rs=(S j).rs/\s.rb=(S j).rb)(b:TrE (.s .o 2 m F) (.s .o 2 s.dn (ptrsT s.ds s.db))):TrE (.s .o 6 n (AZ (AZ (AZ (setsE .o S) j 5 [z]) j 5 [.s .o 2 m F]) j 2 [.v (.int .i64 s.A5)])) (.s .o 6 n (setsE .o fun i=>if i=j then s else S i)):=by
 refine⟨.inl rfl,rfl,rfl,fun i c hi a=>?_⟩;by_cases e:i=j
 ·subst e;obtain⟨d,f,g,k⟩:=h
  match c,a with
  | 0,_ | 1,_ | 2,_ | 3,_ | 4,_=>exact TrE.of_eq (by simp[AZ,setsE, *])
  | 5,_=>simpa[AZ,setsE]using b
 ·exact TrE.of_eq (by unfold setsE;simp[AZ,e])
theorem zDc{S:Nat->AT}{s:AT}(h:s.id=(S j).id/\s.name=(S j).name/\s.set=(S j).set/\s.time=(S j).time/\s.rs=(S j).rs/\s.rb=(S j).rb)(b:TrE (.s .o 2 m F) (.s .o 2 s.dn (ptrsT s.ds s.db))):TrE (.s .o 8 n (AZ (AZ (snapsE .z S) j 7 [.s .o 2 m F]) j 3 [.v (.int .i64 s.A5)])) (.s .o 8 n (snapsE .z fun i=>if i=j then s else S i)):=by
 refine⟨.inl rfl,rfl,rfl,fun i c hi a=>?_⟩;by_cases e:i=j
 ·subst e;obtain⟨d,f,g,k,l,p⟩:=h
  match c,a with
  | 0,_ | 1,_ | 2,_ | 3,_ | 4,_ | 5,_ | 6,_=>exact TrE.of_eq (by simp[AZ,snapsE, *])
  | 7,_=>
   simp[AZ,snapsE];exact⟨.inr ⟨rfl,rfl⟩,b.2⟩
 ·exact TrE.of_eq (by unfold snapsE;simp[AZ,e])
theorem qZ{a b:Nat}(h:a<=1000000)(c:b<=1000000):IntKind.i64.wrap ((a:Int)+(b:Int))=((a+b:Nat):Int):=by
 simp[IntKind.wrap,IntKind.bits];omega
def mSd:AH:=AR (fun q:A4×Int=>[woT q.1,iT q.2]) (fun q=>Bc q.1) (fun q=>[wuO (sdE q.1 q.2)])
theorem PC(W:A4)(x:Int):mSd [woT W,iT x]=some (Bc W,[wuO (sdE W x)]):=Aa (fun l=>(BW (nth l 0),AO (nth l 1 0))) (fun _=>rfl) (W,x)
theorem YY:Ag Tryz.prog 7 mSd:=by
 refine Au Ai (GOk.cons IF (AA Tryz.func25 rfl rfl) (GOk.cons FH (AA Tryz.func20 rfl rfl) (GOk.cons IG (AA Tryz.func23 rfl rfl) (GOk.cons Gc (AA Tryz.func22 rfl rfl) (GOk.cons Ks (AA Tryz.func26 rfl rfl) (GOk.cons zBP (AA Tryz.func24 rfl rfl) (GOk.cons Oc (AA Tryz.func27 rfl rfl) (GOk.ptr zEM (AA Tryz.func28 rfl rfl) GOk.nil)))))))) Ah Tryz.func7 rfl Tryz.ntmps7 Tryz.results7 17 ?_;rintro⟨W,x⟩ g;replace g:Bc W:=g;have hs:=g.sn;have L:=g.pn;refine⟨by simp,?_⟩;by_cases f:Ab W;rotate_left
 ·simp[go_sem,Bu,Dy,Be,g,g.toSmallW,hs,L,f];exact Bg (if_neg f)
 by_cases E:BG W x;rotate_left
 ·simp[go_sem,Bu,Dy,Be,g,g.toSmallW,hs,L,Gx,FX,f,E];exact Bg ((if_pos f).trans (if_neg E))
 have R:=KA E;have Z:=FX.2 E;have w:FQ W x<W.pn:=by show(BD W.pn fun k=>(W.A0 k).id=x).toNat<W.pn;omega
 obtain⟨k,D⟩:∃k,k=FQ W x:=⟨_,rfl⟩;have G:(BD W.pn fun k=>(W.A0 k).id=x)=(k:Int):=by rw[D];show _=((BD W.pn fun k=>(W.A0 k).id=x).toNat:Int);omega
 have I:¬(k:Int)<0:=by omega
 rw[<-D]at w;by_cases N:1<DH W x W.sn+Da W x W.pn
 ·simp[go_sem,Bu,Dy,Be,VX,g,g.toSmallW,hs,L,G,I,f,show(1:Int)<(DH W x W.sn:Int)+(Da W x W.pn:Int)by omega];exact Bg ((if_pos f).trans ((if_pos E).trans (if_pos N)))
 have T:sdE W x=sdK W x k:=by
  unfold sdE;rw[if_pos f,if_pos E,if_neg N,<-D]
 obtain⟨K,M,m,J,t,l,run⟩:=zID (k:=k) g.sd g.pd N;rw[<-T]at run;have hz:=Kg (fun k R=>(f.AP.Cu.ids k R).1) (W.A0 k).A5;have P:¬(1:Int)<(DH W x W.sn:Int)+(Da W x W.pn:Int):=by omega
 simp[go_sem,Bu,Dy,Be,VX,DE,Jm,g,g.toSmallW,hs,L,G,I,f,P,w,hz];have Q:=run.v0;refine B2 (fun j:Nat=>⟨[(11,true,.i j),(10,true,.i (m j)),(9,true,.i (AB W (W.A0 k).A5).time),(7,true,.m false [.p 7 0]),(6,true,.m false [.p 6 0]),(5,true,.i k),(4,true,.m false [.p 4 0]),(1,true,.i x)],[(7,.var [.v (.int .i64 (W.A0 k).id),.v (.string (W.A0 k).name),.v (.string (W.A0 k).set),.v (.int .i64 (W.A0 k).A5),.v (.int .i64 (W.A0 k).time),.v (.int .i64 (W.A0 k).rs),.v (.int .i64 (W.A0 k).rb),.s .z 2 (W.A0 k).dn (ptrsT (W.A0 k).ds (W.A0 k).db)]),(6,.var [.h 61,.h 62,.v (.int .i64 W.time),.v (.int .i64 W.next),.h 63,.h 64]),(64,.row 8 W.pn (snapsE .z W.A0)),(63,.row 6 W.sn (setsE .o (M j))),(62,.row 1 (K j).hn (B5 (K j).h)),(61,.row 3 (K j).n (Ao .z (K j).s)),(4,.var [.v n0,.v n0,.v i0,.v i0,.v n0,.v n0,.v i0,.v i0,.v i0])]⟩) (fun j=>W.sn - j) (fun j=>j<=W.sn) 0 (by rw[Q.1,Q.2.1,Q.2.2];simp[go_sem]) (Nat.zero_le _) ?_;intro j hj;have F:=run.cur j;simp[go_sem,Aj (show j<=1000000000 by omega),F];refine⟨fun A=>⟨A,?_⟩,fun A=>?_⟩
 ·by_cases y:(W.A2 j).A5=x
  ·simp[go_sem,y,A,F,Aj (show j<=1000000000 by omega),M7,VW,GQ,I0];obtain⟨r,u,B,S⟩:=run.yes j A y;have V:=(L9 f).1 j A;have hy:(BE (W.A2 j).ds (W.A2 j).db (AB W (W.A0 k).A5).time (W.A2 j).dn).length<=(W.A2 j).dn:=GF ..;have ho:(BS (W.A2 j).ds (W.A2 j).db (AB W (W.A0 k).A5).time (W.A2 j).dn).length<=(W.A2 j).dn:=Lw ..;have X:=(L9 f).2 k w;have Y:=Lm f.right;refine⟨by omega,⟨by omega,zEY CO ⟨by simp,fun p q _ _=>by unfold ptrsT;split<;>trivial⟩,CN⟩,by omega,by omega,by kernel_rfl,j+1,A,by omega,⟨rfl,?_⟩,?_,?_,?_⟩
   ·rw[B];exact qZ (run.vn j).2 (by omega)
   ·rw[u,<-F];refine zFa (s:=E8 W (W.A0 k) (M j j)) ⟨rfl,rfl,rfl,rfl⟩ (O2 rfl fun a b U O=>?_);unfold Ae;split
    ·rfl
    ·match b,O with
     | 0,_ | 1,_=>rfl
   ·rw[r];exact TrE.refl _
   ·rw[r,(EF _ _).1,(EF _ _).2.1];exact TrE.refl _
  ·obtain⟨r,u,B⟩:=run.no j A y;simp[go_sem,y,Aj (show j<=1000000000 by omega)];exact⟨j+1,A,by omega,⟨rfl,by rw[B]⟩,by rw[u];exact TrE.refl _,by rw[r];exact TrE.refl _,by rw[r];exact TrE.refl _⟩
 cases (show j=W.sn by omega);have q1:=run.u0;refine B2 (fun i:Nat=>⟨[(14,true,.i i),(10,true,.i (l i)),(9,true,.i (AB W (W.A0 k).A5).time),(7,true,.m false [.p 7 0]),(6,true,.m false [.p 6 0]),(5,true,.i k),(4,true,.m false [.p 4 0]),(1,true,.i x)],[(7,.var [.v (.int .i64 (W.A0 k).id),.v (.string (W.A0 k).name),.v (.string (W.A0 k).set),.v (.int .i64 (W.A0 k).A5),.v (.int .i64 (W.A0 k).time),.v (.int .i64 (W.A0 k).rs),.v (.int .i64 (W.A0 k).rb),.s .z 2 (W.A0 k).dn (ptrsT (W.A0 k).ds (W.A0 k).db)]),(6,.var [.h 61,.h 62,.v (.int .i64 W.time),.v (.int .i64 W.next),.h 63,.h 64]),(64,.row 8 W.pn (snapsE .z (t i))),(63,.row 6 W.sn (setsE .o (M W.sn))),(62,.row 1 (J i).hn (B5 (J i).h)),(61,.row 3 (J i).n (Ao .z (J i).s)),(4,.var [.v n0,.v n0,.v i0,.v i0,.v n0,.v n0,.v i0,.v i0,.v i0])]⟩) (fun i=>W.pn - i) (fun i=>i<=W.pn) 0 (by rw[q1.1,q1.2.1,q1.2.2];simp[go_sem]) (Nat.zero_le _) ?_;intro i hi;have C:=run.cur2 i;simp[go_sem,Aj (show i<=1000000000 by omega),C];refine⟨fun d=>⟨d,?_⟩,fun d=>?_⟩
 ·by_cases y:(W.A0 i).A5=x
  ·simp[go_sem,y,d,C,Aj (show i<=1000000000 by omega),M7,VW,GQ,I0];obtain⟨r,u,B,S⟩:=run.yes2 i d y;have V:=(L9 f).2 i d;have hy:(BE (W.A0 i).ds (W.A0 i).db (AB W (W.A0 k).A5).time (W.A0 i).dn).length<=(W.A0 i).dn:=GF ..;have ho:(BS (W.A0 i).ds (W.A0 i).db (AB W (W.A0 k).A5).time (W.A0 i).dn).length<=(W.A0 i).dn:=Lw ..;have X:=(L9 f).2 k w;have Y:=Lm f.right;refine⟨by omega,⟨by omega,CO,CN⟩,by omega,by omega,by kernel_rfl,i+1,d,by omega,⟨rfl,?_⟩,?_,?_,?_⟩
   ·rw[B];exact qZ (run.un i).2 (by omega)
   ·rw[u,<-C];refine zDc (s:=Dj W (W.A0 k) (t i i)) ⟨rfl,rfl,rfl,rfl,rfl,rfl⟩ (O2 rfl fun a b U O=>?_);unfold Ae;split
    ·rfl
    ·match b,O with
     | 0,_ | 1,_=>rfl
   ·rw[r];exact TrE.refl _
   ·rw[r,(EF _ _).1,(EF _ _).2.1];exact TrE.refl _
  ·obtain⟨r,u,B⟩:=run.no2 i d y;simp[go_sem,y,Aj (show i<=1000000000 by omega)];exact⟨i+1,d,by omega,⟨rfl,by rw[B]⟩,by rw[u];exact TrE.refl _,by rw[r];exact TrE.refl _,by rw[r];exact TrE.refl _⟩
 cases (show i=W.pn by omega);rw[run.fin,Aj (show k<=1000000000 by omega)];refine⟨by omega,⟨by omega,by omega⟩,⟨by omega,by omega⟩,⟨by omega,by omega⟩,by kernel_rfl,⟨TrE.refl _,BZ⟩,⟨TrE.refl _,Bj⟩,rfl,rfl,⟨TrE.refl _,CO⟩,⟨?_,CN⟩,by simp⟩;refine⟨.inl rfl,rfl,by show k+(W.pn - (k+1))=W.pn - 1;omega,fun i c hi F=>TrE.of_eq ?_⟩;show _=snapsE .z (del (t W.pn) k) i c;have e:∀p,(snapsE .z (t W.pn) p c).nt=snapsE .z (t W.pn) p c:=fun p=>by
  match c,F with
  | 0,_ | 1,_ | 2,_ | 3,_ | 4,_ | 5,_ | 6,_ | 7,_=>rfl
 have u:snapsE .z (del (t W.pn) k) i c=snapsE .z (t W.pn) (if i<k then i else i+1) c:=by
  have:del (t W.pn) k i=t W.pn (if i<k then i else i+1):=(by unfold del;split<;>rfl);unfold snapsE;rw[this]
 rw[u];unfold Ae;by_cases H:i<k
 ·simp[H,e]
 ·simp[H,e,show k+1+(i - k)=i+1 by omega]
set_option maxRecDepth 20000
set_option maxHeartbeats 3200000
attribute [go_sem] BV
attribute [-go_sem] BV Br
attribute [local go_sem] Nf NK Mw Mu Mv NH NI NJ Mp Mt Ms Mr Mq ME
def Ej(s:Ar)(p:A7):Ar×Int×Int:=if nV s 8=0\/p.n=0 then(nS (nS (nS s 8) 14) 4,LB (nS s 8),nV (nS (nS s 8) 14) 4)else(nS (nS s 8) p.n,nV (nS s 8) p.n,(p.s (nV (nS s 8) p.n).toNat).birth)
def qF:AH:=AR (fun q:Ar×A7=>(true,srV q.1) :: [poT q.2.n q.2.s q.2.hn q.2.h]) (fun q=>Az q.1/\q.2.n<=1000000) (fun q=>[(true,srV (Ej q.1 q.2).1),pT (Ej q.1 q.2).2.1 (Ej q.1 q.2).2.2])
theorem zEj(s:Ar)(p:A7):qF ((true,srV s) :: [poT p.n p.s p.hn p.h])=some (Az s/\p.n<=1000000,[(true,srV (Ej s p).1),pT (Ej s p).2.1 (Ej s p).2.2]):=Aa (fun l=>(G0 (nth l 0),Cd (nth l 1 0) (nth l 1 1))) (fun _=>rfl) (s,p)
theorem zB:Ck Tryz.prog 43 qF:=by
 refine EZ Ai (GOk.ptr Gn (AA Tryz.func40 rfl rfl) (GOk.ptr N2 (AA Tryz.func42 rfl rfl) (GOk.ptr TF (AA Tryz.func99 rfl rfl) GOk.nil))) Ah Tryz.func43 rfl Tryz.ntmps43 Tryz.results43 6 ?_;rintro⟨s,p⟩ hs;obtain⟨hs,d⟩:Az s/\p.n<=1000000:=hs;have a:=Bn hs 8;have c:=Bn a 14;refine⟨by simp,?_⟩;by_cases b:nV s 8=0
 ·simp[go_sem,Cp,Dn,Lp,hs,a,c,b,Ej,CB]
 by_cases hn:p.n=0
 ·simp[go_sem,Cp,Dn,Lp,hs,a,c,b,hn,Ej,CB]
 have hv:=Gt (nS s 8) (m:=p.n) (by omega);simp[go_sem,Cp,Dn,Lp,hs,a,c,b,hn,Ej,CB];exact⟨by omega,hv.1,by omega⟩
def stepAt(s:Ar)(W:A4)(x:ByteArray)(a:Int):Nat->Ar×BQ
 | 0=>(s,GX W x)
 | 1=>(FO s,IW W x (IH s))
 | 2 | 3 | 4=>(nS s 3,It W x ([⟨#[115,49]⟩,⟨#[115,50]⟩,⟨#[115,51]⟩].getD (nV s 3).toNat ⟨#[]⟩))
 | 5=>(s,sdE W a)
 | 6 | 7=>(nS s 3,Ki W a ([⟨#[98]⟩,⟨#[99]⟩,⟨#[100]⟩].getD (nV s 3).toNat ⟨#[]⟩))
 | 8=>(s,IS W x)
 | 9=>(s,IU W x)
 | 10=>(s,II W x)
 | 11=>(s,⟨{W with pool:=IV W.pool},0,0,0⟩)
 | _=>(My (FO s),IX W x (IH s) (Mz (FO s)))
def DM(s:Ar)(W:A4):Ar×BQ:=stepAt (nS (nS (nS s (max 1 W.next)) 5) 16) W (L5 (nS s (max 1 W.next))) (1+nV s (max 1 W.next)) (nV (nS (nS s (max 1 W.next)) 5) 16).toNat
def qN:AH:=AR (fun q:Ar×A4=>(true,srV q.1) :: [woT q.2]) (fun q=>Az q.1/\Bc q.2/\q.2.next<=1000000000) (fun q=>[(true,srV (DM q.1 q.2).1),wuO (DM q.1 q.2).2])
theorem Tw(s:Ar)(W:A4):qN ((true,srV s) :: [woT W])=some (Az s/\Bc W/\W.next<=1000000000,[(true,srV (DM s W).1),wuO (DM s W).2]):=Aa (fun l=>(G0 (nth l 0),BW (nth l 1))) (fun _=>rfl) (s,W)
theorem zA6:Ck Tryz.prog 41 qN:=by
 refine EZ Ai (GOk.cons IF (AA Tryz.func25 rfl rfl) (GOk.cons zBj (AA Tryz.func96 rfl rfl) (GOk.ptr Gn (AA Tryz.func40 rfl rfl) (GOk.cons X5 (AA Tryz.func38 rfl rfl) (GOk.cons zA (AA Tryz.func86 rfl rfl) (GOk.ptr zA5 (AA Tryz.func87 rfl rfl) (GOk.cons zAc (AA Tryz.func88 rfl rfl) (GOk.ptr zAq (AA Tryz.func89 rfl rfl) (GOk.cons zAd (AA Tryz.func90 rfl rfl) (GOk.ptr Sg (AA Tryz.func91 rfl rfl) (GOk.cons YY (AA Tryz.func7 rfl rfl) (GOk.cons zC2 (AA Tryz.func92 rfl rfl) (GOk.cons zCN (AA Tryz.func93 rfl rfl) (GOk.cons zBl (AA Tryz.func94 rfl rfl) (GOk.cons zAb (AA Tryz.func95 rfl rfl) (GOk.cons zBm (AA Tryz.func97 rfl rfl) (GOk.ptr zw (AA Tryz.func98 rfl rfl) GOk.nil))))))))))))))))) Ah Tryz.func41 rfl Tryz.ntmps41 Tryz.results41 70 ?_;rintro⟨s,W⟩ hs;obtain⟨hs,c,I⟩:Az s/\Bc W/\W.next<=1000000000:=hs;have u:max 1 W.next<=1000000000000000000:=by omega
 have hi:=Gt s u;have z:IntKind.i64.wrap (1+nV s (max 1 W.next))=1+nV s (max 1 W.next):=I8 (by omega) (by omega);obtain⟨t,y⟩:∃t,DM s W=t:=⟨_,rfl⟩;obtain⟨a,g⟩:∃a,1+nV s (max 1 W.next)=a:=⟨_,rfl⟩;rw[g]at z;obtain⟨s1,d⟩:∃s1,nS s (max 1 W.next)=s1:=⟨_,rfl⟩;obtain⟨x,o⟩:∃x,L5 s1=x:=⟨_,rfl⟩;obtain⟨s2,e⟩:∃s2,nS s1 5=s2:=⟨_,rfl⟩;obtain⟨s3,f⟩:∃s3,nS s2 16=s3:=⟨_,rfl⟩;obtain⟨v,hv⟩:∃v:Nat,nV s2 16=v:=⟨_,(Int.toNat_of_nonneg (Gt s2 (m:=16) (by omega)).1).symm⟩;have p:Az s1:=d▸Bn hs _;have q:Az s2:=e▸Bn p 5;have r:Az s3:=f▸Bn q 16;have hn:=c.n;have A:=c.hn;have B:(∀i,i<W.pool.n->(W.pool.s i).kn<=1000000)↔True:=⟨fun _=>trivial,fun _=>c.kn⟩;have b:t=stepAt s3 W x a v:=by
  rw[<-y];unfold DM;rw[d,e,f,o,g,hv];rfl
 have C:v=0->t=(s3,GX W x):=fun h=>by rw[b,h];rfl
 have q1:v=1->t=(FO s3,IW W x (IH s3)):=fun h=>by rw[b,h];rfl
 have D:v=2\/v=3\/v=4->t=(nS s3 3,It W x ([⟨#[115,49]⟩,⟨#[115,50]⟩,⟨#[115,51]⟩].getD (nV s3 3).toNat ⟨#[]⟩)):=fun h=>by rcases h with h | h | h<;>(rw[b,h];rfl)
 have E:v=5->t=(s3,sdE W a):=fun h=>by rw[b,h];rfl
 have F:v=6\/v=7->t=(nS s3 3,Ki W a ([⟨#[98]⟩,⟨#[99]⟩,⟨#[100]⟩].getD (nV s3 3).toNat ⟨#[]⟩)):=fun h=>by rcases h with h | h<;>(rw[b,h];rfl)
 have G:v=8->t=(s3,IS W x):=fun h=>by rw[b,h];rfl
 have H:v=9->t=(s3,IU W x):=fun h=>by rw[b,h];rfl
 have j:v=10->t=(s3,II W x):=fun h=>by rw[b,h];rfl
 have k:v=11->t=(s3,⟨{W with pool:=IV W.pool},0,0,0⟩):=fun h=>by rw[b,h];rfl
 have l:12<=v->t=(My (FO s3),IX W x (IH s3) (Mz (FO s3))):=fun h=>by
  obtain⟨w,rfl⟩:∃w,v=w+12:=⟨v - 12,by omega⟩;rw[b];rfl
 clear b;refine⟨by simp,?_⟩;show ev _ _ _ _ _ _ (LI _ _ [(true,srV (DM s W).1),wuO (DM s W).2]);rw[y];simp[go_sem,zGi,Cp,yJ,zGj,zE1,yL,XK,zEr,yP,zBD,yI,PC,zEe,zEl,zGk,DE,zEq,hs,c,p,q,r,d,e,f,o,g,u,z,hv,hn,A,B,PQ r]
 repeat' first | refine⟨fun _=>?_,fun _=>?_⟩ | fail
 all_goals first
  | (exfalso;omega)
  | rw[C (by omega)]
  | rw[q1 (by omega)]
  | rw[D (by omega)]
  | rw[E (by omega)]
  | rw[F (by omega)]
  | rw[G (by omega)]
  | rw[H (by omega)]
  | rw[j (by omega)]
  | rw[k (by omega)]
  | rw[l (by omega)]
 all_goals first
  | exact⟨⟨⟨TrE.refl _,CB⟩,rfl,rfl,rfl⟩,⟨TrE.refl _,BZ⟩,⟨TrE.refl _,Bj⟩,rfl,rfl,⟨TrE.refl _,CO⟩,⟨TrE.refl _,CN⟩,rfl,rfl,rfl⟩
  | exact⟨by as_aux_lemma=>kernel_rfl,⟨⟨TrE.refl _,CB⟩,rfl,rfl,rfl⟩,⟨TrE.refl _,BZ⟩,⟨TrE.refl _,Bj⟩,rfl,rfl,⟨TrE.refl _,CO⟩,⟨TrE.refl _,CN⟩,rfl,rfl,rfl⟩
structure Im (c:Nat) (s:Ac):Prop where
 dn:s.dn<=450+c
 name:s.name.size<=8000
 A5:0<=s.A5/\s.A5<=1000000
structure Kd (c:Nat) (s:AT):Prop where
 dn:s.dn<=450+c
 name:s.name.size<=8000
 set:s.set.size<=8000
 A5:0<=s.A5/\s.A5<=1000000
 id:0<=s.id/\s.id<=1000000
structure B8 (c:Nat) (W:A4):Prop where
 pool:As W.pool<=19000+c
 sn:W.sn<=9
 pn:W.pn<=21
 next:0<=W.next/\W.next<=900001
 A2:∀i,i<W.sn->Im c (W.A2 i)
 A0:∀i,i<W.pn->Kd c (W.A0 i)
variable{c:Nat}
theorem GC{e:Int}:B8 c (BL e).world:=⟨by show As (Ce 0)<=_;exact Nat.zero_le _,Nat.zero_le _,Nat.zero_le _,by show(0:Int)<=0/\(0:Int)<=900001;omega,fun i hi=>absurd hi (Nat.not_lt_zero _),fun i hi=>absurd hi (Nat.not_lt_zero _)⟩
structure IL (W:A4):Prop where
 pool:As W.pool<=10000
 sn:W.sn<=8
 pn:W.pn<=20
 next:1<=W.next/\W.next<=900000
 A2:∀i,i<W.sn->(W.A2 i).dn<=200/\(W.A2 i).name.size<=20/\0<=(W.A2 i).A5/\(W.A2 i).A5<=900000
 A0:∀i,i<W.pn->(W.A0 i).dn<=200/\(W.A0 i).name.size<=20/\(W.A0 i).set.size<=20/\(0<=(W.A0 i).A5/\(W.A0 i).A5<=900000)/\1<=(W.A0 i).id/\(W.A0 i).id<=900000
theorem H6(h:Ab W):IL W:=by
 obtain⟨o,l,m,n,d,f⟩:=h.AP;have a:=h.AP.Cu;have c:=L9 h;have g:∀x,x=0\/BG W x->0<=x/\x<=900000:=fun x b=>by
  rcases b with rfl | b
  · omega
  · have:=b.range a;omega
 refine⟨MK h.right,m,n,l,fun i hi=>⟨c.1 i hi,(d i hi).1.2.1,g _ (a.A2 i hi)⟩,fun i hi=>⟨c.2 i hi,(f i hi).1.2.2.2.2.1.2.1,?_,g _ (a.A5 i hi),by have:=a.ids i hi;omega⟩⟩;obtain⟨j,k,e⟩:=(f i hi).1.2.2.2.2.2;rw[<-e];exact(d j k).1.2.1
theorem IL.set(h:IL W)(hi:i<W.sn):Im 0 (W.A2 i):=by
 obtain⟨b,c,a,d⟩:=h.A2 i hi;exact⟨by omega,by omega,a,by omega⟩
theorem IL.BI(h:IL W)(hi:i<W.pn):Kd 0 (W.A0 i):=by
 obtain⟨a,b,c,d,e⟩:=h.A0 i hi;exact⟨by omega,by omega,by omega,by omega,by omega⟩
theorem B8.up(h:B8 0 W):B8 c W:=⟨Nat.le_trans h.pool (by omega),h.sn,h.pn,h.next,fun i hi=>⟨Nat.le_trans (h.A2 i hi).dn (by omega),(h.A2 i hi).name,(h.A2 i hi).A5⟩,fun i hi=>⟨Nat.le_trans (h.A0 i hi).dn (by omega),(h.A0 i hi).name,(h.A0 i hi).set,(h.A0 i hi).A5,(h.A0 i hi).id⟩⟩
theorem MB(p:A7)(l:List (Int×Int)):As (Ak p l)=As p+l.length:=by
 obtain⟨a,b,c⟩:=EF l p;unfold As;rw[a,b,c];omega
theorem QD{f:Nat->AG}{j:Nat}:∀{n:Nat},j<n->Ci (f j)<=Cm f n
 | n+1,h=>by
   have e:Cm f (n+1)=Cm f n+Ci (f n):=rfl;by_cases a:j=n
   · rw[e,a];omega
   · have:=QD (f:=f) (j:=j) (n:=n) (by omega)
     omega
theorem B8.Bo(h:B8 c W)(e:c<=10):Bc W:=by
 have g:=h.pool;have a:W.pool.n<=As W.pool:=(by unfold As;omega);have b:W.pool.hn<=As W.pool:=Nat.le_add_left ..;have d:Cm W.pool.s W.pool.n<=As W.pool:=(by unfold As;omega);have hs:=h.sn;have hn:=h.pn;refine⟨⟨by omega,by omega,by omega,by omega,fun i hi=>?_,fun i hi=>?_⟩,fun i hi=>?_⟩
 · have:=(h.A2 i hi).dn;omega
 · have:=(h.A0 i hi).dn;omega
 · have:=QD (f:=W.pool.s) hi
   have:(W.pool.s i).kn<=Ci (W.pool.s i):=Nat.le_add_right ..;omega
theorem Y8{f g:Nat->AG}:∀{n:Nat},(∀i,i<n->Ci (f i)<=Ci (g i))->Cm f n<=Cm g n
 | 0,_=>Nat.le_refl _
 | n+1,h=>Nat.add_le_add (Y8 fun i hi=>h i (by omega)) (h n (by omega))
theorem zDs(p:A7):As (IV p)<=As p:=by
 by_cases h:AX p/\AX (Gs p)
 · rw[Tm h.1 h.2]
   have:Cm (Gs p).s p.n<=Cm p.s p.n:=Y8 fun i hi=>by
    show Ci ((DS p p.hn).s i)<=_;unfold DS;dsimp only;split
    · exact Nat.zero_le _
    · exact Nat.le_refl _
   show p.n+Cm (Gs p).s p.n+0<=p.n+Cm p.s p.n+p.hn;omega
 · rw[Pb h];exact Nat.le_refl _
theorem zGC(W:A4)(x:ByteArray):Dz W x<=W.sn:=by
 by_cases h:∃k,k<W.sn/\¬CM (W.A2 k).name x/\∀j,j<k->CM (W.A2 j).name x
 · obtain⟨k,a,b,c⟩:=h
   rw[Up a b c];omega
 · unfold Dz
   rw[dif_neg h];exact Nat.le_refl _
theorem Ud(L:IL W){x:ByteArray}(b:x.size<=8000){o p rs rb:Int}(a:0<=p/\p<=1000000):B8 0 (JX W (Dz W x) (F3 x o p rs rb)):=by
 have hs:=L.sn;refine⟨by have:=L.pool;show As W.pool<=_;omega,by show W.sn+1<=9;omega,by have:=L.pn;show W.pn<=_;omega,by have:=L.next;show 0<=W.next/\W.next<=_;omega,fun i hi=>?_,fun i hi=>L.BI hi⟩;replace hi:i<W.sn+1:=hi;show Im 0 (ins W.A2 (Dz W x) (F3 x o p rs rb) i);have c:Dz W x<=W.sn:=zGC W x;rcases Nat.lt_trichotomy i (Dz W x)with e | e | e
 · rw[Z3 e];exact L.set (by omega)
 · rw[e,Z1];exact⟨Nat.zero_le _,b,a⟩
 · rw[Z2 e];exact L.set (by omega)
theorem RP(W:A4)(x:ByteArray):B8 0 (GX W x).world:=by
 unfold GX
 repeat' split
 all_goals first
  | exact GC
  | exact Ud (H6 (by rename_i h _;exact h.1)) (by omega) (by omega)
theorem XZ(W:A4)(id:Int)(x:ByteArray):B8 0 (Ki W id x).world:=by
 unfold Ki
 repeat' split
 all_goals first
  | exact GC
  | (rename_i a hR hH _
     have:=hH.range hR.1.AP.Cu;exact Ud (H6 hR.1) (by omega) (by omega))
theorem RR(W:A4)(x a:ByteArray):B8 0 (It W x a).world:=by
 unfold It
 repeat' split
 all_goals first
  | exact GC
  | skip
 rename_i c hR hH _ h20
 have L:=H6 hR.1;have f:=L.pn;have hn:=L.next;have hs:=L.sn;refine⟨by have:=L.pool;show As W.pool<=_;omega,by show W.sn<=9;omega,by show W.pn+1<=21;omega,by show 0<=W.next+1/\W.next+1<=_;omega,fun i hi=>?_,fun i hi=>?_⟩
 · replace hi:i<W.sn:=hi
   show Im 0 (if i=BT W x then {W.A2 (BT W x)with A5:=W.next,dn:=0}else W.A2 i);split
   · rename_i e
     have g:=L.set hi;rw[<-e];exact⟨Nat.zero_le _,g.name,by show 0<=W.next/\W.next<=_;omega⟩
   · exact L.set hi
 · replace hi:i<W.pn+1:=hi
   show Kd 0 (if i=W.pn then M1 W (BT W x) a x else W.A0 i);split
   · have d:=IY hH
     have b:=CW.2 hH;have g:=L.set (i:=BT W x) (by show(BD W.sn fun k=>(W.A2 k).name=x).toNat<W.sn;omega);exact⟨g.dn,by show a.size<=8000;omega,by show x.size<=8000;omega,g.A5,by show 0<=W.next/\W.next<=_;omega⟩
   · exact L.BI (by omega)
theorem X3(W:A4)(k:Nat)(t:Int):(KR W k t).length<=73:=Nat.le_trans (GF ..) (D7 ..)
theorem yh(W:A4)(x:ByteArray):B8 0 (IU W x).world:=by
 unfold IU Me
 repeat' split
 all_goals first
  | exact GC
  | skip
 rename_i a hR hH hK
 have L:=H6 hR;have b:=X3 W (BT W x) (W.A0 (FQ W (W.A2 (BT W x)).A5)).time;refine⟨?_,by have:=L.sn;show W.sn<=9;omega,by have:=L.pn;show W.pn<=21;omega,by have:=L.next;show 0<=W.next/\W.next<=_;omega,fun i hi=>?_,fun i hi=>L.BI hi⟩
 · show As (Ak W.pool _)<=_
   rw[MB];have:=L.pool;omega
 · replace hi:i<W.sn:=hi
   show Im 0 (if i=BT W x then {W.A2 (BT W x)with rs:=_,rb:=_,dn:=0}else W.A2 i);split
   · rename_i e
     have g:=L.set hi;rw[<-e];exact⟨Nat.zero_le _,g.name,g.A5⟩
   · exact L.set hi
theorem yg(W:A4)(x:ByteArray):B8 0 (IS W x).world:=by
 unfold IS
 repeat' split
 all_goals first
  | exact GC
  | skip
 rename_i a hR hH hK
 have L:=H6 hR;have b:=X3 W (BT W x) (AB W (W.A2 (BT W x)).A5).time;refine⟨?_,by have:=L.sn;show W.sn - 1<=9;omega,by have:=L.pn;show W.pn<=21;omega,by have:=L.next;show 0<=W.next/\W.next<=_;omega,fun i hi=>?_,fun i hi=>L.BI hi⟩
 · show As (Ak W.pool _)<=_
   rw[MB];have:=L.pool;omega
 · replace hi:i<W.sn - 1:=hi
   show Im 0 (if i<BT W x then W.A2 i else W.A2 (i+1));split
   · exact L.set (by omega)
   · exact L.set (by omega)
theorem zEK(W:A4)(x:ByteArray):B8 0 (II W x).world:=by
 unfold II MS
 repeat' split
 all_goals first
  | exact GC
  | skip
 rename_i a hR hH _ _
 have L:=H6 hR;refine⟨by have:=L.pool;show As W.pool<=_;omega,by have:=L.sn;show W.sn<=9;omega,by have:=L.pn;show W.pn<=21;omega,by have:=L.next;show 0<=W.next/\W.next<=_;omega,fun i hi=>?_,fun i hi=>?_⟩
 · replace hi:i<W.sn:=hi
   have g:=L.set hi;unfold MT;dsimp only;split
   · rename_i e;rw[<-e];exact⟨g.dn,g.name,g.A5⟩
   · split
     · rename_i e;rw[<-e];exact⟨g.dn,g.name,g.A5⟩
     · exact g
 · replace hi:i<W.pn:=hi
   have g:=L.BI hi;unfold MT FM;dsimp only;split
   · exact⟨g.dn,g.name,by show x.size<=8000;omega,g.A5,g.id⟩
   · exact g
theorem Ue(L:IL W){t:Dt}(a:As t.pool<=As W.pool+40)(b:t.old.length<=3):B8 0 (GS W k t).world:=by
 unfold GS;split;rotate_left
 · exact GC
 have d:(P6 W k t).length<=t.old.length:=GF ..;have c:(qm W k t).length<=t.old.length:=Lw ..;refine⟨?_,by have:=L.sn;show W.sn<=9;omega,by have:=L.pn;show W.pn<=21;omega,by have:=L.next;show 0<=W.next/\W.next<=_;omega,fun i hi=>?_,fun i hi=>L.BI hi⟩
 · show As (Ak t.pool _)<=_
   rw[MB];have:=L.pool;omega
 · replace hi:i<W.sn:=hi
   show Im 0 (if i=k then LK W k t else W.A2 i);split
   · rename_i e
     subst e;have g:=L.set hi;have g':=(L.A2 i hi).1;refine⟨?_,g.name,g.A5⟩;show(MQ W i t).length<=_;unfold MQ;rw[List.length_append,OV];omega
   · exact L.set hi
theorem zB7(W:A4)(x:ByteArray)(a:Int)(d:ByteArray):B8 0 (IX W x a d).world:=by
 unfold IX
 repeat' split
 all_goals first
  | exact GC
  | (rename_i b hR hH
     exact Ue (H6 hR) (RM ..).1 (RM ..).2)
theorem yj(W:A4)(x:ByteArray)(a:Int):B8 0 (IW W x a).world:=by
 unfold IW
 repeat' split
 all_goals first
  | exact GC
  | (rename_i b hR hH
     exact Ue (H6 hR) (RC ..).1 (RC ..).2)
theorem zEL(L:IL W){x:Int}(d:k<W.pn):B8 0 (sdK W x k).world:=by
 have gk:=L.BI d;have l:=(L.A0 k d).1;have a:∀{f:Nat->AT},(∀i,i<W.pn->Kd 0 (f i))->∀i,i<W.pn - 1->Kd 0 (del f k i):=fun {f} c i hi=>by
  unfold del;split
  · exact c i (by omega)
  · exact c (i+1) (by omega)
 have e:∀(n:Nat) (f h:Nat->Int),(sdD W (W.A0 k) n f h).length<=200+n:=fun n f h=>by
  unfold sdD;rw[List.length_append,OV];have:(sdO W (W.A0 k) n f h).length<=n:=Lw ..;omega
 have hs:=L.sn;have o:=L.pn;have hn:=L.next;have p:=L.pool;unfold sdK;split
 · rename_i h
   have hi:=h.choose_spec.1;generalize h.choose=i at hi ⊢;have g:=L.set hi;have g':=(L.A2 i hi).1;have m:(D2 W k i).length<=(W.A2 i).dn:=GF ..;refine⟨by show As (Ak W.pool _)<=_;rw[MB];omega,by show W.sn<=9;omega,by show W.pn - 1<=21;omega,by show 0<=W.next/\W.next<=_;omega,fun j b=>?_,a fun j b=>L.BI b⟩;show Im 0 (if j=i then E8 W (W.A0 k) (W.A2 i)else W.A2 j);split
   · exact⟨Nat.le_trans (e ..) (by omega),g.name,gk.A5⟩
   · exact L.set b
 split
 · rename_i h
   have hi:=h.choose_spec.1;generalize h.choose=i at hi ⊢;have g:=L.BI hi;have g':=(L.A0 i hi).1;have m:(Cz W k i).length<=(W.A0 i).dn:=GF ..;refine⟨by show As (Ak W.pool _)<=_;rw[MB];omega,by show W.sn<=9;omega,by show W.pn - 1<=21;omega,by show 0<=W.next/\W.next<=_;omega,fun j b=>L.set b,a fun j b=>?_⟩;show Kd 0 (if j=i then Dj W (W.A0 k) (W.A0 i)else W.A0 j);split
   · exact⟨Nat.le_trans (e ..) (by omega),g.name,g.set,gk.A5,g.id⟩
   · exact L.BI b
 · exact⟨by show As W.pool<=_;omega,by show W.sn<=9;omega,by show W.pn - 1<=21;omega,by show 0<=W.next/\W.next<=_;omega,fun j b=>L.set b,a fun j b=>L.BI b⟩
theorem Q2(W:A4)(x:Int):B8 0 (sdE W x).world:=by
 unfold sdE
 repeat' split
 all_goals first
  | exact GC
  | skip
 rename_i a hH h1
 refine zEL (H6 a) ?_;have c:=KA hH;have b:=FX.2 hH;show(BD W.pn fun k=>(W.A0 k).id=x).toNat<W.pn;omega
theorem yi(h:B8 c W):B8 c {W with pool:=IV W.pool}:=⟨Nat.le_trans (zDs _) h.pool,h.sn,h.pn,h.next,h.A2,h.A0⟩
abbrev tT:List (Bool×List Tr):=[(false,[.v (.bool true)])]
abbrev byT(n:Nat)(f:Nat->Int):Bool×List Tr:=(false,[.s .z 1 n (GR f)])
def NX(n:Nat)(f:Nat->Int):Prop:=n<=2000000/\∀i,i<n->0<=f i/\f i<256
end
end Go.Proofs.YtnfjcaoclahfjaaGreatDoor
