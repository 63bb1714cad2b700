/- A part of the proof. -/
import Derived.Test.YtibhefllijahkaaGreatDoorF32
set_option linter.unusedVariables false
set_option maxRecDepth 20000
set_option maxHeartbeats 4000000
namespace Go.Proofs.YtibhefllijahkaaGreatDoor
noncomputable section
open Go.RowKit
set_option linter.unusedSimpArgs false
set_option maxRecDepth 20000
set_option maxHeartbeats 3200000
open Classical in
def sdK(W:A5)(x:Int)(k:Nat):BV:=if h:∃i,SE W x i then⟨yr W k h.choose,0,((GJ W k h.choose).length:Int),0⟩else if h:∃i,SD W x i then⟨yq W k h.choose,0,((IP W k h.choose).length:Int),0⟩else⟨{W with pn:=W.pn - 1,A1:=del W.A1 k},0,0,0⟩
open Classical in
def sdE(W:A5)(x:Int):BV:=if Ak W then(if Ba W x then(if 1<Dg W x W.sn+EA W x W.pn then BG 7 else sdK W x (EO W x))else BG 4)else BG 1
structure zJI (W:A5) (x:Int) (k:Nat) (o:BV) (VP:Nat->A8) (VS:Nat->Nat->AM) (m:Nat->Nat) (UP:Nat->A8) (US:Nat->Nat->AL) (l:Nat->Nat):Prop where
 v0:VP 0=W.pool/\VS 0=W.A3/\m 0=0
 vn:∀j,(VP j).n=W.pool.n/\m j<=1000000
 cur:∀j,VS j j=W.A3 j
 no:∀j,j<W.sn->(W.A3 j).A6≠x->VP (j+1)=VP j/\VS (j+1)=VS j/\m (j+1)=m j
 yes:∀j,j<W.sn->(W.A3 j).A6=x->VP (j+1)=Bd (VP j) (GJ W k j)/\VS (j+1)=(fun i=>if i=j then N0 W (W.A1 k) (W.A3 j)else VS j i)/\m (j+1)=m j+(GJ W k j).length/\(VP j).hn<=W.pool.hn
 u0:UP 0=VP W.sn/\US 0=W.A1/\l 0=m W.sn
 un:∀j,(UP j).n=W.pool.n/\l j<=1000000
 cur2:∀j,US j j=W.A1 j
 no2:∀j,j<W.pn->(W.A1 j).A6≠x->UP (j+1)=UP j/\US (j+1)=US j/\l (j+1)=l j
 yes2:∀j,j<W.pn->(W.A1 j).A6=x->UP (j+1)=Bd (UP j) (IP W k j)/\US (j+1)=(fun i=>if i=j then NG W (W.A1 k) (W.A1 j)else US j i)/\l (j+1)=l j+(IP W k j).length/\(UP j).hn<=W.pool.hn
 fin:o=⟨⟨UP W.pn,W.time,W.next,W.sn,VS W.sn,W.pn - 1,del (US W.pn) k⟩,0,l W.pn,0⟩
variable{W:A5}
theorem LQ(h:Ak W):(∀j,j<W.sn->(W.A3 j).dn<=200)/\∀j,j<W.pn->(W.A1 j).dn<=200:=by
 refine⟨fun j a=>?_,fun j a=>?_⟩
 ·have:=(OE h (i:=W.pn+j) (by unfold memN;omega) 0).1.1
  rwa [DN]at this
 ·have:=(OE h (i:=j) (by unfold memN;omega) 0).1.1
  rwa [CU a]at this
theorem TH(W:A5)(x:Int):∀n,Dg W x n=Di (fun i=>(W.A3 i).A6) x n
 | 0=>rfl
 | n+1=>by rw[Dg,Di,TH]
theorem TF(W:A5)(x:Int):∀n,EA W x n=Di (fun i=>(W.A1 i).A6) x n
 | 0=>rfl
 | n+1=>by rw[EA,Di,TF]
variable{x:Int}
theorem zIq{k:Nat}(hs:∀i,i<W.sn->(W.A3 i).dn<=1000000)(y:∀i,i<W.pn->(W.A1 i).dn<=1000000)(w:¬1<Dg W x W.sn+EA W x W.pn):∃t u m r s l,zJI W x k (sdK W x k) t u m r s l:=by
 have q:∀i,i<W.sn->(GJ W k i).length<=1000000:=fun i hi=>Nat.le_trans (GC ..) (hs i hi)
 have v:∀i,i<W.pn->(IP W k i).length<=1000000:=fun i hi=>Nat.le_trans (GC ..) (y i hi)
 rw[TH,TF]at w;unfold sdK;by_cases c:∃i,SE W x i
 ·rw[dif_pos c];obtain⟨hi,g,n,o⟩:=c.choose_spec;generalize c.choose=i at *;refine⟨fun j=>if j<=i then W.pool else Bd W.pool (GJ W k i),fun j=>if j<=i then W.A3 else Se W k i,fun j=>if j<=i then 0 else(GJ W k i).length,fun _=>Bd W.pool (GJ W k i),fun _=>W.A1,fun _=>(GJ W k i).length,⟨by simp,fun j=>?_,fun j=>?_,fun j a e=>?_,fun j a e=>?_,?_,fun j=>⟨(Ft _ _).1,q i hi⟩,fun _=>rfl,fun j a e=>⟨rfl,rfl,rfl⟩,fun j a e=>absurd e (o j a),?_⟩⟩
  ·split
   ·exact⟨rfl,by omega⟩
   ·exact⟨(Ft _ _).1,q i hi⟩
  ·split
   ·rfl
   ·unfold Se;rw[if_neg (by omega)]
  ·have:j≠i:=fun h=>e (by rw[h];exact g)
   have d:(j+1<=i)↔(j<=i):=(by omega);simp[d]
  ·have:j=i:=Classical.not_not.1 fun h=>n j a h e
   subst this;have p:¬j+1<=j:=(by omega);simp[p];rfl
  ·simp[show ¬W.sn<=i by omega]
  ·simp[show ¬W.sn<=i by omega,yr]
 rw[dif_neg c];by_cases b:∃i,SD W x i
 ·rw[dif_pos b];obtain⟨hi,g,n,o⟩:=b.choose_spec;generalize b.choose=i at *;refine⟨fun _=>W.pool,fun _=>W.A3,fun _=>0,fun j=>if j<=i then W.pool else Bd W.pool (IP W k i),fun j=>if j<=i then W.A1 else Sd W k i,fun j=>if j<=i then 0 else(IP W k i).length,⟨by simp,fun j=>⟨rfl,by simp⟩,fun j=>rfl,fun j a e=>⟨rfl,rfl,rfl⟩,fun j a e=>absurd e (o j a),by simp,fun j=>?_,fun j=>?_,fun j a e=>?_,fun j a e=>?_,?_⟩⟩
  ·split
   ·exact⟨rfl,by omega⟩
   ·exact⟨(Ft _ _).1,v i hi⟩
  ·split
   ·rfl
   ·unfold Sd;rw[if_neg (by omega)]
  ·have:j≠i:=fun h=>e (by rw[h];exact g)
   have d:(j+1<=i)↔(j<=i):=(by omega);simp[d]
  ·have:j=i:=Classical.not_not.1 fun h=>n j a h e
   subst this;have p:¬j+1<=j:=(by omega);simp[p];rfl
  ·simp[show ¬W.pn<=i by omega,yq]
 rw[dif_neg b];have z:N8 W x≠1:=fun e=>(zH0 e).elim b c
 unfold N8 at z;have A:∀j,j<W.sn->(W.A3 j).A6≠x:=fun j a e=>by
  have:=VU (f:=fun i=>(W.A3 i).A6) a e;omega
 have B:∀j,j<W.pn->(W.A1 j).A6≠x:=fun j a e=>by
  have:=VU (f:=fun i=>(W.A1 i).A6) a e;omega
 exact⟨fun _=>W.pool,fun _=>W.A3,fun _=>0,fun _=>W.pool,fun _=>W.A1,fun _=>0,⟨by simp,fun j=>⟨rfl,by simp⟩,fun j=>rfl,fun j a e=>⟨rfl,rfl,rfl⟩,fun j a e=>absurd e (A j a),by simp,fun j=>⟨rfl,by simp⟩,fun j=>rfl,fun j a e=>⟨rfl,rfl,rfl⟩,fun j a e=>absurd e (B j a),rfl⟩⟩
attribute [-go_sem] BP
def Zn:AE:=AU (fun q:((A8×Int×Int)×(Nat×(Nat->Nat->Tr))×(Nat×(Nat->Nat->Tr)))×List (Int×Int)=>(true,[.s .o 3 q.1.1.1.n (Ao .z q.1.1.1.s),.s .o 1 q.1.1.1.hn (Ay q.1.1.1.h),.v (.int .i64 q.1.1.2.1),.v (.int .i64 q.1.1.2.2),.s .o 6 q.1.2.1.1 q.1.2.1.2,.s .o 8 q.1.2.2.1 q.1.2.2.2]) :: [psL q.2]) (fun q=>q.1.1.1.hn+q.2.length<=1000000/\(Tr.s .o 6 q.1.2.1.1 q.1.2.1.2).kept/\(Tr.s .o 8 q.1.2.2.1 q.1.2.2.2).kept) (fun q=>[(true,[.s .o 3 q.1.1.1.n (Ao .z q.1.1.1.s),.s .o 1 (Bd q.1.1.1 q.2).hn (Ay (Bd q.1.1.1 q.2).h),.v (.int .i64 q.1.1.2.1),.v (.int .i64 q.1.1.2.2),.s .o 6 q.1.2.1.1 q.1.2.1.2,.s .o 8 q.1.2.2.1 q.1.2.2.2]),iT q.2.length])
theorem X8(p:A8)(a b:Int)(n:Nat)(F:Nat->Nat->Tr)(c:Nat)(G:Nat->Nat->Tr)(l:List (Int×Int)):Zn ((true,[.s .o 3 p.n (Ao .z p.s),.s .o 1 p.hn (Ay p.h),.v (.int .i64 a),.v (.int .i64 b),.s .o 6 n F,.s .o 8 c G]) :: [psL l])=some (p.hn+l.length<=1000000/\(Tr.s .o 6 n F).kept/\(Tr.s .o 8 c G).kept,[(true,[.s .o 3 p.n (Ao .z p.s),.s .o 1 (Bd p l).hn (Ay (Bd p l).h),.v (.int .i64 a),.v (.int .i64 b),.s .o 6 n F,.s .o 8 c G]),iT l.length]):=
 Ac (fun m=>(((CY (nth m 0 0) (nth m 0 1),AQ (nth m 0 2),AQ (nth m 0 3)),(D2 (nth m 0 4),BY (nth m 0 4)),(D2 (nth m 0 5),BY (nth m 0 5))),KA (nth m 1 0))) (fun q=>by exact congrArg (Prod.mk q.1) (Q1 q.2)) (((p,a,b),(n,F),(c,G)),l)
theorem zFQ:Cy Tryz.prog 182 Zn:=by
 refine F2 Ah GOk.nil mixed Tryz.func182 rfl Tryz.ntmps182 Tryz.results182 6 ?_;rintro⟨⟨⟨c,a,b⟩,⟨n,F⟩,j,G⟩,l⟩ hn;obtain⟨hn,t,u⟩:c.hn+l.length<=1000000/\(Tr.s .o 6 n F).kept/\(Tr.s .o 8 j G).kept:=hn;refine⟨by simp,?_⟩;simp[go_sem];refine Ax (fun k:Nat=>⟨[(5,true,.i k),(0,true,.m false [.p 0 0]),(1,true,.m false [.s .b 2 l.length (ptrsT (fun i=>AO l i) (fun i=>AS l i))])],[(0,.var [.h 1000,.h 2000,.v (.int .i64 a),.v (.int .i64 b),.h 5000,.h 6000]),(1000,.row 3 c.n (Ao .z c.s)),(2000,.row 1 (Bd c (l.take k)).hn (Ay (Bd c (l.take k)).h)),(5000,.row 6 n F),(6000,.row 8 j G)]⟩) (fun k=>l.length - k) (fun k=>k<=l.length) 0 (by simp[go_sem,Bd]) (Nat.zero_le _) ?_;intro k q;obtain⟨p,d⟩:∃p,p=Bd c (l.take k):=⟨_,rfl⟩;have r:p.hn=c.hn+k:=by rw[d,(Ft _ _).2.2,List.length_take,Nat.min_eq_left q]
 have g:k<l.length->Bd c (l.take (k+1))=G6 p (AO l k):=fun h=>by
  rw[d,List.take_succ_eq_append_getElem h,Rp,<-LU];simp[h]
 rw[<-d];simp[go_sem,Al (show k<=1000000000 by omega)];refine⟨fun e=>⟨e,by omega,by kernel_rfl,k+1,e,by omega,rfl,?_⟩,fun e=>?_⟩
 ·rw[g e];exact R7
 ·cases (show k=l.length by omega);rw[List.take_length]at d;subst d;exact⟨BT,⟨TrE.refl _,BX⟩,t,u⟩
variable{fl:Fl}{n j:Nat}{F:Nat->Nat->Tr}
theorem zFe{k a:Nat}{T:Tr}(h:(Tr.s fl k n F).kept)(b:T.kept):(Tr.s fl k n (Ab F a j [T])).kept:=by
 refine⟨h.1,fun i q hi c=>?_⟩;unfold Ab;split
 ·rename_i e
  have:q - j=0:=(by have:=e.2.2;simp at this;omega);rw[this];exact b
 ·exact h.2 i q hi c
theorem zGi{m:Nat}{S:Nat->AM}{s:AM}{z:Tr}(h:s.name=(S j).name/\s.origin=(S j).origin/\s.rs=(S j).rs/\s.rb=(S j).rb)(b:TrE (.s .o 2 m F) (.s .o 2 s.dn (ptrsT s.ds s.db))):TrE (.s .o 6 n (Ab (Ab (Ab (setsE .o S) j 5 [z]) j 5 [.s .o 2 m F]) j 2 [.v (.int .i64 s.A6)])) (.s .o 6 n (setsE .o fun i=>if i=j then s else S i)):=by
 refine⟨.inl rfl,rfl,rfl,fun i c hi a=>?_⟩;by_cases e:i=j
 ·subst e;obtain⟨d,g,k,l⟩:=h
  match c,a with
  | 0,_ | 1,_ | 2,_ | 3,_ | 4,_=>exact TrE.of_eq (by simp[Ab,setsE, *])
  | 5,_=>simpa[Ab,setsE]using b
 ·exact TrE.of_eq (by unfold setsE;simp[Ab,e])
theorem zEZ{m:Nat}{S:Nat->AL}{s:AL}(h:s.id=(S j).id/\s.name=(S j).name/\s.set=(S j).set/\s.time=(S j).time/\s.rs=(S j).rs/\s.rb=(S j).rb)(b:TrE (.s .o 2 m F) (.s .o 2 s.dn (ptrsT s.ds s.db))):TrE (.s .o 8 n (Ab (Ab (snapsE .z S) j 7 [.s .o 2 m F]) j 3 [.v (.int .i64 s.A6)])) (.s .o 8 n (snapsE .z fun i=>if i=j then s else S i)):=by
 refine⟨.inl rfl,rfl,rfl,fun i c hi a=>?_⟩;by_cases e:i=j
 ·subst e;obtain⟨d,g,k,l,p,q⟩:=h
  match c,a with
  | 0,_ | 1,_ | 2,_ | 3,_ | 4,_ | 5,_ | 6,_=>exact TrE.of_eq (by simp[Ab,snapsE, *])
  | 7,_=>
   simp[Ab,snapsE];exact⟨.inr ⟨rfl,rfl⟩,b.2⟩
 ·exact TrE.of_eq (by unfold snapsE;simp[Ab,e])
theorem ym{a b:Nat}(h:a<=1000000)(c:b<=1000000):IntKind.i64.wrap ((a:Int)+(b:Int))=((a+b:Nat):Int):=by
 simp[IntKind.wrap,IntKind.bits];omega
def mSd:AE:=AU (fun q:A5×Int=>[woT q.1,iT q.2]) (fun q=>BZ q.1) (fun q=>[wuO (sdE q.1 q.2)])
theorem zIg(W:A5)(x:Int):mSd [woT W,iT x]=some (BZ W,[wuO (sdE W x)]):=Ac (fun l=>(BW (nth l 0),AQ (nth l 1 0))) (fun _=>rfl) (W,x)
theorem zDA:Ae Tryz.prog 137 mSd:=by
 refine Ar Ah (GOk.cons IL (AA Tryz.func30 rfl rfl) (GOk.cons Fv (AA Tryz.func25 rfl rfl) (GOk.cons JA (AA Tryz.func29 rfl rfl) (GOk.cons Gg (AA Tryz.func27 rfl rfl) (GOk.cons LD (AA Tryz.func114 rfl rfl) (GOk.cons zBe (AA Tryz.func180 rfl rfl) (GOk.cons Om (AA Tryz.func181 rfl rfl) (GOk.ptr zFQ (AA Tryz.func182 rfl rfl) GOk.nil)))))))) mixed Tryz.func137 rfl Tryz.ntmps137 Tryz.results137 17 ?_;rintro⟨W,x⟩ r;replace r:BZ W:=r;have hs:=r.sn;have M:=r.pn;refine⟨by simp,?_⟩;by_cases g:Ak W;rotate_left
 ·simp[go_sem,C2,F4,Be,r,r.toSmallW,hs,M,g];exact Bg (if_neg g)
 by_cases F:Ba W x;rotate_left
 ·simp[go_sem,C2,F4,Be,r,r.toSmallW,hs,M,JP,Gx,g,F];exact Bg ((if_pos g).trans (if_neg F))
 have S:=KL F;have aA:=Gx.2 F;have y:EO W x<W.pn:=by show(BC W.pn fun k=>(W.A1 k).id=x).toNat<W.pn;omega
 obtain⟨k,E⟩:∃k,k=EO W x:=⟨_,rfl⟩;have H:(BC W.pn fun k=>(W.A1 k).id=x)=(k:Int):=by rw[E];show _=((BC W.pn fun k=>(W.A1 k).id=x).toNat:Int);omega
 have J:¬(k:Int)<0:=by omega
 rw[<-E]at y;by_cases O:1<Dg W x W.sn+EA W x W.pn
 ·simp[go_sem,C2,F4,Be,XA,r,r.toSmallW,hs,M,H,J,g,show(1:Int)<(Dg W x W.sn:Int)+(EA W x W.pn:Int)by omega];exact Bg ((if_pos g).trans ((if_pos F).trans (if_pos O)))
 have U:sdE W x=sdK W x k:=by
  unfold sdE;rw[if_pos g,if_pos F,if_neg O,<-E]
 obtain⟨L,N,m,K,u,l,run⟩:=zIq (k:=k) r.sd r.pd O;rw[<-U]at run;have hz:=L0 (fun k S=>(g.AX.DG.ids k S).1) (W.A1 k).A6;have Q:¬(1:Int)<(Dg W x W.sn:Int)+(EA W x W.pn:Int):=by omega
 simp[go_sem,C2,F4,Be,XA,DM,K4,r,r.toSmallW,hs,M,H,J,g,Q,y,hz];have R:=run.v0;refine Ax (fun j:Nat=>⟨[(11,true,.i j),(10,true,.i (m j)),(9,true,.i (AC W (W.A1 k).A6).time),(7,true,.m false [.p 7 0]),(6,true,.m false [.p 6 0]),(5,true,.i k),(4,true,.m false [.p 4 0]),(1,true,.i x)],[(7,.var [.v (.int .i64 (W.A1 k).id),.v (.string (W.A1 k).name),.v (.string (W.A1 k).set),.v (.int .i64 (W.A1 k).A6),.v (.int .i64 (W.A1 k).time),.v (.int .i64 (W.A1 k).rs),.v (.int .i64 (W.A1 k).rb),.s .z 2 (W.A1 k).dn (ptrsT (W.A1 k).ds (W.A1 k).db)]),(6,.var [.h 61,.h 62,.v (.int .i64 W.time),.v (.int .i64 W.next),.h 63,.h 64]),(64,.row 8 W.pn (snapsE .z W.A1)),(63,.row 6 W.sn (setsE .o (N j))),(62,.row 1 (L j).hn (Ay (L j).h)),(61,.row 3 (L j).n (Ao .z (L j).s)),(4,.var [.v n0,.v n0,.v i0,.v i0,.v n0,.v n0,.v i0,.v i0,.v i0])]⟩) (fun j=>W.sn - j) (fun j=>j<=W.sn) 0 (by rw[R.1,R.2.1,R.2.2];simp[go_sem]) (Nat.zero_le _) ?_;intro j hj;have G:=run.cur j;simp[go_sem,Al (show j<=1000000000 by omega),G];refine⟨fun B=>⟨B,?_⟩,fun B=>?_⟩
 ·by_cases A:(W.A3 j).A6=x
  ·simp[go_sem,A,B,G,Al (show j<=1000000000 by omega),MQ,X8,GW,I6];obtain⟨t,w,C,T⟩:=run.yes j B A;have X:=(LQ g).1 j B;have hy:(Bz (W.A3 j).ds (W.A3 j).db (AC W (W.A1 k).A6).time (W.A3 j).dn).length<=(W.A3 j).dn:=GC ..;have ho:(Ce (W.A3 j).ds (W.A3 j).db (AC W (W.A1 k).A6).time (W.A3 j).dn).length<=(W.A3 j).dn:=MS ..;have Y:=(LQ g).2 k y;have Z:=Jn g.right;refine⟨by omega,⟨by omega,zFe CB ⟨by simp,fun p q _ _=>by unfold ptrsT;split<;>trivial⟩,CA⟩,by omega,by omega,by kernel_rfl,j+1,B,by omega,⟨rfl,?_⟩,?_,?_,?_⟩
   ·rw[C];exact ym (run.vn j).2 (by omega)
   ·rw[w,<-G];refine zGi (s:=N0 W (W.A1 k) (N j j)) ⟨rfl,rfl,rfl,rfl⟩ (Ny rfl fun a b V P=>?_);unfold Ai;split
    ·rfl
    ·match b,P with
     | 0,_ | 1,_=>rfl
   ·rw[t];exact TrE.refl _
   ·rw[t,(Ft _ _).1,(Ft _ _).2.1];exact TrE.refl _
  ·obtain⟨t,w,C⟩:=run.no j B A;simp[go_sem,A,Al (show j<=1000000000 by omega)];exact⟨j+1,B,by omega,⟨rfl,by rw[C]⟩,by rw[w];exact TrE.refl _,by rw[t];exact TrE.refl _,by rw[t];exact TrE.refl _⟩
 cases (show j=W.sn by omega);have q1:=run.u0;refine Ax (fun i:Nat=>⟨[(14,true,.i i),(10,true,.i (l i)),(9,true,.i (AC W (W.A1 k).A6).time),(7,true,.m false [.p 7 0]),(6,true,.m false [.p 6 0]),(5,true,.i k),(4,true,.m false [.p 4 0]),(1,true,.i x)],[(7,.var [.v (.int .i64 (W.A1 k).id),.v (.string (W.A1 k).name),.v (.string (W.A1 k).set),.v (.int .i64 (W.A1 k).A6),.v (.int .i64 (W.A1 k).time),.v (.int .i64 (W.A1 k).rs),.v (.int .i64 (W.A1 k).rb),.s .z 2 (W.A1 k).dn (ptrsT (W.A1 k).ds (W.A1 k).db)]),(6,.var [.h 61,.h 62,.v (.int .i64 W.time),.v (.int .i64 W.next),.h 63,.h 64]),(64,.row 8 W.pn (snapsE .z (u i))),(63,.row 6 W.sn (setsE .o (N W.sn))),(62,.row 1 (K i).hn (Ay (K i).h)),(61,.row 3 (K i).n (Ao .z (K i).s)),(4,.var [.v n0,.v n0,.v i0,.v i0,.v n0,.v n0,.v i0,.v i0,.v i0])]⟩) (fun i=>W.pn - i) (fun i=>i<=W.pn) 0 (by rw[q1.1,q1.2.1,q1.2.2];simp[go_sem]) (Nat.zero_le _) ?_;intro i hi;have D:=run.cur2 i;simp[go_sem,Al (show i<=1000000000 by omega),D];refine⟨fun d=>⟨d,?_⟩,fun d=>?_⟩
 ·by_cases A:(W.A1 i).A6=x
  ·simp[go_sem,A,d,D,Al (show i<=1000000000 by omega),MQ,X8,GW,I6];obtain⟨t,w,C,T⟩:=run.yes2 i d A;have X:=(LQ g).2 i d;have hy:(Bz (W.A1 i).ds (W.A1 i).db (AC W (W.A1 k).A6).time (W.A1 i).dn).length<=(W.A1 i).dn:=GC ..;have ho:(Ce (W.A1 i).ds (W.A1 i).db (AC W (W.A1 k).A6).time (W.A1 i).dn).length<=(W.A1 i).dn:=MS ..;have Y:=(LQ g).2 k y;have Z:=Jn g.right;refine⟨by omega,⟨by omega,CB,CA⟩,by omega,by omega,by kernel_rfl,i+1,d,by omega,⟨rfl,?_⟩,?_,?_,?_⟩
   ·rw[C];exact ym (run.un i).2 (by omega)
   ·rw[w,<-D];refine zEZ (s:=NG W (W.A1 k) (u i i)) ⟨rfl,rfl,rfl,rfl,rfl,rfl⟩ (Ny rfl fun a b V P=>?_);unfold Ai;split
    ·rfl
    ·match b,P with
     | 0,_ | 1,_=>rfl
   ·rw[t];exact TrE.refl _
   ·rw[t,(Ft _ _).1,(Ft _ _).2.1];exact TrE.refl _
  ·obtain⟨t,w,C⟩:=run.no2 i d A;simp[go_sem,A,Al (show i<=1000000000 by omega)];exact⟨i+1,d,by omega,⟨rfl,by rw[C]⟩,by rw[w];exact TrE.refl _,by rw[t];exact TrE.refl _,by rw[t];exact TrE.refl _⟩
 cases (show i=W.pn by omega);rw[run.fin,Al (show k<=1000000000 by omega)];refine⟨by omega,⟨by omega,by omega⟩,⟨by omega,by omega⟩,⟨by omega,by omega⟩,by kernel_rfl,⟨TrE.refl _,BT⟩,⟨TrE.refl _,BX⟩,rfl,rfl,⟨TrE.refl _,CB⟩,⟨?_,CA⟩,by simp⟩;refine⟨.inl rfl,rfl,by show k+(W.pn - (k+1))=W.pn - 1;omega,fun i c hi G=>TrE.of_eq ?_⟩;show _=snapsE .z (del (u W.pn) k) i c;have e:∀p,(snapsE .z (u W.pn) p c).nt=snapsE .z (u W.pn) p c:=fun p=>by
  match c,G with
  | 0,_ | 1,_ | 2,_ | 3,_ | 4,_ | 5,_ | 6,_ | 7,_=>rfl
 have w:snapsE .z (del (u W.pn) k) i c=snapsE .z (u W.pn) (if i<k then i else i+1) c:=by
  have:del (u W.pn) k i=u W.pn (if i<k then i else i+1):=(by unfold del;split<;>rfl);unfold snapsE;rw[this]
 rw[w];unfold Ai;by_cases I:i<k
 ·simp[I,e]
 ·simp[I,e,show k+1+(i - k)=i+1 by omega]
set_option maxRecDepth 20000
set_option maxHeartbeats 3200000
structure At where
 bn:Nat
 bf:Nat->Int
 pos:Nat
 mix:Int
 size:Int
def GR(h:Nat->Int):Nat->Nat->Tr:=fun i _=>.v (.int .u8 (h i))
variable{h:Nat->Int}{i:Nat}
theorem OC:GR h i j = .v (.int .u8 (h i)):=rfl
abbrev srV(s:At):List Tr:=[.s .z 1 s.bn (GR s.bf),.v (.int .i64 s.pos),.v (.int .u64 s.mix),.v (.int .i64 s.size)]
def GP(f:Nat->Tr):At:=⟨D2 (f 0),fun i=>match BY (f 0) i 0 with | .v (.int _ x)=>x | _=>0,(AQ (f 1)).toNat,match f 2 with | .v (.int _ x)=>x | _=>0,AQ (f 3)⟩
def Mw(a b:Int):Int:=IntKind.u64.wrap ((BitVec.ofInt IntKind.u64.bits a ^^^ BitVec.ofInt IntKind.u64.bits b).toNat)
def Sf(a b:Int):Int:=IntKind.u64.wrap (a*2 ^ (min b.toNat IntKind.u64.bits))
def Mv(a b:Int):Int:=a.fdiv (2 ^ (min b.toNat IntKind.u64.bits))
variable{a b:Int}
theorem SG:Bj .xor .u64 a .u64 b=some (True,.int .u64 (Mw a b)):=rfl
theorem S6:Bj .shl .u64 a .u64 b=some (0<=b,.int .u64 (Sf a b)):=rfl
theorem S7:Bj .shr .u64 a .u64 b=some (0<=b,.int .u64 (Mv a b)):=rfl
theorem PT:Bj .add .u64 a .u64 b=some (True,.int .u64 (IntKind.u64.wrap (a+b))):=rfl
theorem PU:Bj .mul .u64 a .u64 b=some (True,.int .u64 (IntKind.u64.wrap (a*b))):=rfl
theorem PV:Bj .rem .u64 a .u64 b=some (b≠0,.int .u64 (a.tmod b)):=rfl
theorem Rw:Bj .add .i64 a .i64 b=some (True,.int .i64 (IntKind.i64.wrap (a+b))):=rfl
variable{k:IntKind}
theorem S5:Bj .lss k a k b=some (True,.bool (decide (a<b))):=by simp[Bj]
theorem Rz:Bj .leq k a k b=some (True,.bool (decide (a<=b))):=by simp[Bj]
theorem Ry:Bj .gtr k a k b=some (True,.bool (decide (a>b))):=by simp[Bj]
theorem Rx:Bj .eql k a k b=some (True,.bool (a == b)):=by simp[Bj]
theorem C9:(Tr.s .z 1 n (GR h)).kept:=⟨by simp,fun _ _ _ _=>trivial⟩
theorem yn(a:0<=x)(b:x<=1000000000000000000):IntKind.u64.wrap x=x:=by
 simp[IntKind.wrap,IntKind.bits];omega
def Sb(m:Int):Int:=Mw m (Sf m 13)
def Sc(m:Int):Int:=Mw m (Mv m 7)
def SS(m:Int):Int:=Mw m (Sf m 17)
def LN(m:Int):Int:=SS (Sc (Sb m))
def nS(s:At)(most:Int):At:=if most<=1 then s else {s with pos:=if s.pos<s.bn then s.pos+1 else s.pos,mix:=LN s.mix}
def nV(s:At)(most:Int):Int:=if most<=1 then 0 else IntKind.i64.wrap ((IntKind.u64.wrap ((if s.pos<s.bn then s.bf s.pos else 0)+Mv (LN s.mix) 20)).tmod most)
structure B9 (s:At):Prop where
 bn:s.bn<=2000000
 pos:s.pos<=s.bn
 byte:∀i,i<s.bn->0<=s.bf i/\s.bf i<256
 size:0<=s.size/\s.size<=12
theorem Bm{s:At}(h:B9 s)(m:Int):B9 (nS s m):=by
 unfold nS;split
 ·exact h
 ·refine⟨h.bn,?_,h.byte,h.size⟩;have:=h.pos;dsimp only;split<;>omega
attribute [-go_sem] Bj
attribute [local go_sem] SG S6 S7 PT PU PV Rw S5 Rz Ry Rx OC
def mN:AE:=AU (fun q:At×Int=>(true,srV q.1) :: [iT q.2]) (fun q=>B9 q.1/\q.2<=1000000000000000000) (fun q=>[(true,srV (nS q.1 q.2)),iT (nV q.1 q.2)])
theorem DY(s:At)(m:Int):mN ((true,srV s) :: [iT m])=some (B9 s/\m<=1000000000000000000,[(true,srV (nS s m)),iT (nV s m)]):=Ac (fun l=>(GP (nth l 0),AQ (nth l 1 0))) (fun _=>rfl) (s,m)
theorem IQ:Cy Tryz.prog 84 mN:=by
 refine F2 Ah GOk.nil mixed Tryz.func84 rfl Tryz.ntmps84 Tryz.results84 6 ?_;rintro⟨s,m⟩ hs;obtain⟨hs,g⟩:B9 s/\m<=1000000000000000000:=hs;have e:=hs.bn;have i:=hs.pos;refine⟨by simp,?_⟩;simp[go_sem,Al (show s.pos<=1000000000 by omega)];refine⟨fun h=>?_,fun h=>?_⟩
 ·rw[show nS s m=s from if_pos h];exact⟨⟨⟨TrE.refl _,C9⟩,rfl,rfl,rfl⟩,(if_pos h).symm⟩
 have c:¬m<=1:=by omega
 have d:IntKind.u64.wrap m=m:=yn (by omega) (by omega);have b:m≠0:=by omega
 rw[d];rw[show nS s m=_ from if_neg c,show nV s m=_ from if_neg c];refine⟨by kernel_rfl,fun a=>⟨a,by kernel_rfl,by kernel_rfl,by kernel_rfl,by kernel_rfl,b,⟨⟨TrE.refl _,C9⟩,?_,rfl,rfl⟩,?_⟩,fun a=>⟨by kernel_rfl,by kernel_rfl,by kernel_rfl,b,⟨⟨TrE.refl _,C9⟩,?_,rfl,rfl⟩,?_⟩⟩
 ·simp[a]
 ·simp[a,LN,Sb,Sc,SS,yn (hs.byte _ a).1 (by have:=(hs.byte _ a).2;omega)]
 ·simp[Nat.not_lt.2 a]
 ·simp[Nat.not_lt.2 a,LN,Sb,Sc,SS]
set_option maxRecDepth 20000
set_option maxHeartbeats 3200000
theorem zBy(x:Int):0<=IntKind.u64.wrap x:=by
 simp[IntKind.wrap,IntKind.bits,IntKind.signed];omega
theorem J4(h:-1000000000000000000<=x)(a:x<=1000000000000000000):IntKind.i64.wrap x=x:=by
 simp[IntKind.wrap,IntKind.bits,IntKind.signed];omega
theorem GN(s:At){m:Int}(h:1<m)(c:m<=1000000000000000000):0<=nV s m/\nV s m<m:=by
 unfold nV;rw[if_neg (by omega)];have a:=Int.tmod_nonneg m (zBy ((if s.pos<s.bn then s.bf s.pos else 0)+Mv (LN s.mix) 20));have b:=Int.tmod_lt_of_pos (IntKind.u64.wrap ((if s.pos<s.bn then s.bf s.pos else 0)+Mv (LN s.mix) 20)) (show 0<m by omega);rw[J4 (by omega) (by omega)];exact⟨a,b⟩
theorem JL(s:At){m:Int}(a:m<=1000000000000000000):0<=nV s m/\(nV s m<m\/nV s m=0):=by
 by_cases h:1<m
 ·exact⟨(GN s h a).1,.inl (GN s h a).2⟩
 ·have:nV s m=0:=if_pos (by omega);omega
attribute [go_sem] Bj
attribute [-go_sem] Bj
def zK:AE:=AU (fun q:At×Int=>(true,srV q.1) :: [iT q.2]) (fun q=>B9 q.1/\q.2<=1000000000000000000) (fun q=>(true,srV (nS q.1 q.2)) :: bR (nV q.1 q.2=0))
theorem Ek(s:At)(m:Int):zK ((true,srV s) :: [iT m])=some (B9 s/\m<=1000000000000000000,(true,srV (nS s m)) :: bR (nV s m=0)):=Ac (fun l=>(GP (nth l 0),AQ (nth l 1 0))) (fun _=>rfl) (s,m)
theorem PN:Cy Tryz.prog 86 zK:=by
 refine F2 Ah (GOk.ptr IQ (AA Tryz.func84 rfl rfl) GOk.nil) mixed Tryz.func86 rfl Tryz.ntmps86 Tryz.results86 5 ?_;rintro⟨s,m⟩ hs;obtain⟨hs,a⟩:B9 s/\m<=1000000000000000000:=hs;refine⟨by simp,?_⟩;simp[go_sem,DY,hs,a,C9]
def zG:AE:=AU (fun q:Int×Int=>[iT q.1,iT q.2]) (fun _=>True) (fun q=>[iT (max q.1 q.2)])
theorem zHd(a b:Int):zG [iT a,iT b]=some (True,[iT (max a b)]):=Ac (fun l=>(AQ (nth l 0 0),AQ (nth l 1 0))) (fun _=>rfl) (a,b)
theorem zDu:Ae Tryz.prog 133 zG:=by
 refine Ar Ah GOk.nil mixed Tryz.func133 rfl Tryz.ntmps133 Tryz.results133 5 ?_;rintro⟨a,b⟩ -;refine⟨by simp,?_⟩;simp[go_sem];omega
abbrev sT'(d:ByteArray):Bool×List Tr:=(false,[.v (.string d)])
def yC:List Int:=[0,1,-1,2,1000,1001,2147483648,2147483647,-2147483648,4611686018427387904,9223372036854775807,-9223372036854775808,1000000,1000001]
def LS(s:At):Int:=yC.getD (nV s 14).toNat 0
def yN:AE:=AU (fun s:At=>[(true,srV s)]) (fun s=>B9 s) (fun s=>[(true,srV (nS s 14)),iT (LS s)])
theorem MI(s:At):yN [(true,srV s)]=some (B9 s,[(true,srV (nS s 14)),iT (LS s)]):=Ac (fun l=>GP (nth l 0)) (fun _=>rfl) s
theorem TK:Cy Tryz.prog 144 yN:=by
 refine F2 (A:=fun _=>[]) Ah (GOk.ptr IQ (AA Tryz.func84 rfl rfl) GOk.nil) mixed Tryz.func144 rfl Tryz.ntmps144 Tryz.results144 3 ?_;rintro s hs;replace hs:B9 s:=hs;have hv:=GN s (m:=14) (by omega) (by omega);refine⟨by simp,?_⟩;rcases(show nV s 14=0\/nV s 14=1\/nV s 14=2\/nV s 14=3\/nV s 14=4\/nV s 14=5\/nV s 14=6\/nV s 14=7\/nV s 14=8\/nV s 14=9\/nV s 14=10\/nV s 14=11\/nV s 14=12\/nV s 14=13 by omega)with h | h | h | h | h | h | h | h | h | h | h | h | h | h<;>simp[go_sem,DY,hs,h,LS,yC,C9]
def FW(s:At):At:=if nV s 20=0 then nS (nS (nS s 20) 14) 4 else nS (nS s 20) 7
def IN(s:At):Int:=if nV s 20=0 then [-1,63,64,LS (nS s 20)].getD (nV (nS (nS s 20) 14) 4).toNat 0 else [0,1,2,7,8,9,63].getD (nV (nS s 20) 7).toNat 0
theorem Ph{s:At}(h:B9 s):B9 (FW s):=by
 unfold FW;split
 ·exact Bm (Bm (Bm h _) _) _
 ·exact Bm (Bm h _) _
def zI:AE:=AU (fun s:At=>[(true,srV s)]) (fun s=>B9 s) (fun s=>[(true,srV (FW s)),iT (IN s)])
theorem zHe(s:At):zI [(true,srV s)]=some (B9 s,[(true,srV (FW s)),iT (IN s)]):=Ac (fun l=>GP (nth l 0)) (fun _=>rfl) s
theorem zAg:Cy Tryz.prog 135 zI:=by
 refine F2 (A:=fun _=>[]) Ah (GOk.ptr IQ (AA Tryz.func84 rfl rfl) (GOk.ptr PN (AA Tryz.func86 rfl rfl) (GOk.ptr TK (AA Tryz.func144 rfl rfl) GOk.nil))) mixed Tryz.func135 rfl Tryz.ntmps135 Tryz.results135 3 ?_;rintro s hs;replace hs:B9 s:=hs;have a:=Bm hs 20;have c:=Bm a 14;refine⟨by simp,?_⟩;by_cases b:nV s 20=0
 ·have hv:=GN (nS (nS s 20) 14) (m:=4) (by omega) (by omega);rcases(show nV (nS (nS s 20) 14) 4=0\/nV (nS (nS s 20) 14) 4=1\/nV (nS (nS s 20) 14) 4=2\/nV (nS (nS s 20) 14) 4=3 by omega)with h | h | h | h<;>simp[go_sem,DY,Ek,MI,hs,a,c,b,h,FW,IN,C9]
 ·have hv:=GN (nS s 20) (m:=7) (by omega) (by omega);rcases(show nV (nS s 20) 7=0\/nV (nS s 20) 7=1\/nV (nS s 20) 7=2\/nV (nS s 20) 7=3\/nV (nS s 20) 7=4\/nV (nS s 20) 7=5\/nV (nS s 20) 7=6 by omega)with h | h | h | h | h | h | h<;>simp[go_sem,DY,Ek,MI,hs,a,c,b,h,FW,IN,C9]
def KM:AE:=AU (fun q:At×Nat×(Nat->Nat->Tr)=>(true,srV q.1) :: [(false,[.s .b 1 q.2.1 q.2.2])]) (fun q=>B9 q.1/\(0<q.2.1/\q.2.1<=1000000)/\∀i,i<q.2.1->∃t,q.2.2 i 0 = .v (.string t)) (fun q=>[(true,srV (nS q.1 q.2.1)),sT' (C1 (q.2.2 (nV q.1 q.2.1).toNat 0))])
theorem zFp(s:At)(n:Nat)(F:Nat->Nat->Tr):KM ((true,srV s) :: [(false,[.s .b 1 n F])])=some (B9 s/\(0<n/\n<=1000000)/\∀i,i<n->∃t,F i 0 = .v (.string t),[(true,srV (nS s n)),sT' (C1 (F (nV s n).toNat 0))]):=Ac (fun l=>(GP (nth l 0),D2 (nth l 1 0),BY (nth l 1 0))) (fun _=>rfl) (s,n,F)
theorem Pb:Cy Tryz.prog 37 KM:=by
 refine F2 Ah (GOk.ptr IQ (AA Tryz.func84 rfl rfl) GOk.nil) mixed Tryz.func37 rfl Tryz.ntmps37 Tryz.results37 5 ?_;rintro⟨s,n,F⟩ hs;obtain⟨hs,⟨hn,a⟩,hF⟩:B9 s/\(0<n/\n<=1000000)/\∀i,i<n->∃t,F i 0 = .v (.string t):=hs;have hv:=JL s (m:=n) (by omega);obtain⟨t,b⟩:=hF (nV s n).toNat (by omega);refine⟨by simp,?_⟩;simp[go_sem,DY,hs,b,C9,C1];omega
set_option maxRecDepth 20000
set_option maxHeartbeats 3200000
theorem zJK:Bj .quo .i64 a .i64 b=some (b≠0,.int .i64 (IntKind.i64.wrap (a.tdiv b))):=rfl
def Ey(l:List ByteArray):Nat->Nat->Tr:=fun p q=>(l.map fun t=>Tr.v (.string t))[p+q]?.getD (.v (.bool false))
theorem Uf{l:List ByteArray}(h:i<l.length):Ey l i 0 = .v (.string (l.getD i ⟨#[]⟩)):=by
 unfold Ey;simp[h]
theorem Ql(l:List ByteArray):(Tr.s fl 1 n (Ey l)).lend = .s .b 1 n (Ey l):=by
 show Tr.s .b 1 n (fun p q=>(Ey l p q).lend)=_;congr 1;funext p q;unfold Ey;rw[List.getElem?_map];cases l[p+q]?<;>rfl
variable{a b c:ByteArray}
theorem Po:(Tr.s fl 1 3 fun p q=>([.v (.string a),.v (.string b),.v (.string c)]:List Tr)[p+q]?.getD (.v (.bool false))).lend = .s .b 1 3 (Ey [a,b,c]):=Ql [a,b,c]
theorem Pp{d e:ByteArray}:(Tr.s fl 1 5 fun p q=>([.v (.string a),.v (.string b),.v (.string c),.v (.string d),.v (.string e)]:List Tr)[p+q]?.getD (.v (.bool false))).lend = .s .b 1 5 (Ey [a,b,c,d,e]):=Ql [a,b,c,d,e]
theorem RW(s:At)(l:List ByteArray)(h:0<l.length/\l.length<=1000000):KM ((true,srV s) :: [(false,[.s .b 1 l.length (Ey l)])])=some (B9 s,[(true,srV (nS s l.length)),sT' (l.getD (nV s l.length).toNat ⟨#[]⟩)]):=by
 have hv:=JL s (m:=l.length) (by omega);rw[zFp,Uf (by omega)];have e:(B9 s/\(0<l.length/\l.length<=1000000)/\∀i,i<l.length->∃t,Ey l i 0 = .v (.string t))=B9 s:=by
  refine propext ⟨fun h=>h.1,fun hs=>⟨hs,h,fun i hi=>⟨_,Uf hi⟩⟩⟩
 rw[e];rfl
theorem zEB(s:At)(a b c:ByteArray):KM ((true,srV s) :: [(false,[.s .b 1 3 (Ey [a,b,c])])])=some (B9 s,[(true,srV (nS s 3)),sT' ([a,b,c].getD (nV s 3).toNat ⟨#[]⟩)]):=RW s [a,b,c] ⟨by simp,by simp⟩
theorem zED(s:At)(a b c d e:ByteArray):KM ((true,srV s) :: [(false,[.s .b 1 5 (Ey [a,b,c,d,e])])])=some (B9 s,[(true,srV (nS s 5)),sT' ([a,b,c,d,e].getD (nV s 5).toNat ⟨#[]⟩)]):=RW s [a,b,c,d,e] ⟨by simp,by simp⟩
attribute [go_sem] Bj
attribute [local go_sem] Po Pp
attribute [-go_sem] Bj
attribute [local go_sem] zJK
def SN:List ByteArray:=[⟨#[97]⟩,⟨#[97]⟩,⟨#[98]⟩,⟨#[99]⟩,⟨#[100]⟩]
def Ij(s:At):ByteArray:=SN.getD (nV s 5).toNat ⟨#[]⟩
def Zo:AE:=AU (fun s:At=>[(true,srV s)]) (fun s=>B9 s) (fun s=>[(true,srV (nS s 5)),sT' (Ij s)])
theorem X9(s:At):Zo [(true,srV s)]=some (B9 s,[(true,srV (nS s 5)),sT' (Ij s)]):=Ac (fun l=>GP (nth l 0)) (fun _=>rfl) s
theorem YA:Cy Tryz.prog 48 Zo:=by
 refine F2 (A:=fun _=>[]) Ah (GOk.ptr Pb (AA Tryz.func37 rfl rfl) GOk.nil) mixed Tryz.func48 rfl Tryz.ntmps48 Tryz.results48 3 ?_;rintro s hs;replace hs:B9 s:=hs;refine⟨by simp,?_⟩;simp[go_sem,zED,hs,Ij,SN,C9]
def SH(a b:Int):Nat->Nat->Tr:=Ab (Ab (fun _ q=>Tr.v ([Value.int IntKind.u8 0][q]?.getD (Value.bool false))) 0 0 [.v (.int .u8 (IntKind.u8.wrap a))]) 15 0 [.v (.int .u8 (IntKind.u8.wrap (IntKind.i64.wrap (97+b))))]
theorem zFF(a b:Int)(p:Nat):∃x,SH a b p 0 = .v (.int .u8 x):=by
 unfold SH Ab;by_cases c:p=15
 ·exact⟨IntKind.u8.wrap (IntKind.i64.wrap (97+b)),by simp[c]⟩
 ·by_cases d:p=0
  ·exact⟨IntKind.u8.wrap a,by simp[d]⟩
  ·exact⟨0,by simp[c,d]⟩
def NA(s:At):At:=nS (nS s 256) 3
def NB(s:At):ByteArray:=N1 16 (SH (nV s 256) (nV (nS s 256) 3))
def yK:AE:=AU (fun s:At=>[(true,srV s)]) (fun s=>B9 s) (fun s=>[(true,srV (NA s)),sT' (NB s)])
theorem zF3(s:At):yK [(true,srV s)]=some (B9 s,[(true,srV (NA s)),sT' (NB s)]):=Ac (fun l=>GP (nth l 0)) (fun _=>rfl) s
theorem zB4:Cy Tryz.prog 143 yK:=by
 refine F2 (A:=fun _=>[]) Ah (GOk.ptr IQ (AA Tryz.func84 rfl rfl) GOk.nil) mixed Tryz.func143 rfl Tryz.ntmps143 Tryz.results143 4 ?_;rintro s hs;replace hs:B9 s:=hs;have a:=Bm hs 256;refine⟨by simp,?_⟩;simp[go_sem,DY,hs,a,C9];exact⟨fun p _=>zFF _ _ p,⟨TrE.refl _,rfl,rfl,rfl⟩,rfl⟩
def N7(f:Nat->Int):Nat->Int
 | 0=>88172645463325252
 | k+1=>IntKind.u64.wrap (Mw (N7 f k) (IntKind.u64.wrap (f k))*1099511628211)
def Hd(n:Nat)(f:Nat->Int):At:=⟨n,f,0,N7 f (min n 64),min ((n / 20:Nat):Int) 12⟩
def Tz:AE:=AU (fun q:Nat×(Nat->Int)=>[(false,[.s .z 1 q.1 (GR q.2)])]) (fun q=>q.1<=2000000) (fun q=>[(true,srV (Hd q.1 q.2))])
theorem Xq(n:Nat)(f:Nat->Int):Tz [(false,[.s .z 1 n (GR f)])]=some (n<=2000000,[(true,srV (Hd n f))]):=Ac (fun l=>(D2 (nth l 0 0),fun i=>match BY (nth l 0 0) i 0 with | .v (.int _ x)=>x | _=>0)) (fun _=>rfl) (n,f)
theorem Z9:NP Tryz.prog 35 Tz:=by
 refine zEm Ah GOk.nil mixed Tryz.func35 rfl Tryz.ntmps35 Tryz.results35 5 ?_;rintro⟨n,f⟩ hn;replace hn:n<=2000000:=hn;refine⟨by simp,?_⟩;simp[go_sem];refine Ax (fun k:Nat=>⟨[(4,true,.i k),(3,true,.m false [.p 7 0]),(0,true,.m false [.s .z 1 n (GR f)])],[(7,.var [.s .z 1 n (GR f),.v i0,.v (.int .u64 (N7 f k)),.v i0])]⟩) (fun k=>n - k) (fun k=>k<=n/\k<=64) 0 (by simp[go_sem,N7]) (by simp) ?_;rintro k ⟨e,c⟩;simp[go_sem,Al (show k<=1000000000 by omega)];refine⟨fun a d=>⟨a,by kernel_rfl,k+1,by omega,by omega,rfl,rfl⟩,fun h=>?_⟩;have b:min n 64=k:=by omega
 rw[J4 (x:=(n:Int) / 20) (by omega) (by omega)];refine⟨fun a=>⟨⟨TrE.refl _,C9⟩,rfl,by rw[<-b];rfl,?_⟩,fun a=>⟨⟨TrE.refl _,C9⟩,rfl,by rw[<-b];rfl,?_⟩⟩
 ·show(12:Int)=min ((n / 20:Nat):Int) 12;omega
 ·show(n:Int) / 20=min ((n / 20:Nat):Int) 12;omega
theorem OP{f:Nat->Int}(h:n<=2000000)(a:∀i,i<n->0<=f i/\f i<256):B9 (Hd n f):=⟨h,Nat.zero_le _,a,by show 0<=min ((n / 20:Nat):Int) 12/\min ((n / 20:Nat):Int) 12<=12;omega⟩
structure Iu (c:Nat) (s:AM):Prop where
 dn:s.dn<=450+c
 name:s.name.size<=8000
 A6:0<=s.A6/\s.A6<=1000000
structure Ky (c:Nat) (s:AL):Prop where
 dn:s.dn<=450+c
 name:s.name.size<=8000
 set:s.set.size<=8000
 A6:0<=s.A6/\s.A6<=1000000
 id:0<=s.id/\s.id<=1000000
structure Aw (c:Nat) (W:A5):Prop where
 pool:Az W.pool<=19000+c
 sn:W.sn<=9
 pn:W.pn<=21
 next:0<=W.next/\W.next<=900001
 A3:∀i,i<W.sn->Iu c (W.A3 i)
 A1:∀i,i<W.pn->Ky c (W.A1 i)
variable{c:Nat}
theorem GA{e:Int}:Aw c (BG e).world:=⟨by show Az (DW 0)<=_;exact Nat.zero_le _,Nat.zero_le _,Nat.zero_le _,by show(0:Int)<=0/\(0:Int)<=900001;omega,fun i hi=>absurd hi (Nat.not_lt_zero _),fun i hi=>absurd hi (Nat.not_lt_zero _)⟩
structure IV (W:A5):Prop where
 pool:Az W.pool<=10000
 sn:W.sn<=8
 pn:W.pn<=20
 next:1<=W.next/\W.next<=900000
 A3:∀i,i<W.sn->(W.A3 i).dn<=200/\(W.A3 i).name.size<=20/\0<=(W.A3 i).A6/\(W.A3 i).A6<=900000
 A1:∀i,i<W.pn->(W.A1 i).dn<=200/\(W.A1 i).name.size<=20/\(W.A1 i).set.size<=20/\(0<=(W.A1 i).A6/\(W.A1 i).A6<=900000)/\1<=(W.A1 i).id/\(W.A1 i).id<=900000
theorem Hb(h:Ak W):IV W:=by
 obtain⟨o,l,m,n,d,n6⟩:=h.AX;have a:=h.AX.DG;have c:=LQ h;have g:∀x,x=0\/Ba W x->0<=x/\x<=900000:=fun x b=>by
  rcases b with rfl | b
  · omega
  · have:=b.range a;omega
 refine⟨Oq h.right,m,n,l,fun i hi=>⟨c.1 i hi,(d i hi).1.2.1,g _ (a.A3 i hi)⟩,fun i hi=>⟨c.2 i hi,(n6 i hi).1.2.2.2.2.1.2.1,?_,g _ (a.A6 i hi),by have:=a.ids i hi;omega⟩⟩;obtain⟨j,k,e⟩:=(n6 i hi).1.2.2.2.2.2;rw[<-e];exact(d j k).1.2.1
theorem IV.set(h:IV W)(hi:i<W.sn):Iu 0 (W.A3 i):=by
 obtain⟨b,c,a,d⟩:=h.A3 i hi;exact⟨by omega,by omega,a,by omega⟩
theorem IV.snap(h:IV W)(hi:i<W.pn):Ky 0 (W.A1 i):=by
 obtain⟨a,b,c,d,e⟩:=h.A1 i hi;exact⟨by omega,by omega,by omega,by omega,by omega⟩
theorem Aw.up(h:Aw 0 W):Aw c W:=⟨Nat.le_trans h.pool (by omega),h.sn,h.pn,h.next,fun i hi=>⟨Nat.le_trans (h.A3 i hi).dn (by omega),(h.A3 i hi).name,(h.A3 i hi).A6⟩,fun i hi=>⟨Nat.le_trans (h.A1 i hi).dn (by omega),(h.A1 i hi).name,(h.A1 i hi).set,(h.A1 i hi).A6,(h.A1 i hi).id⟩⟩
theorem Mf(p:A8)(l:List (Int×Int)):Az (Bd p l)=Az p+l.length:=by
 obtain⟨a,b,c⟩:=Ft l p;unfold Az;rw[a,b,c];omega
theorem QR{f:Nat->AD}{j:Nat}:∀{n:Nat},j<n->Cu (f j)<=Cl f n
 | n+1,h=>by
   have e:Cl f (n+1)=Cl f n+Cu (f n):=rfl;by_cases a:j=n
   · rw[e,a];omega
   · have:=QR (f:=f) (j:=j) (n:=n) (by omega)
     omega
theorem Aw.Bo(h:Aw c W)(e:c<=10):BZ W:=by
 have g:=h.pool;have a:W.pool.n<=Az W.pool:=(by unfold Az;omega);have b:W.pool.hn<=Az W.pool:=Nat.le_add_left ..;have d:Cl W.pool.s W.pool.n<=Az W.pool:=(by unfold Az;omega);have hs:=h.sn;have hn:=h.pn;refine⟨⟨by omega,by omega,by omega,by omega,fun i hi=>?_,fun i hi=>?_⟩,fun i hi=>?_⟩
 · have:=(h.A3 i hi).dn;omega
 · have:=(h.A1 i hi).dn;omega
 · have:=QR (f:=W.pool.s) hi
   have:(W.pool.s i).kn<=Cu (W.pool.s i):=Nat.le_add_right ..;omega
theorem Yo{f g:Nat->AD}:∀{n:Nat},(∀i,i<n->Cu (f i)<=Cu (g i))->Cl f n<=Cl g n
 | 0,_=>Nat.le_refl _
 | n+1,h=>Nat.add_le_add (Yo fun i hi=>h i (by omega)) (h n (by omega))
theorem zEo(p:A8):Az (Ia p)<=Az p:=by
 by_cases h:Ag p/\Ag (Gw p)
 · rw[Ug h.1 h.2]
   have:Cl (Gw p).s p.n<=Cl p.s p.n:=Yo fun i hi=>by
    show Cu ((Dq p p.hn).s i)<=_;unfold Dq;dsimp only;split
    · exact Nat.zero_le _
    · exact Nat.le_refl _
   show p.n+Cl (Gw p).s p.n+0<=p.n+Cl p.s p.n+p.hn;omega
 · rw[Pe h];exact Nat.le_refl _
theorem zGN(W:A5)(x:ByteArray):Dm W x<=W.sn:=by
 by_cases h:∃k,k<W.sn/\¬BF (W.A3 k).name x/\∀j,j<k->BF (W.A3 j).name x
 · obtain⟨k,a,b,c⟩:=h
   rw[Qi a b c];omega
 · unfold Dm
   rw[dif_neg h];exact Nat.le_refl _
theorem V1(L:IV W){x:ByteArray}(b:x.size<=8000){o p rs rb:Int}(a:0<=p/\p<=1000000):Aw 0 (DE W (Dm W x) (E3 x o p rs rb)):=by
 have hs:=L.sn;refine⟨by have:=L.pool;show Az W.pool<=_;omega,by show W.sn+1<=9;omega,by have:=L.pn;show W.pn<=_;omega,by have:=L.next;show 0<=W.next/\W.next<=_;omega,fun i hi=>?_,fun i hi=>L.snap hi⟩;replace hi:i<W.sn+1:=hi;show Iu 0 (ins W.A3 (Dm W x) (E3 x o p rs rb) i);have c:Dm W x<=W.sn:=zGN W x;rcases Nat.lt_trichotomy i (Dm W x)with e | e | e
 · rw[ET e];exact L.set (by omega)
 · rw[e,ER];exact⟨Nat.zero_le _,b,a⟩
 · rw[ES e];exact L.set (by omega)
theorem Ml(W:A5)(x:ByteArray):Aw 0 (EH W x).world:=by
 unfold EH
 repeat' split
 all_goals first
  | exact GA
  | exact V1 (Hb (by rename_i h _;exact h.1)) (by omega) (by omega)
theorem YT(W:A5)(id:Int)(x:ByteArray):Aw 0 (L2 W id x).world:=by
 unfold L2
 repeat' split
 all_goals first
  | exact GA
  | (rename_i a hR hH _
     have:=hH.range hR.1.AX.DG;exact V1 (Hb hR.1) (by omega) (by omega))
theorem Ro(W:A5)(x a:ByteArray):Aw 0 (J3 W x a).world:=by
 unfold J3
 repeat' split
 all_goals first
  | exact GA
  | skip
 rename_i c hR hH _ h20
 have L:=Hb hR.1;have h:=L.pn;have hn:=L.next;have hs:=L.sn;refine⟨by have:=L.pool;show Az W.pool<=_;omega,by show W.sn<=9;omega,by show W.pn+1<=21;omega,by show 0<=W.next+1/\W.next+1<=_;omega,fun i hi=>?_,fun i hi=>?_⟩
 · replace hi:i<W.sn:=hi
   show Iu 0 (if i=setK W x then {W.A3 (setK W x)with A6:=W.next,dn:=0}else W.A3 i);split
   · rename_i e
     have g:=L.set hi;rw[<-e];exact⟨Nat.zero_le _,g.name,by show 0<=W.next/\W.next<=_;omega⟩
   · exact L.set hi
 · replace hi:i<W.pn+1:=hi
   show Ky 0 (if i=W.pn then MX W (setK W x) a x else W.A1 i);split
   · have d:=Ik hH
     have b:=CW.2 hH;have g:=L.set (i:=setK W x) (by show(BC W.sn fun k=>(W.A3 k).name=x).toNat<W.sn;omega);exact⟨g.dn,by show a.size<=8000;omega,by show x.size<=8000;omega,g.A6,by show 0<=W.next/\W.next<=_;omega⟩
   · exact L.snap (by omega)
theorem Xc(W:A5)(k:Nat)(t:Int):(Kj W k t).length<=73:=Nat.le_trans (GC ..) (De ..)
theorem zDh(W:A5)(x:ByteArray):Aw 0 (Ic W x).world:=by
 unfold Ic Mx
 repeat' split
 all_goals first
  | exact GA
  | skip
 rename_i a hR hH hK
 have L:=Hb hR;have b:=Xc W (setK W x) (W.A1 (EO W (W.A3 (setK W x)).A6)).time;refine⟨?_,by have:=L.sn;show W.sn<=9;omega,by have:=L.pn;show W.pn<=21;omega,by have:=L.next;show 0<=W.next/\W.next<=_;omega,fun i hi=>?_,fun i hi=>L.snap hi⟩
 · show Az (Bd W.pool _)<=_
   rw[Mf];have:=L.pool;omega
 · replace hi:i<W.sn:=hi
   show Iu 0 (if i=setK W x then {W.A3 (setK W x)with rs:=_,rb:=_,dn:=0}else W.A3 i);split
   · rename_i e
     have g:=L.set hi;rw[<-e];exact⟨Nat.zero_le _,g.name,g.A6⟩
   · exact L.set hi
theorem zDg(W:A5)(x:ByteArray):Aw 0 (Ih W x).world:=by
 unfold Ih
 repeat' split
 all_goals first
  | exact GA
  | skip
 rename_i a hR hH hK
 have L:=Hb hR;have b:=Xc W (setK W x) (AC W (W.A3 (setK W x)).A6).time;refine⟨?_,by have:=L.sn;show W.sn - 1<=9;omega,by have:=L.pn;show W.pn<=21;omega,by have:=L.next;show 0<=W.next/\W.next<=_;omega,fun i hi=>?_,fun i hi=>L.snap hi⟩
 · show Az (Bd W.pool _)<=_
   rw[Mf];have:=L.pool;omega
 · replace hi:i<W.sn - 1:=hi
   show Iu 0 (if i<setK W x then W.A3 i else W.A3 (i+1));split
   · exact L.set (by omega)
   · exact L.set (by omega)
theorem Qe(W:A5)(x:ByteArray):Aw 0 (DX W x).world:=by
 unfold DX Gm
 repeat' split
 all_goals first
  | exact GA
  | skip
 rename_i a hR hH _ _
 have L:=Hb hR;refine⟨by have:=L.pool;show Az W.pool<=_;omega,by have:=L.sn;show W.sn<=9;omega,by have:=L.pn;show W.pn<=21;omega,by have:=L.next;show 0<=W.next/\W.next<=_;omega,fun i hi=>?_,fun i hi=>?_⟩
 · replace hi:i<W.sn:=hi
   have g:=L.set hi;unfold Ed;dsimp only;split
   · rename_i e;rw[<-e];exact⟨g.dn,g.name,g.A6⟩
   · split
     · rename_i e;rw[<-e];exact⟨g.dn,g.name,g.A6⟩
     · exact g
 · replace hi:i<W.pn:=hi
   have g:=L.snap hi;unfold Ed EL;dsimp only;split
   · exact⟨g.dn,g.name,by show x.size<=8000;omega,g.A6,g.id⟩
   · exact g
theorem V2(L:IV W){k:Nat}{t:EC}(a:Az t.pool<=Az W.pool+40)(b:t.old.length<=3):Aw 0 (GS W k t).world:=by
 unfold GS;split;rotate_left
 · exact GA
 have d:(PG W k t).length<=t.old.length:=GC ..;have c:(zA W k t).length<=t.old.length:=MS ..;refine⟨?_,by have:=L.sn;show W.sn<=9;omega,by have:=L.pn;show W.pn<=21;omega,by have:=L.next;show 0<=W.next/\W.next<=_;omega,fun i hi=>?_,fun i hi=>L.snap hi⟩
 · show Az (Bd t.pool _)<=_
   rw[Mf];have:=L.pool;omega
 · replace hi:i<W.sn:=hi
   show Iu 0 (if i=k then Lg W k t else W.A3 i);split
   · rename_i e
     subst e;have g:=L.set hi;have g':=(L.A3 i hi).1;refine⟨?_,g.name,g.A6⟩;show(Mq W i t).length<=_;unfold Mq;rw[List.length_append,Oe];omega
   · exact L.set hi
theorem zAu(W:A5)(x:ByteArray)(a:Int)(d:ByteArray):Aw 0 (Il W x a d).world:=by
 unfold Il
 repeat' split
 all_goals first
  | exact GA
  | (rename_i b hR hH
     exact V2 (Hb hR) (Rf ..).1 (Rf ..).2)
theorem zDj(W:A5)(x:ByteArray)(a:Int):Aw 0 (Ib W x a).world:=by
 unfold Ib
 repeat' split
 all_goals first
  | exact GA
  | (rename_i b hR hH
     exact V2 (Hb hR) (Rd ..).1 (Rd ..).2)
theorem zFO(L:IV W){k:Nat}(d:k<W.pn):Aw 0 (sdK W x k).world:=by
 have gk:=L.snap d;have l:=(L.A1 k d).1;have a:∀{f:Nat->AL},(∀i,i<W.pn->Ky 0 (f i))->∀i,i<W.pn - 1->Ky 0 (del f k i):=fun {f} c i hi=>by
  unfold del;split
  · exact c i (by omega)
  · exact c (i+1) (by omega)
 have e:∀(n:Nat) (f h:Nat->Int),(sdD W (W.A1 k) n f h).length<=200+n:=fun n f h=>by
  unfold sdD;rw[List.length_append,Oe];have:(sdO W (W.A1 k) n f h).length<=n:=MS ..;omega
 have hs:=L.sn;have o:=L.pn;have hn:=L.next;have p:=L.pool;unfold sdK;split
 · rename_i h
   have hi:=h.choose_spec.1;generalize h.choose=i at hi ⊢;have g:=L.set hi;have g':=(L.A3 i hi).1;have m:(GJ W k i).length<=(W.A3 i).dn:=GC ..;refine⟨by show Az (Bd W.pool _)<=_;rw[Mf];omega,by show W.sn<=9;omega,by show W.pn - 1<=21;omega,by show 0<=W.next/\W.next<=_;omega,fun j b=>?_,a fun j b=>L.snap b⟩;show Iu 0 (if j=i then N0 W (W.A1 k) (W.A3 i)else W.A3 j);split
   · exact⟨Nat.le_trans (e ..) (by omega),g.name,gk.A6⟩
   · exact L.set b
 split
 · rename_i h
   have hi:=h.choose_spec.1;generalize h.choose=i at hi ⊢;have g:=L.snap hi;have g':=(L.A1 i hi).1;have m:(IP W k i).length<=(W.A1 i).dn:=GC ..;refine⟨by show Az (Bd W.pool _)<=_;rw[Mf];omega,by show W.sn<=9;omega,by show W.pn - 1<=21;omega,by show 0<=W.next/\W.next<=_;omega,fun j b=>L.set b,a fun j b=>?_⟩;show Ky 0 (if j=i then NG W (W.A1 k) (W.A1 i)else W.A1 j);split
   · exact⟨Nat.le_trans (e ..) (by omega),g.name,g.set,gk.A6,g.id⟩
   · exact L.snap b
 · exact⟨by show Az W.pool<=_;omega,by show W.sn<=9;omega,by show W.pn - 1<=21;omega,by show 0<=W.next/\W.next<=_;omega,fun j b=>L.set b,a fun j b=>L.snap b⟩
theorem zHV(W:A5)(x:Int):Aw 0 (sdE W x).world:=by
 unfold sdE
 repeat' split
 all_goals first
  | exact GA
  | skip
 rename_i a hH h1
 refine zFO (Hb a) ?_;have c:=KL hH;have b:=Gx.2 hH;show(BC W.pn fun k=>(W.A1 k).id=x).toNat<W.pn;omega
theorem zDi(h:Aw c W):Aw c {W with pool:=Ia W.pool}:=⟨Nat.le_trans (zEo _) h.pool,h.sn,h.pn,h.next,h.A3,h.A1⟩
abbrev tT:List (Bool×List Tr):=[(false,[.v (.bool true)])]
abbrev byT(n:Nat)(f:Nat->Int):Bool×List Tr:=(false,[.s .z 1 n (GR f)])
def I2(n:Nat)(f:Nat->Int):Prop:=n<=2000000/\∀i,i<n->0<=f i/\f i<256
end
end Go.Proofs.YtibhefllijahkaaGreatDoor
