/- A part of the proof. -/
import Derived.Test.YtehdoekmnicdiaaGreatDoorF32
import Derived.Test.YtehdoekmnicdiaaGreatDoorF24
set_option linter.unusedVariables false
set_option maxRecDepth 20000
set_option maxHeartbeats 4000000
namespace Go.Proofs.YtehdoekmnicdiaaGreatDoor
noncomputable section
open Go.RowKit
set_option linter.unusedSimpArgs false
set_option maxRecDepth 20000
set_option maxHeartbeats 3200000
open Classical in
def sdK(W:A4)(x:Int)(k:Nat):Bk:=if h:∃i,S7 W x i then⟨zd W k h.choose,0,((GK W k h.choose).length:Int),0⟩else if h:∃i,S6 W x i then⟨zb W k h.choose,0,((IM W k h.choose).length:Int),0⟩else⟨{W with pn:=W.pn - 1,A2:=del W.A2 k},0,0,0⟩
open Classical in
def sdE(W:A4)(x:Int):Bk:=if BE W then(if CT W x then(if 1<Dk W x W.sn+E8 W x W.pn then BQ 7 else sdK W x (GQ W x))else BQ 4)else BQ 1
structure zIR (W:A4) (x:Int) (k:Nat) (o:Bk) (VP:Nat->A5) (VS:Nat->Nat->Ad) (m:Nat->Nat) (UP:Nat->A5) (US:Nat->Nat->Ae) (l:Nat->Nat):Prop where
 v0:VP 0=W.pool/\VS 0=W.A1/\m 0=0
 vn:∀j,(VP j).n=W.pool.n/\m j<=1000000
 cur:∀j,VS j j=W.A1 j
 no:∀j,j<W.sn->(W.A1 j).A6≠x->VP (j+1)=VP j/\VS (j+1)=VS j/\m (j+1)=m j
 yes:∀j,j<W.sn->(W.A1 j).A6=x->VP (j+1)=BH (VP j) (GK W k j)/\VS (j+1)=(fun i=>if i=j then Mq W (W.A2 k) (W.A1 j)else VS j i)/\m (j+1)=m j+(GK W k j).length/\(VP j).hn<=W.pool.hn
 u0:UP 0=VP W.sn/\US 0=W.A2/\l 0=m W.sn
 un:∀j,(UP j).n=W.pool.n/\l j<=1000000
 cur2:∀j,US j j=W.A2 j
 no2:∀j,j<W.pn->(W.A2 j).A6≠x->UP (j+1)=UP j/\US (j+1)=US j/\l (j+1)=l j
 yes2:∀j,j<W.pn->(W.A2 j).A6=x->UP (j+1)=BH (UP j) (IM W k j)/\US (j+1)=(fun i=>if i=j then N9 W (W.A2 k) (W.A2 j)else US j i)/\l (j+1)=l j+(IM W k j).length/\(UP j).hn<=W.pool.hn
 fin:o=⟨⟨UP W.pn,W.time,W.next,W.sn,VS W.sn,W.pn - 1,del (US W.pn) k⟩,0,l W.pn,0⟩
variable{W:A4}
theorem LH(h:BE W):(∀j,j<W.sn->(W.A1 j).dn<=200)/\∀j,j<W.pn->(W.A2 j).dn<=200:=by
 refine⟨fun j a=>?_,fun j a=>?_⟩
 ·have:=(Xg h (i:=W.pn+j) (by unfold memN;omega) 0).1.1
  rwa [Cp]at this
 ·have:=(Xg h (i:=j) (by unfold memN;omega) 0).1.1
  rwa [Co a]at this
theorem TV(W:A4)(x:Int):∀n,Dk W x n=Dn (fun i=>(W.A1 i).A6) x n
 | 0=>rfl
 | n+1=>by rw[Dk,Dn,TV]
theorem TS(W:A4)(x:Int):∀n,E8 W x n=Dn (fun i=>(W.A2 i).A6) x n
 | 0=>rfl
 | n+1=>by rw[E8,Dn,TS]
variable{x:Int}
theorem zI5{k:Nat}(hs:∀i,i<W.sn->(W.A1 i).dn<=1000000)(y:∀i,i<W.pn->(W.A2 i).dn<=1000000)(w:¬1<Dk W x W.sn+E8 W x W.pn):∃t u m r s l,zIR W x k (sdK W x k) t u m r s l:=by
 have q:∀i,i<W.sn->(GK W k i).length<=1000000:=fun i hi=>Nat.le_trans (GH ..) (hs i hi)
 have v:∀i,i<W.pn->(IM W k i).length<=1000000:=fun i hi=>Nat.le_trans (GH ..) (y i hi)
 rw[TV,TS]at w;unfold sdK;by_cases c:∃i,S7 W x i
 ·rw[dif_pos c];obtain⟨hi,g,n,o⟩:=c.choose_spec;generalize c.choose=i at *;refine⟨fun j=>if j<=i then W.pool else BH W.pool (GK W k i),fun j=>if j<=i then W.A1 else SZ W k i,fun j=>if j<=i then 0 else(GK W k i).length,fun _=>BH W.pool (GK W k i),fun _=>W.A2,fun _=>(GK W k i).length,⟨by simp,fun j=>?_,fun j=>?_,fun j a e=>?_,fun j a e=>?_,?_,fun j=>⟨(EL _ _).1,q i hi⟩,fun _=>rfl,fun j a e=>⟨rfl,rfl,rfl⟩,fun j a e=>absurd e (o j a),?_⟩⟩
  ·split
   ·exact⟨rfl,by omega⟩
   ·exact⟨(EL _ _).1,q i hi⟩
  ·split
   ·rfl
   ·unfold SZ;rw[if_neg (by omega)]
  ·have:j≠i:=fun h=>e (by rw[h];exact g)
   have d:(j+1<=i)↔(j<=i):=(by omega);simp[d]
  ·have:j=i:=Classical.not_not.1 fun h=>n j a h e
   subst this;have p:¬j+1<=j:=(by omega);simp[p];rfl
  ·simp[show ¬W.sn<=i by omega]
  ·simp[show ¬W.sn<=i by omega,zd]
 rw[dif_neg c];by_cases b:∃i,S6 W x i
 ·rw[dif_pos b];obtain⟨hi,g,n,o⟩:=b.choose_spec;generalize b.choose=i at *;refine⟨fun _=>W.pool,fun _=>W.A1,fun _=>0,fun j=>if j<=i then W.pool else BH W.pool (IM W k i),fun j=>if j<=i then W.A2 else SY W k i,fun j=>if j<=i then 0 else(IM W k i).length,⟨by simp,fun j=>⟨rfl,by simp⟩,fun j=>rfl,fun j a e=>⟨rfl,rfl,rfl⟩,fun j a e=>absurd e (o j a),by simp,fun j=>?_,fun j=>?_,fun j a e=>?_,fun j a e=>?_,?_⟩⟩
  ·split
   ·exact⟨rfl,by omega⟩
   ·exact⟨(EL _ _).1,v i hi⟩
  ·split
   ·rfl
   ·unfold SY;rw[if_neg (by omega)]
  ·have:j≠i:=fun h=>e (by rw[h];exact g)
   have d:(j+1<=i)↔(j<=i):=(by omega);simp[d]
  ·have:j=i:=Classical.not_not.1 fun h=>n j a h e
   subst this;have p:¬j+1<=j:=(by omega);simp[p];rfl
  ·simp[show ¬W.pn<=i by omega,zb]
 rw[dif_neg b];have z:Mu W x≠1:=fun e=>(zH1 e).elim b c
 unfold Mu at z;have A:∀j,j<W.sn->(W.A1 j).A6≠x:=fun j a e=>by
  have:=VX (f:=fun i=>(W.A1 i).A6) a e;omega
 have B:∀j,j<W.pn->(W.A2 j).A6≠x:=fun j a e=>by
  have:=VX (f:=fun i=>(W.A2 i).A6) a e;omega
 exact⟨fun _=>W.pool,fun _=>W.A1,fun _=>0,fun _=>W.pool,fun _=>W.A2,fun _=>0,⟨by simp,fun j=>⟨rfl,by simp⟩,fun j=>rfl,fun j a e=>⟨rfl,rfl,rfl⟩,fun j a e=>absurd e (A j a),by simp,fun j=>⟨rfl,by simp⟩,fun j=>rfl,fun j a e=>⟨rfl,rfl,rfl⟩,fun j a e=>absurd e (B j a),rfl⟩⟩
attribute [-go_sem] Bz
def qG:AJ:=AU (fun q:((A5×Int×Int)×(Nat×(Nat->Nat->Tr))×(Nat×(Nat->Nat->Tr)))×List (Int×Int)=>(true,[.s .o 3 q.1.1.1.n (Aw .z q.1.1.1.s),.s .o 1 q.1.1.1.hn (BF q.1.1.1.h),.v (.int .i64 q.1.1.2.1),.v (.int .i64 q.1.1.2.2),.s .o 6 q.1.2.1.1 q.1.2.1.2,.s .o 8 q.1.2.2.1 q.1.2.2.2]) :: [psL q.2]) (fun q=>q.1.1.1.hn+q.2.length<=1000000/\(Tr.s .o 6 q.1.2.1.1 q.1.2.1.2).kept/\(Tr.s .o 8 q.1.2.2.1 q.1.2.2.2).kept) (fun q=>[(true,[.s .o 3 q.1.1.1.n (Aw .z q.1.1.1.s),.s .o 1 (BH q.1.1.1 q.2).hn (BF (BH q.1.1.1 q.2).h),.v (.int .i64 q.1.1.2.1),.v (.int .i64 q.1.1.2.2),.s .o 6 q.1.2.1.1 q.1.2.1.2,.s .o 8 q.1.2.2.1 q.1.2.2.2]),iT q.2.length])
theorem Vx(p:A5)(a b:Int)(n:Nat)(F:Nat->Nat->Tr)(c:Nat)(G:Nat->Nat->Tr)(l:List (Int×Int)):qG ((true,[.s .o 3 p.n (Aw .z p.s),.s .o 1 p.hn (BF p.h),.v (.int .i64 a),.v (.int .i64 b),.s .o 6 n F,.s .o 8 c G]) :: [psL l])=some (p.hn+l.length<=1000000/\(Tr.s .o 6 n F).kept/\(Tr.s .o 8 c G).kept,[(true,[.s .o 3 p.n (Aw .z p.s),.s .o 1 (BH p l).hn (BF (BH p l).h),.v (.int .i64 a),.v (.int .i64 b),.s .o 6 n F,.s .o 8 c G]),iT l.length]):=
 Af (fun m=>(((Cs (nth m 0 0) (nth m 0 1),AQ (nth m 0 2),AQ (nth m 0 3)),(DI (nth m 0 4),Br (nth m 0 4)),(DI (nth m 0 5),Br (nth m 0 5))),K7 (nth m 1 0))) (fun q=>by exact congrArg (Prod.mk q.1) (Pr q.2)) (((p,a,b),(n,F),(c,G)),l)
theorem zEn:D7 Tryz.prog 84 qG:=by
 refine EW Al GOk.nil Ak Tryz.func84 rfl Tryz.ntmps84 Tryz.results84 6 ?_;rintro⟨⟨⟨c,a,b⟩,⟨n,F⟩,g,G⟩,l⟩ hn;obtain⟨hn,r,t⟩:c.hn+l.length<=1000000/\(Tr.s .o 6 n F).kept/\(Tr.s .o 8 g G).kept:=hn;refine⟨by simp,?_⟩;simp[go_sem];refine BC (fun k:Nat=>⟨[(5,true,.i k),(0,true,.m false [.p 0 0]),(1,true,.m false [.s .b 2 l.length (ptrsT (fun i=>AK l i) (fun i=>AM l i))])],[(0,.var [.h 1000,.h 2000,.v (.int .i64 a),.v (.int .i64 b),.h 5000,.h 6000]),(1000,.row 3 c.n (Aw .z c.s)),(2000,.row 1 (BH c (l.take k)).hn (BF (BH c (l.take k)).h)),(5000,.row 6 n F),(6000,.row 8 g G)]⟩) (fun k=>l.length - k) (fun k=>k<=l.length) 0 (by simp[go_sem,BH]) (Nat.zero_le _) ?_;intro k j;obtain⟨p,d⟩:∃p,p=BH c (l.take k):=⟨_,rfl⟩;have q:p.hn=c.hn+k:=by rw[d,(EL _ _).2.2,List.length_take,Nat.min_eq_left j]
 have f:k<l.length->BH c (l.take (k+1))=CM p (AK l k):=fun h=>by
  rw[d,List.take_succ_eq_append_getElem h,Oy,<-LJ];simp[h]
 rw[<-d];simp[go_sem,Ao (show k<=1000000000 by omega)];refine⟨fun e=>⟨e,by omega,by kernel_rfl,k+1,e,by omega,rfl,?_⟩,fun e=>?_⟩
 ·rw[f e];exact Qq
 ·cases (show k=l.length by omega);rw[List.take_length]at d;subst d;exact⟨Bg,⟨TrE.refl _,Bq⟩,r,t⟩
variable{fl:Fl}{n j:Nat}{F:Nat->Nat->Tr}
theorem zF4{k a:Nat}{T:Tr}(h:(Tr.s fl k n F).kept)(b:T.kept):(Tr.s fl k n (Ab F a j [T])).kept:=by
 refine⟨h.1,fun i q hi c=>?_⟩;unfold Ab;split
 ·rename_i e
  have:q - j=0:=(by have:=e.2.2;simp at this;omega);rw[this];exact b
 ·exact h.2 i q hi c
theorem zHB{m:Nat}{S:Nat->Ad}{s:Ad}{z:Tr}(h:s.name=(S j).name/\s.origin=(S j).origin/\s.rs=(S j).rs/\s.rb=(S j).rb)(b:TrE (.s .o 2 m F) (.s .o 2 s.dn (ptrsT s.ds s.db))):TrE (.s .o 6 n (Ab (Ab (Ab (setsE .o S) j 5 [z]) j 5 [.s .o 2 m F]) j 2 [.v (.int .i64 s.A6)])) (.s .o 6 n (setsE .o fun i=>if i=j then s else S i)):=by
 refine⟨.inl rfl,rfl,rfl,fun i c hi a=>?_⟩;by_cases e:i=j
 ·subst e;obtain⟨d,f,g,k⟩:=h
  match c,a with
  | 0,_ | 1,_ | 2,_ | 3,_ | 4,_=>exact TrE.of_eq (by simp[Ab,setsE, *])
  | 5,_=>simpa[Ab,setsE]using b
 ·exact TrE.of_eq (by unfold setsE;simp[Ab,e])
theorem zFz{m:Nat}{S:Nat->Ae}{s:Ae}(h:s.id=(S j).id/\s.name=(S j).name/\s.set=(S j).set/\s.time=(S j).time/\s.rs=(S j).rs/\s.rb=(S j).rb)(b:TrE (.s .o 2 m F) (.s .o 2 s.dn (ptrsT s.ds s.db))):TrE (.s .o 8 n (Ab (Ab (snapsE .z S) j 7 [.s .o 2 m F]) j 3 [.v (.int .i64 s.A6)])) (.s .o 8 n (snapsE .z fun i=>if i=j then s else S i)):=by
 refine⟨.inl rfl,rfl,rfl,fun i c hi a=>?_⟩;by_cases e:i=j
 ·subst e;obtain⟨d,f,g,k,l,p⟩:=h
  match c,a with
  | 0,_ | 1,_ | 2,_ | 3,_ | 4,_ | 5,_ | 6,_=>exact TrE.of_eq (by simp[Ab,snapsE, *])
  | 7,_=>
   simp[Ab,snapsE];exact⟨.inr ⟨rfl,rfl⟩,b.2⟩
 ·exact TrE.of_eq (by unfold snapsE;simp[Ab,e])
theorem yu{a b:Nat}(h:a<=1000000)(c:b<=1000000):IntKind.i64.wrap ((a:Int)+(b:Int))=((a+b:Nat):Int):=by
 simp[IntKind.wrap,IntKind.bits];omega
def mSd:AJ:=AU (fun q:A4×Int=>[woT q.1,iT q.2]) (fun q=>Bw q.1) (fun q=>[wuO (sdE q.1 q.2)])
theorem zHu(W:A4)(x:Int):mSd [woT W,iT x]=some (Bw W,[wuO (sdE W x)]):=Af (fun l=>(C3 (nth l 0),AQ (nth l 1 0))) (fun _=>rfl) (W,x)
theorem zD6:Am Tryz.prog 104 mSd:=by
 refine Az Al (GOk.cons IK (AB Tryz.func81 rfl rfl) (GOk.cons Fo (AB Tryz.func29 rfl rfl) (GOk.cons J7 (AB Tryz.func94 rfl rfl) (GOk.cons Gi (AB Tryz.func31 rfl rfl) (GOk.cons L6 (AB Tryz.func82 rfl rfl) (GOk.cons zBp (AB Tryz.func151 rfl rfl) (GOk.cons Ot (AB Tryz.func83 rfl rfl) (GOk.ptr zEn (AB Tryz.func84 rfl rfl) GOk.nil)))))))) Ak Tryz.func104 rfl Tryz.ntmps104 Tryz.results104 17 ?_;rintro⟨W,x⟩ g;replace g:Bw W:=g;have hs:=g.sn;have L:=g.pn;refine⟨by simp,?_⟩;by_cases f:BE W;rotate_left
 ·simp[go_sem,CH,Ep,C1,g,g.toSmallW,hs,L,f];exact C2 (if_neg f)
 by_cases E:CT W x;rotate_left
 ·simp[go_sem,CH,Ep,C1,g,g.toSmallW,hs,L,JQ,Gr,f,E];exact C2 ((if_pos f).trans (if_neg E))
 have R:=KB E;have Z:=Gr.2 E;have w:GQ W x<W.pn:=by show(BO W.pn fun k=>(W.A2 k).id=x).toNat<W.pn;omega
 obtain⟨k,D⟩:∃k,k=GQ W x:=⟨_,rfl⟩;have G:(BO W.pn fun k=>(W.A2 k).id=x)=(k:Int):=by rw[D];show _=((BO W.pn fun k=>(W.A2 k).id=x).toNat:Int);omega
 have I:¬(k:Int)<0:=by omega
 rw[<-D]at w;by_cases N:1<Dk W x W.sn+E8 W x W.pn
 ·simp[go_sem,CH,Ep,C1,Vy,g,g.toSmallW,hs,L,G,I,f,show(1:Int)<(Dk W x W.sn:Int)+(E8 W x W.pn:Int)by omega];exact C2 ((if_pos f).trans ((if_pos E).trans (if_pos N)))
 have T:sdE W x=sdK W x k:=by
  unfold sdE;rw[if_pos f,if_pos E,if_neg N,<-D]
 obtain⟨K,M,m,J,t,l,run⟩:=zI5 (k:=k) g.sd g.pd N;rw[<-T]at run;have hz:=Ko (fun k R=>(f.Ap.EM.ids k R).1) (W.A2 k).A6;have P:¬(1:Int)<(Dk W x W.sn:Int)+(E8 W x W.pn:Int):=by omega
 simp[go_sem,CH,Ep,C1,Vy,DW,Jr,g,g.toSmallW,hs,L,G,I,f,P,w,hz];have Q:=run.v0;refine BC (fun j:Nat=>⟨[(11,true,.i j),(10,true,.i (m j)),(9,true,.i (AI W (W.A2 k).A6).time),(7,true,.m false [.p 7 0]),(6,true,.m false [.p 6 0]),(5,true,.i k),(4,true,.m false [.p 4 0]),(1,true,.i x)],[(7,.var [.v (.int .i64 (W.A2 k).id),.v (.string (W.A2 k).name),.v (.string (W.A2 k).set),.v (.int .i64 (W.A2 k).A6),.v (.int .i64 (W.A2 k).time),.v (.int .i64 (W.A2 k).rs),.v (.int .i64 (W.A2 k).rb),.s .z 2 (W.A2 k).dn (ptrsT (W.A2 k).ds (W.A2 k).db)]),(6,.var [.h 61,.h 62,.v (.int .i64 W.time),.v (.int .i64 W.next),.h 63,.h 64]),(64,.row 8 W.pn (snapsE .z W.A2)),(63,.row 6 W.sn (setsE .o (M j))),(62,.row 1 (K j).hn (BF (K j).h)),(61,.row 3 (K j).n (Aw .z (K j).s)),(4,.var [.v n0,.v n0,.v i0,.v i0,.v n0,.v n0,.v i0,.v i0,.v i0])]⟩) (fun j=>W.sn - j) (fun j=>j<=W.sn) 0 (by rw[Q.1,Q.2.1,Q.2.2];simp[go_sem]) (Nat.zero_le _) ?_;intro j hj;have F:=run.cur j;simp[go_sem,Ao (show j<=1000000000 by omega),F];refine⟨fun A=>⟨A,?_⟩,fun A=>?_⟩
 ·by_cases y:(W.A1 j).A6=x
  ·simp[go_sem,y,A,F,Ao (show j<=1000000000 by omega),MF,Vx,GX,HJ];obtain⟨r,u,B,S⟩:=run.yes j A y;have V:=(LH f).1 j A;have hy:(Bj (W.A1 j).ds (W.A1 j).db (AI W (W.A2 k).A6).time (W.A1 j).dn).length<=(W.A1 j).dn:=GH ..;have ho:(C5 (W.A1 j).ds (W.A1 j).db (AI W (W.A2 k).A6).time (W.A1 j).dn).length<=(W.A1 j).dn:=MI ..;have X:=(LH f).2 k w;have Y:=M8 f.right;refine⟨by omega,⟨by omega,zF4 CX ⟨by simp,fun p q _ _=>by unfold ptrsT;split<;>trivial⟩,CW⟩,by omega,by omega,by kernel_rfl,j+1,A,by omega,⟨rfl,?_⟩,?_,?_,?_⟩
   ·rw[B];exact yu (run.vn j).2 (by omega)
   ·rw[u,<-F];refine zHB (s:=Mq W (W.A2 k) (M j j)) ⟨rfl,rfl,rfl,rfl⟩ (No rfl fun a b U O=>?_);unfold Ah;split
    ·rfl
    ·match b,O with
     | 0,_ | 1,_=>rfl
   ·rw[r];exact TrE.refl _
   ·rw[r,(EL _ _).1,(EL _ _).2.1];exact TrE.refl _
  ·obtain⟨r,u,B⟩:=run.no j A y;simp[go_sem,y,Ao (show j<=1000000000 by omega)];exact⟨j+1,A,by omega,⟨rfl,by rw[B]⟩,by rw[u];exact TrE.refl _,by rw[r];exact TrE.refl _,by rw[r];exact TrE.refl _⟩
 cases (show j=W.sn by omega);have q1:=run.u0;refine BC (fun i:Nat=>⟨[(14,true,.i i),(10,true,.i (l i)),(9,true,.i (AI W (W.A2 k).A6).time),(7,true,.m false [.p 7 0]),(6,true,.m false [.p 6 0]),(5,true,.i k),(4,true,.m false [.p 4 0]),(1,true,.i x)],[(7,.var [.v (.int .i64 (W.A2 k).id),.v (.string (W.A2 k).name),.v (.string (W.A2 k).set),.v (.int .i64 (W.A2 k).A6),.v (.int .i64 (W.A2 k).time),.v (.int .i64 (W.A2 k).rs),.v (.int .i64 (W.A2 k).rb),.s .z 2 (W.A2 k).dn (ptrsT (W.A2 k).ds (W.A2 k).db)]),(6,.var [.h 61,.h 62,.v (.int .i64 W.time),.v (.int .i64 W.next),.h 63,.h 64]),(64,.row 8 W.pn (snapsE .z (t i))),(63,.row 6 W.sn (setsE .o (M W.sn))),(62,.row 1 (J i).hn (BF (J i).h)),(61,.row 3 (J i).n (Aw .z (J i).s)),(4,.var [.v n0,.v n0,.v i0,.v i0,.v n0,.v n0,.v i0,.v i0,.v i0])]⟩) (fun i=>W.pn - i) (fun i=>i<=W.pn) 0 (by rw[q1.1,q1.2.1,q1.2.2];simp[go_sem]) (Nat.zero_le _) ?_;intro i hi;have C:=run.cur2 i;simp[go_sem,Ao (show i<=1000000000 by omega),C];refine⟨fun d=>⟨d,?_⟩,fun d=>?_⟩
 ·by_cases y:(W.A2 i).A6=x
  ·simp[go_sem,y,d,C,Ao (show i<=1000000000 by omega),MF,Vx,GX,HJ];obtain⟨r,u,B,S⟩:=run.yes2 i d y;have V:=(LH f).2 i d;have hy:(Bj (W.A2 i).ds (W.A2 i).db (AI W (W.A2 k).A6).time (W.A2 i).dn).length<=(W.A2 i).dn:=GH ..;have ho:(C5 (W.A2 i).ds (W.A2 i).db (AI W (W.A2 k).A6).time (W.A2 i).dn).length<=(W.A2 i).dn:=MI ..;have X:=(LH f).2 k w;have Y:=M8 f.right;refine⟨by omega,⟨by omega,CX,CW⟩,by omega,by omega,by kernel_rfl,i+1,d,by omega,⟨rfl,?_⟩,?_,?_,?_⟩
   ·rw[B];exact yu (run.un i).2 (by omega)
   ·rw[u,<-C];refine zFz (s:=N9 W (W.A2 k) (t i i)) ⟨rfl,rfl,rfl,rfl,rfl,rfl⟩ (No rfl fun a b U O=>?_);unfold Ah;split
    ·rfl
    ·match b,O with
     | 0,_ | 1,_=>rfl
   ·rw[r];exact TrE.refl _
   ·rw[r,(EL _ _).1,(EL _ _).2.1];exact TrE.refl _
  ·obtain⟨r,u,B⟩:=run.no2 i d y;simp[go_sem,y,Ao (show i<=1000000000 by omega)];exact⟨i+1,d,by omega,⟨rfl,by rw[B]⟩,by rw[u];exact TrE.refl _,by rw[r];exact TrE.refl _,by rw[r];exact TrE.refl _⟩
 cases (show i=W.pn by omega);rw[run.fin,Ao (show k<=1000000000 by omega)];refine⟨by omega,⟨by omega,by omega⟩,⟨by omega,by omega⟩,⟨by omega,by omega⟩,by kernel_rfl,⟨TrE.refl _,Bg⟩,⟨TrE.refl _,Bq⟩,rfl,rfl,⟨TrE.refl _,CX⟩,⟨?_,CW⟩,by simp⟩;refine⟨.inl rfl,rfl,by show k+(W.pn - (k+1))=W.pn - 1;omega,fun i c hi F=>TrE.of_eq ?_⟩;show _=snapsE .z (del (t W.pn) k) i c;have e:∀p,(snapsE .z (t W.pn) p c).nt=snapsE .z (t W.pn) p c:=fun p=>by
  match c,F with
  | 0,_ | 1,_ | 2,_ | 3,_ | 4,_ | 5,_ | 6,_ | 7,_=>rfl
 have u:snapsE .z (del (t W.pn) k) i c=snapsE .z (t W.pn) (if i<k then i else i+1) c:=by
  have:del (t W.pn) k i=t W.pn (if i<k then i else i+1):=(by unfold del;split<;>rfl);unfold snapsE;rw[this]
 rw[u];unfold Ah;by_cases H:i<k
 ·simp[H,e]
 ·simp[H,e,show k+1+(i - k)=i+1 by omega]
set_option maxRecDepth 20000
set_option maxHeartbeats 3200000
structure Ar where
 bn:Nat
 bf:Nat->Int
 pos:Nat
 mix:Int
 size:Int
def G5(h:Nat->Int):Nat->Nat->Tr:=fun i _=>.v (.int .u8 (h i))
variable{h:Nat->Int}{i:Nat}
theorem MB:G5 h i j = .v (.int .u8 (h i)):=rfl
abbrev srV(s:Ar):List Tr:=[.s .z 1 s.bn (G5 s.bf),.v (.int .i64 s.pos),.v (.int .u64 s.mix),.v (.int .i64 s.size)]
def G2(f:Nat->Tr):Ar:=⟨DI (f 0),fun i=>match Br (f 0) i 0 with | .v (.int _ x)=>x | _=>0,(AQ (f 1)).toNat,match f 2 with | .v (.int _ x)=>x | _=>0,AQ (f 3)⟩
def Mm(a b:Int):Int:=IntKind.u64.wrap ((BitVec.ofInt IntKind.u64.bits a ^^^ BitVec.ofInt IntKind.u64.bits b).toNat)
def Sa(a b:Int):Int:=IntKind.u64.wrap (a*2 ^ (min b.toNat IntKind.u64.bits))
def Ml(a b:Int):Int:=a.fdiv (2 ^ (min b.toNat IntKind.u64.bits))
variable{a b:Int}
theorem N6:CG .xor .u64 a .u64 b=some (True,.int .u64 (Mm a b)):=rfl
theorem N4:CG .shl .u64 a .u64 b=some (0<=b,.int .u64 (Sa a b)):=rfl
theorem N5:CG .shr .u64 a .u64 b=some (0<=b,.int .u64 (Ml a b)):=rfl
theorem NM:CG .add .u64 a .u64 b=some (True,.int .u64 (IntKind.u64.wrap (a+b))):=rfl
theorem NN:CG .mul .u64 a .u64 b=some (True,.int .u64 (IntKind.u64.wrap (a*b))):=rfl
theorem NO:CG .rem .u64 a .u64 b=some (b≠0,.int .u64 (a.tmod b)):=rfl
theorem Mz:CG .add .i64 a .i64 b=some (True,.int .i64 (IntKind.i64.wrap (a+b))):=rfl
variable{k:IntKind}
theorem N3:CG .lss k a k b=some (True,.bool (decide (a<b))):=by simp[CG]
theorem N2:CG .leq k a k b=some (True,.bool (decide (a<=b))):=by simp[CG]
theorem N1:CG .gtr k a k b=some (True,.bool (decide (a>b))):=by simp[CG]
theorem N0:CG .eql k a k b=some (True,.bool (a == b)):=by simp[CG]
theorem CR:(Tr.s .z 1 n (G5 h)).kept:=⟨by simp,fun _ _ _ _=>trivial⟩
theorem yv(a:0<=x)(b:x<=1000000000000000000):IntKind.u64.wrap x=x:=by
 simp[IntKind.wrap,IntKind.bits];omega
def ST(m:Int):Int:=Mm m (Sa m 13)
def SU(m:Int):Int:=Mm m (Ml m 7)
def SV(m:Int):Int:=Mm m (Sa m 17)
def LB(m:Int):Int:=SV (SU (ST m))
def nS(s:Ar)(most:Int):Ar:=if most<=1 then s else {s with pos:=if s.pos<s.bn then s.pos+1 else s.pos,mix:=LB s.mix}
def nV(s:Ar)(most:Int):Int:=if most<=1 then 0 else IntKind.i64.wrap ((IntKind.u64.wrap ((if s.pos<s.bn then s.bf s.pos else 0)+Ml (LB s.mix) 20)).tmod most)
structure B7 (s:Ar):Prop where
 bn:s.bn<=2000000
 pos:s.pos<=s.bn
 byte:∀i,i<s.bn->0<=s.bf i/\s.bf i<256
 size:0<=s.size/\s.size<=12
theorem Bl{s:Ar}(h:B7 s)(m:Int):B7 (nS s m):=by
 unfold nS;split
 ·exact h
 ·refine⟨h.bn,?_,h.byte,h.size⟩;have:=h.pos;dsimp only;split<;>omega
attribute [-go_sem] CG
attribute [local go_sem] N6 N4 N5 NM NN NO Mz N3 N2 N1 N0 MB
def mN:AJ:=AU (fun q:Ar×Int=>(true,srV q.1) :: [iT q.2]) (fun q=>B7 q.1/\q.2<=1000000000000000000) (fun q=>[(true,srV (nS q.1 q.2)),iT (nV q.1 q.2)])
theorem DF(s:Ar)(m:Int):mN ((true,srV s) :: [iT m])=some (B7 s/\m<=1000000000000000000,[(true,srV (nS s m)),iT (nV s m)]):=Af (fun l=>(G2 (nth l 0),AQ (nth l 1 0))) (fun _=>rfl) (s,m)
theorem GJ:D7 Tryz.prog 21 mN:=by
 refine EW Al GOk.nil Ak Tryz.func21 rfl Tryz.ntmps21 Tryz.results21 6 ?_;rintro⟨s,m⟩ hs;obtain⟨hs,f⟩:B7 s/\m<=1000000000000000000:=hs;have e:=hs.bn;have g:=hs.pos;refine⟨by simp,?_⟩;simp[go_sem,Ao (show s.pos<=1000000000 by omega)];refine⟨fun h=>?_,fun h=>?_⟩
 ·rw[show nS s m=s from if_pos h];exact⟨⟨⟨TrE.refl _,CR⟩,rfl,rfl,rfl⟩,(if_pos h).symm⟩
 have c:¬m<=1:=by omega
 have d:IntKind.u64.wrap m=m:=yv (by omega) (by omega);have b:m≠0:=by omega
 rw[d];rw[show nS s m=_ from if_neg c,show nV s m=_ from if_neg c];refine⟨by kernel_rfl,fun a=>⟨a,by kernel_rfl,by kernel_rfl,by kernel_rfl,by kernel_rfl,b,⟨⟨TrE.refl _,CR⟩,?_,rfl,rfl⟩,?_⟩,fun a=>⟨by kernel_rfl,by kernel_rfl,by kernel_rfl,b,⟨⟨TrE.refl _,CR⟩,?_,rfl,rfl⟩,?_⟩⟩
 ·simp[a]
 ·simp[a,LB,ST,SU,SV,yv (hs.byte _ a).1 (by have:=(hs.byte _ a).2;omega)]
 ·simp[Nat.not_lt.2 a]
 ·simp[Nat.not_lt.2 a,LB,ST,SU,SV]
set_option maxRecDepth 20000
set_option maxHeartbeats 3200000
theorem zC5(x:Int):0<=IntKind.u64.wrap x:=by
 simp[IntKind.wrap,IntKind.bits,IntKind.signed];omega
theorem Fi(h:-1000000000000000000<=x)(a:x<=1000000000000000000):IntKind.i64.wrap x=x:=by
 simp[IntKind.wrap,IntKind.bits,IntKind.signed];omega
theorem Ex(s:Ar){m:Int}(h:1<m)(c:m<=1000000000000000000):0<=nV s m/\nV s m<m:=by
 unfold nV;rw[if_neg (by omega)];have a:=Int.tmod_nonneg m (zC5 ((if s.pos<s.bn then s.bf s.pos else 0)+Ml (LB s.mix) 20));have b:=Int.tmod_lt_of_pos (IntKind.u64.wrap ((if s.pos<s.bn then s.bf s.pos else 0)+Ml (LB s.mix) 20)) (show 0<m by omega);rw[Fi (by omega) (by omega)];exact⟨a,b⟩
theorem JI(s:Ar){m:Int}(a:m<=1000000000000000000):0<=nV s m/\(nV s m<m\/nV s m=0):=by
 by_cases h:1<m
 ·exact⟨(Ex s h a).1,.inl (Ex s h a).2⟩
 ·have:nV s m=0:=if_pos (by omega);omega
attribute [go_sem] CG
attribute [-go_sem] CG
def zQ:AJ:=AU (fun q:Ar×Int=>(true,srV q.1) :: [iT q.2]) (fun q=>B7 q.1/\q.2<=1000000000000000000) (fun q=>(true,srV (nS q.1 q.2)) :: bR (nV q.1 q.2=0))
theorem EF(s:Ar)(m:Int):zQ ((true,srV s) :: [iT m])=some (B7 s/\m<=1000000000000000000,(true,srV (nS s m)) :: bR (nV s m=0)):=Af (fun l=>(G2 (nth l 0),AQ (nth l 1 0))) (fun _=>rfl) (s,m)
theorem NF:D7 Tryz.prog 19 zQ:=by
 refine EW Al (GOk.ptr GJ (AB Tryz.func21 rfl rfl) GOk.nil) Ak Tryz.func19 rfl Tryz.ntmps19 Tryz.results19 5 ?_;rintro⟨s,m⟩ hs;obtain⟨hs,a⟩:B7 s/\m<=1000000000000000000:=hs;refine⟨by simp,?_⟩;simp[go_sem,DF,hs,a,CR]
def zL:AJ:=AU (fun q:Int×Int=>[iT q.1,iT q.2]) (fun _=>True) (fun q=>[iT (max q.1 q.2)])
theorem zGr(a b:Int):zL [iT a,iT b]=some (True,[iT (max a b)]):=Af (fun l=>(AQ (nth l 0 0),AQ (nth l 1 0))) (fun _=>rfl) (a,b)
theorem zAJ:Am Tryz.prog 102 zL:=by
 refine Az Al GOk.nil Ak Tryz.func102 rfl Tryz.ntmps102 Tryz.results102 5 ?_;rintro⟨a,b⟩ -;refine⟨by simp,?_⟩;simp[go_sem];omega
abbrev sT'(d:ByteArray):Bool×List Tr:=(false,[.v (.string d)])
def qp:List Int:=[0,1,-1,2,1000,1001,2147483648,2147483647,-2147483648,4611686018427387904,9223372036854775807,-9223372036854775808,1000000,1000001]
def KI(s:Ar):Int:=qp.getD (nV s 14).toNat 0
def yK:AJ:=AU (fun s:Ar=>[(true,srV s)]) (fun s=>B7 s) (fun s=>[(true,srV (nS s 14)),iT (KI s)])
theorem Lv(s:Ar):yK [(true,srV s)]=some (B7 s,[(true,srV (nS s 14)),iT (KI s)]):=Af (fun l=>G2 (nth l 0)) (fun _=>rfl) s
theorem U3:D7 Tryz.prog 44 yK:=by
 refine EW (A:=fun _=>[]) Al (GOk.ptr GJ (AB Tryz.func21 rfl rfl) GOk.nil) Ak Tryz.func44 rfl Tryz.ntmps44 Tryz.results44 3 ?_;rintro s hs;replace hs:B7 s:=hs;have hv:=Ex s (m:=14) (by omega) (by omega);refine⟨by simp,?_⟩;rcases(show nV s 14=0\/nV s 14=1\/nV s 14=2\/nV s 14=3\/nV s 14=4\/nV s 14=5\/nV s 14=6\/nV s 14=7\/nV s 14=8\/nV s 14=9\/nV s 14=10\/nV s 14=11\/nV s 14=12\/nV s 14=13 by omega)with h | h | h | h | h | h | h | h | h | h | h | h | h | h<;>simp[go_sem,DF,hs,h,KI,qp,CR]
def Ed(s:Ar):Ar:=if nV s 20=0 then nS (nS (nS s 20) 14) 4 else nS (nS s 20) 7
def Ee(s:Ar):Int:=if nV s 20=0 then [-1,63,64,KI (nS s 20)].getD (nV (nS (nS s 20) 14) 4).toNat 0 else [0,1,2,7,8,9,63].getD (nV (nS s 20) 7).toNat 0
theorem Lh{s:Ar}(h:B7 s):B7 (Ed s):=by
 unfold Ed;split
 ·exact Bl (Bl (Bl h _) _) _
 ·exact Bl (Bl h _) _
def zN:AJ:=AU (fun s:Ar=>[(true,srV s)]) (fun s=>B7 s) (fun s=>[(true,srV (Ed s)),iT (Ee s)])
theorem NY(s:Ar):zN [(true,srV s)]=some (B7 s,[(true,srV (Ed s)),iT (Ee s)]):=Af (fun l=>G2 (nth l 0)) (fun _=>rfl) s
theorem RM:D7 Tryz.prog 18 zN:=by
 refine EW (A:=fun _=>[]) Al (GOk.ptr GJ (AB Tryz.func21 rfl rfl) (GOk.ptr NF (AB Tryz.func19 rfl rfl) (GOk.ptr U3 (AB Tryz.func44 rfl rfl) GOk.nil))) Ak Tryz.func18 rfl Tryz.ntmps18 Tryz.results18 3 ?_;rintro s hs;replace hs:B7 s:=hs;have a:=Bl hs 20;have c:=Bl a 14;refine⟨by simp,?_⟩;by_cases b:nV s 20=0
 ·have hv:=Ex (nS (nS s 20) 14) (m:=4) (by omega) (by omega);rcases(show nV (nS (nS s 20) 14) 4=0\/nV (nS (nS s 20) 14) 4=1\/nV (nS (nS s 20) 14) 4=2\/nV (nS (nS s 20) 14) 4=3 by omega)with h | h | h | h<;>simp[go_sem,DF,EF,Lv,hs,a,c,b,h,Ed,Ee,CR]
 ·have hv:=Ex (nS s 20) (m:=7) (by omega) (by omega);rcases(show nV (nS s 20) 7=0\/nV (nS s 20) 7=1\/nV (nS s 20) 7=2\/nV (nS s 20) 7=3\/nV (nS s 20) 7=4\/nV (nS s 20) 7=5\/nV (nS s 20) 7=6 by omega)with h | h | h | h | h | h | h<;>simp[go_sem,DF,EF,Lv,hs,a,c,b,h,Ed,Ee,CR]
def LN:AJ:=AU (fun q:Ar×Nat×(Nat->Nat->Tr)=>(true,srV q.1) :: [(false,[.s .b 1 q.2.1 q.2.2])]) (fun q=>B7 q.1/\(0<q.2.1/\q.2.1<=1000000)/\∀i,i<q.2.1->∃t,q.2.2 i 0 = .v (.string t)) (fun q=>[(true,srV (nS q.1 q.2.1)),sT' (CK (q.2.2 (nV q.1 q.2.1).toNat 0))])
theorem zFE(s:Ar)(n:Nat)(F:Nat->Nat->Tr):LN ((true,srV s) :: [(false,[.s .b 1 n F])])=some (B7 s/\(0<n/\n<=1000000)/\∀i,i<n->∃t,F i 0 = .v (.string t),[(true,srV (nS s n)),sT' (CK (F (nV s n).toNat 0))]):=Af (fun l=>(G2 (nth l 0),DI (nth l 1 0),Br (nth l 1 0))) (fun _=>rfl) (s,n,F)
theorem Tf:D7 Tryz.prog 43 LN:=by
 refine EW Al (GOk.ptr GJ (AB Tryz.func21 rfl rfl) GOk.nil) Ak Tryz.func43 rfl Tryz.ntmps43 Tryz.results43 5 ?_;rintro⟨s,n,F⟩ hs;obtain⟨hs,⟨hn,a⟩,hF⟩:B7 s/\(0<n/\n<=1000000)/\∀i,i<n->∃t,F i 0 = .v (.string t):=hs;have hv:=JI s (m:=n) (by omega);obtain⟨t,b⟩:=hF (nV s n).toNat (by omega);refine⟨by simp,?_⟩;simp[go_sem,DF,hs,b,CR,CK];omega
set_option maxRecDepth 20000
set_option maxHeartbeats 3200000
theorem zIT:CG .quo .i64 a .i64 b=some (b≠0,.int .i64 (IntKind.i64.wrap (a.tdiv b))):=rfl
def FR(l:List ByteArray):Nat->Nat->Tr:=fun p q=>(l.map fun t=>Tr.v (.string t))[p+q]?.getD (.v (.bool false))
theorem UQ{l:List ByteArray}(h:i<l.length):FR l i 0 = .v (.string (l.getD i ⟨#[]⟩)):=by
 unfold FR;simp[h]
theorem Vu(l:List ByteArray):(Tr.s fl 1 n (FR l)).lend = .s .b 1 n (FR l):=by
 show Tr.s .b 1 n (fun p q=>(FR l p q).lend)=_;congr 1;funext p q;unfold FR;rw[List.getElem?_map];cases l[p+q]?<;>rfl
variable{a b c:ByteArray}
theorem NW:(Tr.s fl 1 3 fun p q=>([.v (.string a),.v (.string b),.v (.string c)]:List Tr)[p+q]?.getD (.v (.bool false))).lend = .s .b 1 3 (FR [a,b,c]):=Vu [a,b,c]
theorem NX{d e:ByteArray}:(Tr.s fl 1 5 fun p q=>([.v (.string a),.v (.string b),.v (.string c),.v (.string d),.v (.string e)]:List Tr)[p+q]?.getD (.v (.bool false))).lend = .s .b 1 5 (FR [a,b,c,d,e]):=Vu [a,b,c,d,e]
theorem Xq(s:Ar)(l:List ByteArray)(h:0<l.length/\l.length<=1000000):LN ((true,srV s) :: [(false,[.s .b 1 l.length (FR l)])])=some (B7 s,[(true,srV (nS s l.length)),sT' (l.getD (nV s l.length).toNat ⟨#[]⟩)]):=by
 have hv:=JI s (m:=l.length) (by omega);rw[zFE,UQ (by omega)];have e:(B7 s/\(0<l.length/\l.length<=1000000)/\∀i,i<l.length->∃t,FR l i 0 = .v (.string t))=B7 s:=by
  refine propext ⟨fun h=>h.1,fun hs=>⟨hs,h,fun i hi=>⟨_,UQ hi⟩⟩⟩
 rw[e];rfl
theorem zDa(s:Ar)(a b c:ByteArray):LN ((true,srV s) :: [(false,[.s .b 1 3 (FR [a,b,c])])])=some (B7 s,[(true,srV (nS s 3)),sT' ([a,b,c].getD (nV s 3).toNat ⟨#[]⟩)]):=Xq s [a,b,c] ⟨by simp,by simp⟩
theorem zDb(s:Ar)(a b c d e:ByteArray):LN ((true,srV s) :: [(false,[.s .b 1 5 (FR [a,b,c,d,e])])])=some (B7 s,[(true,srV (nS s 5)),sT' ([a,b,c,d,e].getD (nV s 5).toNat ⟨#[]⟩)]):=Xq s [a,b,c,d,e] ⟨by simp,by simp⟩
attribute [go_sem] CG
attribute [local go_sem] NW NX
attribute [-go_sem] CG
attribute [local go_sem] zIT
def SC:List ByteArray:=[⟨#[97]⟩,⟨#[97]⟩,⟨#[98]⟩,⟨#[99]⟩,⟨#[100]⟩]
def GO(s:Ar):ByteArray:=SC.getD (nV s 5).toNat ⟨#[]⟩
def qH:AJ:=AU (fun s:Ar=>[(true,srV s)]) (fun s=>B7 s) (fun s=>[(true,srV (nS s 5)),sT' (GO s)])
theorem OJ(s:Ar):qH [(true,srV s)]=some (B7 s,[(true,srV (nS s 5)),sT' (GO s)]):=Af (fun l=>G2 (nth l 0)) (fun _=>rfl) s
theorem RU:D7 Tryz.prog 17 qH:=by
 refine EW (A:=fun _=>[]) Al (GOk.ptr Tf (AB Tryz.func43 rfl rfl) GOk.nil) Ak Tryz.func17 rfl Tryz.ntmps17 Tryz.results17 3 ?_;rintro s hs;replace hs:B7 s:=hs;refine⟨by simp,?_⟩;simp[go_sem,zDb,hs,GO,SC,CR]
def SA(a b:Int):Nat->Nat->Tr:=Ab (Ab (fun _ q=>Tr.v ([Value.int IntKind.u8 0][q]?.getD (Value.bool false))) 0 0 [.v (.int .u8 (IntKind.u8.wrap a))]) 15 0 [.v (.int .u8 (IntKind.u8.wrap (IntKind.i64.wrap (97+b))))]
theorem zEa(a b:Int)(p:Nat):∃x,SA a b p 0 = .v (.int .u8 x):=by
 unfold SA Ab;by_cases c:p=15
 ·exact⟨IntKind.u8.wrap (IntKind.i64.wrap (97+b)),by simp[c]⟩
 ·by_cases d:p=0
  ·exact⟨IntKind.u8.wrap a,by simp[d]⟩
  ·exact⟨0,by simp[c,d]⟩
def N8(s:Ar):Ar:=nS (nS s 256) 3
def JM(s:Ar):ByteArray:=GR 16 (SA (nV s 256) (nV (nS s 256) 3))
def qy:AJ:=AU (fun s:Ar=>[(true,srV s)]) (fun s=>B7 s) (fun s=>[(true,srV (N8 s)),sT' (JM s)])
theorem V7(s:Ar):qy [(true,srV s)]=some (B7 s,[(true,srV (N8 s)),sT' (JM s)]):=Af (fun l=>G2 (nth l 0)) (fun _=>rfl) s
theorem Ya:D7 Tryz.prog 22 qy:=by
 refine EW (A:=fun _=>[]) Al (GOk.ptr GJ (AB Tryz.func21 rfl rfl) GOk.nil) Ak Tryz.func22 rfl Tryz.ntmps22 Tryz.results22 4 ?_;rintro s hs;replace hs:B7 s:=hs;have a:=Bl hs 256;refine⟨by simp,?_⟩;simp[go_sem,DF,hs,a,CR];exact⟨fun p _=>zEa _ _ p,⟨TrE.refl _,rfl,rfl,rfl⟩,rfl⟩
def Mt(f:Nat->Int):Nat->Int
 | 0=>88172645463325252
 | k+1=>IntKind.u64.wrap (Mm (Mt f k) (IntKind.u64.wrap (f k))*1099511628211)
def F2(n:Nat)(f:Nat->Int):Ar:=⟨n,f,0,Mt f (min n 64),min ((n / 20:Nat):Int) 12⟩
def TE:AJ:=AU (fun q:Nat×(Nat->Int)=>[(false,[.s .z 1 q.1 (G5 q.2)])]) (fun q=>q.1<=2000000) (fun q=>[(true,srV (F2 q.1 q.2))])
theorem RX(n:Nat)(f:Nat->Int):TE [(false,[.s .z 1 n (G5 f)])]=some (n<=2000000,[(true,srV (F2 n f))]):=Af (fun l=>(DI (nth l 0 0),fun i=>match Br (nth l 0 0) i 0 with | .v (.int _ x)=>x | _=>0)) (fun _=>rfl) (n,f)
theorem Z4:NK Tryz.prog 15 TE:=by
 refine zE7 Al GOk.nil Ak Tryz.func15 rfl Tryz.ntmps15 Tryz.results15 5 ?_;rintro⟨n,f⟩ hn;replace hn:n<=2000000:=hn;refine⟨by simp,?_⟩;simp[go_sem];refine BC (fun k:Nat=>⟨[(4,true,.i k),(3,true,.m false [.p 7 0]),(0,true,.m false [.s .z 1 n (G5 f)])],[(7,.var [.s .z 1 n (G5 f),.v i0,.v (.int .u64 (Mt f k)),.v i0])]⟩) (fun k=>n - k) (fun k=>k<=n/\k<=64) 0 (by simp[go_sem,Mt]) (by simp) ?_;rintro k ⟨e,c⟩;simp[go_sem,Ao (show k<=1000000000 by omega)];refine⟨fun a d=>⟨a,by kernel_rfl,k+1,by omega,by omega,rfl,rfl⟩,fun h=>?_⟩;have b:min n 64=k:=by omega
 rw[Fi (x:=(n:Int) / 20) (by omega) (by omega)];refine⟨fun a=>⟨⟨TrE.refl _,CR⟩,rfl,by rw[<-b];rfl,?_⟩,fun a=>⟨⟨TrE.refl _,CR⟩,rfl,by rw[<-b];rfl,?_⟩⟩
 ·show(12:Int)=min ((n / 20:Nat):Int) 12;omega
 ·show(n:Int) / 20=min ((n / 20:Nat):Int) 12;omega
theorem R7{f:Nat->Int}(h:n<=2000000)(a:∀i,i<n->0<=f i/\f i<256):B7 (F2 n f):=⟨h,Nat.zero_le _,a,by show 0<=min ((n / 20:Nat):Int) 12/\min ((n / 20:Nat):Int) 12<=12;omega⟩
structure Iv (c:Nat) (s:Ad):Prop where
 dn:s.dn<=450+c
 name:s.name.size<=8000
 A6:0<=s.A6/\s.A6<=1000000
structure Kc (c:Nat) (s:Ae):Prop where
 dn:s.dn<=450+c
 name:s.name.size<=8000
 set:s.set.size<=8000
 A6:0<=s.A6/\s.A6<=1000000
 id:0<=s.id/\s.id<=1000000
structure BG (c:Nat) (W:A4):Prop where
 pool:An W.pool<=19000+c
 sn:W.sn<=9
 pn:W.pn<=21
 next:0<=W.next/\W.next<=900001
 A1:∀i,i<W.sn->Iv c (W.A1 i)
 A2:∀i,i<W.pn->Kc c (W.A2 i)
variable{c:Nat}
theorem GB{e:Int}:BG c (BQ e).world:=⟨by show An (Ck 0)<=_;exact Nat.zero_le _,Nat.zero_le _,Nat.zero_le _,by show(0:Int)<=0/\(0:Int)<=900001;omega,fun i hi=>absurd hi (Nat.not_lt_zero _),fun i hi=>absurd hi (Nat.not_lt_zero _)⟩
structure IQ (W:A4):Prop where
 pool:An W.pool<=10000
 sn:W.sn<=8
 pn:W.pn<=20
 next:1<=W.next/\W.next<=900000
 A1:∀i,i<W.sn->(W.A1 i).dn<=200/\(W.A1 i).name.size<=20/\0<=(W.A1 i).A6/\(W.A1 i).A6<=900000
 A2:∀i,i<W.pn->(W.A2 i).dn<=200/\(W.A2 i).name.size<=20/\(W.A2 i).set.size<=20/\(0<=(W.A2 i).A6/\(W.A2 i).A6<=900000)/\1<=(W.A2 i).id/\(W.A2 i).id<=900000
theorem Gy(h:BE W):IQ W:=by
 obtain⟨o,l,m,n,d,f⟩:=h.Ap;have a:=h.Ap.EM;have c:=LH h;have g:∀x,x=0\/CT W x->0<=x/\x<=900000:=fun x b=>by
  rcases b with rfl | b
  · omega
  · have:=b.range a;omega
 refine⟨Jw h.right,m,n,l,fun i hi=>⟨c.1 i hi,(d i hi).1.2.1,g _ (a.A1 i hi)⟩,fun i hi=>⟨c.2 i hi,(f i hi).1.2.2.2.2.1.2.1,?_,g _ (a.A6 i hi),by have:=a.ids i hi;omega⟩⟩;obtain⟨j,k,e⟩:=(f i hi).1.2.2.2.2.2;rw[<-e];exact(d j k).1.2.1
theorem IQ.set(h:IQ W)(hi:i<W.sn):Iv 0 (W.A1 i):=by
 obtain⟨b,c,a,d⟩:=h.A1 i hi;exact⟨by omega,by omega,a,by omega⟩
theorem IQ.snap(h:IQ W)(hi:i<W.pn):Kc 0 (W.A2 i):=by
 obtain⟨a,b,c,d,e⟩:=h.A2 i hi;exact⟨by omega,by omega,by omega,by omega,by omega⟩
theorem BG.up(h:BG 0 W):BG c W:=⟨Nat.le_trans h.pool (by omega),h.sn,h.pn,h.next,fun i hi=>⟨Nat.le_trans (h.A1 i hi).dn (by omega),(h.A1 i hi).name,(h.A1 i hi).A6⟩,fun i hi=>⟨Nat.le_trans (h.A2 i hi).dn (by omega),(h.A2 i hi).name,(h.A2 i hi).set,(h.A2 i hi).A6,(h.A2 i hi).id⟩⟩
theorem MU(p:A5)(l:List (Int×Int)):An (BH p l)=An p+l.length:=by
 obtain⟨a,b,c⟩:=EL l p;unfold An;rw[a,b,c];omega
theorem QP{f:Nat->AG}{j:Nat}:∀{n:Nat},j<n->Cf (f j)<=D9 f n
 | n+1,h=>by
   have e:D9 f (n+1)=D9 f n+Cf (f n):=rfl;by_cases a:j=n
   · rw[e,a];omega
   · have:=QP (f:=f) (j:=j) (n:=n) (by omega)
     omega
theorem BG.CI(h:BG c W)(e:c<=10):Bw W:=by
 have g:=h.pool;have a:W.pool.n<=An W.pool:=(by unfold An;omega);have b:W.pool.hn<=An W.pool:=Nat.le_add_left ..;have d:D9 W.pool.s W.pool.n<=An W.pool:=(by unfold An;omega);have hs:=h.sn;have hn:=h.pn;refine⟨⟨by omega,by omega,by omega,by omega,fun i hi=>?_,fun i hi=>?_⟩,fun i hi=>?_⟩
 · have:=(h.A1 i hi).dn;omega
 · have:=(h.A2 i hi).dn;omega
 · have:=QP (f:=W.pool.s) hi
   have:(W.pool.s i).kn<=Cf (W.pool.s i):=Nat.le_add_right ..;omega
theorem Yj{f g:Nat->AG}:∀{n:Nat},(∀i,i<n->Cf (f i)<=Cf (g i))->D9 f n<=D9 g n
 | 0,_=>Nat.le_refl _
 | n+1,h=>Nat.add_le_add (Yj fun i hi=>h i (by omega)) (h n (by omega))
theorem zEA(p:A5):An (IW p)<=An p:=by
 by_cases h:AY p/\AY (Gs p)
 · rw[UT h.1 h.2]
   have:D9 (Gs p).s p.n<=D9 p.s p.n:=Yj fun i hi=>by
    show Cf ((Ds p p.hn).s i)<=_;unfold Ds;dsimp only;split
    · exact Nat.zero_le _
    · exact Nat.le_refl _
   show p.n+D9 (Gs p).s p.n+0<=p.n+D9 p.s p.n+p.hn;omega
 · rw[Pc h];exact Nat.le_refl _
theorem zGR(W:A4)(x:ByteArray):EI W x<=W.sn:=by
 by_cases h:∃k,k<W.sn/\¬Ce (W.A1 k).name x/\∀j,j<k->Ce (W.A1 j).name x
 · obtain⟨k,a,b,c⟩:=h
   rw[VL a b c];omega
 · unfold EI
   rw[dif_neg h];exact Nat.le_refl _
theorem Un(L:IQ W){x:ByteArray}(b:x.size<=8000){o p rs rb:Int}(a:0<=p/\p<=1000000):BG 0 (Jb W (EI W x) (Ez x o p rs rb)):=by
 have hs:=L.sn;refine⟨by have:=L.pool;show An W.pool<=_;omega,by show W.sn+1<=9;omega,by have:=L.pn;show W.pn<=_;omega,by have:=L.next;show 0<=W.next/\W.next<=_;omega,fun i hi=>?_,fun i hi=>L.snap hi⟩;replace hi:i<W.sn+1:=hi;show Iv 0 (ins W.A1 (EI W x) (Ez x o p rs rb) i);have c:EI W x<=W.sn:=zGR W x;rcases Nat.lt_trichotomy i (EI W x)with e | e | e
 · rw[Zk e];exact L.set (by omega)
 · rw[e,Zi];exact⟨Nat.zero_le _,b,a⟩
 · rw[Zj e];exact L.set (by omega)
theorem Ri(W:A4)(x:ByteArray):BG 0 (Gb W x).world:=by
 unfold Gb
 repeat' split
 all_goals first
  | exact GB
  | exact Un (Gy (by rename_i h _;exact h.1)) (by omega) (by omega)
theorem YW(W:A4)(id:Int)(x:ByteArray):BG 0 (Kq W id x).world:=by
 unfold Kq
 repeat' split
 all_goals first
  | exact GB
  | (rename_i a hR hH _
     have:=hH.range hR.1.Ap.EM;exact Un (Gy hR.1) (by omega) (by omega))
theorem Rl(W:A4)(x a:ByteArray):BG 0 (J3 W x a).world:=by
 unfold J3
 repeat' split
 all_goals first
  | exact GB
  | skip
 rename_i c hR hH _ h20
 have L:=Gy hR.1;have f:=L.pn;have hn:=L.next;have hs:=L.sn;refine⟨by have:=L.pool;show An W.pool<=_;omega,by show W.sn<=9;omega,by show W.pn+1<=21;omega,by show 0<=W.next+1/\W.next+1<=_;omega,fun i hi=>?_,fun i hi=>?_⟩
 · replace hi:i<W.sn:=hi
   show Iv 0 (if i=B9 W x then {W.A1 (B9 W x)with A6:=W.next,dn:=0}else W.A1 i);split
   · rename_i e
     have g:=L.set hi;rw[<-e];exact⟨Nat.zero_le _,g.name,by show 0<=W.next/\W.next<=_;omega⟩
   · exact L.set hi
 · replace hi:i<W.pn+1:=hi
   show Kc 0 (if i=W.pn then MM W (B9 W x) a x else W.A2 i);split
   · have d:=Ic hH
     have b:=Ci.2 hH;have g:=L.set (i:=B9 W x) (by show(BO W.sn fun k=>(W.A1 k).name=x).toNat<W.sn;omega);exact⟨g.dn,by show a.size<=8000;omega,by show x.size<=8000;omega,g.A6,by show 0<=W.next/\W.next<=_;omega⟩
   · exact L.snap (by omega)
theorem Xn(W:A4)(k:Nat)(t:Int):(KQ W k t).length<=73:=Nat.le_trans (GH ..) (DX ..)
theorem zA7(W:A4)(x:ByteArray):BG 0 (IS W x).world:=by
 unfold IS Mo
 repeat' split
 all_goals first
  | exact GB
  | skip
 rename_i a hR hH hK
 have L:=Gy hR;have b:=Xn W (B9 W x) (W.A2 (GQ W (W.A1 (B9 W x)).A6)).time;refine⟨?_,by have:=L.sn;show W.sn<=9;omega,by have:=L.pn;show W.pn<=21;omega,by have:=L.next;show 0<=W.next/\W.next<=_;omega,fun i hi=>?_,fun i hi=>L.snap hi⟩
 · show An (BH W.pool _)<=_
   rw[MU];have:=L.pool;omega
 · replace hi:i<W.sn:=hi
   show Iv 0 (if i=B9 W x then {W.A1 (B9 W x)with rs:=_,rb:=_,dn:=0}else W.A1 i);split
   · rename_i e
     have g:=L.set hi;rw[<-e];exact⟨Nat.zero_le _,g.name,g.A6⟩
   · exact L.set hi
theorem zA6(W:A4)(x:ByteArray):BG 0 (IY W x).world:=by
 unfold IY
 repeat' split
 all_goals first
  | exact GB
  | skip
 rename_i a hR hH hK
 have L:=Gy hR;have b:=Xn W (B9 W x) (AI W (W.A1 (B9 W x)).A6).time;refine⟨?_,by have:=L.sn;show W.sn - 1<=9;omega,by have:=L.pn;show W.pn<=21;omega,by have:=L.next;show 0<=W.next/\W.next<=_;omega,fun i hi=>?_,fun i hi=>L.snap hi⟩
 · show An (BH W.pool _)<=_
   rw[MU];have:=L.pool;omega
 · replace hi:i<W.sn - 1:=hi
   show Iv 0 (if i<B9 W x then W.A1 i else W.A1 (i+1));split
   · exact L.set (by omega)
   · exact L.set (by omega)
theorem zEl(W:A4)(x:ByteArray):BG 0 (IL W x).world:=by
 unfold IL Mi
 repeat' split
 all_goals first
  | exact GB
  | skip
 rename_i a hR hH _ _
 have L:=Gy hR;refine⟨by have:=L.pool;show An W.pool<=_;omega,by have:=L.sn;show W.sn<=9;omega,by have:=L.pn;show W.pn<=21;omega,by have:=L.next;show 0<=W.next/\W.next<=_;omega,fun i hi=>?_,fun i hi=>?_⟩
 · replace hi:i<W.sn:=hi
   have g:=L.set hi;unfold Mj;dsimp only;split
   · rename_i e;rw[<-e];exact⟨g.dn,g.name,g.A6⟩
   · split
     · rename_i e;rw[<-e];exact⟨g.dn,g.name,g.A6⟩
     · exact g
 · replace hi:i<W.pn:=hi
   have g:=L.snap hi;unfold Mj FK;dsimp only;split
   · exact⟨g.dn,g.name,by show x.size<=8000;omega,g.A6,g.id⟩
   · exact g
theorem Uo(L:IQ W){k:Nat}{t:D4}(a:An t.pool<=An W.pool+40)(b:t.old.length<=3):BG 0 (Cm W k t).world:=by
 unfold Cm;split;rotate_left
 · exact GB
 have d:(DR W k t).length<=t.old.length:=GH ..;have c:(Jy W k t).length<=t.old.length:=MI ..;refine⟨?_,by have:=L.sn;show W.sn<=9;omega,by have:=L.pn;show W.pn<=21;omega,by have:=L.next;show 0<=W.next/\W.next<=_;omega,fun i hi=>?_,fun i hi=>L.snap hi⟩
 · show An (BH t.pool _)<=_
   rw[MU];have:=L.pool;omega
 · replace hi:i<W.sn:=hi
   show Iv 0 (if i=k then FY W k t else W.A1 i);split
   · rename_i e
     subst e;have g:=L.set hi;have g':=(L.A1 i hi).1;refine⟨?_,g.name,g.A6⟩;show(CS W i t).length<=_;unfold CS;rw[List.length_append,Og];omega
   · exact L.set hi
theorem RQ(W:A4)(x:ByteArray)(AA:Int)(d:ByteArray):BG 0 (EU W x AA d).world:=by
 unfold EU
 repeat' split
 all_goals first
  | exact GB
  | (rename_i a hR hH
     exact Uo (Gy hR) (Oo ..).1 (Oo ..).2)
theorem Qp(W:A4)(x:ByteArray)(AA:Int):BG 0 (EP W x AA).world:=by
 unfold EP
 repeat' split
 all_goals first
  | exact GB
  | (rename_i a hR hH
     exact Uo (Gy hR) (Oi ..).1 (Oi ..).2)
theorem zEm(L:IQ W){k:Nat}(d:k<W.pn):BG 0 (sdK W x k).world:=by
 have gk:=L.snap d;have l:=(L.A2 k d).1;have a:∀{f:Nat->Ae},(∀i,i<W.pn->Kc 0 (f i))->∀i,i<W.pn - 1->Kc 0 (del f k i):=fun {f} c i hi=>by
  unfold del;split
  · exact c i (by omega)
  · exact c (i+1) (by omega)
 have e:∀(n:Nat) (f h:Nat->Int),(sdD W (W.A2 k) n f h).length<=200+n:=fun n f h=>by
  unfold sdD;rw[List.length_append,Og];have:(sdO W (W.A2 k) n f h).length<=n:=MI ..;omega
 have hs:=L.sn;have o:=L.pn;have hn:=L.next;have p:=L.pool;unfold sdK;split
 · rename_i h
   have hi:=h.choose_spec.1;generalize h.choose=i at hi ⊢;have g:=L.set hi;have g':=(L.A1 i hi).1;have m:(GK W k i).length<=(W.A1 i).dn:=GH ..;refine⟨by show An (BH W.pool _)<=_;rw[MU];omega,by show W.sn<=9;omega,by show W.pn - 1<=21;omega,by show 0<=W.next/\W.next<=_;omega,fun j b=>?_,a fun j b=>L.snap b⟩;show Iv 0 (if j=i then Mq W (W.A2 k) (W.A1 i)else W.A1 j);split
   · exact⟨Nat.le_trans (e ..) (by omega),g.name,gk.A6⟩
   · exact L.set b
 split
 · rename_i h
   have hi:=h.choose_spec.1;generalize h.choose=i at hi ⊢;have g:=L.snap hi;have g':=(L.A2 i hi).1;have m:(IM W k i).length<=(W.A2 i).dn:=GH ..;refine⟨by show An (BH W.pool _)<=_;rw[MU];omega,by show W.sn<=9;omega,by show W.pn - 1<=21;omega,by show 0<=W.next/\W.next<=_;omega,fun j b=>L.set b,a fun j b=>?_⟩;show Kc 0 (if j=i then N9 W (W.A2 k) (W.A2 i)else W.A2 j);split
   · exact⟨Nat.le_trans (e ..) (by omega),g.name,g.set,gk.A6,g.id⟩
   · exact L.snap b
 · exact⟨by show An W.pool<=_;omega,by show W.sn<=9;omega,by show W.pn - 1<=21;omega,by show 0<=W.next/\W.next<=_;omega,fun j b=>L.set b,a fun j b=>L.snap b⟩
theorem zGq(W:A4)(x:Int):BG 0 (sdE W x).world:=by
 unfold sdE
 repeat' split
 all_goals first
  | exact GB
  | skip
 rename_i a hH h1
 refine zEm (Gy a) ?_;have c:=KB hH;have b:=Gr.2 hH;show(BO W.pn fun k=>(W.A2 k).id=x).toNat<W.pn;omega
theorem zA8(h:BG c W):BG c {W with pool:=IW W.pool}:=⟨Nat.le_trans (zEA _) h.pool,h.sn,h.pn,h.next,h.A1,h.A2⟩
abbrev tT:List (Bool×List Tr):=[(false,[.v (.bool true)])]
abbrev byT(n:Nat)(f:Nat->Int):Bool×List Tr:=(false,[.s .z 1 n (G5 f)])
def I1(n:Nat)(f:Nat->Int):Prop:=n<=2000000/\∀i,i<n->0<=f i/\f i<256
end
end Go.Proofs.YtehdoekmnicdiaaGreatDoor
