/- A part of the proof. -/
import Derived.Test.YtehdoekmnicdiaaGreatDoorF31
set_option linter.unusedVariables false
set_option maxRecDepth 20000
set_option maxHeartbeats 4000000
namespace Go.Proofs.YtehdoekmnicdiaaGreatDoor
noncomputable section
open Go.RowKit
set_option linter.unusedSimpArgs false
set_option maxRecDepth 20000
set_option maxHeartbeats 3200000
noncomputable abbrev B9 (W:A4) (x:ByteArray):Nat:=(BO W.sn fun k=>(W.A1 k).name=x).toNat
noncomputable abbrev GQ (W:A4) (x:Int):Nat:=(BO W.pn fun k=>(W.A2 k).id=x).toNat
open Classical in
def J3(W:A4)(set name:ByteArray):Bk:=if 8000<set.size\/8000<name.size then BQ 2 else if BE W/\Bp name then(if BP W set then(if ∃i,i<W.pn/\(W.A2 i).set=set/\(W.A2 i).name=name then BQ 5 else if 20<=W.pn\/900000<=W.time\/900000<=W.next then BQ 6 else⟨UE W (B9 W set) name set,W.next,0,0⟩)else BQ 4)else BQ 1
variable{x:Int}
theorem yr(h:0<=x)(a:x<1000000):IntKind.i64.wrap (x+1)=x+1:=by
 unfold IntKind.wrap;simp[IntKind.signed,IntKind.bits];omega
attribute [-go_sem] Bz
def VE:AJ:=AU (fun q:A4×ByteArray×ByteArray=>[woT q.1,sT q.2.1,sT q.2.2]) (fun q=>Bw q.1) (fun q=>[wuO (J3 q.1 q.2.1 q.2.2)])
theorem zBs(W:A4)(x a:ByteArray):VE [woT W,sT x,sT a]=some (Bw W,[wuO (J3 W x a)]):=Af (fun l=>(C3 (nth l 0),CK (nth l 1 0),CK (nth l 2 0))) (fun _=>rfl) (W,x,a)
theorem zBS:Am Tryz.prog 103 VE:=by
 refine Az Al (GOk.cons IK (AB Tryz.func81 rfl rfl) (GOk.cons Fo (AB Tryz.func29 rfl rfl) (GOk.cons I3 (AB Tryz.func32 rfl rfl) (GOk.cons Gi (AB Tryz.func31 rfl rfl) (GOk.cons P3 (AB Tryz.func97 rfl rfl) (GOk.cons Yv (AB Tryz.func150 rfl rfl) GOk.nil)))))) Ak Tryz.func103 rfl Tryz.ntmps103 Tryz.results103 10 ?_;rintro⟨W,x,a⟩ c;replace c:Bw W:=c;have hs:=c.sn;have q:=c.pn;refine⟨by simp,?_⟩;by_cases m:8000<x.size\/8000<a.size
 ·have s:(8000:Int)<x.size\/(8000:Int)<a.size:=(by omega);simp[go_sem,C1,s];exact⟨C2 (if_pos m),fun h r=>absurd m (by omega)⟩
 have d:¬(8000:Int)<x.size:=by omega
 have f:¬(8000:Int)<a.size:=by omega
 by_cases b:BE W/\Bp a;rotate_left
 ·simp[go_sem,DW,CH,Cb,C1,IA,Jj,c,c.toSmallW,hs,q,E4,Ci,d,f];refine⟨fun _=>C2 ((if_neg m).trans (if_neg b)),fun h r=>absurd ⟨h,r⟩ b⟩
 obtain⟨b,l⟩:=b;by_cases g:BP W x;rotate_left
 ·simp[go_sem,DW,CH,Cb,C1,IA,Jj,c,c.toSmallW,hs,q,E4,Ci,d,f,b,l,g];exact C2 ((if_neg m).trans ((if_pos ⟨b,l⟩).trans (if_neg g)))
 by_cases n:∃i,i<W.pn/\(W.A2 i).set=x/\(W.A2 i).name=a
 ·simp[go_sem,DW,CH,Cb,C1,IA,Jj,c,c.toSmallW,hs,q,E4,Ci,d,f,b,l,g,n];exact C2 ((if_neg m).trans ((if_pos ⟨b,l⟩).trans ((if_pos g).trans (if_pos n))))
 by_cases hF:20<=W.pn\/900000<=W.time\/900000<=W.next
 ·simp[go_sem,DW,CH,Cb,C1,IA,Jj,c,c.toSmallW,hs,q,E4,Ci,d,f,b,l,g,n];refine⟨fun _=>C2 ((if_neg m).trans ((if_pos ⟨b,l⟩).trans ((if_pos g).trans ((if_neg n).trans (if_pos hF))))),fun h r C=>absurd hF (by omega)⟩
 have t:¬(20:Int)<=W.pn:=by omega
 have u:¬900000<=W.time:=by omega
 have v:¬900000<=W.next:=by omega
 have A:=Ic g;simp[go_sem,DW,CH,Cb,C1,IA,Jj,c,c.toSmallW,hs,q,E4,Ci,d,f,b,l,g,n,t,u,v];have B:J3 W x a=⟨UE W (B9 W x) a x,W.next,0,0⟩:=by
  unfold J3;rw[if_neg m,if_pos ⟨b,l⟩,if_pos g,if_neg n,if_neg hF]
 rw[B];have y:B9 W x<W.sn:=by have:=Ci.2 g;show(BO W.sn fun k=>(W.A1 k).name=x).toNat<W.sn;omega
 obtain⟨k,p⟩:∃k,k=B9 W x:=⟨_,rfl⟩;rw[<-p]at y ⊢;refine⟨A,by omega,A,⟨TrE.refl _,Bg⟩,⟨TrE.refl _,Bq⟩,?_⟩;rw[show(BO W.sn fun k=>(W.A1 k).name=x).toNat=k from p.symm];refine⟨yr (by have:=b.Ap.1.1;omega) (by omega),yr (by have:=b.Ap.2.1.1;omega) (by omega),⟨⟨.inl rfl,rfl,rfl,fun i j hi w=>?_⟩,CX⟩,⟨⟨.inl rfl,rfl,rfl,fun i j hi w=>?_⟩,CW⟩,rfl,rfl,rfl⟩
 ·show TrE _ (setsE .o (fun j=>if j=k then {W.A1 k with A6:=W.next,dn:=0}else W.A1 j) i j);by_cases e:i=k
  ·subst e
   match j,w with
   | 0,_ | 1,_ | 2,_ | 3,_ | 4,_=>exact TrE.of_eq (by simp[Ab,setsE])
   | 5,_=>simp[Ab,setsE,TrE]
  ·exact TrE.of_eq (by unfold setsE;simp[Ab,e])
 ·show TrE _ (snapsE .z (fun j=>if j=W.pn then MM W k a x else W.A2 j) i j);by_cases e:i<W.pn
  ·exact TrE.of_eq (by unfold snapsE;simp[Ah,e,show i≠W.pn by omega])
  ·cases (show i=W.pn by omega)
   match j,w with
   | 0,_ | 1,_ | 2,_ | 3,_ | 4,_ | 5,_ | 6,_=>exact TrE.of_eq (by simp[Ah,snapsE,MM,Tr.nt])
   | 7,_=>exact TrE.of_eq (by simp[Ah,snapsE,MM,Tr.nt])
set_option maxRecDepth 20000
set_option maxHeartbeats 3200000
def KQ(W:A4)(k:Nat)(t:Int):List (Int×Int):=Bj (fun i=>AK (AF W.pool (W.A1 k).rs (W.A1 k).rb) i) (fun i=>AM (AF W.pool (W.A1 k).rs (W.A1 k).rb) i) t (AF W.pool (W.A1 k).rs (W.A1 k).rb).length
def zIU(W:A4)(k j:Nat):A4:={GV W (KQ W k (W.A2 j).time)with A1:=fun i=>if i=k then {W.A1 k with rs:=(W.A2 j).rs,rb:=(W.A2 j).rb,dn:=0}else W.A1 i}
open Classical in
def Mo(W:A4)(k:Nat)(x:ByteArray):Bk:=if CT W (W.A1 k).A6/\(W.A2 (GQ W (W.A1 k).A6)).set=x then⟨zIU W k (GQ W (W.A1 k).A6),0,(KQ W k (W.A2 (GQ W (W.A1 k).A6)).time).length,0⟩else BQ 4
open Classical in
def IS(W:A4)(x:ByteArray):Bk:=if 8000<x.size then BQ 2 else if BE W then(if BP W x then Mo W (B9 W x) x else BQ 4)else BQ 1
theorem GH(f g:Nat->Int)(t:Int)(n:Nat):(Bj f g t n).length<=n:=by
 have:=Kx f g t n;omega
attribute [go_sem] Bz
attribute [-go_sem] Bz
def yY:AJ:=AU (fun q:A4×ByteArray=>[woT q.1,sT q.2]) (fun q=>Bw q.1) (fun q=>[wuO (IS q.1 q.2)])
theorem zFH(W:A4)(x:ByteArray):yY [woT W,sT x]=some (Bw W,[wuO (IS W x)]):=Af (fun l=>(C3 (nth l 0),CK (nth l 1 0))) (fun _=>rfl) (W,x)
theorem zCB:Am Tryz.prog 107 yY:=by
 refine Az Al (GOk.cons IK (AB Tryz.func81 rfl rfl) (GOk.cons Fo (AB Tryz.func29 rfl rfl) (GOk.cons I3 (AB Tryz.func32 rfl rfl) (GOk.cons J7 (AB Tryz.func94 rfl rfl) (GOk.cons Gi (AB Tryz.func31 rfl rfl) (GOk.cons Jt (AB Tryz.func134 rfl rfl) (GOk.cons Ot (AB Tryz.func83 rfl rfl) (GOk.ptr RT (AB Tryz.func84 rfl rfl) GOk.nil)))))))) Ak Tryz.func107 rfl Tryz.ntmps107 Tryz.results107 11 ?_;rintro⟨W,x⟩ b;replace b:Bw W:=b;have hs:=b.sn;have p:=b.pn;refine⟨by simp,?_⟩;by_cases m:8000<x.size
 ·simp[go_sem,C1,show(8000:Int)<x.size by omega];exact C2 (if_pos m)
 have d:¬(8000:Int)<x.size:=by omega
 by_cases c:BE W;rotate_left
 ·simp[go_sem,DW,CH,Cb,C1,b,b.toSmallW,hs,p,E4,Ci,d,c];exact C2 ((if_neg m).trans (if_neg c))
 by_cases l:BP W x;rotate_left
 ·simp[go_sem,DW,CH,Cb,C1,b,b.toSmallW,hs,p,E4,Ci,d,c,l];exact C2 ((if_neg m).trans ((if_pos c).trans (if_neg l)))
 have w:=Ic l;have u:=Ci.2 l;have a:B9 W x<W.sn:=by show(BO W.sn fun k=>(W.A1 k).name=x).toNat<W.sn;omega
 obtain⟨k,f⟩:∃k,k=B9 W x:=⟨_,rfl⟩;have n:(BO W.sn fun k=>(W.A1 k).name=x)=(k:Int):=by rw[f];show _=((BO W.sn fun k=>(W.A1 k).name=x).toNat:Int);omega
 rw[<-f]at a;have s:=(c.A1 k a).1;simp[go_sem,DW,CH,Cb,Ep,C1,J0,MF,QH,b,b.toSmallW,hs,p,n,d,c,c.right,s,a,JQ,Gr];have q:IS W x=Mo W k x:=by
  unfold IS;rw[if_neg m,if_pos c,if_pos l,<-f]
 refine⟨fun h=>absurd h (by omega),by kernel_rfl,fun h=>⟨h,KB h⟩,fun h=>?_,fun g r=>?_⟩
 ·exact C2 (q.trans (if_neg fun e=>h.elim (fun h=>h e.1) (fun h=>h (congrArg ByteArray.toList e.2))))
 rw[q,Mo,if_pos ⟨g,GA r⟩];have hn:=M8 c.right;refine⟨⟨g,KB g⟩,Nat.le_trans (DX ..) (by omega),by kernel_rfl,?_,⟨g,KB g⟩,a,by kernel_rfl,a,⟨TrE.refl _,Bg⟩,⟨TrE.refl _,Bq⟩,rfl,rfl,⟨⟨.inl rfl,rfl,rfl,fun i j hi t=>?_⟩,CX⟩,⟨TrE.refl _,CW⟩,rfl,rfl,rfl⟩
 ·have v:(AF W.pool (W.A1 k).rs (W.A1 k).rb).length<=73:=DX ..;exact Nat.le_trans (Nat.add_le_add_left (Nat.le_trans (GH ..) v) _) (by omega)
 show TrE _ (setsE .o (fun i=>if i=k then {W.A1 k with rs:=(W.A2 (GQ W (W.A1 k).A6)).rs,rb:=(W.A2 (GQ W (W.A1 k).A6)).rb,dn:=0}else W.A1 i) i j);by_cases e:i=k
 ·subst e
  match j,t with
  | 0,_ | 1,_ | 2,_ | 3,_ | 4,_=>exact TrE.of_eq (by simp[Ab,setsE,GV])
  | 5,_=>simp[Ab,setsE,TrE]
 ·exact TrE.of_eq (by unfold setsE;simp[Ab,e,GV])
set_option maxRecDepth 20000
set_option maxHeartbeats 3200000
def qt(W:A4)(k:Nat):A4:={GV W (KQ W k (AI W (W.A1 k).A6).time)with sn:=W.sn - 1,A1:=fun i=>if i<k then W.A1 i else W.A1 (i+1)}
open Classical in
def IY(W:A4)(x:ByteArray):Bk:=if 8000<x.size then BQ 2 else if BE W then(if BP W x then(if ∃i,i<W.pn/\(W.A2 i).set=x then BQ 7 else⟨qt W (B9 W x),0,(KQ W (B9 W x) (AI W (W.A1 (B9 W x)).A6).time).length,0⟩)else BQ 4)else BQ 1
variable{W:A4}{l:List (Int×Int)}
theorem Us:(GV W l).sn=W.sn:=rfl
theorem YX:(GV W l).A1=W.A1:=rfl
theorem Ur:(GV W l).pn=W.pn:=rfl
theorem Yq:(GV W l).A2=W.A2:=rfl
attribute [go_sem] Bz
attribute [-go_sem] Bz
def yJ:AJ:=AU (fun q:A4×ByteArray=>[woT q.1,sT q.2]) (fun q=>Bw q.1) (fun q=>[wuO (IY q.1 q.2)])
theorem zFA(W:A4)(x:ByteArray):yJ [woT W,sT x]=some (Bw W,[wuO (IY W x)]):=Af (fun l=>(C3 (nth l 0),CK (nth l 1 0))) (fun _=>rfl) (W,x)
theorem zCZ:Am Tryz.prog 106 yJ:=by
 refine Az Al (GOk.cons IK (AB Tryz.func81 rfl rfl) (GOk.cons Fo (AB Tryz.func29 rfl rfl) (GOk.cons I3 (AB Tryz.func32 rfl rfl) (GOk.cons Gi (AB Tryz.func31 rfl rfl) (GOk.cons L6 (AB Tryz.func82 rfl rfl) (GOk.cons Jt (AB Tryz.func134 rfl rfl) (GOk.cons Ot (AB Tryz.func83 rfl rfl) (GOk.cons zg (AB Tryz.func152 rfl rfl) (GOk.ptr RT (AB Tryz.func84 rfl rfl) GOk.nil))))))))) Ak Tryz.func106 rfl Tryz.ntmps106 Tryz.results106 12 ?_;rintro⟨W,x⟩ b;replace b:Bw W:=b;have hs:=b.sn;have p:=b.pn;refine⟨by simp,?_⟩;by_cases h:8000<x.size
 ·simp[go_sem,C1,show(8000:Int)<x.size by omega];exact C2 (if_pos h)
 have c:¬(8000:Int)<x.size:=by omega
 by_cases a:BE W;rotate_left
 ·simp[go_sem,DW,CH,Cb,C1,b,b.toSmallW,hs,p,E4,Ci,c,a];exact C2 ((if_neg h).trans (if_neg a))
 by_cases g:BP W x;rotate_left
 ·simp[go_sem,DW,CH,Cb,C1,b,b.toSmallW,hs,p,E4,Ci,c,a,g];exact C2 ((if_neg h).trans ((if_pos a).trans (if_neg g)))
 have q:=Ic g;have u:=Ci.2 g;have f:B9 W x<W.sn:=by show(BO W.sn fun k=>(W.A1 k).name=x).toNat<W.sn;omega
 obtain⟨k,d⟩:∃k,k=B9 W x:=⟨_,rfl⟩;have l:(BO W.sn fun k=>(W.A1 k).name=x)=(k:Int):=by rw[d];show _=((BO W.sn fun k=>(W.A1 k).name=x).toNat:Int);omega
 have m:¬(k:Int)<0:=by omega
 by_cases n:∃i,i<W.pn/\(W.A2 i).set=x
 ·simp[go_sem,DW,CH,Cb,C1,T8,b,b.toSmallW,hs,p,l,m,c,a,n];exact C2 ((if_neg h).trans ((if_pos a).trans ((if_pos g).trans (if_pos n))))
 have r:IY W x=⟨qt W k,0,(KQ W k (AI W (W.A1 k).A6).time).length,0⟩:=by
  unfold IY;rw[if_neg h,if_pos a,if_pos g,if_neg n,<-d]
 rw[<-d]at f;have t:=(a.A1 k f).1;have w:=Ko (fun k q=>(a.Ap.EM.ids k q).1) (W.A1 k).A6;simp[go_sem,DW,CH,Cb,T8,Jr,C1,J0,MF,QH,b,b.toSmallW,hs,p,l,m,c,a,n,w,a.right,t,f,r,Ao (show k<=1000000000 by omega),Us,YX,Ur,Yq];have hn:=M8 a.right;refine⟨by kernel_rfl,Nat.le_trans (DX ..) (by omega),by kernel_rfl,?_,?_⟩
 ·have v:(AF W.pool (W.A1 k).rs (W.A1 k).rb).length<=73:=DX ..;exact Nat.le_trans (Nat.add_le_add_left (Nat.le_trans (GH ..) v) _) (by omega)
 refine⟨by omega,⟨by omega,by omega⟩,⟨by omega,by omega⟩,⟨by omega,by omega⟩,by kernel_rfl,⟨TrE.refl _,Bg⟩,⟨TrE.refl _,Bq⟩,rfl,rfl,⟨⟨.inl rfl,rfl,by show k+(W.sn - (k+1))=W.sn - 1;omega,fun i j hi y=>TrE.of_eq ?_⟩,CX⟩,⟨TrE.refl _,CW⟩,rfl⟩;show _=setsE .o (fun i=>if i<k then W.A1 i else W.A1 (i+1)) i j;by_cases e:i<k
 ·unfold setsE;simp[Ah,e]
 ·have:k+1+(i - k)=i+1:=(by omega);have s:¬i+1<k:=(by omega);unfold setsE;simp[Ah,e,ntR,this,s]
set_option maxRecDepth 20000
set_option maxHeartbeats 3200000
def Dx(W:A4)(other:ByteArray)(id:Int)(n j:Nat):Prop:=∃m x,m<n/\Steps W other id m x/\Be W x j
def Md(W:A4)(other:ByteArray)(id:Int)(j:Nat):Prop:=∃m x,Steps W other id m x/\Be W x j/\(W.A2 j).set=other
open Classical in
def FK(W:A4)(name:ByteArray)(V:Nat->Prop):Nat->Ae:=fun j=>if V j then {W.A2 j with set:=name}else W.A2 j
def QB(W:A4)(x y:ByteArray):Prop:=∃i,i<W.pn/\(W.A2 i).set=x/\(W.A2 i).name=y
def Mj(W:A4)(k d:Nat)(name other:ByteArray)(id:Int):A4:={W with A2:=FK W name (Md W other id),A1:=fun i=>if i=d then {W.A1 d with origin:=id}else if i=k then {W.A1 k with origin:=(W.A1 d).origin}else W.A1 i}
open Classical in
def Mi(W:A4)(k:Nat)(x other:ByteArray)(id:Int):Bk:=if ∃j,Md W other id j/\QB W x (W.A2 j).name then BQ 5 else⟨Mj W k (B9 W other) x other id,id,0,0⟩
open Classical in
def IL(W:A4)(x:ByteArray):Bk:=if 8000<x.size then BQ 2 else if BE W then(if BP W x then(if (W.A1 (B9 W x)).origin=0 then BQ 7 else Mi W (B9 W x) x (W.A2 (GQ W (W.A1 (B9 W x)).origin)).set (W.A1 (B9 W x)).origin)else BQ 4)else BQ 1
variable{a:ByteArray}{n i:Nat}
theorem Q8{id:Int}{j:Nat}(h:Steps W a id n x)(b:Be W x j):Dx W a id (n+1) i↔i=j\/Dx W a id n i:=by
 constructor
 ·rintro⟨m,y,c,hs,hi⟩;by_cases e:m=n
  ·subst e;rw[hs.det h]at hi;exact .inl (hi.uniq b)
  ·exact .inr ⟨m,y,by omega,hs,hi⟩
 ·rintro(rfl | ⟨m,y,c,hs,hi⟩)
  ·exact⟨n,x,by omega,h,b⟩
  ·exact⟨m,y,by omega,hs,hi⟩
theorem Uc{id:Int}(h:Steps W a id n x)(f:¬FN W a x):Dx W a id n i↔Md W a id i:=by
 constructor
 ·rintro⟨m,y,d,hs,hi⟩;obtain⟨z,c,j,g,b⟩:=h.less d;rw[hs.det c]at hi;refine⟨m,z,c,hi,?_⟩;rw[hi.uniq g];exact b
 ·rintro⟨m,y,hs,hi,b⟩;by_cases d:m<n
  ·exact⟨m,y,d,hs,hi⟩
  ·exfalso;by_cases e:m=n
   ·subst e;rw[hs.det h]at hi;exact f ⟨i,hi,b⟩
   ·obtain⟨z,c,k⟩:=hs.less (show n<m by omega);rw[h.det c]at f;exact f k
attribute [go_sem] Bz
attribute [-go_sem] Bz
def zT:AJ:=AU (fun q:A4×ByteArray=>[woT q.1,sT q.2]) (fun q=>Bw q.1) (fun q=>[wuO (IL q.1 q.2)])
theorem zGs(W:A4)(x:ByteArray):zT [woT W,sT x]=some (Bw W,[wuO (IL W x)]):=Af (fun l=>(C3 (nth l 0),CK (nth l 1 0))) (fun _=>rfl) (W,x)
theorem zBR:Am Tryz.prog 108 zT:=by
 refine Az Al (GOk.cons IK (AB Tryz.func81 rfl rfl) (GOk.cons Fo (AB Tryz.func29 rfl rfl) (GOk.cons I3 (AB Tryz.func32 rfl rfl) (GOk.cons J7 (AB Tryz.func94 rfl rfl) (GOk.cons Gi (AB Tryz.func31 rfl rfl) (GOk.cons Yv (AB Tryz.func150 rfl rfl) GOk.nil)))))) Ak Tryz.func108 rfl Tryz.ntmps108 Tryz.results108 12 ?_;rintro⟨W,x⟩ t;replace t:Bw W:=t;have hs:=t.sn;have K:=t.pn;refine⟨by simp,?_⟩;by_cases M:8000<x.size
 ·simp[go_sem,C1,show(8000:Int)<x.size by omega];exact C2 (if_pos M)
 have D:¬(8000:Int)<x.size:=by omega
 by_cases A:BE W;rotate_left
 ·simp[go_sem,DW,CH,Cb,C1,t,t.toSmallW,hs,K,E4,Ci,D,A];exact C2 ((if_neg M).trans (if_neg A))
 by_cases J:BP W x;rotate_left
 ·simp[go_sem,DW,CH,Cb,C1,t,t.toSmallW,hs,K,E4,Ci,D,A,J];exact C2 ((if_neg M).trans ((if_pos A).trans (if_neg J)))
 have hk:=Ic J;have lA:=Ci.2 J;have r:B9 W x<W.sn:=by show(BO W.sn fun k=>(W.A1 k).name=x).toNat<W.sn;omega
 obtain⟨k,E⟩:∃k,k=B9 W x:=⟨_,rfl⟩;have T:(BO W.sn fun k=>(W.A1 k).name=x)=(k:Int):=by rw[E];show _=((BO W.sn fun k=>(W.A1 k).name=x).toNat:Int);omega
 have X:¬(k:Int)<0:=by omega
 rw[<-E]at r;by_cases N:(W.A1 k).origin=0
 ·simp[go_sem,DW,CH,Cb,C1,t,t.toSmallW,hs,K,T,X,D,A,r,N];exact C2 ((if_neg M).trans ((if_pos A).trans ((if_pos J).trans (if_pos (E▸N)))))
 have hI:CT W (W.A1 k).origin:=(A.Ap.2.2.2.2.1 k r).2.2.2 N;obtain⟨q,hq⟩:=hI.no;have U:(BO W.pn fun j=>(W.A2 j).id=(W.A1 k).origin)=(q:Int):=I8 hq.1 hq.2.1 hq.2.2;have Y:=hq.1;obtain⟨id,H⟩:∃id,id=(W.A1 k).origin:=⟨_,rfl⟩;obtain⟨b,I⟩:∃o,o=(W.A2 q).set:=⟨_,rfl⟩;simp[go_sem,DW,CH,Cb,Ep,C1,Jj,t,t.toSmallW,hs,K,T,X,D,A,r,N,U,Y];rw[<-H,<-I];refine⟨by kernel_rfl,?_⟩;have G:=A.Ap.EM;have hS:BP W b:=by rw[I];exact(A.Ap.2.2.2.2.2 q Y).1.2.2.2.2.2
 have hd:=Ic hS;have kA:=Ci.2 hS;obtain⟨d,P⟩:∃d,d=B9 W b:=⟨_,rfl⟩;have R:(BO W.sn fun k=>(W.A1 k).name=b)=(d:Int):=by rw[P];show _=((BO W.sn fun k=>(W.A1 k).name=b).toNat:Int);omega
 have Q:d<W.sn:=by omega
 have eR:IL W x=Mi W k x b id:=by
  unfold IL;rw[if_neg M,if_pos A,if_pos J,<-E,if_neg N,H,I];show Mi W k x (W.A2 (BO W.pn fun j=>(W.A2 j).id=(W.A1 k).origin).toNat).set _=_;rw[U,Int.toNat_natCast]
 rw[eR];refine BC (fun q:Nat×Int=>⟨[(9,true,.m false [.v (.int .i64 q.2)]),(8,true,.m false [.p 8 0]),(7,true,.m false [.v (.string b)]),(6,true,.m false [.v (.int .i64 id)]),(5,true,.i k),(4,true,.m false [.p 4 0]),(2,true,.m false [.p 2 0]),(1,true,.m false [.v (.string x)])],[(8,.var [.h 61,.h 62,.v (.int .i64 W.time),.v (.int .i64 W.next),.h 63,.h 64]),(64,.row 8 W.pn (snapsE .z (FK W x (Dx W b id q.1)))),(63,.row 6 W.sn (setsE .o W.A1)),(62,.row 1 W.pool.hn (BF W.pool.h)),(61,.row 3 W.pool.n (Aw .z W.pool.s)),(4,.var [.v n0,.v n0,.v i0,.v i0,.v n0,.v n0,.v i0,.v i0,.v i0]),(2,.var ((woL W).map Tr.cv))]⟩) (fun q=>1000000 - q.1) (fun q=>ER W b id q.1 q.2/\∀j,Dx W b id q.1 j->¬QB W x (W.A2 j).name) (0,id) ?_ ⟨ER.start G _ (.inr (H▸hI)),fun j ⟨m,y,hm,_⟩=>absurd hm (Nat.not_lt_zero _)⟩ ?_
 ·have e0:FK W x (Dx W b id 0)=W.A2:=funext fun j=>if_neg fun ⟨m,y,hm,_⟩=>absurd hm (Nat.not_lt_zero _)
  simp[go_sem,e0]
 rintro⟨n,y⟩ ⟨u,F⟩;replace u:ER W b id n y:=u;replace F:∀j,Dx W b id n j->¬QB W x (W.A2 j).name:=F;have ha:n<=900000:=by have:=u.least;have:=u.sum;omega
 have hM:¬FN W b y->FK W x (Dx W b id n)=FK W x (Md W b id):=fun he=>by
  have:Dx W b id n=Md W b id:=funext fun i=>propext (Uc u.steps he)
  rw[this]
 have hK:¬FN W b y->Mi W k x b id=⟨Mj W k d x b id,id,0,0⟩:=fun he=>by
  rw[P];exact if_neg fun ⟨i,C,w⟩=>F i ((Uc u.steps he).2 C) w
 have O:TrE (Tr.s .o 6 W.sn (Ab (Ab (setsE .o W.A1) k 1 [.v (.int .i64 (W.A1 d).origin)]) d 1 [.v (.int .i64 id)])) (Tr.s .o 6 W.sn (setsE .o (Mj W k d x b id).A1)):=F1 fun i j hi l=>by
  show _=setsE .o (fun i=>if i=d then {W.A1 d with origin:=id}else if i=k then {W.A1 k with origin:=(W.A1 d).origin}else W.A1 i) i j;by_cases e1:i=d
  ·subst e1;by_cases L:i=k
   ·subst L
    match j,l with
    | 0,_ | 1,_ | 2,_ | 3,_ | 4,_ | 5,_=>simp[Ab,setsE]
   ·match j,l with
    | 0,_ | 1,_ | 2,_ | 3,_ | 4,_ | 5,_=>simp[Ab,setsE,L]
  ·by_cases L:i=k
   ·subst L
    match j,l with
    | 0,_ | 1,_ | 2,_ | 3,_ | 4,_ | 5,_=>simp[Ab,setsE,e1]
   ·unfold setsE;simp[Ab,e1,L]
 by_cases hy:y=0
 ·subst hy;have f:=Z7 G b;simp[go_sem,Cb,hs,R,Q,r];rw[hK f,hM f];exact⟨by kernel_rfl,⟨TrE.refl _,Bg⟩,⟨TrE.refl _,Bq⟩,rfl,rfl,⟨O,CX⟩,⟨TrE.refl _,CW⟩,rfl,rfl,rfl⟩
 obtain⟨j,l⟩:=(u.there.resolve_left hy).no;have S:(BO W.pn fun i=>(W.A2 i).id=y)=(j:Int):=I8 l.1 l.2.1 l.2.2;have V:=l.1;by_cases B:(W.A2 j).set=b;rotate_left
 ·have f:=Xv l B;have Z:¬(W.A2 j).set.toList=b.toList:=fun e=>B (GA e)
  simp[go_sem,Cb,Ep,hs,K,R,Q,r,hy,S,V,Z];rw[hK f,hM f];exact⟨by kernel_rfl,⟨TrE.refl _,Bg⟩,⟨TrE.refl _,Bq⟩,rfl,rfl,⟨O,CX⟩,⟨TrE.refl _,CW⟩,rfl,rfl,rfl⟩
 simp[go_sem,Cb,Ep,C1,Jj,hs,K,hy,S,V,B];refine⟨by kernel_rfl,fun i hi C w=>C2 (if_pos ⟨j,⟨n,y,u.steps,l,B⟩,i,hi,C,w⟩),fun h=>⟨n+1,_,⟨u.next G l B,fun i hi=>?_⟩,by omega,rfl,F1 fun i c hi hc=>?_⟩⟩
 ·rcases(Q8 u.steps l).1 hi with rfl | hi
  ·exact fun ⟨a,C,w,h3⟩=>h a C w h3
  ·exact F i hi
 ·by_cases e:i=j
  ·subst e;have hv:Dx W b id (n+1) i:=(Q8 u.steps l).2 (.inl rfl);have C:FK W x (Dx W b id (n+1)) i = {W.A2 i with set:=x}:=if_pos hv;have w:FK W x (Dx W b id n) i = {W.A2 i with set:=x}\/FK W x (Dx W b id n) i=W.A2 i:=by
    by_cases g:Dx W b id n i
    ·exact .inl (if_pos g)
    ·exact .inr (if_neg g)
   rcases w with w | w
   ·match c,hc with
    | 0,_ | 1,_ | 2,_ | 3,_ | 4,_ | 5,_ | 6,_ | 7,_=>simp[Ab,snapsE,C,w]
   ·match c,hc with
    | 0,_ | 1,_ | 2,_ | 3,_ | 4,_ | 5,_ | 6,_ | 7,_=>simp[Ab,snapsE,C,w]
  ·have C:FK W x (Dx W b id (n+1)) i=FK W x (Dx W b id n) i:=by
    have:Dx W b id (n+1) i=Dx W b id n i:=propext ((Q8 u.steps l).trans ⟨fun h=>h.resolve_left e,.inr⟩);unfold FK;rw[this]
   unfold snapsE;simp[Ab,e,C]
set_option maxRecDepth 20000
set_option maxHeartbeats 3200000
attribute [go_sem] Bz
attribute [-go_sem] Bz
theorem MI(f g:Nat->Int)(t:Int)(n:Nat):(C5 f g t n).length<=n:=by
 have:=Kx f g t n;omega
variable{f g:Nat->Int}
theorem Og:(Bx n f g).length=n:=by simp[Bx]
theorem zGp:AK (Bx n f g ++ l) i=if i<n then f i else AK l (i - n):=by
 unfold AK Bx;simp only[List.getD_eq_getElem?_getD,List.getElem?_append,List.length_map,List.length_range];split
 ·rename_i h;simp[h]
 ·rfl
theorem zHG:AM (Bx n f g ++ l) i=if i<n then g i else AM l (i - n):=by
 unfold AM Bx;simp only[List.getD_eq_getElem?_getD,List.getElem?_append,List.length_map,List.length_range];split
 ·rename_i h;simp[h]
 ·rfl
theorem No{m:Nat}{F:Nat->Nat->Tr}(b:m=n+l.length)(hF:∀i j,i<m->j<2->F i j=if i<n then ptrsT f g i j else DD encP (0,0) l (i - n) j):TrE (.s .o 2 m F) (.s .o 2 (Bx n f g ++ l).length (ptrsT (AK (Bx n f g ++ l)) (AM (Bx n f g ++ l)))):=by
 refine⟨.inl rfl,rfl,by rw[b,List.length_append,Og],fun i j hi a=>TrE.of_eq ?_⟩;rw[hF i j hi a]
 match j,a with
 | 0,_=>simp only[ptrsT,zGp,PK];split<;>rfl
 | 1,_=>simp only[ptrsT,zHG,PL];split<;>rfl
theorem zIn(f:Nat->Nat->Tr)(k:Nat)(a b:Tr):Ab f k 3 [a,b] k 5=f k 5:=by simp[Ab]
abbrev toV(t:D4):List Tr:=[.s .o 3 t.pool.n (Aw .z t.pool.s),.s .o 1 t.pool.hn (BF t.pool.h),.v (.int .i64 t.rs),.v (.int .i64 t.rb),.s .o 2 t.old.length (ptL t.old),.v (.int .i64 t.code)]
def qQ:AJ:=AU (fun q:(A4×Int)×D4=>[woT q.1.1,iT q.1.2,(true,toV q.2)]) (fun q=>Bw q.1.1/\BE q.1.1/\(0<=q.1.2/\q.1.2<q.1.1.sn)/\(q.2.code=0->q.2.pool.hn+q.2.old.length<=1000000)) (fun q=>[wuO (Cm q.1.1 q.1.2.toNat q.2)])
theorem zGf(l:List (Int×Int)):K7 (.s .o 2 l.length (ptL l))=l:=by
 refine Eq.trans ?_ (Pr l);unfold K7;congr 1
theorem Vz(W:A4)(k:Int)(t:D4):qQ [woT W,iT k,(true,toV t)]=some (Bw W/\BE W/\(0<=k/\k<W.sn)/\(t.code=0->t.pool.hn+t.old.length<=1000000),[wuO (Cm W k.toNat t)]):=
 Af (fun m=>((C3 (nth m 0),AQ (nth m 1 0)),⟨Cs (nth m 2 0) (nth m 2 1),AQ (nth m 2 2),AQ (nth m 2 3),K7 (nth m 2 4),AQ (nth m 2 5)⟩)) (fun q=>by exact congrArg (fun l=>(q.1,(⟨q.2.pool,q.2.rs,q.2.rb,l,q.2.code⟩:D4))) (zGf q.2.old)) ((W,k),t)
theorem YB:NL Tryz.prog 33 qQ:=by
 refine zE8 (A:=fun q:(A4×Int)×D4=>[woT q.1.1,iT q.1.2]) (V:=fun q=>toV q.2) Al (GOk.cons IK (AB Tryz.func81 rfl rfl) (GOk.cons Gi (AB Tryz.func31 rfl rfl) (GOk.cons L6 (AB Tryz.func82 rfl rfl) (GOk.cons Ot (AB Tryz.func83 rfl rfl) (GOk.ptr RT (AB Tryz.func84 rfl rfl) GOk.nil))))) Ak Tryz.func33 rfl Tryz.ntmps33 Tryz.results33 13 ?_;rintro⟨⟨W,h⟩,t⟩ c;obtain⟨c,n,⟨m,g⟩,u⟩:Bw W/\BE W/\(0<=h/\h<W.sn)/\(t.code=0->t.pool.hn+t.old.length<=1000000):=c;have hs:=c.sn;have s:=c.pn;obtain⟨k,rfl⟩:=Int.eq_ofNat_of_zero_le m;have f:k<W.sn:=by omega
 refine⟨by simp,?_⟩;show ev _ _ _ _ _ _ (K3 _ _ [wuO (Cm W k t)]);by_cases d:t.code=0;rotate_left
 ·simp[go_sem,C1,d];exact C2 (if_neg d)
 have v:=Ko (fun k g=>(n.Ap.EM.ids k g).1) (W.A1 k).A6;have l:Cm W k t=⟨Cu W k t,0,((DR W k t).length:Int),0⟩:=if_pos d;simp[go_sem,C1,DW,Jr,MF,QH ⟨t.pool,W.time,W.next,W.sn,W.A1,W.pn,W.A2⟩,c,hs,s,d,v,f,Ao (show k<=1000000000 by omega),zIn,Us,YX,Ur,Yq,l];have y:=u d;have B:=GH (fun i=>AK t.old i) (fun i=>AM t.old i) (AI W (W.A1 k).A6).time t.old.length;have z:=MI (fun i=>AK t.old i) (fun i=>AM t.old i) (AI W (W.A1 k).A6).time t.old.length;have x:=c.sd k f;refine⟨by kernel_rfl,by omega,by omega,by omega,by kernel_rfl,⟨TrE.refl _,Bg⟩,⟨TrE.refl _,Bq⟩,rfl,rfl,⟨⟨.inl rfl,rfl,rfl,fun i j hi r=>?_⟩,CX⟩,⟨TrE.refl _,CW⟩,rfl⟩;show TrE _ (setsE .o (fun j=>if j=k then FY W k t else W.A1 j) i j);by_cases e:i=k
 ·subst e
  match j,r with
  | 0,_ | 1,_ | 2,_ | 3,_ | 4,_=>exact TrE.of_eq (by simp[Ab,setsE,FY])
  | 5,_=>
   simp[Ab,setsE,FY];exact No rfl fun a b w p=>by
    unfold Ah;split
    ·rfl
    ·match b,p with
     | 0,_ | 1,_=>rfl
 ·exact TrE.of_eq (by unfold setsE;simp[Ab,e])
open Classical in
def EU(W:A4)(x:ByteArray)(AA:Int)(d:ByteArray):Bk:=if 8000<x.size\/8000<d.size then BQ 2 else if BE W then(if BP W x then Cm W (B9 W x) (CA W.pool (W.A1 (B9 W x)).rs (W.A1 (B9 W x)).rb AA d W.time)else BQ 4)else BQ 1
open Classical in
def EP(W:A4)(x:ByteArray)(AA:Int):Bk:=if 8000<x.size then BQ 2 else if BE W then(if BP W x then Cm W (B9 W x) (CV W.pool (W.A1 (B9 W x)).rs (W.A1 (B9 W x)).rb AA W.time)else BQ 4)else BQ 1
def qT:AJ:=AU (fun q:(A4×ByteArray)×Int×ByteArray=>[woT q.1.1,sT q.1.2,iT q.2.1,sT q.2.2]) (fun q=>Bw q.1.1) (fun q=>[wuO (EU q.1.1 q.1.2 q.2.1 q.2.2)])
theorem MG(W:A4)(x:ByteArray)(AA:Int)(d:ByteArray):qT [woT W,sT x,iT AA,sT d]=some (Bw W,[wuO (EU W x AA d)]):=Af (fun l=>((C3 (nth l 0),CK (nth l 1 0)),AQ (nth l 2 0),CK (nth l 3 0))) (fun _=>rfl) ((W,x),AA,d)
theorem Yw:Am Tryz.prog 7 qT:=by
 refine Az Al (GOk.cons Fo (AB Tryz.func29 rfl rfl) (GOk.cons I3 (AB Tryz.func32 rfl rfl) (GOk.cons Gi (AB Tryz.func31 rfl rfl) (GOk.cons zCL (AB Tryz.func34 rfl rfl) (GOk.own YB (AB Tryz.func33 rfl rfl) GOk.nil))))) Ak Tryz.func7 rfl Tryz.ntmps7 Tryz.results7 10 ?_;rintro⟨⟨W,x⟩,AA,d⟩ a;replace a:Bw W:=a;have hs:=a.sn;have o:=a.n;have v:=a.hn;refine⟨by simp,?_⟩;by_cases g:8000<x.size\/8000<d.size
 ·rcases Nat.lt_or_ge 8000 x.size with h | h
  ·simp[go_sem,C1,show(8000:Int)<x.size by omega];exact C2 (if_pos g)
  ·simp[go_sem,C1,show ¬(8000:Int)<x.size by omega,show(8000:Int)<d.size by omega];exact C2 (if_pos g)
 have b:¬(8000:Int)<x.size:=by omega
 have c:¬(8000:Int)<d.size:=by omega
 by_cases e:BE W;rotate_left
 ·simp[go_sem,CH,Cb,C1,a,a.toSmallW,hs,o,b,c,e];exact C2 ((if_neg g).trans (if_neg e))
 by_cases i:BP W x;rotate_left
 ·simp[go_sem,CH,Cb,C1,a,a.toSmallW,hs,o,E4,Ci,b,c,e,i];exact C2 ((if_neg g).trans ((if_pos e).trans (if_neg i)))
 have B:=Ic i;have w:=Ci.2 i;have j:B9 W x<W.sn:=by show(BO W.sn fun k=>(W.A1 k).name=x).toNat<W.sn;omega
 obtain⟨k,f⟩:∃k,k=B9 W x:=⟨_,rfl⟩;have l:(BO W.sn fun k=>(W.A1 k).name=x)=(k:Int):=by rw[f];show _=((BO W.sn fun k=>(W.A1 k).name=x).toNat:Int);omega
 have m:¬(k:Int)<0:=by omega
 have q:EU W x AA d=Cm W k (CA W.pool (W.A1 k).rs (W.A1 k).rb AA d W.time):=by
  unfold EU;rw[if_neg g,if_pos e,if_pos i,<-f]
 rw[<-f]at j;have p:=Oo W.pool (W.A1 k).rs (W.A1 k).rb AA d W.time;obtain⟨t,s⟩:∃t,t=CA W.pool (W.A1 k).rs (W.A1 k).rb AA d W.time:=⟨_,rfl⟩;rw[<-s]at p q;have u:t.pool.hn+t.old.length<=1000000:=by
  have:=Jw e.right;have y:=p.1;have z:=p.2;have A:t.pool.hn<=An t.pool:=Nat.le_add_left ..;omega
 have r:=zHw W.pool (W.A1 k).rs (W.A1 k).rb AA d W.time;rw[<-s]at r;simp[go_sem,CH,Cb,C1,r,Vz W k t,a,a.toSmallW,hs,o,v,l,m,b,c,e,j,q,u];exact⟨by kernel_rfl,Bg,Bq,CX,CW⟩
def ym:AJ:=AU (fun q:(A4×ByteArray)×Int=>[woT q.1.1,sT q.1.2,iT q.2]) (fun q=>Bw q.1.1) (fun q=>[wuO (EP q.1.1 q.1.2 q.2)])
theorem Lx(W:A4)(x:ByteArray)(AA:Int):ym [woT W,sT x,iT AA]=some (Bw W,[wuO (EP W x AA)]):=Af (fun l=>((C3 (nth l 0),CK (nth l 1 0)),AQ (nth l 2 0))) (fun _=>rfl) ((W,x),AA)
theorem YD:Am Tryz.prog 14 ym:=by
 refine Az Al (GOk.cons Fo (AB Tryz.func29 rfl rfl) (GOk.cons I3 (AB Tryz.func32 rfl rfl) (GOk.cons Gi (AB Tryz.func31 rfl rfl) (GOk.cons zCC (AB Tryz.func38 rfl rfl) (GOk.own YB (AB Tryz.func33 rfl rfl) GOk.nil))))) Ak Tryz.func14 rfl Tryz.ntmps14 Tryz.results14 8 ?_;rintro⟨⟨W,x⟩,AA⟩ a;replace a:Bw W:=a;have hs:=a.sn;have j:=a.n;have r:=a.hn;refine⟨by simp,?_⟩;by_cases g:8000<x.size
 ·simp[go_sem,C1,show(8000:Int)<x.size by omega];exact C2 (if_pos g)
 have b:¬(8000:Int)<x.size:=by omega
 by_cases c:BE W;rotate_left
 ·simp[go_sem,CH,Cb,C1,a,a.toSmallW,hs,j,b,c];exact C2 ((if_neg g).trans (if_neg c))
 by_cases e:BP W x;rotate_left
 ·simp[go_sem,CH,Cb,C1,a,a.toSmallW,hs,j,E4,Ci,b,c,e];exact C2 ((if_neg g).trans ((if_pos c).trans (if_neg e)))
 have y:=Ic e;have s:=Ci.2 e;have f:B9 W x<W.sn:=by show(BO W.sn fun k=>(W.A1 k).name=x).toNat<W.sn;omega
 obtain⟨k,d⟩:∃k,k=B9 W x:=⟨_,rfl⟩;have h:(BO W.sn fun k=>(W.A1 k).name=x)=(k:Int):=by rw[d];show _=((BO W.sn fun k=>(W.A1 k).name=x).toNat:Int);omega
 have i:¬(k:Int)<0:=by omega
 have m:EP W x AA=Cm W k (CV W.pool (W.A1 k).rs (W.A1 k).rb AA W.time):=by
  unfold EP;rw[if_neg g,if_pos c,if_pos e,<-d]
 rw[<-d]at f;have l:=Oi W.pool (W.A1 k).rs (W.A1 k).rb AA W.time;obtain⟨t,p⟩:∃t,t=CV W.pool (W.A1 k).rs (W.A1 k).rb AA W.time:=⟨_,rfl⟩;rw[<-p]at l m;have q:t.pool.hn+t.old.length<=1000000:=by
  have:=Jw c.right;have u:=l.1;have v:=l.2;have w:t.pool.hn<=An t.pool:=Nat.le_add_left ..;omega
 have o:=zHv W.pool (W.A1 k).rs (W.A1 k).rb AA W.time;rw[<-p]at o;simp[go_sem,CH,Cb,C1,o,Vz W k t,a,a.toSmallW,hs,j,r,h,i,b,c,f,m,q];exact⟨by kernel_rfl,Bg,Bq,CX,CW⟩
end
end Go.Proofs.YtehdoekmnicdiaaGreatDoor
