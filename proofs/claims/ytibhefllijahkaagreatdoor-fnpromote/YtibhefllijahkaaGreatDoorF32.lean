/- A part of the proof. -/
import Derived.Test.YtibhefllijahkaaGreatDoorF31
set_option linter.unusedVariables false
set_option maxRecDepth 20000
set_option maxHeartbeats 4000000
namespace Go.Proofs.YtibhefllijahkaaGreatDoor
noncomputable section
open Go.RowKit
set_option linter.unusedSimpArgs false
set_option maxRecDepth 20000
set_option maxHeartbeats 3200000
noncomputable abbrev setK (W:A5) (x:ByteArray):Nat:=(BC W.sn fun k=>(W.A3 k).name=x).toNat
noncomputable abbrev EO (W:A5) (x:Int):Nat:=(BC W.pn fun k=>(W.A1 k).id=x).toNat
open Classical in
def J3(W:A5)(set name:ByteArray):BV:=if 8000<set.size\/8000<name.size then BG 2 else if Ak W/\BK name then(if B3 W set then(if ∃i,i<W.pn/\(W.A1 i).set=set/\(W.A1 i).name=name then BG 5 else if 20<=W.pn\/900000<=W.time\/900000<=W.next then BG 6 else⟨UT W (setK W set) name set,W.next,0,0⟩)else BG 4)else BG 1
variable{x:Int}
theorem yk(h:0<=x)(a:x<1000000):IntKind.i64.wrap (x+1)=x+1:=by
 unfold IntKind.wrap;simp[IntKind.signed,IntKind.bits];omega
attribute [-go_sem] BP
def Un:AE:=AU (fun q:A5×ByteArray×ByteArray=>[woT q.1,sT q.2.1,sT q.2.2]) (fun q=>BZ q.1) (fun q=>[wuO (J3 q.1 q.2.1 q.2.2)])
theorem zBQ(W:A5)(x a:ByteArray):Un [woT W,sT x,sT a]=some (BZ W,[wuO (J3 W x a)]):=Ac (fun l=>(BW (nth l 0),C1 (nth l 1 0),C1 (nth l 2 0))) (fun _=>rfl) (W,x,a)
theorem zAT:Ae Tryz.prog 136 Un:=by
 refine Ar Ah (GOk.cons IL (AA Tryz.func30 rfl rfl) (GOk.cons Fv (AA Tryz.func25 rfl rfl) (GOk.cons IJ (AA Tryz.func28 rfl rfl) (GOk.cons Gg (AA Tryz.func27 rfl rfl) (GOk.cons Oy (AA Tryz.func42 rfl rfl) (GOk.cons Z4 (AA Tryz.func31 rfl rfl) GOk.nil)))))) mixed Tryz.func136 rfl Tryz.ntmps136 Tryz.results136 10 ?_;rintro⟨W,x,a⟩ c;replace c:BZ W:=c;have hs:=c.sn;have r:=c.pn;refine⟨by simp,?_⟩;by_cases n:8000<x.size\/8000<a.size
 ·have t:(8000:Int)<x.size\/(8000:Int)<a.size:=(by omega);simp[go_sem,Be,t];exact⟨Bg (if_pos n),fun h s=>absurd n (by omega)⟩
 have d:¬(8000:Int)<x.size:=by omega
 have g:¬(8000:Int)<a.size:=by omega
 by_cases b:Ak W/\BK a;rotate_left
 ·simp[go_sem,DM,C2,CJ,Be,IB,K5,c,c.toSmallW,hs,r,E5,CW,d,g];refine⟨fun _=>Bg ((if_neg n).trans (if_neg b)),fun h s=>absurd ⟨h,s⟩ b⟩
 obtain⟨b,m⟩:=b;by_cases l:B3 W x;rotate_left
 ·simp[go_sem,DM,C2,CJ,Be,IB,K5,c,c.toSmallW,hs,r,E5,CW,d,g,b,m,l];exact Bg ((if_neg n).trans ((if_pos ⟨b,m⟩).trans (if_neg l)))
 by_cases p:∃i,i<W.pn/\(W.A1 i).set=x/\(W.A1 i).name=a
 ·simp[go_sem,DM,C2,CJ,Be,IB,K5,c,c.toSmallW,hs,r,E5,CW,d,g,b,m,l,p];exact Bg ((if_neg n).trans ((if_pos ⟨b,m⟩).trans ((if_pos l).trans (if_pos p))))
 by_cases hF:20<=W.pn\/900000<=W.time\/900000<=W.next
 ·simp[go_sem,DM,C2,CJ,Be,IB,K5,c,c.toSmallW,hs,r,E5,CW,d,g,b,m,l,p];refine⟨fun _=>Bg ((if_neg n).trans ((if_pos ⟨b,m⟩).trans ((if_pos l).trans ((if_neg p).trans (if_pos hF))))),fun h s D=>absurd hF (by omega)⟩
 have u:¬(20:Int)<=W.pn:=by omega
 have v:¬900000<=W.time:=by omega
 have w:¬900000<=W.next:=by omega
 have B:=Ik l;simp[go_sem,DM,C2,CJ,Be,IB,K5,c,c.toSmallW,hs,r,E5,CW,d,g,b,m,l,p,u,v,w];have C:J3 W x a=⟨UT W (setK W x) a x,W.next,0,0⟩:=by
  unfold J3;rw[if_neg n,if_pos ⟨b,m⟩,if_pos l,if_neg p,if_neg hF]
 rw[C];have A:setK W x<W.sn:=by have:=CW.2 l;show(BC W.sn fun k=>(W.A3 k).name=x).toNat<W.sn;omega
 obtain⟨k,q⟩:∃k,k=setK W x:=⟨_,rfl⟩;rw[<-q]at A ⊢;refine⟨B,by omega,B,⟨TrE.refl _,BT⟩,⟨TrE.refl _,BX⟩,?_⟩;rw[show(BC W.sn fun k=>(W.A3 k).name=x).toNat=k from q.symm];refine⟨yk (by have:=b.AX.1.1;omega) (by omega),yk (by have:=b.AX.2.1.1;omega) (by omega),⟨⟨.inl rfl,rfl,rfl,fun i j hi y=>?_⟩,CB⟩,⟨⟨.inl rfl,rfl,rfl,fun i j hi y=>?_⟩,CA⟩,rfl,rfl,rfl⟩
 ·show TrE _ (setsE .o (fun j=>if j=k then {W.A3 k with A6:=W.next,dn:=0}else W.A3 j) i j);by_cases e:i=k
  ·subst e
   match j,y with
   | 0,_ | 1,_ | 2,_ | 3,_ | 4,_=>exact TrE.of_eq (by simp[Ab,setsE])
   | 5,_=>simp[Ab,setsE,TrE]
  ·exact TrE.of_eq (by unfold setsE;simp[Ab,e])
 ·show TrE _ (snapsE .z (fun j=>if j=W.pn then MX W k a x else W.A1 j) i j);by_cases e:i<W.pn
  ·exact TrE.of_eq (by unfold snapsE;simp[Ai,e,show i≠W.pn by omega])
  ·cases (show i=W.pn by omega)
   match j,y with
   | 0,_ | 1,_ | 2,_ | 3,_ | 4,_ | 5,_ | 6,_=>exact TrE.of_eq (by simp[Ai,snapsE,MX,Tr.nt])
   | 7,_=>exact TrE.of_eq (by simp[Ai,snapsE,MX,Tr.nt])
set_option maxRecDepth 20000
set_option maxHeartbeats 3200000
def Kj(W:A5)(k:Nat)(t:Int):List (Int×Int):=Bz (fun i=>AO (AF W.pool (W.A3 k).rs (W.A3 k).rb) i) (fun i=>AS (AF W.pool (W.A3 k).rs (W.A3 k).rb) i) t (AF W.pool (W.A3 k).rs (W.A3 k).rb).length
def zJL(W:A5)(k j:Nat):A5:={GL W (Kj W k (W.A1 j).time)with A3:=fun i=>if i=k then {W.A3 k with rs:=(W.A1 j).rs,rb:=(W.A1 j).rb,dn:=0}else W.A3 i}
open Classical in
def Mx(W:A5)(k:Nat)(x:ByteArray):BV:=if Ba W (W.A3 k).A6/\(W.A1 (EO W (W.A3 k).A6)).set=x then⟨zJL W k (EO W (W.A3 k).A6),0,(Kj W k (W.A1 (EO W (W.A3 k).A6)).time).length,0⟩else BG 4
open Classical in
def Ic(W:A5)(x:ByteArray):BV:=if 8000<x.size then BG 2 else if Ak W then(if B3 W x then Mx W (setK W x) x else BG 4)else BG 1
theorem GC(f g:Nat->Int)(t:Int)(n:Nat):(Bz f g t n).length<=n:=by
 have:=MZ f g t n;omega
attribute [go_sem] BP
attribute [-go_sem] BP
def qi:AE:=AU (fun q:A5×ByteArray=>[woT q.1,sT q.2]) (fun q=>BZ q.1) (fun q=>[wuO (Ic q.1 q.2)])
theorem zFs(W:A5)(x:ByteArray):qi [woT W,sT x]=some (BZ W,[wuO (Ic W x)]):=Ac (fun l=>(BW (nth l 0),C1 (nth l 1 0))) (fun _=>rfl) (W,x)
theorem zC1:Ae Tryz.prog 140 qi:=by
 refine Ar Ah (GOk.cons IL (AA Tryz.func30 rfl rfl) (GOk.cons Fv (AA Tryz.func25 rfl rfl) (GOk.cons IJ (AA Tryz.func28 rfl rfl) (GOk.cons JA (AA Tryz.func29 rfl rfl) (GOk.cons Gg (AA Tryz.func27 rfl rfl) (GOk.cons Jv (AA Tryz.func115 rfl rfl) (GOk.cons Om (AA Tryz.func181 rfl rfl) (GOk.ptr RU (AA Tryz.func182 rfl rfl) GOk.nil)))))))) mixed Tryz.func140 rfl Tryz.ntmps140 Tryz.results140 11 ?_;rintro⟨W,x⟩ b;replace b:BZ W:=b;have hs:=b.sn;have q:=b.pn;refine⟨by simp,?_⟩;by_cases n:8000<x.size
 ·simp[go_sem,Be,show(8000:Int)<x.size by omega];exact Bg (if_pos n)
 have d:¬(8000:Int)<x.size:=by omega
 by_cases c:Ak W;rotate_left
 ·simp[go_sem,DM,C2,CJ,Be,b,b.toSmallW,hs,q,E5,CW,d,c];exact Bg ((if_neg n).trans (if_neg c))
 by_cases m:B3 W x;rotate_left
 ·simp[go_sem,DM,C2,CJ,Be,b,b.toSmallW,hs,q,E5,CW,d,c,m];exact Bg ((if_neg n).trans ((if_pos c).trans (if_neg m)))
 have y:=Ik m;have v:=CW.2 m;have a:setK W x<W.sn:=by show(BC W.sn fun k=>(W.A3 k).name=x).toNat<W.sn;omega
 obtain⟨k,g⟩:∃k,k=setK W x:=⟨_,rfl⟩;have p:(BC W.sn fun k=>(W.A3 k).name=x)=(k:Int):=by rw[g];show _=((BC W.sn fun k=>(W.A3 k).name=x).toNat:Int);omega
 rw[<-g]at a;have t:=(c.A3 k a).1;simp[go_sem,DM,C2,CJ,F4,Be,J0,MQ,QJ,b,b.toSmallW,hs,q,p,d,c,c.right,t,a,JP,Gx];have r:Ic W x=Mx W k x:=by
  unfold Ic;rw[if_neg n,if_pos c,if_pos m,<-g]
 refine⟨fun h=>absurd h (by omega),by kernel_rfl,fun h=>⟨h,KL h⟩,fun h=>?_,fun l s=>?_⟩
 ·exact Bg (r.trans (if_neg fun e=>h.elim (fun h=>h e.1) (fun h=>h (congrArg ByteArray.toList e.2))))
 rw[r,Mx,if_pos ⟨l,G9 s⟩];have hn:=Jn c.right;refine⟨⟨l,KL l⟩,Nat.le_trans (De ..) (by omega),by kernel_rfl,?_,⟨l,KL l⟩,a,by kernel_rfl,a,⟨TrE.refl _,BT⟩,⟨TrE.refl _,BX⟩,rfl,rfl,⟨⟨.inl rfl,rfl,rfl,fun i j hi u=>?_⟩,CB⟩,⟨TrE.refl _,CA⟩,rfl,rfl,rfl⟩
 ·have w:(AF W.pool (W.A3 k).rs (W.A3 k).rb).length<=73:=De ..;exact Nat.le_trans (Nat.add_le_add_left (Nat.le_trans (GC ..) w) _) (by omega)
 show TrE _ (setsE .o (fun i=>if i=k then {W.A3 k with rs:=(W.A1 (EO W (W.A3 k).A6)).rs,rb:=(W.A1 (EO W (W.A3 k).A6)).rb,dn:=0}else W.A3 i) i j);by_cases e:i=k
 ·subst e
  match j,u with
  | 0,_ | 1,_ | 2,_ | 3,_ | 4,_=>exact TrE.of_eq (by simp[Ab,setsE,GL])
  | 5,_=>simp[Ab,setsE,TrE]
 ·exact TrE.of_eq (by unfold setsE;simp[Ab,e,GL])
set_option maxRecDepth 20000
set_option maxHeartbeats 3200000
def yF(W:A5)(k:Nat):A5:={GL W (Kj W k (AC W (W.A3 k).A6).time)with sn:=W.sn - 1,A3:=fun i=>if i<k then W.A3 i else W.A3 (i+1)}
open Classical in
def Ih(W:A5)(x:ByteArray):BV:=if 8000<x.size then BG 2 else if Ak W then(if B3 W x then(if ∃i,i<W.pn/\(W.A1 i).set=x then BG 7 else⟨yF W (setK W x),0,(Kj W (setK W x) (AC W (W.A3 (setK W x)).A6).time).length,0⟩)else BG 4)else BG 1
variable{W:A5}{l:List (Int×Int)}
theorem V5:(GL W l).sn=W.sn:=rfl
theorem YV:(GL W l).A3=W.A3:=rfl
theorem V4:(GL W l).pn=W.pn:=rfl
theorem Yy:(GL W l).A1=W.A1:=rfl
attribute [go_sem] BP
attribute [-go_sem] BP
def yM:AE:=AU (fun q:A5×ByteArray=>[woT q.1,sT q.2]) (fun q=>BZ q.1) (fun q=>[wuO (Ih q.1 q.2)])
theorem zF4(W:A5)(x:ByteArray):yM [woT W,sT x]=some (BZ W,[wuO (Ih W x)]):=Ac (fun l=>(BW (nth l 0),C1 (nth l 1 0))) (fun _=>rfl) (W,x)
theorem zCQ:Ae Tryz.prog 139 yM:=by
 refine Ar Ah (GOk.cons IL (AA Tryz.func30 rfl rfl) (GOk.cons Fv (AA Tryz.func25 rfl rfl) (GOk.cons IJ (AA Tryz.func28 rfl rfl) (GOk.cons Gg (AA Tryz.func27 rfl rfl) (GOk.cons LD (AA Tryz.func114 rfl rfl) (GOk.cons Jv (AA Tryz.func115 rfl rfl) (GOk.cons Om (AA Tryz.func181 rfl rfl) (GOk.cons zDw (AA Tryz.func183 rfl rfl) (GOk.ptr RU (AA Tryz.func182 rfl rfl) GOk.nil))))))))) mixed Tryz.func139 rfl Tryz.ntmps139 Tryz.results139 12 ?_;rintro⟨W,x⟩ b;replace b:BZ W:=b;have hs:=b.sn;have q:=b.pn;refine⟨by simp,?_⟩;by_cases l:8000<x.size
 ·simp[go_sem,Be,show(8000:Int)<x.size by omega];exact Bg (if_pos l)
 have c:¬(8000:Int)<x.size:=by omega
 by_cases a:Ak W;rotate_left
 ·simp[go_sem,DM,C2,CJ,Be,b,b.toSmallW,hs,q,E5,CW,c,a];exact Bg ((if_neg l).trans (if_neg a))
 by_cases h:B3 W x;rotate_left
 ·simp[go_sem,DM,C2,CJ,Be,b,b.toSmallW,hs,q,E5,CW,c,a,h];exact Bg ((if_neg l).trans ((if_pos a).trans (if_neg h)))
 have r:=Ik h;have v:=CW.2 h;have g:setK W x<W.sn:=by show(BC W.sn fun k=>(W.A3 k).name=x).toNat<W.sn;omega
 obtain⟨k,d⟩:∃k,k=setK W x:=⟨_,rfl⟩;have m:(BC W.sn fun k=>(W.A3 k).name=x)=(k:Int):=by rw[d];show _=((BC W.sn fun k=>(W.A3 k).name=x).toNat:Int);omega
 have n:¬(k:Int)<0:=by omega
 by_cases p:∃i,i<W.pn/\(W.A1 i).set=x
 ·simp[go_sem,DM,C2,CJ,Be,Tt,b,b.toSmallW,hs,q,m,n,c,a,p];exact Bg ((if_neg l).trans ((if_pos a).trans ((if_pos h).trans (if_pos p))))
 have s:Ih W x=⟨yF W k,0,(Kj W k (AC W (W.A3 k).A6).time).length,0⟩:=by
  unfold Ih;rw[if_neg l,if_pos a,if_pos h,if_neg p,<-d]
 rw[<-d]at g;have u:=(a.A3 k g).1;have y:=L0 (fun k r=>(a.AX.DG.ids k r).1) (W.A3 k).A6;simp[go_sem,DM,C2,CJ,Tt,K4,Be,J0,MQ,QJ,b,b.toSmallW,hs,q,m,n,c,a,p,y,a.right,u,g,s,Al (show k<=1000000000 by omega),V5,YV,V4,Yy];have hn:=Jn a.right;refine⟨by kernel_rfl,Nat.le_trans (De ..) (by omega),by kernel_rfl,?_,?_⟩
 ·have w:(AF W.pool (W.A3 k).rs (W.A3 k).rb).length<=73:=De ..;exact Nat.le_trans (Nat.add_le_add_left (Nat.le_trans (GC ..) w) _) (by omega)
 refine⟨by omega,⟨by omega,by omega⟩,⟨by omega,by omega⟩,⟨by omega,by omega⟩,by kernel_rfl,⟨TrE.refl _,BT⟩,⟨TrE.refl _,BX⟩,rfl,rfl,⟨⟨.inl rfl,rfl,by show k+(W.sn - (k+1))=W.sn - 1;omega,fun i j hi z=>TrE.of_eq ?_⟩,CB⟩,⟨TrE.refl _,CA⟩,rfl⟩;show _=setsE .o (fun i=>if i<k then W.A3 i else W.A3 (i+1)) i j;by_cases e:i<k
 ·unfold setsE;simp[Ai,e]
 ·have:k+1+(i - k)=i+1:=(by omega);have t:¬i+1<k:=(by omega);unfold setsE;simp[Ai,e,ntR,this,t]
set_option maxRecDepth 20000
set_option maxHeartbeats 3200000
def Dw(W:A5)(other:ByteArray)(id:Int)(n j:Nat):Prop:=∃m x,m<n/\Steps W other id m x/\B5 W x j
def DS(W:A5)(other:ByteArray)(id:Int)(j:Nat):Prop:=∃m x,Steps W other id m x/\B5 W x j/\(W.A1 j).set=other
open Classical in
def EL(W:A5)(name:ByteArray)(V:Nat->Prop):Nat->AL:=fun j=>if V j then {W.A1 j with set:=name}else W.A1 j
def Ji(W:A5)(x y:ByteArray):Prop:=∃i,i<W.pn/\(W.A1 i).set=x/\(W.A1 i).name=y
def Ed(W:A5)(k d:Nat)(name other:ByteArray)(id:Int):A5:={W with A1:=EL W name (DS W other id),A3:=fun i=>if i=d then {W.A3 d with origin:=id}else if i=k then {W.A3 k with origin:=(W.A3 d).origin}else W.A3 i}
open Classical in
def Gm(W:A5)(k:Nat)(x other:ByteArray)(id:Int):BV:=if ∃j,DS W other id j/\Ji W x (W.A1 j).name then BG 5 else⟨Ed W k (setK W other) x other id,id,0,0⟩
open Classical in
def DX(W:A5)(x:ByteArray):BV:=if 8000<x.size then BG 2 else if Ak W then(if B3 W x then(if (W.A3 (setK W x)).origin=0 then BG 7 else Gm W (setK W x) x (W.A1 (EO W (W.A3 (setK W x)).origin)).set (W.A3 (setK W x)).origin)else BG 4)else BG 1
variable{a:ByteArray}{n i:Nat}
theorem Ps{id:Int}{j:Nat}(h:Steps W a id n x)(b:B5 W x j):Dw W a id (n+1) i↔i=j\/Dw W a id n i:=by
 constructor
 ·rintro⟨m,y,c,hs,hi⟩;by_cases e:m=n
  ·subst e;rw[hs.det h]at hi;exact .inl (hi.uniq b)
  ·exact .inr ⟨m,y,by omega,hs,hi⟩
 ·rintro(rfl | ⟨m,y,c,hs,hi⟩)
  ·exact⟨n,x,by omega,h,b⟩
  ·exact⟨m,y,by omega,hs,hi⟩
theorem Ur{id:Int}(h:Steps W a id n x)(g:¬Ev W a x):Dw W a id n i↔DS W a id i:=by
 constructor
 ·rintro⟨m,y,d,hs,hi⟩;obtain⟨z,c,j,k,b⟩:=h.less d;rw[hs.det c]at hi;refine⟨m,z,c,hi,?_⟩;rw[hi.uniq k];exact b
 ·rintro⟨m,y,hs,hi,b⟩;by_cases d:m<n
  ·exact⟨m,y,d,hs,hi⟩
  ·exfalso;by_cases e:m=n
   ·subst e;rw[hs.det h]at hi;exact g ⟨i,hi,b⟩
   ·obtain⟨z,c,l⟩:=hs.less (show n<m by omega);rw[h.det c]at g;exact g l
attribute [go_sem] BP
attribute [-go_sem] BP
def zM:AE:=AU (fun q:A5×ByteArray=>[woT q.1,sT q.2]) (fun q=>BZ q.1) (fun q=>[wuO (DX q.1 q.2)])
theorem Ls(W:A5)(x:ByteArray):zM [woT W,sT x]=some (BZ W,[wuO (DX W x)]):=Ac (fun l=>(BW (nth l 0),C1 (nth l 1 0))) (fun _=>rfl) (W,x)
theorem Yh:Ae Tryz.prog 7 zM:=by
 refine Ar Ah (GOk.cons IL (AA Tryz.func30 rfl rfl) (GOk.cons Fv (AA Tryz.func25 rfl rfl) (GOk.cons IJ (AA Tryz.func28 rfl rfl) (GOk.cons JA (AA Tryz.func29 rfl rfl) (GOk.cons Gg (AA Tryz.func27 rfl rfl) (GOk.cons Z4 (AA Tryz.func31 rfl rfl) GOk.nil)))))) mixed Tryz.func7 rfl Tryz.ntmps7 Tryz.results7 12 ?_;rintro⟨W,x⟩ u;replace u:BZ W:=u;have hs:=u.sn;have L:=u.pn;refine⟨by simp,?_⟩;by_cases N:8000<x.size
 ·simp[go_sem,Be,show(8000:Int)<x.size by omega];exact Bg (if_pos N)
 have E:¬(8000:Int)<x.size:=by omega
 by_cases B:Ak W;rotate_left
 ·simp[go_sem,DM,C2,CJ,Be,u,u.toSmallW,hs,L,E5,CW,E,B];exact Bg ((if_neg N).trans (if_neg B))
 by_cases K:B3 W x;rotate_left
 ·simp[go_sem,DM,C2,CJ,Be,u,u.toSmallW,hs,L,E5,CW,E,B,K];exact Bg ((if_neg N).trans ((if_pos B).trans (if_neg K)))
 have hk:=Ik K;have mA:=CW.2 K;have t:setK W x<W.sn:=by show(BC W.sn fun k=>(W.A3 k).name=x).toNat<W.sn;omega
 obtain⟨k,F⟩:∃k,k=setK W x:=⟨_,rfl⟩;have U:(BC W.sn fun k=>(W.A3 k).name=x)=(k:Int):=by rw[F];show _=((BC W.sn fun k=>(W.A3 k).name=x).toNat:Int);omega
 have Y:¬(k:Int)<0:=by omega
 rw[<-F]at t;by_cases O:(W.A3 k).origin=0
 ·simp[go_sem,DM,C2,CJ,Be,u,u.toSmallW,hs,L,U,Y,E,B,t,O];exact Bg ((if_neg N).trans ((if_pos B).trans ((if_pos K).trans (if_pos (F▸O)))))
 have hI:Ba W (W.A3 k).origin:=(B.AX.2.2.2.2.1 k t).2.2.2 O;obtain⟨q,hq⟩:=hI.no;have V:(BC W.pn fun j=>(W.A1 j).id=(W.A3 k).origin)=(q:Int):=Gb hq.1 hq.2.1 hq.2.2;have Z:=hq.1;obtain⟨id,I⟩:∃id,id=(W.A3 k).origin:=⟨_,rfl⟩;obtain⟨b,J⟩:∃o,o=(W.A1 q).set:=⟨_,rfl⟩;simp[go_sem,DM,C2,CJ,F4,Be,K5,u,u.toSmallW,hs,L,U,Y,E,B,t,O,V,Z];rw[<-I,<-J];refine⟨by kernel_rfl,?_⟩;have H:=B.AX.DG;have hS:B3 W b:=by rw[J];exact(B.AX.2.2.2.2.2 q Z).1.2.2.2.2.2
 have hd:=Ik hS;have lA:=CW.2 hS;obtain⟨d,Q⟩:∃d,d=setK W b:=⟨_,rfl⟩;have S:(BC W.sn fun k=>(W.A3 k).name=b)=(d:Int):=by rw[Q];show _=((BC W.sn fun k=>(W.A3 k).name=b).toNat:Int);omega
 have R:d<W.sn:=by omega
 have eR:DX W x=Gm W k x b id:=by
  unfold DX;rw[if_neg N,if_pos B,if_pos K,<-F,if_neg O,I,J];show Gm W k x (W.A1 (BC W.pn fun j=>(W.A1 j).id=(W.A3 k).origin).toNat).set _=_;rw[V,Int.toNat_natCast]
 rw[eR];refine Ax (fun q:Nat×Int=>⟨[(9,true,.m false [.v (.int .i64 q.2)]),(8,true,.m false [.p 8 0]),(7,true,.m false [.v (.string b)]),(6,true,.m false [.v (.int .i64 id)]),(5,true,.i k),(4,true,.m false [.p 4 0]),(2,true,.m false [.p 2 0]),(1,true,.m false [.v (.string x)])],[(8,.var [.h 61,.h 62,.v (.int .i64 W.time),.v (.int .i64 W.next),.h 63,.h 64]),(64,.row 8 W.pn (snapsE .z (EL W x (Dw W b id q.1)))),(63,.row 6 W.sn (setsE .o W.A3)),(62,.row 1 W.pool.hn (Ay W.pool.h)),(61,.row 3 W.pool.n (Ao .z W.pool.s)),(4,.var [.v n0,.v n0,.v i0,.v i0,.v n0,.v n0,.v i0,.v i0,.v i0]),(2,.var ((woL W).map Tr.cv))]⟩) (fun q=>1000000 - q.1) (fun q=>Eh W b id q.1 q.2/\∀j,Dw W b id q.1 j->¬Ji W x (W.A1 j).name) (0,id) ?_ ⟨Eh.start H _ (.inr (I▸hI)),fun j ⟨m,y,hm,_⟩=>absurd hm (Nat.not_lt_zero _)⟩ ?_
 ·have e0:EL W x (Dw W b id 0)=W.A1:=funext fun j=>if_neg fun ⟨m,y,hm,_⟩=>absurd hm (Nat.not_lt_zero _)
  simp[go_sem,e0]
 rintro⟨n,y⟩ ⟨w,G⟩;replace w:Eh W b id n y:=w;replace G:∀j,Dw W b id n j->¬Ji W x (W.A1 j).name:=G;have ha:n<=900000:=by have:=w.least;have:=w.sum;omega
 have hM:¬Ev W b y->EL W x (Dw W b id n)=EL W x (DS W b id):=fun he=>by
  have:Dw W b id n=DS W b id:=funext fun i=>propext (Ur w.steps he)
  rw[this]
 have hK:¬Ev W b y->Gm W k x b id=⟨Ed W k d x b id,id,0,0⟩:=fun he=>by
  rw[Q];exact if_neg fun ⟨i,D,A⟩=>G i ((Ur w.steps he).2 D) A
 have P:TrE (Tr.s .o 6 W.sn (Ab (Ab (setsE .o W.A3) k 1 [.v (.int .i64 (W.A3 d).origin)]) d 1 [.v (.int .i64 id)])) (Tr.s .o 6 W.sn (setsE .o (Ed W k d x b id).A3)):=FF fun i j hi r=>by
  show _=setsE .o (fun i=>if i=d then {W.A3 d with origin:=id}else if i=k then {W.A3 k with origin:=(W.A3 d).origin}else W.A3 i) i j;by_cases e1:i=d
  ·subst e1;by_cases M:i=k
   ·subst M
    match j,r with
    | 0,_ | 1,_ | 2,_ | 3,_ | 4,_ | 5,_=>simp[Ab,setsE]
   ·match j,r with
    | 0,_ | 1,_ | 2,_ | 3,_ | 4,_ | 5,_=>simp[Ab,setsE,M]
  ·by_cases M:i=k
   ·subst M
    match j,r with
    | 0,_ | 1,_ | 2,_ | 3,_ | 4,_ | 5,_=>simp[Ab,setsE,e1]
   ·unfold setsE;simp[Ab,e1,M]
 by_cases hy:y=0
 ·subst hy;have l:=ZB H b;simp[go_sem,CJ,hs,S,R,t];rw[hK l,hM l];exact⟨by kernel_rfl,⟨TrE.refl _,BT⟩,⟨TrE.refl _,BX⟩,rfl,rfl,⟨P,CB⟩,⟨TrE.refl _,CA⟩,rfl,rfl,rfl⟩
 obtain⟨j,r⟩:=(w.there.resolve_left hy).no;have T:(BC W.pn fun i=>(W.A1 i).id=y)=(j:Int):=Gb r.1 r.2.1 r.2.2;have X:=r.1;by_cases C:(W.A1 j).set=b;rotate_left
 ·have l:=Xw r C;have aA:¬(W.A1 j).set.toList=b.toList:=fun e=>C (G9 e)
  simp[go_sem,CJ,F4,hs,L,S,R,t,hy,T,X,aA];rw[hK l,hM l];exact⟨by kernel_rfl,⟨TrE.refl _,BT⟩,⟨TrE.refl _,BX⟩,rfl,rfl,⟨P,CB⟩,⟨TrE.refl _,CA⟩,rfl,rfl,rfl⟩
 simp[go_sem,CJ,F4,Be,K5,hs,L,hy,T,X,C];refine⟨by kernel_rfl,fun i hi D A=>Bg (if_pos ⟨j,⟨n,y,w.steps,r,C⟩,i,hi,D,A⟩),fun h=>⟨n+1,_,⟨w.next H r C,fun i hi=>?_⟩,by omega,rfl,FF fun i c hi hc=>?_⟩⟩
 ·rcases(Ps w.steps r).1 hi with rfl | hi
  ·exact fun ⟨a,D,A,h3⟩=>h a D A h3
  ·exact G i hi
 ·by_cases e:i=j
  ·subst e;have hv:Dw W b id (n+1) i:=(Ps w.steps r).2 (.inl rfl);have D:EL W x (Dw W b id (n+1)) i = {W.A1 i with set:=x}:=if_pos hv;have A:EL W x (Dw W b id n) i = {W.A1 i with set:=x}\/EL W x (Dw W b id n) i=W.A1 i:=by
    by_cases g:Dw W b id n i
    ·exact .inl (if_pos g)
    ·exact .inr (if_neg g)
   rcases A with A | A
   ·match c,hc with
    | 0,_ | 1,_ | 2,_ | 3,_ | 4,_ | 5,_ | 6,_ | 7,_=>simp[Ab,snapsE,D,A]
   ·match c,hc with
    | 0,_ | 1,_ | 2,_ | 3,_ | 4,_ | 5,_ | 6,_ | 7,_=>simp[Ab,snapsE,D,A]
  ·have D:EL W x (Dw W b id (n+1)) i=EL W x (Dw W b id n) i:=by
    have:Dw W b id (n+1) i=Dw W b id n i:=propext ((Ps w.steps r).trans ⟨fun h=>h.resolve_left e,.inr⟩);unfold EL;rw[this]
   unfold snapsE;simp[Ab,e,D]
set_option maxRecDepth 20000
set_option maxHeartbeats 3200000
attribute [go_sem] BP
attribute [-go_sem] BP
theorem MS(f g:Nat->Int)(t:Int)(n:Nat):(Ce f g t n).length<=n:=by
 have:=MZ f g t n;omega
variable{f g:Nat->Int}
theorem Oe:(Dx n f g).length=n:=by simp[Dx]
theorem zHU:AO (Dx n f g ++ l) i=if i<n then f i else AO l (i - n):=by
 unfold AO Dx;simp only[List.getD_eq_getElem?_getD,List.getElem?_append,List.length_map,List.length_range];split
 ·rename_i h;simp[h]
 ·rfl
theorem zHx:AS (Dx n f g ++ l) i=if i<n then g i else AS l (i - n):=by
 unfold AS Dx;simp only[List.getD_eq_getElem?_getD,List.getElem?_append,List.length_map,List.length_range];split
 ·rename_i h;simp[h]
 ·rfl
theorem Ny{m:Nat}{F:Nat->Nat->Tr}(b:m=n+l.length)(hF:∀i j,i<m->j<2->F i j=if i<n then ptrsT f g i j else D6 encP (0,0) l (i - n) j):TrE (.s .o 2 m F) (.s .o 2 (Dx n f g ++ l).length (ptrsT (AO (Dx n f g ++ l)) (AS (Dx n f g ++ l)))):=by
 refine⟨.inl rfl,rfl,by rw[b,List.length_append,Oe],fun i j hi a=>TrE.of_eq ?_⟩;rw[hF i j hi a]
 match j,a with
 | 0,_=>simp only[ptrsT,zHU,PP];split<;>rfl
 | 1,_=>simp only[ptrsT,zHx,PQ];split<;>rfl
theorem zJV(f:Nat->Nat->Tr)(k:Nat)(a b:Tr):Ab f k 3 [a,b] k 5=f k 5:=by simp[Ab]
abbrev toV(t:EC):List Tr:=[.s .o 3 t.pool.n (Ao .z t.pool.s),.s .o 1 t.pool.hn (Ay t.pool.h),.v (.int .i64 t.rs),.v (.int .i64 t.rb),.s .o 2 t.old.length (ptL t.old),.v (.int .i64 t.code)]
def qH:AE:=AU (fun q:(A5×Int)×EC=>[woT q.1.1,iT q.1.2,(true,toV q.2)]) (fun q=>BZ q.1.1/\Ak q.1.1/\(0<=q.1.2/\q.1.2<q.1.1.sn)/\(q.2.code=0->q.2.pool.hn+q.2.old.length<=1000000)) (fun q=>[wuO (GS q.1.1 q.1.2.toNat q.2)])
theorem zHL(l:List (Int×Int)):KA (.s .o 2 l.length (ptL l))=l:=by
 refine Eq.trans ?_ (Q1 l);unfold KA;congr 1
theorem XB(W:A5)(k:Int)(t:EC):qH [woT W,iT k,(true,toV t)]=some (BZ W/\Ak W/\(0<=k/\k<W.sn)/\(t.code=0->t.pool.hn+t.old.length<=1000000),[wuO (GS W k.toNat t)]):=
 Ac (fun m=>((BW (nth m 0),AQ (nth m 1 0)),⟨CY (nth m 2 0) (nth m 2 1),AQ (nth m 2 2),AQ (nth m 2 3),KA (nth m 2 4),AQ (nth m 2 5)⟩)) (fun q=>by exact congrArg (fun l=>(q.1,(⟨q.2.pool,q.2.rs,q.2.rb,l,q.2.code⟩:EC))) (zHL q.2.old)) ((W,k),t)
theorem YB:NQ Tryz.prog 178 qH:=by
 refine zEn (A:=fun q:(A5×Int)×EC=>[woT q.1.1,iT q.1.2]) (V:=fun q=>toV q.2) Ah (GOk.cons IL (AA Tryz.func30 rfl rfl) (GOk.cons Gg (AA Tryz.func27 rfl rfl) (GOk.cons LD (AA Tryz.func114 rfl rfl) (GOk.cons Om (AA Tryz.func181 rfl rfl) (GOk.ptr RU (AA Tryz.func182 rfl rfl) GOk.nil))))) mixed Tryz.func178 rfl Tryz.ntmps178 Tryz.results178 13 ?_;rintro⟨⟨W,l⟩,t⟩ c;obtain⟨c,p,⟨n,h⟩,v⟩:BZ W/\Ak W/\(0<=l/\l<W.sn)/\(t.code=0->t.pool.hn+t.old.length<=1000000):=c;have hs:=c.sn;have u:=c.pn;obtain⟨k,rfl⟩:=Int.eq_ofNat_of_zero_le n;have g:k<W.sn:=by omega
 refine⟨by simp,?_⟩;show ev _ _ _ _ _ _ (KE _ _ [wuO (GS W k t)]);by_cases d:t.code=0;rotate_left
 ·simp[go_sem,Be,d];exact Bg (if_neg d)
 have w:=L0 (fun k h=>(p.AX.DG.ids k h).1) (W.A3 k).A6;have m:GS W k t=⟨zB W k t,0,((PG W k t).length:Int),0⟩:=if_pos d;simp[go_sem,Be,DM,K4,MQ,QJ ⟨t.pool,W.time,W.next,W.sn,W.A3,W.pn,W.A1⟩,c,hs,u,d,w,g,Al (show k<=1000000000 by omega),zJV,V5,YV,V4,Yy,m];have z:=v d;have C:=GC (fun i=>AO t.old i) (fun i=>AS t.old i) (AC W (W.A3 k).A6).time t.old.length;have B:=MS (fun i=>AO t.old i) (fun i=>AS t.old i) (AC W (W.A3 k).A6).time t.old.length;have y:=c.sd k g;refine⟨by kernel_rfl,by omega,by omega,by omega,by kernel_rfl,⟨TrE.refl _,BT⟩,⟨TrE.refl _,BX⟩,rfl,rfl,⟨⟨.inl rfl,rfl,rfl,fun i j hi s=>?_⟩,CB⟩,⟨TrE.refl _,CA⟩,rfl⟩;show TrE _ (setsE .o (fun j=>if j=k then Lg W k t else W.A3 j) i j);by_cases e:i=k
 ·subst e
  match j,s with
  | 0,_ | 1,_ | 2,_ | 3,_ | 4,_=>exact TrE.of_eq (by simp[Ab,setsE,Lg])
  | 5,_=>
   simp[Ab,setsE,Lg];exact Ny rfl fun a b x r=>by
    unfold Ai;split
    ·rfl
    ·match b,r with
     | 0,_ | 1,_=>rfl
 ·exact TrE.of_eq (by unfold setsE;simp[Ab,e])
open Classical in
def Il(W:A5)(x:ByteArray)(page:Int)(d:ByteArray):BV:=if 8000<x.size\/8000<d.size then BG 2 else if Ak W then(if B3 W x then GS W (setK W x) (EU W.pool (W.A3 (setK W x)).rs (W.A3 (setK W x)).rb page d W.time)else BG 4)else BG 1
open Classical in
def Ib(W:A5)(x:ByteArray)(page:Int):BV:=if 8000<x.size then BG 2 else if Ak W then(if B3 W x then GS W (setK W x) (FZ W.pool (W.A3 (setK W x)).rs (W.A3 (setK W x)).rb page W.time)else BG 4)else BG 1
def qL:AE:=AU (fun q:(A5×ByteArray)×Int×ByteArray=>[woT q.1.1,sT q.1.2,iT q.2.1,sT q.2.2]) (fun q=>BZ q.1.1) (fun q=>[wuO (Il q.1.1 q.1.2 q.2.1 q.2.2)])
theorem zEF(W:A5)(x:ByteArray)(a:Int)(d:ByteArray):qL [woT W,sT x,iT a,sT d]=some (BZ W,[wuO (Il W x a d)]):=Ac (fun l=>((BW (nth l 0),C1 (nth l 1 0)),AQ (nth l 2 0),C1 (nth l 3 0))) (fun _=>rfl) ((W,x),a,d)
theorem zC2:Ae Tryz.prog 142 qL:=by
 refine Ar Ah (GOk.cons Fv (AA Tryz.func25 rfl rfl) (GOk.cons IJ (AA Tryz.func28 rfl rfl) (GOk.cons Gg (AA Tryz.func27 rfl rfl) (GOk.cons zC9 (AA Tryz.func184 rfl rfl) (GOk.own YB (AA Tryz.func178 rfl rfl) GOk.nil))))) mixed Tryz.func142 rfl Tryz.ntmps142 Tryz.results142 10 ?_;rintro⟨⟨W,x⟩,a,d⟩ b;replace b:BZ W:=b;have hs:=b.sn;have q:=b.n;have y:=b.hn;refine⟨by simp,?_⟩;by_cases j:8000<x.size\/8000<d.size
 ·rcases Nat.lt_or_ge 8000 x.size with h | h
  ·simp[go_sem,Be,show(8000:Int)<x.size by omega];exact Bg (if_pos j)
  ·simp[go_sem,Be,show ¬(8000:Int)<x.size by omega,show(8000:Int)<d.size by omega];exact Bg (if_pos j)
 have c:¬(8000:Int)<x.size:=by omega
 have e:¬(8000:Int)<d.size:=by omega
 by_cases g:Ak W;rotate_left
 ·simp[go_sem,C2,CJ,Be,b,b.toSmallW,hs,q,c,e,g];exact Bg ((if_neg j).trans (if_neg g))
 by_cases l:B3 W x;rotate_left
 ·simp[go_sem,C2,CJ,Be,b,b.toSmallW,hs,q,E5,CW,c,e,g,l];exact Bg ((if_neg j).trans ((if_pos g).trans (if_neg l)))
 have D:=Ik l;have z:=CW.2 l;have m:setK W x<W.sn:=by show(BC W.sn fun k=>(W.A3 k).name=x).toNat<W.sn;omega
 obtain⟨k,i⟩:∃k,k=setK W x:=⟨_,rfl⟩;have o:(BC W.sn fun k=>(W.A3 k).name=x)=(k:Int):=by rw[i];show _=((BC W.sn fun k=>(W.A3 k).name=x).toNat:Int);omega
 have p:¬(k:Int)<0:=by omega
 have s:Il W x a d=GS W k (EU W.pool (W.A3 k).rs (W.A3 k).rb a d W.time):=by
  unfold Il;rw[if_neg j,if_pos g,if_pos l,<-i]
 rw[<-i]at m;have r:=Rf W.pool (W.A3 k).rs (W.A3 k).rb a d W.time;obtain⟨t,v⟩:∃t,t=EU W.pool (W.A3 k).rs (W.A3 k).rb a d W.time:=⟨_,rfl⟩;rw[<-v]at r s;have w:t.pool.hn+t.old.length<=1000000:=by
  have:=Oq g.right;have A:=r.1;have B:=r.2;have C:t.pool.hn<=Az t.pool:=Nat.le_add_left ..;omega
 have u:=zIi W.pool (W.A3 k).rs (W.A3 k).rb a d W.time;rw[<-v]at u;simp[go_sem,C2,CJ,Be,u,XB W k t,b,b.toSmallW,hs,q,y,o,p,c,e,g,m,s,w];exact⟨by kernel_rfl,BT,BX,CB,CA⟩
def ye:AE:=AU (fun q:(A5×ByteArray)×Int=>[woT q.1.1,sT q.1.2,iT q.2]) (fun q=>BZ q.1.1) (fun q=>[wuO (Ib q.1.1 q.1.2 q.2)])
theorem zFx(W:A5)(x:ByteArray)(a:Int):ye [woT W,sT x,iT a]=some (BZ W,[wuO (Ib W x a)]):=Ac (fun l=>((BW (nth l 0),C1 (nth l 1 0)),AQ (nth l 2 0))) (fun _=>rfl) ((W,x),a)
theorem zBC:Ae Tryz.prog 134 ye:=by
 refine Ar Ah (GOk.cons Fv (AA Tryz.func25 rfl rfl) (GOk.cons IJ (AA Tryz.func28 rfl rfl) (GOk.cons Gg (AA Tryz.func27 rfl rfl) (GOk.cons zC3 (AA Tryz.func179 rfl rfl) (GOk.own YB (AA Tryz.func178 rfl rfl) GOk.nil))))) mixed Tryz.func134 rfl Tryz.ntmps134 Tryz.results134 8 ?_;rintro⟨⟨W,x⟩,a⟩ b;replace b:BZ W:=b;have hs:=b.sn;have m:=b.n;have u:=b.hn;refine⟨by simp,?_⟩;by_cases i:8000<x.size
 ·simp[go_sem,Be,show(8000:Int)<x.size by omega];exact Bg (if_pos i)
 have c:¬(8000:Int)<x.size:=by omega
 by_cases d:Ak W;rotate_left
 ·simp[go_sem,C2,CJ,Be,b,b.toSmallW,hs,m,c,d];exact Bg ((if_neg i).trans (if_neg d))
 by_cases g:B3 W x;rotate_left
 ·simp[go_sem,C2,CJ,Be,b,b.toSmallW,hs,m,E5,CW,c,d,g];exact Bg ((if_neg i).trans ((if_pos d).trans (if_neg g)))
 have A:=Ik g;have v:=CW.2 g;have h:setK W x<W.sn:=by show(BC W.sn fun k=>(W.A3 k).name=x).toNat<W.sn;omega
 obtain⟨k,e⟩:∃k,k=setK W x:=⟨_,rfl⟩;have j:(BC W.sn fun k=>(W.A3 k).name=x)=(k:Int):=by rw[e];show _=((BC W.sn fun k=>(W.A3 k).name=x).toNat:Int);omega
 have l:¬(k:Int)<0:=by omega
 have p:Ib W x a=GS W k (FZ W.pool (W.A3 k).rs (W.A3 k).rb a W.time):=by
  unfold Ib;rw[if_neg i,if_pos d,if_pos g,<-e]
 rw[<-e]at h;have o:=Rd W.pool (W.A3 k).rs (W.A3 k).rb a W.time;obtain⟨t,r⟩:∃t,t=FZ W.pool (W.A3 k).rs (W.A3 k).rb a W.time:=⟨_,rfl⟩;rw[<-r]at o p;have s:t.pool.hn+t.old.length<=1000000:=by
  have:=Oq d.right;have w:=o.1;have y:=o.2;have z:t.pool.hn<=Az t.pool:=Nat.le_add_left ..;omega
 have q:=zIh W.pool (W.A3 k).rs (W.A3 k).rb a W.time;rw[<-r]at q;simp[go_sem,C2,CJ,Be,q,XB W k t,b,b.toSmallW,hs,m,u,j,l,c,d,h,p,s];exact⟨by kernel_rfl,BT,BX,CB,CA⟩
end
end Go.Proofs.YtibhefllijahkaaGreatDoor
