/- A part of the proof. -/
import Derived.Test.YtehdoekmnicdiaaGreatDoorF28
set_option linter.unusedVariables false
set_option maxRecDepth 20000
set_option maxHeartbeats 4000000
namespace Go.Proofs.YtehdoekmnicdiaaGreatDoor
noncomputable section
open Go.RowKit
set_option linter.unusedSimpArgs false
set_option maxRecDepth 20000
set_option maxHeartbeats 1600000
variable{p:A5}
theorem KY{a b:Int}(d:AY p)(h:DO p a b):(p.s a.toNat).kn=8:=by
 rcases Qy d h.1 with c | c
 ·have:=h.2.1;omega
 ·exact c
theorem Ys{f g f' g':Nat->Int}:∀{k:Nat},(∀i,i<k->f i=f' i)->(∀i,i<k->g i=g' i)->kidsUp f g k=kidsUp f' g' k
 | 0,_,_=>rfl
 | k+1,h,h'=>by
  simp only[kidsUp];rw[Ys (fun i hi=>h i (by omega)) (fun i hi=>h' i (by omega)),h k (by omega),h' k (by omega)]
def yk:AJ:=AU (fun q:A5×Int×Int=>[poT q.1.n q.1.s q.1.hn q.1.h,pT q.2.1 q.2.2]) (fun q=>AY q.1/\Ay q.1 q.2.1 q.2.2) (fun q=>[(false,[.s .o 2 (AF q.1 q.2.1 q.2.2).length (ptL (AF q.1 q.2.1 q.2.2))])])
theorem J0(p:A5)(a b:Int):yk [poT p.n p.s p.hn p.h,pT a b]=some (AY p/\Ay p a b,[(false,[.s .o 2 (AF p a b).length (ptL (AF p a b))])]):=Af (fun l=>(Cs (nth l 0 0) (nth l 0 1),AQ (nth l 1 0),AQ (nth l 1 1))) (fun _=>rfl) (p,a,b)
theorem Jt:Am Tryz.prog 134 yk:=by
 refine Az Al (GOk.cons L4 (AB Tryz.func95 rfl rfl) GOk.nil) Ak Tryz.func134 rfl Tryz.ntmps134 Tryz.results134 10 ?_;rintro⟨p,a,b⟩ ⟨u,A⟩;replace u:AY p:=u;replace A:Ay p a b:=A;have hn:p.n<=200:=u.1;refine⟨by simp,?_⟩;simp[go_sem,GC];refine⟨fun D E=>?_,fun h=>?_⟩
 ·have e:AF p a b = []:=(by simp[AF,Nil,D,E]);rw[e];exact⟨KZ rfl,Gc⟩
 have C:¬Nil a b:=fun e=>h e.1 e.2
 obtain⟨f,v,-⟩:=A.resolve_left C;have r:=KY u f;refine⟨⟨f.1.2.1,f.1.2.2.1⟩,?_⟩;obtain⟨F,hF⟩:∃F:Nat->List (Int×Int),∀k,F k=(a,b) :: CN p (p.s a.toNat) k:=⟨_,fun _=>rfl⟩;have z:∀k,(F k).length<=9*k+1:=fun k=>by rw[hF];exact Nat.succ_le_succ (OP ..)
 refine BC (fun k:Nat=>⟨[(5,true,.m false [.h 7]),(2,true,.m false [.p 2 0]),(6,true,.m false [.s .b 2 (p.s a.toNat).kn (ptrsT (p.s a.toNat).ks (p.s a.toNat).kb)]),(7,true,.i k)],[(2,.var [.s .b 3 p.n (Aw .b p.s),.s .b 1 p.hn (BF p.h)]),(7,.row 2 (F k).length (ptL (F k)))]⟩) (fun k=>8 - k) (fun k=>k<=8) 0 ?_ (by simp) ?_
 ·simp[go_sem];exact GF (l:=[]) Hu (by simp[hF,CN])
 rintro k K;simp[go_sem,Ao (show k<=1000000000 by omega),GC];have I:=z k;refine⟨fun w=>⟨w,fun x y=>⟨k+1,by omega,by omega,by omega,Gd ?_⟩,fun g=>?_⟩,fun w=>?_⟩
 ·rw[hF,hF];simp[CN,Cg,F8 r (show k<8 by omega),F7 r (show k<8 by omega),Nil,x,y]
 ·have c:=v.1 k (by omega);unfold JT at c;rw[F8 r (by omega),F7 r (by omega)]at c;obtain⟨o,B⟩:=c.resolve_left fun e=>g e.1 e.2
  have t:=KY u o;refine⟨w,by omega,w,⟨o.1.2.1,o.1.2.2.1⟩,by kernel_rfl,?_⟩;obtain⟨G,d⟩:∃G:Nat->List (Int×Int),∀j,G j=F k ++ (((p.s a.toNat).ks k,(p.s a.toNat).kb k) :: kidsUp (p.s ((p.s a.toNat).ks k).toNat).ks (p.s ((p.s a.toNat).ks k).toNat).kb j):=⟨_,fun _=>rfl⟩;refine BC (fun j:Nat=>⟨[(5,true,.m false [.h 7]),(2,true,.m false [.p 2 0]),(6,true,.m false [.s .b 2 (p.s a.toNat).kn (ptrsT (p.s a.toNat).ks (p.s a.toNat).kb)]),(8,true,.m false [.s .b 2 (p.s ((p.s a.toNat).ks k).toNat).kn (ptrsT (p.s ((p.s a.toNat).ks k).toNat).ks (p.s ((p.s a.toNat).ks k).toNat).kb)]),(7,true,.i k),(9,true,.i j)],[(2,.var [.s .b 3 p.n (Aw .b p.s),.s .b 1 p.hn (BF p.h)]),(7,.row 2 (G j).length (ptL (G j)))]⟩) (fun j=>8 - j) (fun j=>j<=8) 0 ?_ (by simp) ?_
  ·simp[go_sem];exact GF Hu (by simp[d,kidsUp])
  rintro j J;have H:(G j).length<=100:=by
   have:=II (p.s ((p.s a.toNat).ks k).toNat).ks (p.s ((p.s a.toNat).ks k).toNat).kb j;rw[d];simp;omega
  simp[go_sem,Ao (show j<=1000000000 by omega),Ao (show k<=1000000000 by omega),GC];refine⟨fun q=>⟨q,fun g'=>⟨q,by omega,j+1,by omega,by omega,by omega,GF Hu ?_⟩,fun x y=>⟨j+1,by omega,by omega,by omega,Gd ?_⟩⟩,fun q=>⟨k+1,by omega,by omega,by omega,Gd ?_⟩⟩
  ·rw[d,d];simp[kidsUp,one,if_neg (show ¬Nil ((p.s ((p.s a.toNat).ks k).toNat).ks j) ((p.s ((p.s a.toNat).ks k).toNat).kb j)from fun e=>g' e.1 e.2)]
  ·rw[d,d];simp[kidsUp,one,Nil,x,y]
  ·cases (show j=8 by omega);rw[d,hF,hF];simp only[CN,Cg];rw[F8 r (by omega),F7 r (by omega),if_neg (show ¬Nil ((p.s a.toNat).ks k) ((p.s a.toNat).kb k)from fun e=>g e.1 e.2),Ec,Ys (f':=AH _) (g':=AT _) (fun i hi=>(F8 t hi).symm) (fun i hi=>(F7 t hi).symm)];rfl
 ·cases (show k=8 by omega);exact⟨Gd (by rw[hF,AF,if_neg C]),Gc⟩
variable{l:List (Int×Int)}{i:Nat}
theorem zIZ:DD encP (0,0) l i 0 = .v (.int .i64 (l[i]?.getD (0,0)).1):=rfl
theorem zIa:DD encP (0,0) l i 1 = .v (.int .i64 (l[i]?.getD (0,0)).2):=rfl
theorem zGc{a b t:Int}(h:Ai p a b):((∀i,i<(AF p a b).length->((AF p a b)[i]?.getD (0,0)).2<=t)/\DM t)↔Bv b t:=by
 rw[<-zEV h];refine and_congr_left fun _=>forall_congr' fun i=>imp_congr_right fun _=>?_
 rw[AM,List.getD_eq_getElem?_getD,Int.not_lt]
def qw:AJ:=AU (fun q:A5×Int×Int×Int=>[poT q.1.n q.1.s q.1.hn q.1.h,pT q.2.1 q.2.2.1,iT q.2.2.2]) (fun q=>AY q.1/\Ay q.1 q.2.1 q.2.2.1) (fun q=>bR (Bv q.2.2.1 q.2.2.2))
theorem Nv(p:A5)(a b t:Int):qw [poT p.n p.s p.hn p.h,pT a b,iT t]=some (AY p/\Ay p a b,bR (Bv b t)):=Af (fun l=>(Cs (nth l 0 0) (nth l 0 1),AQ (nth l 1 0),AQ (nth l 1 1),AQ (nth l 2 0))) (fun _=>rfl) (p,a,b,t)
theorem Y9:Am Tryz.prog 86 qw:=by
 refine Az Al (GOk.cons Jt (AB Tryz.func134 rfl rfl) (GOk.cons Rg (AB Tryz.func148 rfl rfl) GOk.nil)) Ak Tryz.func86 rfl Tryz.ntmps86 Tryz.results86 9 ?_;rintro⟨p,a,b,t⟩ ⟨d,e⟩;replace d:AY p:=d;replace e:Ay p a b:=e;refine⟨by simp,?_⟩;simp[go_sem,J0,d,e,<-zGc (show Ai p a b from⟨d,e⟩)];have l:=DX p a b;refine BC (fun k:Nat=>⟨[(8,true,.i k),(7,true,.m false [.h 7]),(2,true,.i t)],[(7,.row 2 (AF p a b).length (ptL (AF p a b)))]⟩) (fun k=>(AF p a b).length - k) (fun k=>k<=(AF p a b).length/\∀i,i<k->((AF p a b)[i]?.getD (0,0)).2<=t) 0 (by simp[go_sem]) (by simp) ?_;rintro k ⟨j,c⟩;simp[go_sem,Ao (show k<=1000000000 by omega),Qu,zIZ,zIa];exact⟨fun h=>⟨h,fun f g=>by have:=g k h;omega,fun f=>⟨k+1,⟨by omega,Bu h c f⟩,by omega,rfl⟩⟩,fun h f i hi=>c i (by omega)⟩
variable{fl:Fl}{k n:Nat}
theorem F1{F G:Nat->Nat->Tr}(h:∀i j,i<n->j<k->F i j=G i j):TrE (.s fl k n F) (.s fl k n G):=⟨.inl rfl,rfl,rfl,fun i j hi a=>TrE.of_eq (h i j hi a)⟩
variable{f g:Nat->Int}
theorem zH9{f' g':Nat->Int}(h:∀i,i<n->f i=f' i/\g i=g' i):TrE (.s fl 2 n (ptrsT f g)) (.s fl 2 n (ptrsT f' g')):=F1 fun i j hi a=>by
 match j,a with
 | 0,_=>exact congrArg (fun x=>Tr.v (.int .i64 x)) (h i hi).1
 | 1,_=>exact congrArg (fun x=>Tr.v (.int .i64 x)) (h i hi).2
def yO:AJ:=AU (fun q:A5×Int×Int=>[poT q.1.n q.1.s q.1.hn q.1.h,pT q.2.1 q.2.2]) (fun q=>Ij q.1 q.2.1 q.2.2) (fun q=>[(false,[.s .o 2 8 (ptrsT (BV q.1 q.2.1 q.2.2) (Ba q.1 q.2.1 q.2.2))])])
theorem QI(p:A5)(a b:Int):yO [poT p.n p.s p.hn p.h,pT a b]=some (Ij p a b,[(false,[.s .o 2 8 (ptrsT (BV p a b) (Ba p a b))])]):=Af (fun l=>(Cs (nth l 0 0) (nth l 0 1),AQ (nth l 1 0),AQ (nth l 1 1))) (fun _=>rfl) (p,a,b)
theorem RS:Am Tryz.prog 92 yO:=by
 refine Az Al (GOk.cons L4 (AB Tryz.func95 rfl rfl) GOk.nil) Ak Tryz.func92 rfl Tryz.ntmps92 Tryz.results92 5 ?_;rintro⟨p,a,b⟩ f;replace f:Ij p a b:=f;refine⟨by simp,?_⟩;by_cases c:Nil a b
 ·obtain⟨rfl,rfl⟩:=id c;simp[go_sem,GC,Ks];refine F1 fun i j hi k=>?_
  match j,k with
  | 0,_=>simp[ptrsT,BV,Nil]
  | 1,_=>simp[ptrsT,Ba,Nil]
 ·obtain⟨d,e⟩:=f.resolve_left c;simp[go_sem,GC,GX,HJ,Ks,e];exact⟨fun g h=>(c ⟨g,h⟩).elim,fun _=>⟨⟨d.2.1,d.2.2.1⟩,zH9 fun i hi=>⟨by unfold BV;rw[if_neg c,F8 e hi],by unfold Ba;rw[if_neg c,F7 e hi]⟩⟩⟩
theorem NA(h:n<64):IntKind.i64.wrap ((n:Int) / 8)=((n / 8:Nat):Int):=by
 rw[IntKind.wrap_i64];omega
theorem Mn:(n:Int).tmod 8=((n % 8:Nat):Int):=(Int.ofNat_tmod n 8).symm
def yV:AJ:=AU (fun q:A5×Int×Int×Nat=>[poT q.1.n q.1.s q.1.hn q.1.h,pT q.2.1 q.2.2.1,iT (q.2.2.2:Int)]) (fun q=>Ai q.1 q.2.1 q.2.2.1/\q.2.2.2<64) (fun q=>[pT (BS q.1 q.2.1 q.2.2.1 q.2.2.2) (BY q.1 q.2.1 q.2.2.1 q.2.2.2),pT (BW q.1 q.2.1 q.2.2.1 q.2.2.2) (Bf q.1 q.2.1 q.2.2.1 q.2.2.2)])
theorem VD(p:A5)(a b:Int)(n:Nat):yV [poT p.n p.s p.hn p.h,pT a b,iT (n:Int)]=some (Ai p a b/\n<64,[pT (BS p a b n) (BY p a b n),pT (BW p a b n) (Bf p a b n)]):=Af (fun l=>(Cs (nth l 0 0) (nth l 0 1),AQ (nth l 1 0),AQ (nth l 1 1),(AQ (nth l 2 0)).toNat)) (fun _=>rfl) (p,a,b,n)
theorem YA:Am Tryz.prog 90 yV:=by
 refine Az Al (GOk.cons RS (AB Tryz.func92 rfl rfl) GOk.nil) Ak Tryz.func90 rfl Tryz.ntmps90 Tryz.results90 9 ?_;rintro⟨p,a,b,n⟩ ⟨c,hn⟩;replace c:Ai p a b:=c;replace hn:n<64:=hn;refine⟨by simp,?_⟩;simp[go_sem,QI,NA hn,Mn];refine⟨Nh c,by omega,by omega,Lg c (by omega),by omega,by omega,by kernel_rfl,?_⟩;rw[show((n:Int) / 8).toNat=n / 8 by omega,show((n:Int) % 8).toNat=n % 8 by omega];exact⟨⟨rfl,rfl⟩,rfl,rfl⟩
set_option maxRecDepth 20000
set_option maxHeartbeats 1600000
def PG(x:Int):Nat->Tr:=fun _=>.v (.int .i64 x)
abbrev inL(l:List Int):Nat->Nat->Tr:=DD PG 0 l
theorem QV{l:List Int}:(Tr.s fl k n (DD PG 0 l)).lend = .s .b k n (BF fun i=>l[i]?.getD 0):=rfl
theorem Bz:(Tr.s fl k n (DD encP (0,0) l)).lend = .s .b k n (ptrsT (fun i=>(l[i]?.getD (0,0)).1) (fun i=>(l[i]?.getD (0,0)).2)):=by
 rw[show DD encP (0,0) l=_ from zI2 l];exact ME
variable{l:List Int}
theorem PP{c:Nat}:DD PG 0 l i c = .v (.int .i64 (l[i]?.getD 0)):=rfl
variable{x:Int}
theorem Tn:Has l.length (fun i=>l[i]?.getD 0) x↔x∈l:=by
 rw[List.mem_iff_getElem?];constructor
 ·rintro⟨i,hi,rfl⟩;exact⟨i,by simp[hi]⟩
 ·rintro⟨i,hi⟩;have:=(List.getElem?_eq_some_iff.1 hi).1;exact⟨i,this,by simp[hi]⟩
theorem zGh:∀j,j<1->([Tr.v (Value.int .i64 x)][j]?.getD (.v (.bool false))).nt=PG x j
 | 0,_=>rfl
theorem U7{m:List Int}(h:l ++ [x]=m):TrE (.s fl 1 (l.length+1) (Ah (inL l) l.length (fun p q=>([Tr.v (Value.int .i64 x)][p+q]?.getD (.v (.bool false))).nt))) (.s fl 1 m.length (inL m)):=by
 have:=GF (fl:=fl) (k:=1) (d:=(0:Int)) zGh h;simpa only[Nat.mul_one]using this
theorem OT{f g:Nat->Int}:∀{k:Nat},0<(kidsUp f g k).length↔∃i,i<k/\¬Nil (f i) (g i)
 | 0=>by simp[kidsUp]
 | k+1=>by
  rw[kidsUp,List.length_append];by_cases h:Nil (f k) (g k)
  ·rw[one,if_pos h,List.length_nil,Nat.add_zero,OT];exact⟨fun ⟨i,h1,h2⟩=>⟨i,by omega,h2⟩,fun ⟨i,h1,h2⟩=>⟨i,by rcases Nat.lt_succ_iff_lt_or_eq.1 h1 with a | rfl;exact a;exact absurd h h2,h2⟩⟩
  ·rw[one,if_neg h];exact⟨fun _=>⟨k,by omega,h⟩,fun _=>by simp⟩
theorem Vi(h:¬Nil (f k) (g k)):(kidsUp f g (k+1)).length=(kidsUp f g k).length+1:=by simp[kidsUp,one,h]
theorem Vj(h:Nil (f k) (g k)):(kidsUp f g (k+1)).length=(kidsUp f g k).length:=by simp[kidsUp,one,h]
theorem M8(h:AY p):p.hn<=10000:=by
 have:=Jw h;unfold An at this;omega
attribute [local go_sem] QV Bz PP
def mTR:AJ:=AU (fun q:A5×Int×Int=>[poT q.1.n q.1.s q.1.hn q.1.h,pT q.2.1 q.2.2]) (fun q=>AY q.1) (fun q=>bR (Ay q.1 q.2.1 q.2.2))
theorem PT(p:A5)(a b:Int):mTR [poT p.n p.s p.hn p.h,pT a b]=some (AY p,bR (Ay p a b)):=Af (fun l=>(Cs (nth l 0 0) (nth l 0 1),AQ (nth l 1 0),AQ (nth l 1 1))) (fun _=>rfl) (p,a,b)
theorem Yu:Am Tryz.prog 65 mTR:=by
 refine Az Al (GOk.cons L4 (AB Tryz.func95 rfl rfl) (GOk.cons zBE (AB Tryz.func132 rfl rfl) (GOk.cons zBF (AB Tryz.func133 rfl rfl) (GOk.cons MD (AB Tryz.func69 rfl rfl) GOk.nil)))) Ak Tryz.func65 rfl Tryz.ntmps65 Tryz.results65 12 ?_;rintro⟨p,a,b⟩ R;replace R:AY p:=R;have hn:p.n<=200:=R.1;have hm:=M8 R;refine⟨by simp,?_⟩;simp[go_sem,GC,VB];refine⟨fun l r=>.inl ⟨l,r⟩,fun h=>⟨⟨by omega,by omega⟩,fun l r=>?_,fun E=>⟨⟨E.1.2.1,E.1.2.2.1⟩,?_⟩⟩⟩
 ·exact l ((r.resolve_left fun e=>h e.1 e.2).1)
 have X:¬Nil a b:=fun e=>h e.1 e.2
 obtain⟨s,hs⟩:∃s,p.s a.toNat=s:=⟨_,rfl⟩;have Q:=KY R E;rw[hs]at Q;have U:Ay p a b↔LQ p s/\(Dt p a s 8).Nodup:=by
  unfold Ay;rw[hs,Rc X,hs];exact⟨fun h=>(h.resolve_left X).2,fun h=>.inr ⟨E,h⟩⟩
 have B:∀{i},i<8->AH s i=s.ks i:=fun hi=>F8 Q hi
 have W:∀{i},i<8->AT s i=s.kb i:=fun hi=>F7 Q hi
 obtain⟨F,hF⟩:∃F:Nat->List Int,∀k,F k=Dt p a s k:=⟨_,fun _=>rfl⟩;obtain⟨C,M⟩:∃C:Nat->Nat,∀k,C k=(kidsUp (AH s) (AT s) k).length:=⟨_,fun _=>rfl⟩;have cA:∀k,C k<=k:=fun k=>by rw[M];exact II ..
 have eA:∀k,k<=8->(F k).length<=73:=fun k Y=>by rw[hF];exact UA p a s Y
 refine BC (fun k:Nat=>⟨[(5,true,.m false [.h 7]),(2,true,.m false [.p 2 0]),(6,true,.i (C k)),(7,true,.m false [.s .b 2 s.kn (ptrsT s.ks s.kb)]),(8,true,.i k)],[(2,.var [.s .b 3 p.n (Aw .b p.s),.s .b 1 p.hn (BF p.h)]),(7,.row 1 (F k).length (inL (F k)))]⟩) (fun k=>8 - k) (fun k=>k<=8/\(∀i,i<k->JT p s i)/\(F k).Nodup) 0 ?_ ?_ ?_
 ·simp[go_sem,hs,M,kidsUp,hF,Dt,CN,Bi];exact F1 fun i j hi hj=>by cases (show i=0 by omega);cases (show j=0 by omega);rfl
 ·simp[hF,Dt,CN,Bi]
 rintro k ⟨Y,w,O⟩;have jA:=eA k Y;simp[go_sem,hs,Q,Ao (show k<=1000000000 by omega),Ao (show C k<=1000000000 by have:=cA k;omega),GC,VB,KT,Tn];refine⟨fun d=>⟨d,fun g1 g2=>⟨k+1,?_⟩,fun g=>⟨d,⟨by omega,by omega⟩,?_⟩⟩,fun d=>?_⟩
 ·replace d:k<8:=(by omega);have f:Nil (AH s k) (AT s k):=(by rw[B d,W d];exact⟨g1,g2⟩);have A:F (k+1)=F k:=(by rw[hF,hF];exact zE2 f);have L:C (k+1)=C k:=(by rw[M,M];exact Vj f);rw[A,L];exact⟨⟨by omega,Bu d w (.inl f),O⟩,by omega,⟨rfl,rfl⟩,TrE.refl _⟩
 ·replace d:k<8:=(by omega);have f:¬Nil (AH s k) (AT s k):=(by rw[B d,W d];exact fun e=>g e.1 e.2);have K:Ay p a b->∀i,i<=8->(E7 p a s k i).Nodup:=fun h i hi=>by
   have r:=(U.1 h).2;rw[<-hs,<-Rc X]at r;rw[<-hs]at f ⊢;exact zDh X r d hi f
  refine⟨fun _=>by omega,fun _=>by omega,by kernel_rfl,fun l r=>?_,fun H iA=>⟨by omega,by omega,by omega,⟨H.1.2.1,H.1.2.2.1⟩,by kernel_rfl,?_⟩⟩
  ·rcases l with l | l
   ·have u:=((U.1 r).1.1 k d).resolve_left f;rw[B d,W d]at u;exact l u.1
   ·have u:=K r 0 (by omega);rw[X0,Oh,B d,<-hF]at u;exact u.2 l
  obtain⟨t,P⟩:∃t,p.s (s.ks k).toNat=t:=⟨_,rfl⟩;have Z:=KY R H;rw[P]at Z;have z:∀{i},i<8->AH t i=t.ks i:=fun hi=>F8 Z hi
  have I:∀{i},i<8->AT t i=t.kb i:=fun hi=>F7 Z hi
  have x:JT p s k↔LP p t:=by
   unfold JT;rw[B d,W d,P];rw[B d,W d]at f;exact⟨fun h=>(h.resolve_left f).2,fun h=>.inr ⟨H,h⟩⟩
  obtain⟨G,J⟩:∃G:Nat->List Int,∀i,G i=E7 p a s k i:=⟨_,fun _=>rfl⟩;obtain⟨D,N⟩:∃D:Nat->Nat,∀i,D i=(kidsUp (AH t) (AT t) i).length:=⟨_,fun _=>rfl⟩;have dA:∀i,D i<=i:=fun i=>by rw[N];exact II ..
  have fA:∀i,i<=8->(G i).length<=90:=fun i hi=>by rw[J];exact zGv p a s Y hi
  have T:G 0=F k ++ [s.ks k]:=(by rw[J,X0,<-hF,B d]);refine BC (fun i:Nat=>⟨[(5,true,.m false [.h 7]),(2,true,.m false [.p 2 0]),(6,true,.i (C k+1:Nat)),(7,true,.m false [.s .b 2 s.kn (ptrsT s.ks s.kb)]),(8,true,.i k),(9,true,.i (D i)),(10,true,.m false [.s .b 2 t.kn (ptrsT t.ks t.kb)]),(11,true,.i i)],[(2,.var [.s .b 3 p.n (Aw .b p.s),.s .b 1 p.hn (BF p.h)]),(7,.row 1 (G i).length (inL (G i)))]⟩) (fun i=>8 - i) (fun i=>i<=8/\(∀q,q<i->Nil (AH t q) (AT t q)\/El p (AH t q) (AT t q))/\(G i).Nodup) 0 ?_ ?_ ?_
  ·simp[go_sem,P,Q,N,kidsUp];exact U7 T.symm
  ·simp;rw[T,Oh];exact⟨O,iA⟩
  rintro i ⟨hi,v,y⟩;have kA:=fA i hi;simp[go_sem,hs,Q,P,Z,Ao (show i<=1000000000 by omega),Ao (show k<=1000000000 by omega),Ao (show D i<=1000000000 by have:=dA i;omega),GC,zFD,KT,Tn];refine⟨fun c=>⟨c,fun g1 g2=>⟨i+1,?_⟩,fun g'=>⟨c,⟨by omega,by omega⟩,?_⟩⟩,fun c=>?_⟩
  ·replace c:i<8:=(by omega);have o:Nil (AH t i) (AT t i):=(by rw[z c,I c];exact⟨g1,g2⟩);have A:G (i+1)=G i:=by
    rw[J,J];refine zEw ?_;rw[B d,P];exact o
   have L:D (i+1)=D i:=(by rw[N,N];exact Vj o);rw[A,L];exact⟨⟨by omega,Bu c v (.inl o),y⟩,by omega,⟨rfl,rfl⟩,TrE.refl _⟩
  ·replace c:i<8:=(by omega);have o:¬Nil (AH t i) (AT t i):=(by rw[z c,I c];exact fun e=>g' e.1 e.2);have A:G (i+1)=G i ++ [t.ks i]:=by
    rw[J,J,zEv (by rw[B d,P];exact o),B d,P,z c]
   have L:D (i+1)=D i+1:=(by rw[N,N];exact Vi o);refine⟨fun _=>by omega,fun _=>by omega,by kernel_rfl,fun l r=>?_,fun gA V=>⟨by omega,by omega,i+1,⟨by omega,Bu c v (.inr ?_),?_⟩,by omega,⟨by rw[L];rfl,rfl⟩,U7 A.symm⟩⟩
   ·rcases l with l | l
    ·have u:=((x.1 ((U.1 r).1.1 k d)).1 i c).resolve_left o;rw[z c,I c]at u;exact l u
    ·have u:=K r (i+1) (by omega);rw[<-J,A,Oh]at u;exact u.2 l
   ·rw[z c,I c];exact gA
   ·rw[A,Oh];exact⟨y,V⟩
  ·cases (show i=8 by omega);have S:(∃i,i<8/\¬Nil (AH t i) (AT t i))↔0<D 8:=(by rw[N,OT]);have A:F (k+1)=G 8:=(by rw[hF,J];exact XF f);have L:C (k+1)=C k+1:=(by rw[M,M];exact Vi f);refine⟨fun l r=>?_,fun l=>⟨k+1,⟨by omega,Bu d w (x.2 ⟨v,S.2 (by omega)⟩),by rw[A];exact y⟩,by omega,⟨by rw[L];rfl,rfl⟩,by rw[A];exact TrE.refl _⟩⟩;have:=S.1 (x.1 ((U.1 r).1.1 k d)).2;omega
 ·cases (show k=8 by omega);rw[U,<-hF,M,OT];exact⟨fun h=>⟨⟨w,h⟩,O⟩,fun h=>h.1.2⟩
def zW:AJ:=AU (fun q:A5×Int×Int=>[poT q.1.n q.1.s q.1.hn q.1.h,pT q.2.1 q.2.2]) (fun q=>q.1.n<=1000000/\q.1.hn<=1000000) (fun q=>bR (Ai q.1 q.2.1 q.2.2))
theorem NZ(p:A5)(a b:Int):zW [poT p.n p.s p.hn p.h,pT a b]=some (p.n<=1000000/\p.hn<=1000000,bR (Ai p a b)):=Af (fun l=>(Cs (nth l 0 0) (nth l 0 1),AQ (nth l 1 0),AQ (nth l 1 1))) (fun _=>rfl) (p,a,b)
theorem ZC:Am Tryz.prog 85 zW:=by
 refine Az Al (GOk.cons P4 (AB Tryz.func62 rfl rfl) (GOk.cons Yu (AB Tryz.func65 rfl rfl) GOk.nil)) Ak Tryz.func85 rfl Tryz.ntmps85 Tryz.results85 5 ?_;rintro⟨p,a,b⟩ ⟨hn,c⟩;replace hn:p.n<=1000000:=hn;replace c:p.hn<=1000000:=c;refine⟨by simp,?_⟩;simp[go_sem,OK,PT,hn,c,Ai]
set_option maxRecDepth 20000
set_option maxHeartbeats 1600000
def yZ:AJ:=AU (fun p:A5=>[poT p.n p.s p.hn p.h]) (fun p=>p.n<=1000000) (fun p=>[iT (roomN p.s p.n:Int)])
theorem zFI(p:A5):yZ [poT p.n p.s p.hn p.h]=some (p.n<=1000000,[iT (roomN p.s p.n:Int)]):=Af (fun l=>Cs (nth l 0 0) (nth l 0 1)) (fun _=>rfl) p
theorem zBC:Am Tryz.prog 88 yZ:=by
 refine Az Al (GOk.cons OV (AB Tryz.func68 rfl rfl) GOk.nil) Ak Tryz.func88 rfl Tryz.ntmps88 Tryz.results88 5 ?_;rintro p hn;replace hn:p.n<=1000000:=hn;refine⟨by simp,?_⟩;simp[go_sem];refine BC (fun k:Nat=>⟨[(1,true,.m false [.p 1 0]),(3,true,.i (roomN p.s k)),(4,true,.i k)],[(1,.var [.s .b 3 p.n (Aw .b p.s),.s .b 1 p.hn (BF p.h)])]⟩) (fun k=>p.n - k) (fun k=>k<=p.n) 0 (by simp[go_sem,roomN]) (by simp) ?_;rintro k c;have d:=O1 p.s k;simp[go_sem,Ao (show k<=1000000000 by omega),Ao (show roomN p.s k<=1000000000 by omega),Lw];refine⟨fun a=>⟨a,fun h=>⟨k+1,by omega,by omega,by rw[Jl h];rfl,rfl⟩,fun h=>⟨k+1,by omega,by omega,by rw[J2 h],rfl⟩⟩,fun a=>?_⟩;cases (show k=p.n by omega);rfl
theorem zE5(p:A5)(k:Nat)(s:AG):TrE (.s fl 3 p.n (Ab (Aw .z p.s) k 0 [.v (.int .i64 s.birth),.s .z 2 s.kn (ptrsT s.ks s.kb),.v (.string s.data)])) (.s fl 3 p.n (Aw .z (Aq p k s).s)):=by
 refine F1 fun i j hi a=>?_
 by_cases h:i=k
 ·subst h
  match j,a with
  | 0,_=>simp[Ab,Aw,Aq]
  | 1,_=>simp[Ab,Aw,Aq]
  | 2,_=>simp[Ab,Aw,Aq]
 ·match j,a with
  | 0,_=>simp[Ab,Aw,Aq,h]
  | 1,_=>simp[Ab,Aw,Aq,h]
  | 2,_=>simp[Ab,Aw,Aq,h]
def tk1(p:A5)(s:AG):A5×Int×Int×Bool:=@dite _ (∃i,BU p.n p.s i) (Classical.propDecidable _) (fun h=>(Aq p h.choose s,(h.choose:Int),s.birth,true)) (fun _=>(p,0,0,false))
theorem Hd{s:AG}(h:BU p.n p.s i):tk1 p s=(Aq p i s,(i:Int),s.birth,true):=by
 have a:∃i,BU p.n p.s i:=⟨i,h⟩;unfold tk1;rw[dif_pos a,a.choose_spec.uniq h]
theorem NB{s:AG}(h:∀i,i<p.n->¬Ag (p.s i)):tk1 p s=(p,0,0,false):=dif_neg fun ⟨i,hi⟩=>h i hi.1 hi.2.1
abbrev poV(p:A5):List Tr:=[.s .o 3 p.n (Aw .z p.s),.s .o 1 p.hn (BF p.h)]
abbrev slZ(s:AG):Bool×List Tr:=(true,[.v (.int .i64 s.birth),.s .z 2 s.kn (ptrsT s.ks s.kb),.v (.string s.data)])
def SG:AJ:=AU (fun q:A5×AG=>(true,poV q.1) :: [slZ q.2]) (fun q=>q.1.n<=1000000) (fun q=>[poO (tk1 q.1 q.2).1,pT (tk1 q.1 q.2).2.1 (tk1 q.1 q.2).2.2.1,(false,[.v (.bool (tk1 q.1 q.2).2.2.2)])])
theorem Ub(p:A5)(s:AG):SG [(true,poV p),slZ s]=some (p.n<=1000000,[poO (tk1 p s).1,pT (tk1 p s).2.1 (tk1 p s).2.2.1,(false,[.v (.bool (tk1 p s).2.2.2)])]):=Af (fun l=>(Cs (nth l 0 0) (nth l 0 1),KH (nth l 1 0) (nth l 1 1) (nth l 1 2))) (fun _=>rfl) (p,s)
theorem Y8:D7 Tryz.prog 91 SG:=by
 refine EW Al (GOk.cons OV (AB Tryz.func68 rfl rfl) GOk.nil) Ak Tryz.func91 rfl Tryz.ntmps91 Tryz.results91 7 ?_;rintro⟨p,s⟩ hn;replace hn:p.n<=1000000:=hn;refine⟨by simp,?_⟩;simp[go_sem];refine BC (fun k:Nat=>⟨[(6,true,.i k),(4,true,.m false [.p 4 0]),(3,true,.m false [.p 3 0]),(0,true,.m false [.p 0 0])],[(4,.var [.v i0,.v i0]),(3,.var [.v (.int .i64 s.birth),.s .z 2 s.kn (ptrsT s.ks s.kb),.v (.string s.data)]),(0,.var [.h 1000,.h 2000]),(1000,.row 3 p.n (Aw .z p.s)),(2000,.row 1 p.hn (BF p.h))]⟩) (fun k=>p.n - k) (fun k=>k<=p.n/\∀i,i<k->¬Ag (p.s i)) 0 (by simp[go_sem]) (by simp) ?_;rintro k ⟨c,a⟩;simp[go_sem,Ao (show k<=1000000000 by omega),Lw];refine⟨fun b=>⟨b,fun h=>?_,fun h=>⟨k+1,⟨by omega,Bu b a h⟩,by omega,rfl⟩⟩,fun b=>?_⟩
 ·rw[Hd ⟨b,h,a⟩];exact⟨b,by kernel_rfl,⟨⟨zE5 p k s,Bg⟩,TrE.refl _,Bq⟩,⟨rfl,rfl⟩,rfl⟩
 ·rw[NB fun i hi=>a i (by omega)];exact⟨⟨⟨TrE.refl _,Bg⟩,TrE.refl _,Bq⟩,⟨rfl,rfl⟩,rfl⟩
def orSp(a b:AJ):AJ:=fun l=>match a l with
 | some r=>some r
 | none=>b l
variable{a b:AJ}{l:List (Bool×List Tr)}{r:Prop×List (Bool×List Tr)}
theorem qb(h:a l=some r):orSp a b l=some r:=by unfold orSp;rw[h]
theorem qd(h:a l=none)(c:b l=some r):orSp a b l=some r:=by unfold orSp;rw[h];exact c
theorem X1{ι : Type}{A:ι->List (Bool×List Tr)}{C:ι->Prop}{R:ι->List (Bool×List Tr)}(h:∀x,A x≠l):AU A C R l=none:=dif_neg fun ⟨x,hx⟩=>h x hx
variable{P:Program}{f:Nat}
theorem zFc(h:D7 P f a)(i:D7 P f b):D7 P f (orSp a b):=by
 intro w vs e c rs d g;unfold orSp at d;split at d
 ·rename_i r hr
  cases d;exact h w vs e c rs hr g
 ·exact i w vs e c rs d g
def PU:AJ:=AU (fun q:A5×Int×ByteArray=>(true,poV q.1) :: [(true,[.v (.int .i64 q.2.1),.v n0,.v (.string q.2.2)])]) (fun q=>q.1.n<=1000000) (fun q=>[poO (tk1 q.1 (BK q.2.1 q.2.2)).1,pT (tk1 q.1 (BK q.2.1 q.2.2)).2.1 (tk1 q.1 (BK q.2.1 q.2.2)).2.2.1,(false,[.v (.bool (tk1 q.1 (BK q.2.1 q.2.2)).2.2.2)])])
theorem zGD:D7 Tryz.prog 91 PU:=by
 intro w vs g c rs a i E ys j l;obtain⟨⟨p,b,d⟩,e,hn,rfl⟩:∃q:A5×Int×ByteArray,(true,poV q.1) :: [(true,[.v (.int .i64 q.2.1),.v n0,.v (.string q.2.2)])]=(true,vs) :: g/\q.1.n<=1000000/\[poO (tk1 q.1 (BK q.2.1 q.2.2)).1,pT (tk1 q.1 (BK q.2.1 q.2.2)).2.1 (tk1 q.1 (BK q.2.1 q.2.2)).2.2.1,(false,[.v (.bool (tk1 q.1 (BK q.2.1 q.2.2)).2.2.2)])]=rs:=by
  unfold PU AU at a;split at a
  ·rename_i k
   cases a;exact⟨_,k.choose_spec,i,rfl⟩
  ·cases a
 simp only[List.cons.injEq,Prod.mk.injEq,true_and]at e;obtain⟨rfl,rfl⟩:=e;refine Y8 w (poV p) [slZ (BK b d)] _ _ (Ub p (BK b d)) hn E ys j ?_;cases l with
 | cons f t=>
  cases t;obtain⟨cs,e,f⟩:=f;refine .cons ⟨cs,e,?_⟩ .nil;cases f with
  | cons k1 k2=>
   cases k2 with
   | cons k2 k3=>exact .cons k1 (.cons ⟨none,0,k2.1,Nat.le_refl _,fun h=>absurd h (Nat.lt_irrefl _)⟩ k3)
def mTk:AJ:=orSp SG PU
theorem yq:D7 Tryz.prog 91 mTk:=zFc Y8 zGD
theorem qO(p:A5)(b:Int)(n:Nat)(c a:Nat->Int)(d:ByteArray):mTk [(true,poV p),(true,[.v (.int .i64 b),.s .z 2 n (ptrsT c a),.v (.string d)])]=some (p.n<=1000000,[poO (tk1 p ⟨b,n,c,a,d⟩).1,pT (tk1 p ⟨b,n,c,a,d⟩).2.1 (tk1 p ⟨b,n,c,a,d⟩).2.2.1,(false,[.v (.bool (tk1 p ⟨b,n,c,a,d⟩).2.2.2)])]):=qb (Ub p ⟨b,n,c,a,d⟩)
theorem zGt(p:A5)(b:Int)(d:ByteArray):mTk [(true,poV p),(true,[.v (.int .i64 b),.v n0,.v (.string d)])]=some (p.n<=1000000,[poO (tk1 p (BK b d)).1,pT (tk1 p (BK b d)).2.1 (tk1 p (BK b d)).2.2.1,(false,[.v (.bool (tk1 p (BK b d)).2.2.2)])]):=by
 refine qd (X1 fun x h=>?_) (Af (fun l=>(Cs (nth l 0 0) (nth l 0 1),AQ (nth l 1 0),CK (nth l 1 2))) (fun _=>rfl) (p,b,d));simp at h
set_option maxRecDepth 20000
set_option maxHeartbeats 1600000
theorem Uz(h:AY p):∀i,i<p.n->(p.s i).kn<=8:=fun i hi=>by
 rcases h.2.1 i hi with a | a
 ·have:=a.2.1;omega
 ·rcases a.2 with b | b
  ·omega
  ·omega
abbrev toR(t:D4):Bool×List Tr:=(true,[.s .o 3 t.pool.n (Aw .z t.pool.s),.s .o 1 t.pool.hn (BF t.pool.h),.v (.int .i64 t.rs),.v (.int .i64 t.rb),.s .o 2 t.old.length (ptL t.old),.v (.int .i64 t.code)])
abbrev sT(d:ByteArray):Bool×List Tr:=(false,[.v (.string d)])
theorem AP.upE{w:World}{g:Nat->Bs}:∀{l m:List Tr} {cs:List Value},AP TrE l m->AP (Sh w g) l cs->AP (Sh w g) m cs
 | _,_,_,.nil,h=>by cases h;exact .nil
 | _,_,_,.cons e t,h=>by
  cases h with
  | cons y ty=>exact .cons (y.e e) (AP.upE t ty)
theorem Am.up{m m2:AJ}(h:Am P f m)(H:∀d c rs,m2 d=some (c,rs)->∃a,m a=some (c,rs)/\AP (fun q i=>q.1=i.1/\AP TrE q.2 i.2) d a):Am P f m2:=by
 intro w d c rs b p g0 ys r l;obtain⟨a,k,j⟩:=H d c rs b;refine h w a c rs k p g0 ys r ?_;clear b k H
 induction j generalizing ys with
 | nil=>cases l;exact .nil
 | cons e t ih=>
  cases l with
  | cons y ty=>
   refine .cons ?_ (ih _ ty)
   rename_i q i _ _ u _
   obtain⟨q1,s⟩:=q;obtain⟨r1,v⟩:=i;obtain⟨n,g⟩:=e;cases (show q1=r1 from n);cases q1
   ·obtain⟨T,o,hs⟩:=y;cases (show s = [T] from o);cases g with
    | cons g t2=>cases t2;exact⟨_,rfl,hs.e g⟩
   ·obtain⟨cs,e,hs⟩:=y;refine⟨cs,e,?_⟩;exact AP.upE g hs
theorem Am.upk{ι κ : Type}{A:ι->List (Bool×List Tr)}{C:ι->Prop}{R:ι->List (Bool×List Tr)}{m:AJ}(h:Am P f m)(H:∀x,∃a,m a=some (C x,R x)/\AP (fun q g=>q.1=g.1/\AP TrE q.2 g.2) (A x) a):Am P f (AU A C R):=h.up fun j c rs e=>by
 unfold AU at e;split at e
 ·rename_i d
  cases e;obtain⟨a,i,b⟩:=H d.choose;rw[d.choose_spec]at b;exact⟨a,i,b⟩
 ·cases e
def PH(a b c d e f:Int):Nat->Nat->Tr:=fun p q=>([Tr.v (.int .i64 a),.v (.int .i64 b),.v (.int .i64 c),.v (.int .i64 d),.v (.int .i64 e),.v (.int .i64 f)]:List Tr)[p*2+q]?.getD (.v (.bool false))
def f3(a b c:Int):Nat->Int
 | 0=>a
 | 1=>b
 | _=>c
theorem Qs{a b c d e f:Int}:(Tr.s fl 2 3 fun p q=>([Tr.v (.int .i64 a),.v (.int .i64 b),.v (.int .i64 c),.v (.int .i64 d),.v (.int .i64 e),.v (.int .i64 f)]:List Tr)[p*2+q]?.getD (.v (.bool false))).lend = .s .b 2 3 (PH a b c d e f):=by
 simp only[Tr.lend];congr 1;funext p q;simp only[PH];generalize p*2+q=j
 match j with
 | 0 | 1 | 2 | 3 | 4 | 5=>rfl
 | j+6=>rfl
def yS:AJ:=AU (fun q:(Int×Int×Int)×Int×Int×Int=>[(false,[.s .b 2 3 (PH q.1.1 q.2.1 q.1.2.1 q.2.2.1 q.1.2.2 q.2.2.2)])]) (fun q=>(3:Nat)<=1000000) (fun q=>[(false,[.s .o 2 (kidsUp (f3 q.1.1 q.1.2.1 q.1.2.2) (f3 q.2.1 q.2.2.1 q.2.2.2) 3).length (ptL (kidsUp (f3 q.1.1 q.1.2.1 q.1.2.2) (f3 q.2.1 q.2.2.1 q.2.2.2) 3))])])
theorem VC(a b c d e f:Int):yS [(false,[.s .b 2 3 (PH a b c d e f)])]=some ((3:Nat)<=1000000,[(false,[.s .o 2 (kidsUp (f3 a c e) (f3 b d f) 3).length (ptL (kidsUp (f3 a c e) (f3 b d f) 3))])]):=Af (fun l=>((AQ (Br (nth l 0 0) 0 0),AQ (Br (nth l 0 0) 1 0),AQ (Br (nth l 0 0) 2 0)),AQ (Br (nth l 0 0) 0 1),AQ (Br (nth l 0 0) 1 1),AQ (Br (nth l 0 0) 2 1))) (fun _=>rfl) ((a,c,e),b,d,f)
theorem TZ:Am Tryz.prog 93 yS:=Vl.upk (κ:=Nat) fun ⟨⟨a,c,e⟩,b,d,f⟩=>⟨_,T7 3 (f3 a c e) (f3 b d f),.cons ⟨rfl,.cons (F1 fun i j hi g=>by
 match i,j,hi,g with
 | 0,0,_,_=>rfl
 | 0,1,_,_=>rfl
 | 1,0,_,_=>rfl
 | 1,1,_,_=>rfl
 | 2,0,_,_=>rfl
 | 2,1,_,_=>rfl) .nil⟩ .nil⟩
variable{xs xb:Int}
theorem qk:EZ (BV p (BW p xs xb n) (Bf p xs xb n)) (n % 8) x=AX p xs xb n 1 x:=rfl
theorem qm:EZ (Ba p (BW p xs xb n) (Bf p xs xb n)) (n % 8) x=AW p xs xb n 1 x:=rfl
theorem qj:EZ (BV p xs xb) (n / 8) x=AX p xs xb n 0 x:=rfl
theorem ql:EZ (Ba p xs xb) (n / 8) x=AW p xs xb n 0 x:=rfl
attribute [local go_sem] QS Qs
def mTW:AJ:=AU (fun q:(A5×Int×Int)×Int×ByteArray×Int=>[poT q.1.1.n q.1.1.s q.1.1.hn q.1.1.h,pT q.1.2.1 q.1.2.2,iT q.2.1,sT q.2.2.1,iT q.2.2.2]) (fun q=>q.1.1.n<=1000000/\q.1.1.hn<=1000000) (fun q=>[toR (CA q.1.1 q.1.2.1 q.1.2.2 q.2.1 q.2.2.1 q.2.2.2)])
theorem zHw(p:A5)(xs xb AA:Int)(d:ByteArray)(b:Int):mTW [poT p.n p.s p.hn p.h,pT xs xb,iT AA,sT d,iT b]=some (p.n<=1000000/\p.hn<=1000000,[toR (CA p xs xb AA d b)]):=Af (fun l=>((Cs (nth l 0 0) (nth l 0 1),AQ (nth l 1 0),AQ (nth l 1 1)),AQ (nth l 2 0),CK (nth l 3 0),AQ (nth l 4 0))) (fun _=>rfl) ((p,xs,xb),AA,d,b)
theorem zCL:Am Tryz.prog 34 mTW:=by
 refine Az Al (GOk.cons OU (AB Tryz.func89 rfl rfl) (GOk.cons ZC (AB Tryz.func85 rfl rfl) (GOk.cons Y9 (AB Tryz.func86 rfl rfl) (GOk.cons Z5 (AB Tryz.func87 rfl rfl) (GOk.cons YA (AB Tryz.func90 rfl rfl) (GOk.cons RS (AB Tryz.func92 rfl rfl) (GOk.cons TZ (AB Tryz.func93 rfl rfl) (GOk.cons zBC (AB Tryz.func88 rfl rfl) (GOk.ptrK yq (AB Tryz.func91 rfl rfl) GOk.nil))))))))) Ak Tryz.func34 rfl Tryz.ntmps34 Tryz.results34 22 ?_;rintro⟨⟨p,xs,xb⟩,AA,d,b⟩ ⟨hn,o⟩;replace hn:p.n<=1000000:=hn;replace o:p.hn<=1000000:=o;refine⟨by simp,?_⟩;by_cases m:EA AA;rotate_left
 ·have v:(0<=AA/\AA<=63)↔False:=⟨m,False.elim⟩;simp[go_sem,NZ,Nv,OZ,v,hn,o];refine⟨fun h=>?_,fun B=>⟨fun h=>h,fun h=>?_,fun c j=>?_⟩⟩
  ·rw[Oj (by omega)];exact⟨rfl,rfl,rfl,rfl,rfl,rfl⟩
  ·rw[MV (by omega) fun e=>h.elim (· e.1) (· e.2)];exact⟨rfl,rfl,rfl,rfl,rfl,rfl⟩
  ·rw[MZ (by omega) ⟨c,j⟩ fun e=>m e.1];exact⟨rfl,rfl,rfl,rfl,rfl,rfl⟩
 obtain⟨n,rfl⟩:=Int.eq_ofNat_of_zero_le m.1;have a:n<64:=by have:=m.2;omega
 simp[go_sem,NZ,Nv,OZ,zFI,Lu,VD,qO,zGt,QI,VC,hn,o,NA a,Mn];refine⟨fun h=>?_,fun B=>⟨fun h=>h,fun h=>?_,fun c j=>?_⟩⟩
 ·rw[Oj (by omega)];exact⟨rfl,rfl,rfl,rfl,rfl,rfl⟩
 ·rw[MV (by omega) fun e=>h.elim (· e.1) (· e.2)];exact⟨rfl,rfl,rfl,rfl,rfl,rfl⟩
 refine⟨fun h=>?_,fun C x=>⟨fun h=>?_,fun h=>?_⟩⟩
 ·rw[MZ (by omega) ⟨c,j⟩ fun e=>h.elim (fun h=>absurd h (by omega)) (fun h=>h (by exact_mod_cast e.2))];exact⟨rfl,rfl,rfl,rfl,rfl,rfl⟩
 ·rw[Xk c a j (by exact_mod_cast x) (by exact_mod_cast h)];exact⟨rfl,rfl,rfl,rfl,rfl,rfl⟩
 have g:d.size=16:=by exact_mod_cast x
 have G:3<=roomN p.s p.n:=by exact_mod_cast h
 obtain⟨i0,l⟩:=GG (f:=p.s) (n:=p.n) (by omega);refine⟨fun i hi=>by have:=Uz c.1 i hi;omega,⟨c,a⟩,?_⟩;have u:Ij p xs xb:=Nh c;have t:Ij p (BW p xs xb n) (Bf p xs xb n):=Lg c (by omega);have H:roomN (Bb p b d i0).s p.n+1=roomN p.s p.n:=Ku (s:=BK b d) l (Gg j.1 g);obtain⟨k,r⟩:=GG (f:=(Bb p b d i0).s) (n:=p.n) (by omega);have q1:roomN (Cw p xs xb n b d i0 k).s p.n+1=roomN (Bb p b d i0).s p.n:=Ku (p:=Bb p b d i0) r (I9 c a j l);obtain⟨y,w⟩:=GG (f:=(Cw p xs xb n b d i0 k).s) (n:=p.n) (by omega);have D:tk1 p (BK b d)=(Bb p b d i0,(i0:Int),b,true):=Hd l;have E:tk1 (Bb p b d i0) ⟨b,8,AX p xs xb n 1 (i0:Int),AW p xs xb n 1 b,⟨#[]⟩⟩=(Cw p xs xb n b d i0 k,(k:Int),b,true):=Hd r;have F:tk1 (Cw p xs xb n b d i0 k) ⟨b,8,AX p xs xb n 0 (k:Int),AW p xs xb n 0 b,⟨#[]⟩⟩=(IT p xs xb n b d i0 k y,(y:Int),b,true):=Hd w;have z:((n:Int) % 8).toNat=n % 8:=by omega
 have q:((n:Int) / 8).toNat=n / 8:=by omega
 simp only[z,q,D,E,F,qk,qm,qj,ql];rw[UZ c a j g l r w];refine⟨t,by omega,by omega,hn,u,by omega,by omega,hn,?_⟩;have A:BN p xs xb n 3=kidsUp (f3 (BS p xs xb n) (BW p xs xb n) xs) (f3 (BY p xs xb n) (Bf p xs xb n) xb) 3:=rfl;rw[A];exact⟨by kernel_rfl,⟨TrE.refl _,Bg⟩,⟨TrE.refl _,Bq⟩,rfl,rfl,⟨TrE.refl _,Gc⟩,rfl⟩
set_option maxRecDepth 20000
set_option maxHeartbeats 1600000
theorem zBA{f:Nat->Int}:kidsUp f g 8 = []↔CO f g:=by
 rw[<-List.length_eq_zero_iff,<-Classical.not_not (a:=CO f g),<-zFO,<-OT];omega
theorem zHR{y:Int}:EZ (AX p xs xb n 0 x) (n / 8) y=AX p xs xb n 0 y:=by
 funext i;unfold EZ AX;show(if i=n / 8 then y else if i=n / 8 then x else _)=if i=n / 8 then y else _
 by_cases h:i=n / 8<;>simp[h]
theorem zHS{y:Int}:EZ (AW p xs xb n 0 x) (n / 8) y=AW p xs xb n 0 y:=by
 funext i;unfold EZ AW;show(if i=n / 8 then y else if i=n / 8 then x else _)=if i=n / 8 then y else _
 by_cases h:i=n / 8<;>simp[h]
theorem Ke{f:Nat->AG}:∀{n j:Nat},j<n->Ag (f j)->∃i,BU n f i
 | 0,j,h,_=>absurd h (Nat.not_lt_zero _)
 | n+1,j,h,hf=>by
  by_cases c:∃k,k<n/\Ag (f k)
  ·obtain⟨k,b,a⟩:=c;obtain⟨i,l,d,g⟩:=Ke b a;exact⟨i,by omega,d,g⟩
  ·have:j=n:=Classical.byContradiction fun e=>c ⟨j,by omega,hf⟩
   subst this;exact⟨j,h,hf,fun k b a=>c ⟨k,b,a⟩⟩
def mTT:AJ:=AU (fun q:(A5×Int×Int)×Int×Int=>[poT q.1.1.n q.1.1.s q.1.1.hn q.1.1.h,pT q.1.2.1 q.1.2.2,iT q.2.1,iT q.2.2]) (fun q=>q.1.1.n<=1000000/\q.1.1.hn<=1000000) (fun q=>[toR (CV q.1.1 q.1.2.1 q.1.2.2 q.2.1 q.2.2)])
theorem zHv(p:A5)(xs xb AA:Int)(b:Int):mTT [poT p.n p.s p.hn p.h,pT xs xb,iT AA,iT b]=some (p.n<=1000000/\p.hn<=1000000,[toR (CV p xs xb AA b)]):=Af (fun l=>((Cs (nth l 0 0) (nth l 0 1),AQ (nth l 1 0),AQ (nth l 1 1)),AQ (nth l 2 0),AQ (nth l 3 0))) (fun _=>rfl) ((p,xs,xb),AA,b)
theorem zCC:Am Tryz.prog 38 mTT:=by
 refine Az Al (GOk.cons OU (AB Tryz.func89 rfl rfl) (GOk.cons ZC (AB Tryz.func85 rfl rfl) (GOk.cons Y9 (AB Tryz.func86 rfl rfl) (GOk.cons Z5 (AB Tryz.func87 rfl rfl) (GOk.cons YA (AB Tryz.func90 rfl rfl) (GOk.cons RS (AB Tryz.func92 rfl rfl) (GOk.cons TZ (AB Tryz.func93 rfl rfl) (GOk.cons zBG (AB Tryz.func96 rfl rfl) (GOk.cons L4 (AB Tryz.func95 rfl rfl) (GOk.ptrK yq (AB Tryz.func91 rfl rfl) GOk.nil)))))))))) Ak Tryz.func38 rfl Tryz.ntmps38 Tryz.results38 22 ?_;rintro⟨⟨p,xs,xb⟩,AA,b⟩ ⟨hn,x⟩;replace hn:p.n<=1000000:=hn;replace x:p.hn<=1000000:=x;refine⟨by simp,?_⟩;by_cases o:EA AA;rotate_left
 ·have A:(0<=AA/\AA<=63)↔False:=⟨o,False.elim⟩;simp[go_sem,NZ,Nv,OZ,A,hn,x];refine⟨fun h=>h,fun h=>?_,fun c l=>?_⟩
  ·rw[MN fun e=>h.elim (· e.1) (· e.2)];exact⟨rfl,rfl,rfl,rfl,rfl,rfl⟩
  ·rw[Rd ⟨c,l⟩ o];exact⟨rfl,rfl,rfl,rfl,rfl,rfl⟩
 obtain⟨n,rfl⟩:=Int.eq_ofNat_of_zero_le o.1;have a:n<64:=by have:=o.2;omega
 have F:((n:Int) % 8).toNat=n % 8:=by omega
 have y:((n:Int) / 8).toNat=n / 8:=by omega
 simp[go_sem,NZ,Nv,OZ,Lu,VD,qO,QI,VC,zFL,GC,hn,x,NA a,Mn,F,y,qk,qm,qj,ql,zBA];refine⟨fun h=>h,fun h=>?_,fun c l=>⟨fun h=>absurd h (by omega),fun _=>?_⟩⟩
 ·rw[MN fun e=>h.elim (· e.1) (· e.2)];exact⟨rfl,rfl,rfl,rfl,rfl,rfl⟩
 refine⟨⟨c,a⟩,fun g h=>?_,fun C=>⟨fun i hi=>by have:=Uz c.1 i hi;omega,Lg c (by omega),by omega,by omega,Nh c,by omega,by omega,fun w=>?_,fun w=>?_⟩⟩
 ·rw[RC ⟨c,l⟩ o ⟨g,h⟩];exact⟨rfl,rfl,rfl,rfl,rfl,rfl⟩
 ·rw[M5 ⟨c,l⟩ o fun e=>C e.1 e.2,Int.toNat_natCast];refine⟨by omega,by omega,?_⟩;simp only[zHR,zHS];by_cases E:∃i,BU p.n p.s i
  ·obtain⟨i,hi⟩:=E;have H:tk1 p ⟨b,8,AX p xs xb n 1 0,AW p xs xb n 1 0,⟨#[]⟩⟩=(Aq p i (BJ (AX p xs xb n 1 0) (AW p xs xb n 1 0) b),(i:Int),b,true):=Hd hi;have z:Bm p (BJ (AX p xs xb n 1 0) (AW p xs xb n 1 0) b):=FC c a (by omega) l (fun s t h=>h) (Or.inl ⟨rfl,rfl⟩);have r:=zD c a l w hi;have D:AY (Aq p i (BJ (AX p xs xb n 1 0) (AW p xs xb n 1 0) b)):=Jk c.1 hi z;have hF:Bm (Aq p i (BJ (AX p xs xb n 1 0) (AW p xs xb n 1 0) b)) (BJ (AX p xs xb n 0 (i:Int)) (AW p xs xb n 0 b) b):=FC c a (by omega) l (fun s t h=>L0 hi.2.1 h) (Or.inr ⟨Ky hi l.1.1,Int.le_refl _⟩);simp only[H];refine⟨fun k=>?_,fun k _=>⟨fun h=>by simp at h,fun _=>?_⟩⟩
   ·replace k:¬CO (AX p xs xb n 0 (i:Int)) (AW p xs xb n 0 b):=k.resolve_right (by simp);refine⟨hn,fun h=>?_,fun _ h=>?_⟩
    ·rw[RB r k D hF fun j d m=>?_]
     ·exact⟨rfl,rfl,rfl,rfl,rfl,rfl⟩
     ·obtain⟨G,q⟩:=Ke (f:=(Aq p i (BJ (AX p xs xb n 1 0) (AW p xs xb n 1 0) b)).s) d m;rw[show tk1 _ _=_ from Hd q]at h;simp at h
    ·by_cases v:∃j,BU p.n (Aq p i (BJ (AX p xs xb n 1 0) (AW p xs xb n 1 0) b)).s j
     ·obtain⟨j,d⟩:=v;have B:tk1 (Aq p i (BJ (AX p xs xb n 1 0) (AW p xs xb n 1 0) b)) ⟨b,8,AX p xs xb n 0 (i:Int),AW p xs xb n 0 b,⟨#[]⟩⟩=(Aq (Aq p i (BJ (AX p xs xb n 1 0) (AW p xs xb n 1 0) b)) j (BJ (AX p xs xb n 0 (i:Int)) (AW p xs xb n 0 b) b),(j:Int),b,true):=Hd d;simp only[B];rw[QR r k D hF d];exact⟨by kernel_rfl,⟨TrE.refl _,Bg⟩,⟨TrE.refl _,Bq⟩,rfl,rfl,⟨TrE.refl _,Gc⟩,rfl⟩
     ·rw[NB (p:=Aq p i (BJ (AX p xs xb n 1 0) (AW p xs xb n 1 0) b)) fun j d m=>v (Ke d m)]at h;simp at h
   ·rw[QQ r k];exact⟨by kernel_rfl,⟨TrE.refl _,Bg⟩,⟨TrE.refl _,Bq⟩,rfl,rfl,⟨TrE.refl _,Gc⟩,rfl⟩
  ·have u:∀j,j<p.n->¬Ag (p.s j):=fun j d m=>E (Ke d m)
   simp only[NB u];rw[V6 c a l w u];exact⟨fun _=>⟨hn,fun _=>⟨rfl,rfl,rfl,rfl,rfl,rfl⟩,fun h=>by simp at h⟩,fun _ h=>by simp at h⟩
 ·rw[M5 ⟨c,l⟩ o fun e=>C e.1 e.2,Int.toNat_natCast];have r:=zC (xs:=xs) (xb:=xb) (b:=b) w;have hF:Bm p (BJ (AX p xs xb n 0 0) (AW p xs xb n 0 0) b):=FC c a (by omega) l (fun s t h=>h) (Or.inl ⟨rfl,rfl⟩);refine⟨fun k=>⟨fun h=>?_,fun h=>?_⟩,fun k=>?_⟩
  ·rw[RB r k c.1 hF fun j d m=>?_]
   ·exact⟨rfl,rfl,rfl,rfl,rfl,rfl⟩
   ·obtain⟨G,q⟩:=Ke d m;rw[Hd q]at h;simp at h
  ·by_cases v:∃j,BU p.n p.s j
   ·obtain⟨j,d⟩:=v;have B:tk1 p ⟨b,8,AX p xs xb n 0 0,AW p xs xb n 0 0,⟨#[]⟩⟩=(Aq p j (BJ (AX p xs xb n 0 0) (AW p xs xb n 0 0) b),(j:Int),b,true):=Hd d;simp only[B];rw[QR r k c.1 hF d];exact⟨by kernel_rfl,⟨TrE.refl _,Bg⟩,⟨TrE.refl _,Bq⟩,rfl,rfl,⟨TrE.refl _,Gc⟩,rfl⟩
   ·rw[NB fun j d m=>v (Ke d m)]at h;simp at h
  ·rw[QQ r k];exact⟨by kernel_rfl,⟨TrE.refl _,Bg⟩,⟨TrE.refl _,Bq⟩,rfl,rfl,⟨TrE.refl _,Gc⟩,rfl⟩
set_option maxRecDepth 20000
set_option maxHeartbeats 1600000
theorem zH5(h:Am P f a)(i:Am P f b):Am P f (orSp a b):=by
 intro w e c rs d g;unfold orSp at d;split at d
 ·rename_i r hr
  cases d;exact h w e c rs hr g
 ·exact i w e c rs d g
def TB:AJ:=AU (fun q:Nat×(Nat->AG)=>[(true,[.s .b 3 q.1 (Aw .b q.2),.v n0])]) (fun q=>q.1<=1000000/\(0:Nat)<=1000000) (fun q=>bR (AY {n:=q.1,s:=q.2,hn:=0,h:=fun _=>0}))
def Q5:AJ:=orSp PS TB
theorem zDs:Am Tryz.prog 62 TB:=P4.upk (κ:=Nat) fun q=>⟨_,OK {n:=q.1,s:=q.2,hn:=0,h:=fun _=>0},.cons ⟨rfl,.cons (TrE.refl _) (.cons ⟨rfl,rfl⟩ .nil)⟩ .nil⟩
theorem zDt:Am Tryz.prog 62 Q5:=zH5 P4 zDs
theorem zBN(p:A5):Q5 [poT p.n p.s p.hn p.h]=some (p.n<=1000000/\p.hn<=1000000,bR (AY p)):=qb (OK p)
theorem zBr(n:Nat)(s:Nat->AG):Q5 [(true,[.s .b 3 n (Aw .b s),.v n0])]=some (n<=1000000/\(0:Nat)<=1000000,bR (AY {n:=n,s:=s,hn:=0,h:=fun _=>0})):=by
 refine qd (X1 fun x h=>by simp at h) (Af (fun l=>(DI (nth l 0 0),fun i=>KH (Br (nth l 0 0) i 0) (Br (nth l 0 0) i 1) (Br (nth l 0 0) i 2))) (fun _=>rfl) (n,s))
theorem zAN{h:Nat->Int}:AY {n:=p.n,s:=p.s,hn:=0,h:=h}↔AY {n:=p.n,s:=p.s,hn:=0,h:=p.h}:=
 ⟨fun x=>⟨x.1,x.2.1,fun i hi=>absurd hi (Nat.not_lt_zero _)⟩,fun x=>⟨x.1,x.2.1,fun i hi=>absurd hi (Nat.not_lt_zero _)⟩⟩
theorem zAU(p:A5)(k:Nat):TrE (.s fl 3 p.n (Ab (Aw .z p.s) k 0 [.v (.int .i64 0),.v n0,.v (.string ⟨#[]⟩)])) (.s fl 3 p.n (Aw .z (Aq p k EQ).s)):=by
 refine⟨.inl rfl,rfl,rfl,fun i j hi a=>?_⟩;by_cases h:i=k
 ·subst h
  match j,a with
  | 0,_=>exact TrE.of_eq (by simp[Ab,Aw,Aq,EQ])
  | 1,_=>simp[Ab,Aw,Aq,EQ,TrE]
  | 2,_=>exact TrE.of_eq (by simp[Ab,Aw,Aq,EQ])
 ·match j,a with
  | 0,_=>exact TrE.of_eq (by simp[Ab,Aw,Aq,h])
  | 1,_=>exact TrE.of_eq (by simp[Ab,Aw,Aq,h])
  | 2,_=>exact TrE.of_eq (by simp[Ab,Aw,Aq,h])
def yi:AJ:=AU (fun p:A5=>[poT p.n p.s p.hn p.h]) (fun p=>p.n<=1000000/\p.hn<=1000000/\∀i,i<p.n->(p.s i).kn<=1000000) (fun p=>[poO (IW p)])
theorem zFM(p:A5):yi [poT p.n p.s p.hn p.h]=some (p.n<=1000000/\p.hn<=1000000/\∀i,i<p.n->(p.s i).kn<=1000000,[poO (IW p)]):=Af (fun l=>Cs (nth l 0 0) (nth l 0 1)) (fun _=>rfl) p
theorem zC9:Am Tryz.prog 109 yi:=by
 refine Az Al (GOk.cons OU (AB Tryz.func89 rfl rfl) (GOk.cons zDt (AB Tryz.func62 rfl rfl) GOk.nil)) Ak Tryz.func109 rfl Tryz.ntmps109 Tryz.results109 5 ?_;rintro p ⟨hn,c,f⟩;replace hn:p.n<=1000000:=hn;replace c:p.hn<=1000000:=c;refine⟨by simp,?_⟩;simp[go_sem,Lu,zBN,hn,c];refine⟨f,fun a=>?_,fun a=>?_⟩
 ·rw[Pc fun h=>a h.1];exact⟨⟨TrE.refl _,Bg⟩,TrE.refl _,Bq⟩
 refine BC (fun k:Nat=>⟨[(4,true,.i k),(3,true,.m false [.p 3 0]),(2,true,.m false [.p 2 0]),(1,true,.m false [.p 1 0])],[(3,.var [.h 7,.h 8]),(7,.row 3 p.n (Aw .z (Ds p k).s)),(8,.row 1 p.hn (BF p.h)),(2,.var [.v n0,.v n0]),(1,.var [.s .b 3 p.n (Aw .b p.s),.s .b 1 p.hn (BF p.h)])]⟩) (fun k=>p.hn - k) (fun k=>k<=p.hn) 0 ?_ (by simp) ?_
 ·rw[zAz];simp[go_sem]
 rintro k l;simp[go_sem,Ao (show k<=1000000000 by omega),zBr,Lu,hn,c];refine⟨fun d=>?_,fun d=>?_⟩
 ·obtain⟨g,j,-,-⟩:=a.2.2 k d;refine⟨d,⟨g,j⟩,by omega,by kernel_rfl,k+1,by omega,by omega,by omega,?_⟩;rw[zAy (m:=(p.h k).toNat) (by omega)];exact zAU (Ds p k) _
 ·cases (show k=p.hn by omega);have o:AY {n:=p.n,s:=(Ds p p.hn).s,hn:=0,h:=fun x=>0}↔AY (Gs p):=zAN (p:=Ds p p.hn);rw[o];refine⟨fun h=>?_,fun h=>?_⟩
  ·rw[Pc fun e=>h e.2];exact⟨f,⟨TrE.refl _,Bg⟩,TrE.refl _,Bq⟩
  ·rw[UT a h];exact⟨⟨TrE.refl _,Bg⟩,rfl⟩
end
end Go.Proofs.YtehdoekmnicdiaaGreatDoor
