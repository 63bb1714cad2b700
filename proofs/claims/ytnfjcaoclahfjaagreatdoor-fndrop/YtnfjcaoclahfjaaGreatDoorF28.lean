/- A part of the proof. -/
import Derived.Test.YtnfjcaoclahfjaaGreatDoorF27
set_option linter.unusedVariables false
set_option maxRecDepth 20000
set_option maxHeartbeats 4000000
namespace Go.Proofs.YtnfjcaoclahfjaaGreatDoor
noncomputable section
open Go.RowKit
set_option linter.unusedSimpArgs false
set_option maxRecDepth 20000
set_option maxHeartbeats 1600000
variable{p:A7}
theorem KP{a b:Int}(d:AX p)(h:JT p a b):(p.s a.toNat).kn=8:=by
 rcases R1 d h.1 with c | c
 ·have:=h.2.1;omega
 ·exact c
theorem Xy{f g f' g':Nat->Int}:∀{k:Nat},(∀i,i<k->f i=f' i)->(∀i,i<k->g i=g' i)->kidsUp f g k=kidsUp f' g' k
 | 0,_,_=>rfl
 | k+1,h,h'=>by
  simp only[kidsUp];rw[Xy (fun i hi=>h i (by omega)) (fun i hi=>h' i (by omega)),h k (by omega),h' k (by omega)]
def qQ:AH:=AR (fun q:A7×Int×Int=>[poT q.1.n q.1.s q.1.hn q.1.h,pT q.2.1 q.2.2]) (fun q=>AX q.1/\An q.1 q.2.1 q.2.2) (fun q=>[(false,[.s .o 2 (AE q.1 q.2.1 q.2.2).length (ptL (AE q.1 q.2.1 q.2.2))])])
theorem I6(p:A7)(a b:Int):qQ [poT p.n p.s p.hn p.h,pT a b]=some (AX p/\An p a b,[(false,[.s .o 2 (AE p a b).length (ptL (AE p a b))])]):=Aa (fun l=>(Cd (nth l 0 0) (nth l 0 1),AO (nth l 1 0),AO (nth l 1 1))) (fun _=>rfl) (p,a,b)
theorem Ix:Ag Tryz.prog 33 qQ:=by
 refine Au Ai (GOk.cons Kv (AA Tryz.func78 rfl rfl) GOk.nil) Ah Tryz.func33 rfl Tryz.ntmps33 Tryz.results33 10 ?_;rintro⟨p,a,b⟩ ⟨u,A⟩;replace u:AX p:=u;replace A:An p a b:=A;have hn:p.n<=200:=u.1;refine⟨by simp,?_⟩;simp[go_sem,GD];refine⟨fun D E=>?_,fun h=>?_⟩
 ·have e:AE p a b = []:=(by simp[AE,Nil,D,E]);rw[e];exact⟨LV rfl,Gf⟩
 have C:¬Nil a b:=fun e=>h e.1 e.2
 obtain⟨f,v,-⟩:=A.resolve_left C;have r:=KP u f;refine⟨⟨f.1.2.1,f.1.2.2.1⟩,?_⟩;obtain⟨F,hF⟩:∃F:Nat->List (Int×Int),∀k,F k=(a,b) :: CV p (p.s a.toNat) k:=⟨_,fun _=>rfl⟩;have z:∀k,(F k).length<=9*k+1:=fun k=>by rw[hF];exact Nat.succ_le_succ (OI ..)
 refine B2 (fun k:Nat=>⟨[(5,true,.m false [.h 7]),(2,true,.m false [.p 2 0]),(6,true,.m false [.s .b 2 (p.s a.toNat).kn (ptrsT (p.s a.toNat).ks (p.s a.toNat).kb)]),(7,true,.i k)],[(2,.var [.s .b 3 p.n (Ao .b p.s),.s .b 1 p.hn (B5 p.h)]),(7,.row 2 (F k).length (ptL (F k)))]⟩) (fun k=>8 - k) (fun k=>k<=8) 0 ?_ (by simp) ?_
 ·simp[go_sem];exact GZ (l:=[]) Hu (by simp[hF,CV])
 rintro k K;simp[go_sem,Aj (show k<=1000000000 by omega),GD];have I:=z k;refine⟨fun w=>⟨w,fun x y=>⟨k+1,by omega,by omega,by omega,Ga ?_⟩,fun g=>?_⟩,fun w=>?_⟩
 ·rw[hF,hF];simp[CV,DA,Fi r (show k<8 by omega),Fh r (show k<8 by omega),Nil,x,y]
 ·have c:=v.1 k (by omega);unfold KE at c;rw[Fi r (by omega),Fh r (by omega)]at c;obtain⟨o,B⟩:=c.resolve_left fun e=>g e.1 e.2
  have t:=KP u o;refine⟨w,by omega,w,⟨o.1.2.1,o.1.2.2.1⟩,by kernel_rfl,?_⟩;obtain⟨G,d⟩:∃G:Nat->List (Int×Int),∀j,G j=F k ++ (((p.s a.toNat).ks k,(p.s a.toNat).kb k) :: kidsUp (p.s ((p.s a.toNat).ks k).toNat).ks (p.s ((p.s a.toNat).ks k).toNat).kb j):=⟨_,fun _=>rfl⟩;refine B2 (fun j:Nat=>⟨[(5,true,.m false [.h 7]),(2,true,.m false [.p 2 0]),(6,true,.m false [.s .b 2 (p.s a.toNat).kn (ptrsT (p.s a.toNat).ks (p.s a.toNat).kb)]),(8,true,.m false [.s .b 2 (p.s ((p.s a.toNat).ks k).toNat).kn (ptrsT (p.s ((p.s a.toNat).ks k).toNat).ks (p.s ((p.s a.toNat).ks k).toNat).kb)]),(7,true,.i k),(9,true,.i j)],[(2,.var [.s .b 3 p.n (Ao .b p.s),.s .b 1 p.hn (B5 p.h)]),(7,.row 2 (G j).length (ptL (G j)))]⟩) (fun j=>8 - j) (fun j=>j<=8) 0 ?_ (by simp) ?_
  ·simp[go_sem];exact GZ Hu (by simp[d,kidsUp])
  rintro j J;have H:(G j).length<=100:=by
   have:=Iw (p.s ((p.s a.toNat).ks k).toNat).ks (p.s ((p.s a.toNat).ks k).toNat).kb j;rw[d];simp;omega
  simp[go_sem,Aj (show j<=1000000000 by omega),Aj (show k<=1000000000 by omega),GD];refine⟨fun q=>⟨q,fun g'=>⟨q,by omega,j+1,by omega,by omega,by omega,GZ Hu ?_⟩,fun x y=>⟨j+1,by omega,by omega,by omega,Ga ?_⟩⟩,fun q=>⟨k+1,by omega,by omega,by omega,Ga ?_⟩⟩
  ·rw[d,d];simp[kidsUp,one,if_neg (show ¬Nil ((p.s ((p.s a.toNat).ks k).toNat).ks j) ((p.s ((p.s a.toNat).ks k).toNat).kb j)from fun e=>g' e.1 e.2)]
  ·rw[d,d];simp[kidsUp,one,Nil,x,y]
  ·cases (show j=8 by omega);rw[d,hF,hF];simp only[CV,DA];rw[Fi r (by omega),Fh r (by omega),if_neg (show ¬Nil ((p.s a.toNat).ks k) ((p.s a.toNat).kb k)from fun e=>g e.1 e.2),Gm,Xy (f':=AL _) (g':=AW _) (fun i hi=>(Fi t hi).symm) (fun i hi=>(Fh t hi).symm)];rfl
 ·cases (show k=8 by omega);exact⟨Ga (by rw[hF,AE,if_neg C]),Gf⟩
variable{l:List (Int×Int)}{i:Nat}
theorem zId:Cy encP (0,0) l i 0 = .v (.int .i64 (l[i]?.getD (0,0)).1):=rfl
theorem zIe:Cy encP (0,0) l i 1 = .v (.int .i64 (l[i]?.getD (0,0)).2):=rfl
theorem zGN{a b t:Int}(h:BO p a b):((∀i,i<(AE p a b).length->((AE p a b)[i]?.getD (0,0)).2<=t)/\DN t)↔CR b t:=by
 rw[<-zE7 h];refine and_congr_left fun _=>forall_congr' fun i=>imp_congr_right fun _=>?_
 rw[AK,List.getD_eq_getElem?_getD,Int.not_lt]
def Zb:AH:=AR (fun q:A7×Int×Int×Int=>[poT q.1.n q.1.s q.1.hn q.1.h,pT q.2.1 q.2.2.1,iT q.2.2.2]) (fun q=>AX q.1/\An q.1 q.2.1 q.2.2.1) (fun q=>bR (CR q.2.2.1 q.2.2.2))
theorem Nm(p:A7)(a b t:Int):Zb [poT p.n p.s p.hn p.h,pT a b,iT t]=some (AX p/\An p a b,bR (CR b t)):=Aa (fun l=>(Cd (nth l 0 0) (nth l 0 1),AO (nth l 1 0),AO (nth l 1 1),AO (nth l 2 0))) (fun _=>rfl) (p,a,b,t)
theorem XC:Ag Tryz.prog 173 Zb:=by
 refine Au Ai (GOk.cons Ix (AA Tryz.func33 rfl rfl) (GOk.cons RQ (AA Tryz.func153 rfl rfl) GOk.nil)) Ah Tryz.func173 rfl Tryz.ntmps173 Tryz.results173 9 ?_;rintro⟨p,a,b,t⟩ ⟨d,e⟩;replace d:AX p:=d;replace e:An p a b:=e;refine⟨by simp,?_⟩;simp[go_sem,I6,d,e,<-zGN (show BO p a b from⟨d,e⟩)];have l:=D7 p a b;refine B2 (fun k:Nat=>⟨[(8,true,.i k),(7,true,.m false [.h 7]),(2,true,.i t)],[(7,.row 2 (AE p a b).length (ptL (AE p a b)))]⟩) (fun k=>(AE p a b).length - k) (fun k=>k<=(AE p a b).length/\∀i,i<k->((AE p a b)[i]?.getD (0,0)).2<=t) 0 (by simp[go_sem]) (by simp) ?_;rintro k ⟨j,c⟩;simp[go_sem,Aj (show k<=1000000000 by omega),Qw,zId,zIe];exact⟨fun h=>⟨h,fun f g=>by have:=g k h;omega,fun f=>⟨k+1,⟨by omega,Bf h c f⟩,by omega,rfl⟩⟩,fun h f i hi=>c i (by omega)⟩
variable{fl:Fl}{k n:Nat}
theorem F5{F G:Nat->Nat->Tr}(h:∀i j,i<n->j<k->F i j=G i j):TrE (.s fl k n F) (.s fl k n G):=⟨.inl rfl,rfl,rfl,fun i j hi a=>TrE.of_eq (h i j hi a)⟩
variable{f g:Nat->Int}
theorem zGv{f' g':Nat->Int}(h:∀i,i<n->f i=f' i/\g i=g' i):TrE (.s fl 2 n (ptrsT f g)) (.s fl 2 n (ptrsT f' g')):=F5 fun i j hi a=>by
 match j,a with
 | 0,_=>exact congrArg (fun x=>Tr.v (.int .i64 x)) (h i hi).1
 | 1,_=>exact congrArg (fun x=>Tr.v (.int .i64 x)) (h i hi).2
def Zx:AH:=AR (fun q:A7×Int×Int=>[poT q.1.n q.1.s q.1.hn q.1.h,pT q.2.1 q.2.2]) (fun q=>JS q.1 q.2.1 q.2.2) (fun q=>[(false,[.s .o 2 8 (ptrsT (EK q.1 q.2.1 q.2.2) (EN q.1 q.2.1 q.2.2))])])
theorem QL(p:A7)(a b:Int):Zx [poT p.n p.s p.hn p.h,pT a b]=some (JS p a b,[(false,[.s .o 2 8 (ptrsT (EK p a b) (EN p a b))])]):=Aa (fun l=>(Cd (nth l 0 0) (nth l 0 1),AO (nth l 1 0),AO (nth l 1 1))) (fun _=>rfl) (p,a,b)
theorem RK:Ag Tryz.prog 176 Zx:=by
 refine Au Ai (GOk.cons Kv (AA Tryz.func78 rfl rfl) GOk.nil) Ah Tryz.func176 rfl Tryz.ntmps176 Tryz.results176 5 ?_;rintro⟨p,a,b⟩ f;replace f:JS p a b:=f;refine⟨by simp,?_⟩;by_cases c:Nil a b
 ·obtain⟨rfl,rfl⟩:=id c;simp[go_sem,GD,Kk];refine F5 fun i j hi k=>?_
  match j,k with
  | 0,_=>simp[ptrsT,EK,Nil]
  | 1,_=>simp[ptrsT,EN,Nil]
 ·obtain⟨d,e⟩:=f.resolve_left c;simp[go_sem,GD,GQ,I0,Kk,e];exact⟨fun g h=>(c ⟨g,h⟩).elim,fun _=>⟨⟨d.2.1,d.2.2.1⟩,zGv fun i hi=>⟨by unfold EK;rw[if_neg c,Fi e hi],by unfold EN;rw[if_neg c,Fh e hi]⟩⟩⟩
theorem N8(h:n<64):IntKind.i64.wrap ((n:Int) / 8)=((n / 8:Nat):Int):=by
 rw[IntKind.wrap_i64];omega
theorem Mj:(n:Int).tmod 8=((n % 8:Nat):Int):=(Int.ofNat_tmod n 8).symm
def qE:AH:=AR (fun q:A7×Int×Int×Nat=>[poT q.1.n q.1.s q.1.hn q.1.h,pT q.2.1 q.2.2.1,iT (q.2.2.2:Int)]) (fun q=>BO q.1 q.2.1 q.2.2.1/\q.2.2.2<64) (fun q=>[pT (EL q.1 q.2.1 q.2.2.1 q.2.2.2) (Ei q.1 q.2.1 q.2.2.1 q.2.2.2),pT (DK q.1 q.2.1 q.2.2.1 q.2.2.2) (Dc q.1 q.2.1 q.2.2.1 q.2.2.2)])
theorem Tt(p:A7)(a b:Int)(n:Nat):qE [poT p.n p.s p.hn p.h,pT a b,iT (n:Int)]=some (BO p a b/\n<64,[pT (EL p a b n) (Ei p a b n),pT (DK p a b n) (Dc p a b n)]):=Aa (fun l=>(Cd (nth l 0 0) (nth l 0 1),AO (nth l 1 0),AO (nth l 1 1),(AO (nth l 2 0)).toNat)) (fun _=>rfl) (p,a,b,n)
theorem XD:Ag Tryz.prog 175 qE:=by
 refine Au Ai (GOk.cons RK (AA Tryz.func176 rfl rfl) GOk.nil) Ah Tryz.func175 rfl Tryz.ntmps175 Tryz.results175 9 ?_;rintro⟨p,a,b,n⟩ ⟨c,hn⟩;replace c:BO p a b:=c;replace hn:n<64:=hn;refine⟨by simp,?_⟩;simp[go_sem,QL,N8 hn,Mj];refine⟨PX c,by omega,by omega,PP c (by omega),by omega,by omega,by kernel_rfl,?_⟩;rw[show((n:Int) / 8).toNat=n / 8 by omega,show((n:Int) % 8).toNat=n % 8 by omega];exact⟨⟨rfl,rfl⟩,rfl,rfl⟩
set_option maxRecDepth 20000
set_option maxHeartbeats 1600000
def P3(x:Int):Nat->Tr:=fun _=>.v (.int .i64 x)
abbrev inL(l:List Int):Nat->Nat->Tr:=Cy P3 0 l
theorem UM{l:List Int}:(Tr.s fl k n (Cy P3 0 l)).lend = .s .b k n (B5 fun i=>l[i]?.getD 0):=rfl
theorem BV:(Tr.s fl k n (Cy encP (0,0) l)).lend = .s .b k n (ptrsT (fun i=>(l[i]?.getD (0,0)).1) (fun i=>(l[i]?.getD (0,0)).2)):=by
 rw[show Cy encP (0,0) l=_ from zI7 l];exact M6
variable{l:List Int}
theorem Z0{c:Nat}:Cy P3 0 l i c = .v (.int .i64 (l[i]?.getD 0)):=rfl
variable{x:Int}
theorem TK:Has l.length (fun i=>l[i]?.getD 0) x↔x∈l:=by
 rw[List.mem_iff_getElem?];constructor
 ·rintro⟨i,hi,rfl⟩;exact⟨i,by simp[hi]⟩
 ·rintro⟨i,hi⟩;have:=(List.getElem?_eq_some_iff.1 hi).1;exact⟨i,this,by simp[hi]⟩
theorem zGS:∀j,j<1->([Tr.v (Value.int .i64 x)][j]?.getD (.v (.bool false))).nt=P3 x j
 | 0,_=>rfl
theorem UB{m:List Int}(h:l ++ [x]=m):TrE (.s fl 1 (l.length+1) (Ae (inL l) l.length (fun p q=>([Tr.v (Value.int .i64 x)][p+q]?.getD (.v (.bool false))).nt))) (.s fl 1 m.length (inL m)):=by
 have:=GZ (fl:=fl) (k:=1) (d:=(0:Int)) zGS h;simpa only[Nat.mul_one]using this
theorem OQ{f g:Nat->Int}:∀{k:Nat},0<(kidsUp f g k).length↔∃i,i<k/\¬Nil (f i) (g i)
 | 0=>by simp[kidsUp]
 | k+1=>by
  rw[kidsUp,List.length_append];by_cases h:Nil (f k) (g k)
  ·rw[one,if_pos h,List.length_nil,Nat.add_zero,OQ];exact⟨fun ⟨i,h1,h2⟩=>⟨i,by omega,h2⟩,fun ⟨i,h1,h2⟩=>⟨i,by rcases Nat.lt_succ_iff_lt_or_eq.1 h1 with a | rfl;exact a;exact absurd h h2,h2⟩⟩
  ·rw[one,if_neg h];exact⟨fun _=>⟨k,by omega,h⟩,fun _=>by simp⟩
theorem VK(h:¬Nil (f k) (g k)):(kidsUp f g (k+1)).length=(kidsUp f g k).length+1:=by simp[kidsUp,one,h]
theorem VL(h:Nil (f k) (g k)):(kidsUp f g (k+1)).length=(kidsUp f g k).length:=by simp[kidsUp,one,h]
theorem Lm(h:AX p):p.hn<=10000:=by
 have:=MK h;unfold As at this;omega
attribute [local go_sem] UM BV Z0
def mTR:AH:=AR (fun q:A7×Int×Int=>[poT q.1.n q.1.s q.1.hn q.1.h,pT q.2.1 q.2.2]) (fun q=>AX q.1) (fun q=>bR (An q.1 q.2.1 q.2.2))
theorem PD(p:A7)(a b:Int):mTR [poT p.n p.s p.hn p.h,pT a b]=some (AX p,bR (An p a b)):=Aa (fun l=>(Cd (nth l 0 0) (nth l 0 1),AO (nth l 1 0),AO (nth l 1 1))) (fun _=>rfl) (p,a,b)
theorem Y0:Ag Tryz.prog 60 mTR:=by
 refine Au Ai (GOk.cons Kv (AA Tryz.func78 rfl rfl) (GOk.cons zA0 (AA Tryz.func116 rfl rfl) (GOk.cons zA1 (AA Tryz.func117 rfl rfl) (GOk.cons M5 (AA Tryz.func63 rfl rfl) GOk.nil)))) Ah Tryz.func60 rfl Tryz.ntmps60 Tryz.results60 12 ?_;rintro⟨p,a,b⟩ R;replace R:AX p:=R;have hn:p.n<=200:=R.1;have hm:=Lm R;refine⟨by simp,?_⟩;simp[go_sem,GD,Tq];refine⟨fun l r=>.inl ⟨l,r⟩,fun h=>⟨⟨by omega,by omega⟩,fun l r=>?_,fun E=>⟨⟨E.1.2.1,E.1.2.2.1⟩,?_⟩⟩⟩
 ·exact l ((r.resolve_left fun e=>h e.1 e.2).1)
 have X:¬Nil a b:=fun e=>h e.1 e.2
 obtain⟨s,hs⟩:∃s,p.s a.toNat=s:=⟨_,rfl⟩;have Q:=KP R E;rw[hs]at Q;have U:An p a b↔Zo p s/\(DT p a s 8).Nodup:=by
  unfold An;rw[hs,RB X,hs];exact⟨fun h=>(h.resolve_left X).2,fun h=>.inr ⟨E,h⟩⟩
 have B:∀{i},i<8->AL s i=s.ks i:=fun hi=>Fi Q hi
 have W:∀{i},i<8->AW s i=s.kb i:=fun hi=>Fh Q hi
 obtain⟨F,hF⟩:∃F:Nat->List Int,∀k,F k=DT p a s k:=⟨_,fun _=>rfl⟩;obtain⟨C,M⟩:∃C:Nat->Nat,∀k,C k=(kidsUp (AL s) (AW s) k).length:=⟨_,fun _=>rfl⟩;have cA:∀k,C k<=k:=fun k=>by rw[M];exact Iw ..
 have eA:∀k,k<=8->(F k).length<=73:=fun k Y=>by rw[hF];exact UE p a s Y
 refine B2 (fun k:Nat=>⟨[(5,true,.m false [.h 7]),(2,true,.m false [.p 2 0]),(6,true,.i (C k)),(7,true,.m false [.s .b 2 s.kn (ptrsT s.ks s.kb)]),(8,true,.i k)],[(2,.var [.s .b 3 p.n (Ao .b p.s),.s .b 1 p.hn (B5 p.h)]),(7,.row 1 (F k).length (inL (F k)))]⟩) (fun k=>8 - k) (fun k=>k<=8/\(∀i,i<k->KE p s i)/\(F k).Nodup) 0 ?_ ?_ ?_
 ·simp[go_sem,hs,M,kidsUp,hF,DT,CV,Dm];exact F5 fun i j hi hj=>by cases (show i=0 by omega);cases (show j=0 by omega);rfl
 ·simp[hF,DT,CV,Dm]
 rintro k ⟨Y,w,O⟩;have jA:=eA k Y;simp[go_sem,hs,Q,Aj (show k<=1000000000 by omega),Aj (show C k<=1000000000 by have:=cA k;omega),GD,Tq,KO,TK];refine⟨fun d=>⟨d,fun g1 g2=>⟨k+1,?_⟩,fun g=>⟨d,⟨by omega,by omega⟩,?_⟩⟩,fun d=>?_⟩
 ·replace d:k<8:=(by omega);have f:Nil (AL s k) (AW s k):=(by rw[B d,W d];exact⟨g1,g2⟩);have A:F (k+1)=F k:=(by rw[hF,hF];exact zDf f);have L:C (k+1)=C k:=(by rw[M,M];exact VL f);rw[A,L];exact⟨⟨by omega,Bf d w (.inl f),O⟩,by omega,⟨rfl,rfl⟩,TrE.refl _⟩
 ·replace d:k<8:=(by omega);have f:¬Nil (AL s k) (AW s k):=(by rw[B d,W d];exact fun e=>g e.1 e.2);have K:An p a b->∀i,i<=8->(Ds p a s k i).Nodup:=fun h i hi=>by
   have r:=(U.1 h).2;rw[<-hs,<-RB X]at r;rw[<-hs]at f ⊢;exact zDM X r d hi f
  refine⟨fun _=>by omega,fun _=>by omega,by kernel_rfl,fun l r=>?_,fun H iA=>⟨by omega,by omega,by omega,⟨H.1.2.1,H.1.2.2.1⟩,by kernel_rfl,?_⟩⟩
  ·rcases l with l | l
   ·have u:=((U.1 r).1.1 k d).resolve_left f;rw[B d,W d]at u;exact l u.1
   ·have u:=K r 0 (by omega);rw[Va,OX,B d,<-hF]at u;exact u.2 l
  obtain⟨t,P⟩:∃t,p.s (s.ks k).toNat=t:=⟨_,rfl⟩;have Z:=KP R H;rw[P]at Z;have z:∀{i},i<8->AL t i=t.ks i:=fun hi=>Fi Z hi
  have I:∀{i},i<8->AW t i=t.kb i:=fun hi=>Fh Z hi
  have x:KE p s k↔Zj p t:=by
   unfold KE;rw[B d,W d,P];rw[B d,W d]at f;exact⟨fun h=>(h.resolve_left f).2,fun h=>.inr ⟨H,h⟩⟩
  obtain⟨G,J⟩:∃G:Nat->List Int,∀i,G i=Ds p a s k i:=⟨_,fun _=>rfl⟩;obtain⟨D,N⟩:∃D:Nat->Nat,∀i,D i=(kidsUp (AL t) (AW t) i).length:=⟨_,fun _=>rfl⟩;have dA:∀i,D i<=i:=fun i=>by rw[N];exact Iw ..
  have fA:∀i,i<=8->(G i).length<=90:=fun i hi=>by rw[J];exact zFx p a s Y hi
  have T:G 0=F k ++ [s.ks k]:=(by rw[J,Va,<-hF,B d]);refine B2 (fun i:Nat=>⟨[(5,true,.m false [.h 7]),(2,true,.m false [.p 2 0]),(6,true,.i (C k+1:Nat)),(7,true,.m false [.s .b 2 s.kn (ptrsT s.ks s.kb)]),(8,true,.i k),(9,true,.i (D i)),(10,true,.m false [.s .b 2 t.kn (ptrsT t.ks t.kb)]),(11,true,.i i)],[(2,.var [.s .b 3 p.n (Ao .b p.s),.s .b 1 p.hn (B5 p.h)]),(7,.row 1 (G i).length (inL (G i)))]⟩) (fun i=>8 - i) (fun i=>i<=8/\(∀q,q<i->Nil (AL t q) (AW t q)\/LQ p (AL t q) (AW t q))/\(G i).Nodup) 0 ?_ ?_ ?_
  ·simp[go_sem,P,Q,N,kidsUp];exact UB T.symm
  ·simp;rw[T,OX];exact⟨O,iA⟩
  rintro i ⟨hi,v,y⟩;have kA:=fA i hi;simp[go_sem,hs,Q,P,Z,Aj (show i<=1000000000 by omega),Aj (show k<=1000000000 by omega),Aj (show D i<=1000000000 by have:=dA i;omega),GD,zEh,KO,TK];refine⟨fun c=>⟨c,fun g1 g2=>⟨i+1,?_⟩,fun g'=>⟨c,⟨by omega,by omega⟩,?_⟩⟩,fun c=>?_⟩
  ·replace c:i<8:=(by omega);have o:Nil (AL t i) (AW t i):=(by rw[z c,I c];exact⟨g1,g2⟩);have A:G (i+1)=G i:=by
    rw[J,J];refine zEv ?_;rw[B d,P];exact o
   have L:D (i+1)=D i:=(by rw[N,N];exact VL o);rw[A,L];exact⟨⟨by omega,Bf c v (.inl o),y⟩,by omega,⟨rfl,rfl⟩,TrE.refl _⟩
  ·replace c:i<8:=(by omega);have o:¬Nil (AL t i) (AW t i):=(by rw[z c,I c];exact fun e=>g' e.1 e.2);have A:G (i+1)=G i ++ [t.ks i]:=by
    rw[J,J,zEu (by rw[B d,P];exact o),B d,P,z c]
   have L:D (i+1)=D i+1:=(by rw[N,N];exact VK o);refine⟨fun _=>by omega,fun _=>by omega,by kernel_rfl,fun l r=>?_,fun gA V=>⟨by omega,by omega,i+1,⟨by omega,Bf c v (.inr ?_),?_⟩,by omega,⟨by rw[L];rfl,rfl⟩,UB A.symm⟩⟩
   ·rcases l with l | l
    ·have u:=((x.1 ((U.1 r).1.1 k d)).1 i c).resolve_left o;rw[z c,I c]at u;exact l u
    ·have u:=K r (i+1) (by omega);rw[<-J,A,OX]at u;exact u.2 l
   ·rw[z c,I c];exact gA
   ·rw[A,OX];exact⟨y,V⟩
  ·cases (show i=8 by omega);have S:(∃i,i<8/\¬Nil (AL t i) (AW t i))↔0<D 8:=(by rw[N,OQ]);have A:F (k+1)=G 8:=(by rw[hF,J];exact Vn f);have L:C (k+1)=C k+1:=(by rw[M,M];exact VK f);refine⟨fun l r=>?_,fun l=>⟨k+1,⟨by omega,Bf d w (x.2 ⟨v,S.2 (by omega)⟩),by rw[A];exact y⟩,by omega,⟨by rw[L];rfl,rfl⟩,by rw[A];exact TrE.refl _⟩⟩;have:=S.1 (x.1 ((U.1 r).1.1 k d)).2;omega
 ·cases (show k=8 by omega);rw[U,<-hF,M,OQ];exact⟨fun h=>⟨⟨w,h⟩,O⟩,fun h=>h.1.2⟩
def yD:AH:=AR (fun q:A7×Int×Int=>[poT q.1.n q.1.s q.1.hn q.1.h,pT q.2.1 q.2.2]) (fun q=>q.1.n<=1000000/\q.1.hn<=1000000) (fun q=>bR (BO q.1 q.2.1 q.2.2))
theorem NL(p:A7)(a b:Int):yD [poT p.n p.s p.hn p.h,pT a b]=some (p.n<=1000000/\p.hn<=1000000,bR (BO p a b)):=Aa (fun l=>(Cd (nth l 0 0) (nth l 0 1),AO (nth l 1 0),AO (nth l 1 1))) (fun _=>rfl) (p,a,b)
theorem YJ:Ag Tryz.prog 172 yD:=by
 refine Au Ai (GOk.cons Oh (AA Tryz.func57 rfl rfl) (GOk.cons Y0 (AA Tryz.func60 rfl rfl) GOk.nil)) Ah Tryz.func172 rfl Tryz.ntmps172 Tryz.results172 5 ?_;rintro⟨p,a,b⟩ ⟨hn,c⟩;replace hn:p.n<=1000000:=hn;replace c:p.hn<=1000000:=c;refine⟨by simp,?_⟩;simp[go_sem,OE,PD,hn,c,BO]
set_option maxRecDepth 20000
set_option maxHeartbeats 1600000
def qI:AH:=AR (fun p:A7=>[poT p.n p.s p.hn p.h]) (fun p=>p.n<=1000000) (fun p=>[iT (roomN p.s p.n:Int)])
theorem zEm(p:A7):qI [poT p.n p.s p.hn p.h]=some (p.n<=1000000,[iT (roomN p.s p.n:Int)]):=Aa (fun l=>Cd (nth l 0 0) (nth l 0 1)) (fun _=>rfl) p
theorem zy:Ag Tryz.prog 180 qI:=by
 refine Au Ai (GOk.cons OS (AA Tryz.func62 rfl rfl) GOk.nil) Ah Tryz.func180 rfl Tryz.ntmps180 Tryz.results180 5 ?_;rintro p hn;replace hn:p.n<=1000000:=hn;refine⟨by simp,?_⟩;simp[go_sem];refine B2 (fun k:Nat=>⟨[(1,true,.m false [.p 1 0]),(3,true,.i (roomN p.s k)),(4,true,.i k)],[(1,.var [.s .b 3 p.n (Ao .b p.s),.s .b 1 p.hn (B5 p.h)])]⟩) (fun k=>p.n - k) (fun k=>k<=p.n) 0 (by simp[go_sem,roomN]) (by simp) ?_;rintro k c;have d:=Ng p.s k;simp[go_sem,Aj (show k<=1000000000 by omega),Aj (show roomN p.s k<=1000000000 by omega),Lq];refine⟨fun a=>⟨a,fun h=>⟨k+1,by omega,by omega,by rw[Jo h];rfl,rfl⟩,fun h=>⟨k+1,by omega,by omega,by rw[Ir h],rfl⟩⟩,fun a=>?_⟩;cases (show k=p.n by omega);rfl
theorem zDm(p:A7)(k:Nat)(s:AG):TrE (.s fl 3 p.n (AZ (Ao .z p.s) k 0 [.v (.int .i64 s.birth),.s .z 2 s.kn (ptrsT s.ks s.kb),.v (.string s.data)])) (.s fl 3 p.n (Ao .z (BJ p k s).s)):=by
 refine F5 fun i j hi a=>?_
 by_cases h:i=k
 ·subst h
  match j,a with
  | 0,_=>simp[AZ,Ao,BJ]
  | 1,_=>simp[AZ,Ao,BJ]
  | 2,_=>simp[AZ,Ao,BJ]
 ·match j,a with
  | 0,_=>simp[AZ,Ao,BJ,h]
  | 1,_=>simp[AZ,Ao,BJ,h]
  | 2,_=>simp[AZ,Ao,BJ,h]
def tk1(p:A7)(s:AG):A7×Int×Int×Bool:=@dite _ (∃i,C2 p.n p.s i) (Classical.propDecidable _) (fun h=>(BJ p h.choose s,(h.choose:Int),s.birth,true)) (fun _=>(p,0,0,false))
theorem I1{s:AG}(h:C2 p.n p.s i):tk1 p s=(BJ p i s,(i:Int),s.birth,true):=by
 have a:∃i,C2 p.n p.s i:=⟨i,h⟩;unfold tk1;rw[dif_pos a,a.choose_spec.uniq h]
theorem N9{s:AG}(h:∀i,i<p.n->¬Am (p.s i)):tk1 p s=(p,0,0,false):=dif_neg fun ⟨i,hi⟩=>h i hi.1 hi.2.1
abbrev poV(p:A7):List Tr:=[.s .o 3 p.n (Ao .z p.s),.s .o 1 p.hn (B5 p.h)]
abbrev slZ(s:AG):Bool×List Tr:=(true,[.v (.int .i64 s.birth),.s .z 2 s.kn (ptrsT s.ks s.kb),.v (.string s.data)])
def Rr:AH:=AR (fun q:A7×AG=>(true,poV q.1) :: [slZ q.2]) (fun q=>q.1.n<=1000000) (fun q=>[poO (tk1 q.1 q.2).1,pT (tk1 q.1 q.2).2.1 (tk1 q.1 q.2).2.2.1,(false,[.v (.bool (tk1 q.1 q.2).2.2.2)])])
theorem Tx(p:A7)(s:AG):Rr [(true,poV p),slZ s]=some (p.n<=1000000,[poO (tk1 p s).1,pT (tk1 p s).2.1 (tk1 p s).2.2.1,(false,[.v (.bool (tk1 p s).2.2.2)])]):=Aa (fun l=>(Cd (nth l 0 0) (nth l 0 1),K6 (nth l 1 0) (nth l 1 1) (nth l 1 2))) (fun _=>rfl) (p,s)
theorem XB:Ck Tryz.prog 178 Rr:=by
 refine EZ Ai (GOk.cons OS (AA Tryz.func62 rfl rfl) GOk.nil) Ah Tryz.func178 rfl Tryz.ntmps178 Tryz.results178 7 ?_;rintro⟨p,s⟩ hn;replace hn:p.n<=1000000:=hn;refine⟨by simp,?_⟩;simp[go_sem];refine B2 (fun k:Nat=>⟨[(6,true,.i k),(4,true,.m false [.p 4 0]),(3,true,.m false [.p 3 0]),(0,true,.m false [.p 0 0])],[(4,.var [.v i0,.v i0]),(3,.var [.v (.int .i64 s.birth),.s .z 2 s.kn (ptrsT s.ks s.kb),.v (.string s.data)]),(0,.var [.h 1000,.h 2000]),(1000,.row 3 p.n (Ao .z p.s)),(2000,.row 1 p.hn (B5 p.h))]⟩) (fun k=>p.n - k) (fun k=>k<=p.n/\∀i,i<k->¬Am (p.s i)) 0 (by simp[go_sem]) (by simp) ?_;rintro k ⟨c,a⟩;simp[go_sem,Aj (show k<=1000000000 by omega),Lq];refine⟨fun b=>⟨b,fun h=>?_,fun h=>⟨k+1,⟨by omega,Bf b a h⟩,by omega,rfl⟩⟩,fun b=>?_⟩
 ·rw[I1 ⟨b,h,a⟩];exact⟨b,by kernel_rfl,⟨⟨zDm p k s,BZ⟩,TrE.refl _,Bj⟩,⟨rfl,rfl⟩,rfl⟩
 ·rw[N9 fun i hi=>a i (by omega)];exact⟨⟨⟨TrE.refl _,BZ⟩,TrE.refl _,Bj⟩,⟨rfl,rfl⟩,rfl⟩
def orSp(a b:AH):AH:=fun l=>match a l with
 | some r=>some r
 | none=>b l
variable{a b:AH}{l:List (Bool×List Tr)}{r:Prop×List (Bool×List Tr)}
theorem ZL(h:a l=some r):orSp a b l=some r:=by unfold orSp;rw[h]
theorem ZM(h:a l=none)(c:b l=some r):orSp a b l=some r:=by unfold orSp;rw[h];exact c
theorem Vb{ι : Type}{A:ι->List (Bool×List Tr)}{C:ι->Prop}{R:ι->List (Bool×List Tr)}(h:∀x,A x≠l):AR A C R l=none:=dif_neg fun ⟨x,hx⟩=>h x hx
variable{P:Program}{f:Nat}
theorem zF8(h:Ck P f a)(i:Ck P f b):Ck P f (orSp a b):=by
 intro w vs e c rs d g;unfold orSp at d;split at d
 ·rename_i r hr
  cases d;exact h w vs e c rs hr g
 ·exact i w vs e c rs d g
def PE:AH:=AR (fun q:A7×Int×ByteArray=>(true,poV q.1) :: [(true,[.v (.int .i64 q.2.1),.v n0,.v (.string q.2.2)])]) (fun q=>q.1.n<=1000000) (fun q=>[poO (tk1 q.1 (Bi q.2.1 q.2.2)).1,pT (tk1 q.1 (Bi q.2.1 q.2.2)).2.1 (tk1 q.1 (Bi q.2.1 q.2.2)).2.2.1,(false,[.v (.bool (tk1 q.1 (Bi q.2.1 q.2.2)).2.2.2)])])
theorem zFt:Ck Tryz.prog 178 PE:=by
 intro w vs g c rs a i E ys j l;obtain⟨⟨p,b,d⟩,e,hn,rfl⟩:∃q:A7×Int×ByteArray,(true,poV q.1) :: [(true,[.v (.int .i64 q.2.1),.v n0,.v (.string q.2.2)])]=(true,vs) :: g/\q.1.n<=1000000/\[poO (tk1 q.1 (Bi q.2.1 q.2.2)).1,pT (tk1 q.1 (Bi q.2.1 q.2.2)).2.1 (tk1 q.1 (Bi q.2.1 q.2.2)).2.2.1,(false,[.v (.bool (tk1 q.1 (Bi q.2.1 q.2.2)).2.2.2)])]=rs:=by
  unfold PE AR at a;split at a
  ·rename_i k
   cases a;exact⟨_,k.choose_spec,i,rfl⟩
  ·cases a
 simp only[List.cons.injEq,Prod.mk.injEq,true_and]at e;obtain⟨rfl,rfl⟩:=e;refine XB w (poV p) [slZ (Bi b d)] _ _ (Tx p (Bi b d)) hn E ys j ?_;cases l with
 | cons f t=>
  cases t;obtain⟨cs,e,f⟩:=f;refine .cons ⟨cs,e,?_⟩ .nil;cases f with
  | cons k1 k2=>
   cases k2 with
   | cons k2 k3=>exact .cons k1 (.cons ⟨none,0,k2.1,Nat.le_refl _,fun h=>absurd h (Nat.lt_irrefl _)⟩ k3)
def mTk:AH:=orSp Rr PE
theorem qX:Ck Tryz.prog 178 mTk:=zF8 XB zFt
theorem ZG(p:A7)(b:Int)(n:Nat)(a kb:Nat->Int)(d:ByteArray):mTk [(true,poV p),(true,[.v (.int .i64 b),.s .z 2 n (ptrsT a kb),.v (.string d)])]=some (p.n<=1000000,[poO (tk1 p ⟨b,n,a,kb,d⟩).1,pT (tk1 p ⟨b,n,a,kb,d⟩).2.1 (tk1 p ⟨b,n,a,kb,d⟩).2.2.1,(false,[.v (.bool (tk1 p ⟨b,n,a,kb,d⟩).2.2.2)])]):=ZL (Tx p ⟨b,n,a,kb,d⟩)
theorem zGl(p:A7)(b:Int)(d:ByteArray):mTk [(true,poV p),(true,[.v (.int .i64 b),.v n0,.v (.string d)])]=some (p.n<=1000000,[poO (tk1 p (Bi b d)).1,pT (tk1 p (Bi b d)).2.1 (tk1 p (Bi b d)).2.2.1,(false,[.v (.bool (tk1 p (Bi b d)).2.2.2)])]):=by
 refine ZM (Vb fun x h=>?_) (Aa (fun l=>(Cd (nth l 0 0) (nth l 0 1),AO (nth l 1 0),CL (nth l 1 2))) (fun _=>rfl) (p,b,d));simp at h
set_option maxRecDepth 20000
set_option maxHeartbeats 1600000
theorem UJ(h:AX p):∀i,i<p.n->(p.s i).kn<=8:=fun i hi=>by
 rcases h.2.1 i hi with a | a
 ·have:=a.2.1;omega
 ·rcases a.2 with b | b
  ·omega
  ·omega
abbrev toR(t:Dt):Bool×List Tr:=(true,[.s .o 3 t.pool.n (Ao .z t.pool.s),.s .o 1 t.pool.hn (B5 t.pool.h),.v (.int .i64 t.rs),.v (.int .i64 t.rb),.s .o 2 t.old.length (ptL t.old),.v (.int .i64 t.code)])
abbrev sT(d:ByteArray):Bool×List Tr:=(false,[.v (.string d)])
theorem AN.upE{w:World}{g:Nat->Bs}:∀{l m:List Tr} {cs:List Value},AN TrE l m->AN (Sh w g) l cs->AN (Sh w g) m cs
 | _,_,_,.nil,h=>by cases h;exact .nil
 | _,_,_,.cons e t,h=>by
  cases h with
  | cons y ty=>exact .cons (y.e e) (AN.upE t ty)
theorem Ag.up{m m2:AH}(h:Ag P f m)(H:∀d c rs,m2 d=some (c,rs)->∃a,m a=some (c,rs)/\AN (fun q i=>q.1=i.1/\AN TrE q.2 i.2) d a):Ag P f m2:=by
 intro w d c rs b p g0 ys r l;obtain⟨a,k,j⟩:=H d c rs b;refine h w a c rs k p g0 ys r ?_;clear b k H
 induction j generalizing ys with
 | nil=>cases l;exact .nil
 | cons e t ih=>
  cases l with
  | cons y ty=>
   refine .cons ?_ (ih _ ty)
   rename_i q i _ _ u _
   obtain⟨q1,s⟩:=q;obtain⟨r1,v⟩:=i;obtain⟨n,g⟩:=e;cases (show q1=r1 from n);cases q1
   ·obtain⟨T,o,hs⟩:=y;cases (show s = [T] from o);cases g with
    | cons g t2=>cases t2;exact⟨_,rfl,hs.e g⟩
   ·obtain⟨cs,e,hs⟩:=y;refine⟨cs,e,?_⟩;exact AN.upE g hs
theorem Ag.upk{ι κ : Type}{A:ι->List (Bool×List Tr)}{C:ι->Prop}{R:ι->List (Bool×List Tr)}{m:AH}(h:Ag P f m)(H:∀x,∃a,m a=some (C x,R x)/\AN (fun q g=>q.1=g.1/\AN TrE q.2 g.2) (A x) a):Ag P f (AR A C R):=h.up fun j c rs e=>by
 unfold AR at e;split at e
 ·rename_i d
  cases e;obtain⟨a,i,b⟩:=H d.choose;rw[d.choose_spec]at b;exact⟨a,i,b⟩
 ·cases e
def P7(a b c d e f:Int):Nat->Nat->Tr:=fun p q=>([Tr.v (.int .i64 a),.v (.int .i64 b),.v (.int .i64 c),.v (.int .i64 d),.v (.int .i64 e),.v (.int .i64 f)]:List Tr)[p*2+q]?.getD (.v (.bool false))
def f3(a b c:Int):Nat->Int
 | 0=>a
 | 1=>b
 | _=>c
theorem VU{a b c d e f:Int}:(Tr.s fl 2 3 fun p q=>([Tr.v (.int .i64 a),.v (.int .i64 b),.v (.int .i64 c),.v (.int .i64 d),.v (.int .i64 e),.v (.int .i64 f)]:List Tr)[p*2+q]?.getD (.v (.bool false))).lend = .s .b 2 3 (P7 a b c d e f):=by
 simp only[Tr.lend];congr 1;funext p q;simp only[P7];generalize p*2+q=j
 match j with
 | 0 | 1 | 2 | 3 | 4 | 5=>rfl
 | j+6=>rfl
def qB:AH:=AR (fun q:(Int×Int×Int)×Int×Int×Int=>[(false,[.s .b 2 3 (P7 q.1.1 q.2.1 q.1.2.1 q.2.2.1 q.1.2.2 q.2.2.2)])]) (fun q=>(3:Nat)<=1000000) (fun q=>[(false,[.s .o 2 (kidsUp (f3 q.1.1 q.1.2.1 q.1.2.2) (f3 q.2.1 q.2.2.1 q.2.2.2) 3).length (ptL (kidsUp (f3 q.1.1 q.1.2.1 q.1.2.2) (f3 q.2.1 q.2.2.1 q.2.2.2) 3))])])
theorem Ts(a b c d e f:Int):qB [(false,[.s .b 2 3 (P7 a b c d e f)])]=some ((3:Nat)<=1000000,[(false,[.s .o 2 (kidsUp (f3 a c e) (f3 b d f) 3).length (ptL (kidsUp (f3 a c e) (f3 b d f) 3))])]):=Aa (fun l=>((AO (Bk (nth l 0 0) 0 0),AO (Bk (nth l 0 0) 1 0),AO (Bk (nth l 0 0) 2 0)),AO (Bk (nth l 0 0) 0 1),AO (Bk (nth l 0 0) 1 1),AO (Bk (nth l 0 0) 2 1))) (fun _=>rfl) ((a,c,e),b,d,f)
theorem Sc:Ag Tryz.prog 179 qB:=VN.upk (κ:=Nat) fun ⟨⟨a,c,e⟩,b,d,f⟩=>⟨_,SG 3 (f3 a c e) (f3 b d f),.cons ⟨rfl,.cons (F5 fun i j hi g=>by
 match i,j,hi,g with
 | 0,0,_,_=>rfl
 | 0,1,_,_=>rfl
 | 1,0,_,_=>rfl
 | 1,1,_,_=>rfl
 | 2,0,_,_=>rfl
 | 2,1,_,_=>rfl) .nil⟩ .nil⟩
variable{xs xb:Int}
theorem ZO:Eb (EK p (DK p xs xb n) (Dc p xs xb n)) (n % 8) x=BH p xs xb n 1 x:=rfl
theorem ZQ:Eb (EN p (DK p xs xb n) (Dc p xs xb n)) (n % 8) x=BF p xs xb n 1 x:=rfl
theorem ZN:Eb (EK p xs xb) (n / 8) x=BH p xs xb n 0 x:=rfl
theorem ZP:Eb (EN p xs xb) (n / 8) x=BF p xs xb n 0 x:=rfl
attribute [local go_sem] TY VU
def mTW:AH:=AR (fun q:(A7×Int×Int)×Int×ByteArray×Int=>[poT q.1.1.n q.1.1.s q.1.1.hn q.1.1.h,pT q.1.2.1 q.1.2.2,iT q.2.1,sT q.2.2.1,iT q.2.2.2]) (fun q=>q.1.1.n<=1000000/\q.1.1.hn<=1000000) (fun q=>[toR (EA q.1.1 q.1.2.1 q.1.2.2 q.2.1 q.2.2.1 q.2.2.2)])
theorem zHz(p:A7)(xs xb a:Int)(d:ByteArray)(b:Int):mTW [poT p.n p.s p.hn p.h,pT xs xb,iT a,sT d,iT b]=some (p.n<=1000000/\p.hn<=1000000,[toR (EA p xs xb a d b)]):=Aa (fun l=>((Cd (nth l 0 0) (nth l 0 1),AO (nth l 1 0),AO (nth l 1 1)),AO (nth l 2 0),CL (nth l 3 0),AO (nth l 4 0))) (fun _=>rfl) ((p,xs,xb),a,d,b)
theorem zC5:Ag Tryz.prog 139 mTW:=by
 refine Au Ai (GOk.cons OR (AA Tryz.func75 rfl rfl) (GOk.cons YJ (AA Tryz.func172 rfl rfl) (GOk.cons XC (AA Tryz.func173 rfl rfl) (GOk.cons YM (AA Tryz.func174 rfl rfl) (GOk.cons XD (AA Tryz.func175 rfl rfl) (GOk.cons RK (AA Tryz.func176 rfl rfl) (GOk.cons Sc (AA Tryz.func179 rfl rfl) (GOk.cons zy (AA Tryz.func180 rfl rfl) (GOk.ptrK qX (AA Tryz.func178 rfl rfl) GOk.nil))))))))) Ah Tryz.func139 rfl Tryz.ntmps139 Tryz.results139 22 ?_;rintro⟨⟨p,xs,xb⟩,c,d,b⟩ ⟨hn,q⟩;replace hn:p.n<=1000000:=hn;replace q:p.hn<=1000000:=q;refine⟨by simp,?_⟩;by_cases o:G5 c;rotate_left
 ·have w:(0<=c/\c<=63)↔False:=⟨o,False.elim⟩;simp[go_sem,NL,Nm,OT,w,hn,q];refine⟨fun h=>?_,fun C=>⟨fun h=>h,fun h=>?_,fun g k=>?_⟩⟩
  ·rw[X1 (by omega)];exact⟨rfl,rfl,rfl,rfl,rfl,rfl⟩
  ·rw[X0 (by omega) fun e=>h.elim (· e.1) (· e.2)];exact⟨rfl,rfl,rfl,rfl,rfl,rfl⟩
  ·rw[YE (by omega) ⟨g,k⟩ fun e=>o e.1];exact⟨rfl,rfl,rfl,rfl,rfl,rfl⟩
 obtain⟨n,rfl⟩:=Int.eq_ofNat_of_zero_le o.1;have a:n<64:=by have:=o.2;omega
 simp[go_sem,NL,Nm,OT,zEm,Lo,Tt,ZG,zGl,QL,Ts,hn,q,N8 a,Mj];refine⟨fun h=>?_,fun C=>⟨fun h=>h,fun h=>?_,fun g k=>?_⟩⟩
 ·rw[X1 (by omega)];exact⟨rfl,rfl,rfl,rfl,rfl,rfl⟩
 ·rw[X0 (by omega) fun e=>h.elim (· e.1) (· e.2)];exact⟨rfl,rfl,rfl,rfl,rfl,rfl⟩
 refine⟨fun h=>?_,fun D y=>⟨fun h=>?_,fun h=>?_⟩⟩
 ·rw[YE (by omega) ⟨g,k⟩ fun e=>h.elim (fun h=>absurd h (by omega)) (fun h=>h (by exact_mod_cast e.2))];exact⟨rfl,rfl,rfl,rfl,rfl,rfl⟩
 ·rw[zh g a k (by exact_mod_cast y) (by exact_mod_cast h)];exact⟨rfl,rfl,rfl,rfl,rfl,rfl⟩
 have j:d.size=16:=by exact_mod_cast y
 have H:3<=roomN p.s p.n:=by exact_mod_cast h
 obtain⟨i0,m⟩:=Kz (f:=p.s) (n:=p.n) (by omega);refine⟨fun i hi=>by have:=UJ g.1 i hi;omega,⟨g,a⟩,?_⟩;have v:JS p xs xb:=PX g;have u:JS p (DK p xs xb n) (Dc p xs xb n):=PP g (by omega);have I:roomN (CD p b d i0).s p.n+1=roomN p.s p.n:=OG (s:=Bi b d) m (Jk k.1 j);obtain⟨l,t⟩:=Kz (f:=(CD p b d i0).s) (n:=p.n) (by omega);have q1:roomN (Ex p xs xb n b d i0 l).s p.n+1=roomN (CD p b d i0).s p.n:=OG (p:=CD p b d i0) t (JZ g a k m);obtain⟨z,x⟩:=Kz (f:=(Ex p xs xb n b d i0 l).s) (n:=p.n) (by omega);have E:tk1 p (Bi b d)=(CD p b d i0,(i0:Int),b,true):=I1 m;have F:tk1 (CD p b d i0) ⟨b,8,BH p xs xb n 1 (i0:Int),BF p xs xb n 1 b,⟨#[]⟩⟩=(Ex p xs xb n b d i0 l,(l:Int),b,true):=I1 t;have G:tk1 (Ex p xs xb n b d i0 l) ⟨b,8,BH p xs xb n 0 (l:Int),BF p xs xb n 0 b,⟨#[]⟩⟩=(Rt p xs xb n b d i0 l z,(z:Int),b,true):=I1 x;have A:((n:Int) % 8).toNat=n % 8:=by omega
 have r:((n:Int) / 8).toNat=n / 8:=by omega
 simp only[A,r,E,F,G,ZO,ZQ,ZN,ZP];rw[zFE g a k j m t x];refine⟨u,by omega,by omega,hn,v,by omega,by omega,hn,?_⟩;have B:J5 p xs xb n 3=kidsUp (f3 (EL p xs xb n) (DK p xs xb n) xs) (f3 (Ei p xs xb n) (Dc p xs xb n) xb) 3:=rfl;rw[B];exact⟨by kernel_rfl,⟨TrE.refl _,BZ⟩,⟨TrE.refl _,Bj⟩,rfl,rfl,⟨TrE.refl _,Gf⟩,rfl⟩
set_option maxRecDepth 20000
set_option maxHeartbeats 1600000
theorem zt{f:Nat->Int}:kidsUp f g 8 = []↔Fa f g:=by
 rw[<-List.length_eq_zero_iff,<-Classical.not_not (a:=Fa f g),<-zFp,<-OQ];omega
theorem zHO{y:Int}:Eb (BH p xs xb n 0 x) (n / 8) y=BH p xs xb n 0 y:=by
 funext i;unfold Eb BH;show(if i=n / 8 then y else if i=n / 8 then x else _)=if i=n / 8 then y else _
 by_cases h:i=n / 8<;>simp[h]
theorem zHP{y:Int}:Eb (BF p xs xb n 0 x) (n / 8) y=BF p xs xb n 0 y:=by
 funext i;unfold Eb BF;show(if i=n / 8 then y else if i=n / 8 then x else _)=if i=n / 8 then y else _
 by_cases h:i=n / 8<;>simp[h]
theorem KZ{f:Nat->AG}:∀{n j:Nat},j<n->Am (f j)->∃i,C2 n f i
 | 0,j,h,_=>absurd h (Nat.not_lt_zero _)
 | n+1,j,h,hf=>by
  by_cases c:∃k,k<n/\Am (f k)
  ·obtain⟨k,b,a⟩:=c;obtain⟨i,l,d,g⟩:=KZ b a;exact⟨i,by omega,d,g⟩
  ·have:j=n:=Classical.byContradiction fun e=>c ⟨j,by omega,hf⟩
   subst this;exact⟨j,h,hf,fun k b a=>c ⟨k,b,a⟩⟩
def mTT:AH:=AR (fun q:(A7×Int×Int)×Int×Int=>[poT q.1.1.n q.1.1.s q.1.1.hn q.1.1.h,pT q.1.2.1 q.1.2.2,iT q.2.1,iT q.2.2]) (fun q=>q.1.1.n<=1000000/\q.1.1.hn<=1000000) (fun q=>[toR (FU q.1.1 q.1.2.1 q.1.2.2 q.2.1 q.2.2)])
theorem zHy(p:A7)(xs xb a:Int)(b:Int):mTT [poT p.n p.s p.hn p.h,pT xs xb,iT a,iT b]=some (p.n<=1000000/\p.hn<=1000000,[toR (FU p xs xb a b)]):=Aa (fun l=>((Cd (nth l 0 0) (nth l 0 1),AO (nth l 1 0),AO (nth l 1 1)),AO (nth l 2 0),AO (nth l 3 0))) (fun _=>rfl) ((p,xs,xb),a,b)
theorem zBn:Ag Tryz.prog 136 mTT:=by
 refine Au Ai (GOk.cons OR (AA Tryz.func75 rfl rfl) (GOk.cons YJ (AA Tryz.func172 rfl rfl) (GOk.cons XC (AA Tryz.func173 rfl rfl) (GOk.cons YM (AA Tryz.func174 rfl rfl) (GOk.cons XD (AA Tryz.func175 rfl rfl) (GOk.cons RK (AA Tryz.func176 rfl rfl) (GOk.cons Sc (AA Tryz.func179 rfl rfl) (GOk.cons zA2 (AA Tryz.func177 rfl rfl) (GOk.cons Kv (AA Tryz.func78 rfl rfl) (GOk.ptrK qX (AA Tryz.func178 rfl rfl) GOk.nil)))))))))) Ah Tryz.func136 rfl Tryz.ntmps136 Tryz.results136 22 ?_;rintro⟨⟨p,xs,xb⟩,m,b⟩ ⟨hn,y⟩;replace hn:p.n<=1000000:=hn;replace y:p.hn<=1000000:=y;refine⟨by simp,?_⟩;by_cases q:G5 m;rotate_left
 ·have B:(0<=m/\m<=63)↔False:=⟨q,False.elim⟩;simp[go_sem,NL,Nm,OT,B,hn,y];refine⟨fun h=>h,fun h=>?_,fun c l=>?_⟩
  ·rw[V3 fun e=>h.elim (· e.1) (· e.2)];exact⟨rfl,rfl,rfl,rfl,rfl,rfl⟩
  ·rw[ze ⟨c,l⟩ q];exact⟨rfl,rfl,rfl,rfl,rfl,rfl⟩
 obtain⟨n,rfl⟩:=Int.eq_ofNat_of_zero_le q.1;have a:n<64:=by have:=q.2;omega
 have G:((n:Int) % 8).toNat=n % 8:=by omega
 have z:((n:Int) / 8).toNat=n / 8:=by omega
 simp[go_sem,NL,Nm,OT,Lo,Tt,ZG,QL,Ts,zEp,GD,hn,y,N8 a,Mj,G,z,ZO,ZQ,ZN,ZP,zt];refine⟨fun h=>h,fun h=>?_,fun c l=>⟨fun h=>absurd h (by omega),fun _=>?_⟩⟩
 ·rw[V3 fun e=>h.elim (· e.1) (· e.2)];exact⟨rfl,rfl,rfl,rfl,rfl,rfl⟩
 refine⟨⟨c,a⟩,fun g h=>?_,fun D=>⟨fun i hi=>by have:=UJ c.1 i hi;omega,PP c (by omega),by omega,by omega,PX c,by omega,by omega,fun x=>?_,fun x=>?_⟩⟩
 ·rw[zDu ⟨c,l⟩ q ⟨g,h⟩];exact⟨rfl,rfl,rfl,rfl,rfl,rfl⟩
 ·rw[TV ⟨c,l⟩ q fun e=>D e.1 e.2,Int.toNat_natCast];refine⟨by omega,by omega,?_⟩;simp only[zHO,zHP];by_cases F:∃i,C2 p.n p.s i
  ·obtain⟨i,hi⟩:=F;have I:tk1 p ⟨b,8,BH p xs xb n 1 0,BF p xs xb n 1 0,⟨#[]⟩⟩=(BJ p i (CA (BH p xs xb n 1 0) (BF p xs xb n 1 0) b),(i:Int),b,true):=I1 hi;have A:CH p (CA (BH p xs xb n 1 0) (BF p xs xb n 1 0) b):=Je c a (by omega) l (fun s t h=>h) (Or.inl ⟨rfl,rfl⟩);have u:=zJE c a l x hi;have E:AX (BJ p i (CA (BH p xs xb n 1 0) (BF p xs xb n 1 0) b)):=R4 c.1 hi A;have hF:CH (BJ p i (CA (BH p xs xb n 1 0) (BF p xs xb n 1 0) b)) (CA (BH p xs xb n 0 (i:Int)) (BF p xs xb n 0 b) b):=Je c a (by omega) l (fun s t h=>MA hi.2.1 h) (Or.inr ⟨R7 hi l.1.1,Int.le_refl _⟩);simp only[I];refine⟨fun k=>?_,fun k _=>⟨fun h=>by simp at h,fun _=>?_⟩⟩
   ·replace k:¬Fa (BH p xs xb n 0 (i:Int)) (BF p xs xb n 0 b):=k.resolve_right (by simp);refine⟨hn,fun h=>?_,fun _ h=>?_⟩
    ·rw[Ut u k E hF fun j d o=>?_]
     ·exact⟨rfl,rfl,rfl,rfl,rfl,rfl⟩
     ·obtain⟨H,r⟩:=KZ (f:=(BJ p i (CA (BH p xs xb n 1 0) (BF p xs xb n 1 0) b)).s) d o;rw[show tk1 _ _=_ from I1 r]at h;simp at h
    ·by_cases w:∃j,C2 p.n (BJ p i (CA (BH p xs xb n 1 0) (BF p xs xb n 1 0) b)).s j
     ·obtain⟨j,d⟩:=w;have C:tk1 (BJ p i (CA (BH p xs xb n 1 0) (BF p xs xb n 1 0) b)) ⟨b,8,BH p xs xb n 0 (i:Int),BF p xs xb n 0 b,⟨#[]⟩⟩=(BJ (BJ p i (CA (BH p xs xb n 1 0) (BF p xs xb n 1 0) b)) j (CA (BH p xs xb n 0 (i:Int)) (BF p xs xb n 0 b) b),(j:Int),b,true):=I1 d;simp only[C];rw[TW u k E hF d];exact⟨by kernel_rfl,⟨TrE.refl _,BZ⟩,⟨TrE.refl _,Bj⟩,rfl,rfl,⟨TrE.refl _,Gf⟩,rfl⟩
     ·rw[N9 (p:=BJ p i (CA (BH p xs xb n 1 0) (BF p xs xb n 1 0) b)) fun j d o=>w (KZ d o)]at h;simp at h
   ·rw[Tn u k];exact⟨by kernel_rfl,⟨TrE.refl _,BZ⟩,⟨TrE.refl _,Bj⟩,rfl,rfl,⟨TrE.refl _,Gf⟩,rfl⟩
  ·have v:∀j,j<p.n->¬Am (p.s j):=fun j d o=>F (KZ d o)
   simp only[N9 v];rw[zDz c a l x v];exact⟨fun _=>⟨hn,fun _=>⟨rfl,rfl,rfl,rfl,rfl,rfl⟩,fun h=>by simp at h⟩,fun _ h=>by simp at h⟩
 ·rw[TV ⟨c,l⟩ q fun e=>D e.1 e.2,Int.toNat_natCast];have u:=zJD (xs:=xs) (xb:=xb) (b:=b) x;have hF:CH p (CA (BH p xs xb n 0 0) (BF p xs xb n 0 0) b):=Je c a (by omega) l (fun s t h=>h) (Or.inl ⟨rfl,rfl⟩);refine⟨fun k=>⟨fun h=>?_,fun h=>?_⟩,fun k=>?_⟩
  ·rw[Ut u k c.1 hF fun j d o=>?_]
   ·exact⟨rfl,rfl,rfl,rfl,rfl,rfl⟩
   ·obtain⟨H,r⟩:=KZ d o;rw[I1 r]at h;simp at h
  ·by_cases w:∃j,C2 p.n p.s j
   ·obtain⟨j,d⟩:=w;have C:tk1 p ⟨b,8,BH p xs xb n 0 0,BF p xs xb n 0 0,⟨#[]⟩⟩=(BJ p j (CA (BH p xs xb n 0 0) (BF p xs xb n 0 0) b),(j:Int),b,true):=I1 d;simp only[C];rw[TW u k c.1 hF d];exact⟨by kernel_rfl,⟨TrE.refl _,BZ⟩,⟨TrE.refl _,Bj⟩,rfl,rfl,⟨TrE.refl _,Gf⟩,rfl⟩
   ·rw[N9 fun j d o=>w (KZ d o)]at h;simp at h
  ·rw[Tn u k];exact⟨by kernel_rfl,⟨TrE.refl _,BZ⟩,⟨TrE.refl _,Bj⟩,rfl,rfl,⟨TrE.refl _,Gf⟩,rfl⟩
set_option maxRecDepth 20000
set_option maxHeartbeats 1600000
theorem zGo(h:Ag P f a)(i:Ag P f b):Ag P f (orSp a b):=by
 intro w e c rs d g;unfold orSp at d;split at d
 ·rename_i r hr
  cases d;exact h w e c rs hr g
 ·exact i w e c rs d g
def SJ:AH:=AR (fun q:Nat×(Nat->AG)=>[(true,[.s .b 3 q.1 (Ao .b q.2),.v n0])]) (fun q=>q.1<=1000000/\(0:Nat)<=1000000) (fun q=>bR (AX {n:=q.1,s:=q.2,hn:=0,h:=fun _=>0}))
def Pg:AH:=orSp PA SJ
theorem zDV:Ag Tryz.prog 57 SJ:=Oh.upk (κ:=Nat) fun q=>⟨_,OE {n:=q.1,s:=q.2,hn:=0,h:=fun _=>0},.cons ⟨rfl,.cons (TrE.refl _) (.cons ⟨rfl,rfl⟩ .nil)⟩ .nil⟩
theorem zDW:Ag Tryz.prog 57 Pg:=zGo Oh zDV
theorem zAD(p:A7):Pg [poT p.n p.s p.hn p.h]=some (p.n<=1000000/\p.hn<=1000000,bR (AX p)):=ZL (OE p)
theorem zBC(n:Nat)(s:Nat->AG):Pg [(true,[.s .b 3 n (Ao .b s),.v n0])]=some (n<=1000000/\(0:Nat)<=1000000,bR (AX {n:=n,s:=s,hn:=0,h:=fun _=>0})):=by
 refine ZM (Vb fun x h=>by simp at h) (Aa (fun l=>(DI (nth l 0 0),fun i=>K6 (Bk (nth l 0 0) i 0) (Bk (nth l 0 0) i 1) (Bk (nth l 0 0) i 2))) (fun _=>rfl) (n,s))
theorem zAO{h:Nat->Int}:AX {n:=p.n,s:=p.s,hn:=0,h:=h}↔AX {n:=p.n,s:=p.s,hn:=0,h:=p.h}:=
 ⟨fun x=>⟨x.1,x.2.1,fun i hi=>absurd hi (Nat.not_lt_zero _)⟩,fun x=>⟨x.1,x.2.1,fun i hi=>absurd hi (Nat.not_lt_zero _)⟩⟩
theorem zj(p:A7)(k:Nat):TrE (.s fl 3 p.n (AZ (Ao .z p.s) k 0 [.v (.int .i64 0),.v n0,.v (.string ⟨#[]⟩)])) (.s fl 3 p.n (Ao .z (BJ p k EM).s)):=by
 refine⟨.inl rfl,rfl,rfl,fun i j hi a=>?_⟩;by_cases h:i=k
 ·subst h
  match j,a with
  | 0,_=>exact TrE.of_eq (by simp[AZ,Ao,BJ,EM])
  | 1,_=>simp[AZ,Ao,BJ,EM,TrE]
  | 2,_=>exact TrE.of_eq (by simp[AZ,Ao,BJ,EM])
 ·match j,a with
  | 0,_=>exact TrE.of_eq (by simp[AZ,Ao,BJ,h])
  | 1,_=>exact TrE.of_eq (by simp[AZ,Ao,BJ,h])
  | 2,_=>exact TrE.of_eq (by simp[AZ,Ao,BJ,h])
def qO:AH:=AR (fun p:A7=>[poT p.n p.s p.hn p.h]) (fun p=>p.n<=1000000/\p.hn<=1000000/\∀i,i<p.n->(p.s i).kn<=1000000) (fun p=>[poO (IV p)])
theorem zEq(p:A7):qO [poT p.n p.s p.hn p.h]=some (p.n<=1000000/\p.hn<=1000000/\∀i,i<p.n->(p.s i).kn<=1000000,[poO (IV p)]):=Aa (fun l=>Cd (nth l 0 0) (nth l 0 1)) (fun _=>rfl) p
theorem zBj:Ag Tryz.prog 96 qO:=by
 refine Au Ai (GOk.cons OR (AA Tryz.func75 rfl rfl) (GOk.cons zDW (AA Tryz.func57 rfl rfl) GOk.nil)) Ah Tryz.func96 rfl Tryz.ntmps96 Tryz.results96 5 ?_;rintro p ⟨hn,c,f⟩;replace hn:p.n<=1000000:=hn;replace c:p.hn<=1000000:=c;refine⟨by simp,?_⟩;simp[go_sem,Lo,zAD,hn,c];refine⟨f,fun a=>?_,fun a=>?_⟩
 ·rw[Pb fun h=>a h.1];exact⟨⟨TrE.refl _,BZ⟩,TrE.refl _,Bj⟩
 refine B2 (fun k:Nat=>⟨[(4,true,.i k),(3,true,.m false [.p 3 0]),(2,true,.m false [.p 2 0]),(1,true,.m false [.p 1 0])],[(3,.var [.h 7,.h 8]),(7,.row 3 p.n (Ao .z (DS p k).s)),(8,.row 1 p.hn (B5 p.h)),(2,.var [.v n0,.v n0]),(1,.var [.s .b 3 p.n (Ao .b p.s),.s .b 1 p.hn (B5 p.h)])]⟩) (fun k=>p.hn - k) (fun k=>k<=p.hn) 0 ?_ (by simp) ?_
 ·rw[zB5];simp[go_sem]
 rintro k l;simp[go_sem,Aj (show k<=1000000000 by omega),zBC,Lo,hn,c];refine⟨fun d=>?_,fun d=>?_⟩
 ·obtain⟨g,j,-,-⟩:=a.2.2 k d;refine⟨d,⟨g,j⟩,by omega,by kernel_rfl,k+1,by omega,by omega,by omega,?_⟩;rw[zB4 (m:=(p.h k).toNat) (by omega)];exact zj (DS p k) _
 ·cases (show k=p.hn by omega);have o:AX {n:=p.n,s:=(DS p p.hn).s,hn:=0,h:=fun x=>0}↔AX (Gs p):=zAO (p:=DS p p.hn);rw[o];refine⟨fun h=>?_,fun h=>?_⟩
  ·rw[Pb fun e=>h e.2];exact⟨f,⟨TrE.refl _,BZ⟩,TrE.refl _,Bj⟩
  ·rw[Tm a h];exact⟨⟨TrE.refl _,BZ⟩,rfl⟩
end
end Go.Proofs.YtnfjcaoclahfjaaGreatDoor
