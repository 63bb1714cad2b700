/- A part of the proof. -/
import Derived.Test.YtibhefllijahkaaGreatDoorF28
set_option linter.unusedVariables false
set_option maxRecDepth 20000
set_option maxHeartbeats 4000000
namespace Go.Proofs.YtibhefllijahkaaGreatDoor
noncomputable section
open Go.RowKit
set_option linter.unusedSimpArgs false
set_option maxRecDepth 20000
set_option maxHeartbeats 1600000
variable{p:A8}
theorem Ki{a b:Int}(d:Ag p)(h:Lo p a b):(p.s a.toNat).kn=8:=by
 rcases Qq d h.1 with c | c
 ·have:=h.2.1;omega
 ·exact c
theorem Z1{f g f' g':Nat->Int}:∀{k:Nat},(∀i,i<k->f i=f' i)->(∀i,i<k->g i=g' i)->kidsUp f g k=kidsUp f' g' k
 | 0,_,_=>rfl
 | k+1,h,h'=>by
  simp only[kidsUp];rw[Z1 (fun i hi=>h i (by omega)) (fun i hi=>h' i (by omega)),h k (by omega),h' k (by omega)]
def yd:AE:=AU (fun q:A8×Int×Int=>[poT q.1.n q.1.s q.1.hn q.1.h,pT q.2.1 q.2.2]) (fun q=>Ag q.1/\As q.1 q.2.1 q.2.2) (fun q=>[(false,[.s .o 2 (AF q.1 q.2.1 q.2.2).length (ptL (AF q.1 q.2.1 q.2.2))])])
theorem J0(p:A8)(a b:Int):yd [poT p.n p.s p.hn p.h,pT a b]=some (Ag p/\As p a b,[(false,[.s .o 2 (AF p a b).length (ptL (AF p a b))])]):=Ac (fun l=>(CY (nth l 0 0) (nth l 0 1),AQ (nth l 1 0),AQ (nth l 1 1))) (fun _=>rfl) (p,a,b)
theorem Jv:Ae Tryz.prog 115 yd:=by
 refine Ar Ah (GOk.cons LI (AA Tryz.func111 rfl rfl) GOk.nil) mixed Tryz.func115 rfl Tryz.ntmps115 Tryz.results115 10 ?_;rintro⟨p,a,b⟩ ⟨v,B⟩;replace v:Ag p:=v;replace B:As p a b:=B;have hn:p.n<=200:=v.1;refine⟨by simp,?_⟩;simp[go_sem,GB];refine⟨fun E H=>?_,fun h=>?_⟩
 ·have e:AF p a b = []:=(by simp[AF,Nil,E,H]);rw[e];exact⟨Lv rfl,Gc⟩
 have D:¬Nil a b:=fun e=>h e.1 e.2
 obtain⟨o,w,-⟩:=B.resolve_left D;have t:=Ki v o;refine⟨⟨o.1.2.1,o.1.2.2.1⟩,?_⟩;obtain⟨F,hF⟩:∃F:Nat->List (Int×Int),∀k,F k=(a,b) :: Ci p (p.s a.toNat) k:=⟨_,fun _=>rfl⟩;have A:∀k,(F k).length<=9*k+1:=fun k=>by rw[hF];exact Nat.succ_le_succ (OR ..)
 refine Ax (fun k:Nat=>⟨[(5,true,.m false [.h 7]),(2,true,.m false [.p 2 0]),(6,true,.m false [.s .b 2 (p.s a.toNat).kn (ptrsT (p.s a.toNat).ks (p.s a.toNat).kb)]),(7,true,.i k)],[(2,.var [.s .b 3 p.n (Ao .b p.s),.s .b 1 p.hn (Ay p.h)]),(7,.row 2 (F k).length (ptL (F k)))]⟩) (fun k=>8 - k) (fun k=>k<=8) 0 ?_ (by simp) ?_
 ·simp[go_sem];exact Gd (l:=[]) I5 (by simp[hF,Ci])
 rintro k L;simp[go_sem,Al (show k<=1000000000 by omega),GB];have J:=A k;refine⟨fun x=>⟨x,fun y z=>⟨k+1,by omega,by omega,by omega,Ge ?_⟩,fun g=>?_⟩,fun x=>?_⟩
 ·rw[hF,hF];simp[Ci,DV,Fh t (show k<8 by omega),Fm t (show k<8 by omega),Nil,y,z]
 ·have c:=w.1 k (by omega);unfold KS at c;rw[Fh t (by omega),Fm t (by omega)]at c;obtain⟨q,C⟩:=c.resolve_left fun e=>g e.1 e.2
  have u:=Ki v q;refine⟨x,by omega,x,⟨q.1.2.1,q.1.2.2.1⟩,by kernel_rfl,?_⟩;obtain⟨G,d⟩:∃G:Nat->List (Int×Int),∀j,G j=F k ++ (((p.s a.toNat).ks k,(p.s a.toNat).kb k) :: kidsUp (p.s ((p.s a.toNat).ks k).toNat).ks (p.s ((p.s a.toNat).ks k).toNat).kb j):=⟨_,fun _=>rfl⟩;refine Ax (fun j:Nat=>⟨[(5,true,.m false [.h 7]),(2,true,.m false [.p 2 0]),(6,true,.m false [.s .b 2 (p.s a.toNat).kn (ptrsT (p.s a.toNat).ks (p.s a.toNat).kb)]),(8,true,.m false [.s .b 2 (p.s ((p.s a.toNat).ks k).toNat).kn (ptrsT (p.s ((p.s a.toNat).ks k).toNat).ks (p.s ((p.s a.toNat).ks k).toNat).kb)]),(7,true,.i k),(9,true,.i j)],[(2,.var [.s .b 3 p.n (Ao .b p.s),.s .b 1 p.hn (Ay p.h)]),(7,.row 2 (G j).length (ptL (G j)))]⟩) (fun j=>8 - j) (fun j=>j<=8) 0 ?_ (by simp) ?_
  ·simp[go_sem];exact Gd I5 (by simp[d,kidsUp])
  rintro j K;have I:(G j).length<=100:=by
   have:=J9 (p.s ((p.s a.toNat).ks k).toNat).ks (p.s ((p.s a.toNat).ks k).toNat).kb j;rw[d];simp;omega
  simp[go_sem,Al (show j<=1000000000 by omega),Al (show k<=1000000000 by omega),GB];refine⟨fun r=>⟨r,fun g'=>⟨r,by omega,j+1,by omega,by omega,by omega,Gd I5 ?_⟩,fun y z=>⟨j+1,by omega,by omega,by omega,Ge ?_⟩⟩,fun r=>⟨k+1,by omega,by omega,by omega,Ge ?_⟩⟩
  ·rw[d,d];simp[kidsUp,one,if_neg (show ¬Nil ((p.s ((p.s a.toNat).ks k).toNat).ks j) ((p.s ((p.s a.toNat).ks k).toNat).kb j)from fun e=>g' e.1 e.2)]
  ·rw[d,d];simp[kidsUp,one,Nil,y,z]
  ·cases (show j=8 by omega);rw[d,hF,hF];simp only[Ci,DV];rw[Fh t (by omega),Fm t (by omega),if_neg (show ¬Nil ((p.s a.toNat).ks k) ((p.s a.toNat).kb k)from fun e=>g e.1 e.2),Gp,Z1 (f':=AK _) (g':=AW _) (fun i hi=>(Fh u hi).symm) (fun i hi=>(Fm u hi).symm)];rfl
 ·cases (show k=8 by omega);exact⟨Ge (by rw[hF,AF,if_neg D]),Gc⟩
variable{l:List (Int×Int)}{i:Nat}
theorem zJO:D6 encP (0,0) l i 0 = .v (.int .i64 (l[i]?.getD (0,0)).1):=rfl
theorem zIj:D6 encP (0,0) l i 1 = .v (.int .i64 (l[i]?.getD (0,0)).2):=rfl
theorem zHF{a b t:Int}(h:BN p a b):((∀i,i<(AF p a b).length->((AF p a b)[i]?.getD (0,0)).2<=t)/\Df t)↔CN b t:=by
 rw[<-zF9 h];refine and_congr_left fun _=>forall_congr' fun i=>imp_congr_right fun _=>?_
 rw[AS,List.getD_eq_getElem?_getD,Int.not_lt]
def yI:AE:=AU (fun q:A8×Int×Int×Int=>[poT q.1.n q.1.s q.1.hn q.1.h,pT q.2.1 q.2.2.1,iT q.2.2.2]) (fun q=>Ag q.1/\As q.1 q.2.1 q.2.2.1) (fun q=>bR (CN q.2.2.1 q.2.2.2))
theorem Nk(p:A8)(a b t:Int):yI [poT p.n p.s p.hn p.h,pT a b,iT t]=some (Ag p/\As p a b,bR (CN b t)):=Ac (fun l=>(CY (nth l 0 0) (nth l 0 1),AQ (nth l 1 0),AQ (nth l 1 1),AQ (nth l 2 0))) (fun _=>rfl) (p,a,b,t)
theorem Y8:Ae Tryz.prog 207 yI:=by
 refine Ar Ah (GOk.cons Jv (AA Tryz.func115 rfl rfl) (GOk.cons Rg (AA Tryz.func131 rfl rfl) GOk.nil)) mixed Tryz.func207 rfl Tryz.ntmps207 Tryz.results207 9 ?_;rintro⟨p,a,b,t⟩ ⟨d,e⟩;replace d:Ag p:=d;replace e:As p a b:=e;refine⟨by simp,?_⟩;simp[go_sem,J0,d,e,<-zHF (show BN p a b from⟨d,e⟩)];have n:=De p a b;refine Ax (fun k:Nat=>⟨[(8,true,.i k),(7,true,.m false [.h 7]),(2,true,.i t)],[(7,.row 2 (AF p a b).length (ptL (AF p a b)))]⟩) (fun k=>(AF p a b).length - k) (fun k=>k<=(AF p a b).length/\∀i,i<k->((AF p a b)[i]?.getD (0,0)).2<=t) 0 (by simp[go_sem]) (by simp) ?_;rintro k ⟨l,c⟩;simp[go_sem,Al (show k<=1000000000 by omega),Qn,zJO,zIj];exact⟨fun h=>⟨h,fun g j=>by have:=j k h;omega,fun g=>⟨k+1,⟨by omega,Bf h c g⟩,by omega,rfl⟩⟩,fun h g i hi=>c i (by omega)⟩
variable{fl:Fl}{k n:Nat}
theorem FF{F G:Nat->Nat->Tr}(h:∀i j,i<n->j<k->F i j=G i j):TrE (.s fl k n F) (.s fl k n G):=⟨.inl rfl,rfl,rfl,fun i j hi a=>TrE.of_eq (h i j hi a)⟩
variable{f g:Nat->Int}
theorem zHr{f' g':Nat->Int}(h:∀i,i<n->f i=f' i/\g i=g' i):TrE (.s fl 2 n (ptrsT f g)) (.s fl 2 n (ptrsT f' g')):=FF fun i j hi a=>by
 match j,a with
 | 0,_=>exact congrArg (fun x=>Tr.v (.int .i64 x)) (h i hi).1
 | 1,_=>exact congrArg (fun x=>Tr.v (.int .i64 x)) (h i hi).2
def yR:AE:=AU (fun q:A8×Int×Int=>[poT q.1.n q.1.s q.1.hn q.1.h,pT q.2.1 q.2.2]) (fun q=>Jf q.1 q.2.1 q.2.2) (fun q=>[(false,[.s .o 2 8 (ptrsT (Ds q.1 q.2.1 q.2.2) (Dr q.1 q.2.1 q.2.2))])])
theorem QK(p:A8)(a b:Int):yR [poT p.n p.s p.hn p.h,pT a b]=some (Jf p a b,[(false,[.s .o 2 8 (ptrsT (Ds p a b) (Dr p a b))])]):=Ac (fun l=>(CY (nth l 0 0) (nth l 0 1),AQ (nth l 1 0),AQ (nth l 1 1))) (fun _=>rfl) (p,a,b)
theorem RT:Ae Tryz.prog 210 yR:=by
 refine Ar Ah (GOk.cons LI (AA Tryz.func111 rfl rfl) GOk.nil) mixed Tryz.func210 rfl Tryz.ntmps210 Tryz.results210 5 ?_;rintro⟨p,a,b⟩ g;replace g:Jf p a b:=g;refine⟨by simp,?_⟩;by_cases c:Nil a b
 ·obtain⟨rfl,rfl⟩:=id c;simp[go_sem,GB,L3];refine FF fun i j hi l=>?_
  match j,l with
  | 0,_=>simp[ptrsT,Ds,Nil]
  | 1,_=>simp[ptrsT,Dr,Nil]
 ·obtain⟨d,e⟩:=g.resolve_left c;simp[go_sem,GB,GW,I6,L3,e];exact⟨fun h k=>(c ⟨h,k⟩).elim,fun _=>⟨⟨d.2.1,d.2.2.1⟩,zHr fun i hi=>⟨by unfold Ds;rw[if_neg c,Fh e hi],by unfold Dr;rw[if_neg c,Fm e hi]⟩⟩⟩
theorem NH(h:n<64):IntKind.i64.wrap ((n:Int) / 8)=((n / 8:Nat):Int):=by
 rw[IntKind.wrap_i64];omega
theorem N2:(n:Int).tmod 8=((n % 8:Nat):Int):=(Int.ofNat_tmod n 8).symm
def qe:AE:=AU (fun q:A8×Int×Int×Nat=>[poT q.1.n q.1.s q.1.hn q.1.h,pT q.2.1 q.2.2.1,iT (q.2.2.2:Int)]) (fun q=>BN q.1 q.2.1 q.2.2.1/\q.2.2.2<64) (fun q=>[pT (CT q.1 q.2.1 q.2.2.1 q.2.2.2) (Cb q.1 q.2.1 q.2.2.1 q.2.2.2),pT (Ca q.1 q.2.1 q.2.2.1 q.2.2.2) (D9 q.1 q.2.1 q.2.2.1 q.2.2.2)])
theorem VK(p:A8)(a b:Int)(n:Nat):qe [poT p.n p.s p.hn p.h,pT a b,iT (n:Int)]=some (BN p a b/\n<64,[pT (CT p a b n) (Cb p a b n),pT (Ca p a b n) (D9 p a b n)]):=Ac (fun l=>(CY (nth l 0 0) (nth l 0 1),AQ (nth l 1 0),AQ (nth l 1 1),(AQ (nth l 2 0)).toNat)) (fun _=>rfl) (p,a,b,n)
theorem Y9:Ae Tryz.prog 209 qe:=by
 refine Ar Ah (GOk.cons RT (AA Tryz.func210 rfl rfl) GOk.nil) mixed Tryz.func209 rfl Tryz.ntmps209 Tryz.results209 9 ?_;rintro⟨p,a,b,n⟩ ⟨c,hn⟩;replace c:BN p a b:=c;replace hn:n<64:=hn;refine⟨by simp,?_⟩;simp[go_sem,QK,NH hn,N2];refine⟨Pc c,by omega,by omega,Pu c (by omega),by omega,by omega,by kernel_rfl,?_⟩;rw[show((n:Int) / 8).toNat=n / 8 by omega,show((n:Int) % 8).toNat=n % 8 by omega];exact⟨⟨rfl,rfl⟩,rfl,rfl⟩
set_option maxRecDepth 20000
set_option maxHeartbeats 1600000
def PC(x:Int):Nat->Tr:=fun _=>.v (.int .i64 x)
abbrev inL(l:List Int):Nat->Nat->Tr:=D6 PC 0 l
theorem QF{l:List Int}:(Tr.s fl k n (D6 PC 0 l)).lend = .s .b k n (Ay fun i=>l[i]?.getD 0):=rfl
theorem BP:(Tr.s fl k n (D6 encP (0,0) l)).lend = .s .b k n (ptrsT (fun i=>(l[i]?.getD (0,0)).1) (fun i=>(l[i]?.getD (0,0)).2)):=by
 rw[show D6 encP (0,0) l=_ from zIC l];exact MO
variable{l:List Int}
theorem PW{c:Nat}:D6 PC 0 l i c = .v (.int .i64 (l[i]?.getD 0)):=rfl
variable{x:Int}
theorem TR:Has l.length (fun i=>l[i]?.getD 0) x↔x∈l:=by
 rw[List.mem_iff_getElem?];constructor
 ·rintro⟨i,hi,rfl⟩;exact⟨i,by simp[hi]⟩
 ·rintro⟨i,hi⟩;have:=(List.getElem?_eq_some_iff.1 hi).1;exact⟨i,this,by simp[hi]⟩
theorem zHN:∀j,j<1->([Tr.v (Value.int .i64 x)][j]?.getD (.v (.bool false))).nt=PC x j
 | 0,_=>rfl
theorem UK{m:List Int}(h:l ++ [x]=m):TrE (.s fl 1 (l.length+1) (Ai (inL l) l.length (fun p q=>([Tr.v (Value.int .i64 x)][p+q]?.getD (.v (.bool false))).nt))) (.s fl 1 m.length (inL m)):=by
 have:=Gd (fl:=fl) (k:=1) (d:=(0:Int)) zHN h;simpa only[Nat.mul_one]using this
theorem OU{f g:Nat->Int}:∀{k:Nat},0<(kidsUp f g k).length↔∃i,i<k/\¬Nil (f i) (g i)
 | 0=>by simp[kidsUp]
 | k+1=>by
  rw[kidsUp,List.length_append];by_cases h:Nil (f k) (g k)
  ·rw[one,if_pos h,List.length_nil,Nat.add_zero,OU];exact⟨fun ⟨i,h1,h2⟩=>⟨i,by omega,h2⟩,fun ⟨i,h1,h2⟩=>⟨i,by rcases Nat.lt_succ_iff_lt_or_eq.1 h1 with a | rfl;exact a;exact absurd h h2,h2⟩⟩
  ·rw[one,if_neg h];exact⟨fun _=>⟨k,by omega,h⟩,fun _=>by simp⟩
theorem Vx(h:¬Nil (f k) (g k)):(kidsUp f g (k+1)).length=(kidsUp f g k).length+1:=by simp[kidsUp,one,h]
theorem Vy(h:Nil (f k) (g k)):(kidsUp f g (k+1)).length=(kidsUp f g k).length:=by simp[kidsUp,one,h]
theorem Jn(h:Ag p):p.hn<=10000:=by
 have:=Oq h;unfold Az at this;omega
attribute [local go_sem] QF BP PW
def mTR:AE:=AU (fun q:A8×Int×Int=>[poT q.1.n q.1.s q.1.hn q.1.h,pT q.2.1 q.2.2]) (fun q=>Ag q.1) (fun q=>bR (As q.1 q.2.1 q.2.2))
theorem PL(p:A8)(a b:Int):mTR [poT p.n p.s p.hn p.h,pT a b]=some (Ag p,bR (As p a b)):=Ac (fun l=>(CY (nth l 0 0) (nth l 0 1),AQ (nth l 1 0),AQ (nth l 1 1))) (fun _=>rfl) (p,a,b)
theorem Z3:Ae Tryz.prog 63 mTR:=by
 refine Ar Ah (GOk.cons LI (AA Tryz.func111 rfl rfl) (GOk.cons zB8 (AA Tryz.func112 rfl rfl) (GOk.cons zB9 (AA Tryz.func113 rfl rfl) (GOk.cons MN (AA Tryz.func67 rfl rfl) GOk.nil)))) mixed Tryz.func63 rfl Tryz.ntmps63 Tryz.results63 12 ?_;rintro⟨p,a,b⟩ S;replace S:Ag p:=S;have hn:p.n<=200:=S.1;have hm:=Jn S;refine⟨by simp,?_⟩;simp[go_sem,GB,VI];refine⟨fun o u=>.inl ⟨o,u⟩,fun h=>⟨⟨by omega,by omega⟩,fun o u=>?_,fun H=>⟨⟨H.1.2.1,H.1.2.2.1⟩,?_⟩⟩⟩
 ·exact o ((u.resolve_left fun e=>h e.1 e.2).1)
 have Y:¬Nil a b:=fun e=>h e.1 e.2
 obtain⟨s,hs⟩:∃s,p.s a.toNat=s:=⟨_,rfl⟩;have R:=Ki S H;rw[hs]at R;have V:As p a b↔qu p s/\(Du p a s 8).Nodup:=by
  unfold As;rw[hs,Rc Y,hs];exact⟨fun h=>(h.resolve_left Y).2,fun h=>.inr ⟨H,h⟩⟩
 have E:∀{i},i<8->AK s i=s.ks i:=fun hi=>Fh R hi
 have X:∀{i},i<8->AW s i=s.kb i:=fun hi=>Fm R hi
 obtain⟨F,hF⟩:∃F:Nat->List Int,∀k,F k=Du p a s k:=⟨_,fun _=>rfl⟩;obtain⟨C,N⟩:∃C:Nat->Nat,∀k,C k=(kidsUp (AK s) (AW s) k).length:=⟨_,fun _=>rfl⟩;have dA:∀k,C k<=k:=fun k=>by rw[N];exact J9 ..
 have fA:∀k,k<=8->(F k).length<=73:=fun k Z=>by rw[hF];exact UM p a s Z
 refine Ax (fun k:Nat=>⟨[(5,true,.m false [.h 7]),(2,true,.m false [.p 2 0]),(6,true,.i (C k)),(7,true,.m false [.s .b 2 s.kn (ptrsT s.ks s.kb)]),(8,true,.i k)],[(2,.var [.s .b 3 p.n (Ao .b p.s),.s .b 1 p.hn (Ay p.h)]),(7,.row 1 (F k).length (inL (F k)))]⟩) (fun k=>8 - k) (fun k=>k<=8/\(∀i,i<k->KS p s i)/\(F k).Nodup) 0 ?_ ?_ ?_
 ·simp[go_sem,hs,N,kidsUp,hF,Du,Ci,E6];exact FF fun i j hi hj=>by cases (show i=0 by omega);cases (show j=0 by omega);rfl
 ·simp[hF,Du,Ci,E6]
 rintro k ⟨Z,x,P⟩;have kA:=fA k Z;simp[go_sem,hs,R,Al (show k<=1000000000 by omega),Al (show C k<=1000000000 by have:=dA k;omega),GB,VI,Kh,TR];refine⟨fun d=>⟨d,fun g1 g2=>⟨k+1,?_⟩,fun g=>⟨d,⟨by omega,by omega⟩,?_⟩⟩,fun d=>?_⟩
 ·replace d:k<8:=(by omega);have l:Nil (AK s k) (AW s k):=(by rw[E d,X d];exact⟨g1,g2⟩);have B:F (k+1)=F k:=(by rw[hF,hF];exact zEc l);have M:C (k+1)=C k:=(by rw[N,N];exact Vy l);rw[B,M];exact⟨⟨by omega,Bf d x (.inl l),P⟩,by omega,⟨rfl,rfl⟩,TrE.refl _⟩
 ·replace d:k<8:=(by omega);have l:¬Nil (AK s k) (AW s k):=(by rw[E d,X d];exact fun e=>g e.1 e.2);have L:As p a b->∀i,i<=8->(E9 p a s k i).Nodup:=fun h i hi=>by
   have u:=(V.1 h).2;rw[<-hs,<-Rc Y]at u;rw[<-hs]at l ⊢;exact zEI Y u d hi l
  refine⟨fun _=>by omega,fun _=>by omega,by kernel_rfl,fun o u=>?_,fun I jA=>⟨by omega,by omega,by omega,⟨I.1.2.1,I.1.2.2.1⟩,by kernel_rfl,?_⟩⟩
  ·rcases o with o | o
   ·have v:=((V.1 u).1.1 k d).resolve_left l;rw[E d,X d]at v;exact o v.1
   ·have v:=L u 0 (by omega);rw[XE,Of,E d,<-hF]at v;exact v.2 o
  obtain⟨t,Q⟩:∃t,p.s (s.ks k).toNat=t:=⟨_,rfl⟩;have t8:=Ki S I;rw[Q]at t8;have A:∀{i},i<8->AK t i=t.ks i:=fun hi=>Fh t8 hi
  have J:∀{i},i<8->AW t i=t.kb i:=fun hi=>Fm t8 hi
  have y:KS p s k↔qq p t:=by
   unfold KS;rw[E d,X d,Q];rw[E d,X d]at l;exact⟨fun h=>(h.resolve_left l).2,fun h=>.inr ⟨I,h⟩⟩
  obtain⟨G,K⟩:∃G:Nat->List Int,∀i,G i=E9 p a s k i:=⟨_,fun _=>rfl⟩;obtain⟨D,O⟩:∃D:Nat->Nat,∀i,D i=(kidsUp (AK t) (AW t) i).length:=⟨_,fun _=>rfl⟩;have eA:∀i,D i<=i:=fun i=>by rw[O];exact J9 ..
  have gA:∀i,i<=8->(G i).length<=90:=fun i hi=>by rw[K];exact zHk p a s Z hi
  have U:G 0=F k ++ [s.ks k]:=(by rw[K,XE,<-hF,E d]);refine Ax (fun i:Nat=>⟨[(5,true,.m false [.h 7]),(2,true,.m false [.p 2 0]),(6,true,.i (C k+1:Nat)),(7,true,.m false [.s .b 2 s.kn (ptrsT s.ks s.kb)]),(8,true,.i k),(9,true,.i (D i)),(10,true,.m false [.s .b 2 t.kn (ptrsT t.ks t.kb)]),(11,true,.i i)],[(2,.var [.s .b 3 p.n (Ao .b p.s),.s .b 1 p.hn (Ay p.h)]),(7,.row 1 (G i).length (inL (G i)))]⟩) (fun i=>8 - i) (fun i=>i<=8/\(∀q,q<i->Nil (AK t q) (AW t q)\/Lp p (AK t q) (AW t q))/\(G i).Nodup) 0 ?_ ?_ ?_
  ·simp[go_sem,Q,R,O,kidsUp];exact UK U.symm
  ·simp;rw[U,Of];exact⟨P,jA⟩
  rintro i ⟨hi,w,z⟩;have lA:=gA i hi;simp[go_sem,hs,R,Q,t8,Al (show i<=1000000000 by omega),Al (show k<=1000000000 by omega),Al (show D i<=1000000000 by have:=eA i;omega),GB,zFo,Kh,TR];refine⟨fun c=>⟨c,fun g1 g2=>⟨i+1,?_⟩,fun g'=>⟨c,⟨by omega,by omega⟩,?_⟩⟩,fun c=>?_⟩
  ·replace c:i<8:=(by omega);have r:Nil (AK t i) (AW t i):=(by rw[A c,J c];exact⟨g1,g2⟩);have B:G (i+1)=G i:=by
    rw[K,K];refine zG2 ?_;rw[E d,Q];exact r
   have M:D (i+1)=D i:=(by rw[O,O];exact Vy r);rw[B,M];exact⟨⟨by omega,Bf c w (.inl r),z⟩,by omega,⟨rfl,rfl⟩,TrE.refl _⟩
  ·replace c:i<8:=(by omega);have r:¬Nil (AK t i) (AW t i):=(by rw[A c,J c];exact fun e=>g' e.1 e.2);have B:G (i+1)=G i ++ [t.ks i]:=by
    rw[K,K,zG1 (by rw[E d,Q];exact r),E d,Q,A c]
   have M:D (i+1)=D i+1:=(by rw[O,O];exact Vx r);refine⟨fun _=>by omega,fun _=>by omega,by kernel_rfl,fun o u=>?_,fun iA W=>⟨by omega,by omega,i+1,⟨by omega,Bf c w (.inr ?_),?_⟩,by omega,⟨by rw[M];rfl,rfl⟩,UK B.symm⟩⟩
   ·rcases o with o | o
    ·have v:=((y.1 ((V.1 u).1.1 k d)).1 i c).resolve_left r;rw[A c,J c]at v;exact o v
    ·have v:=L u (i+1) (by omega);rw[<-K,B,Of]at v;exact v.2 o
   ·rw[A c,J c];exact iA
   ·rw[B,Of];exact⟨z,W⟩
  ·cases (show i=8 by omega);have T:(∃i,i<8/\¬Nil (AK t i) (AW t i))↔0<D 8:=(by rw[O,OU]);have B:F (k+1)=G 8:=(by rw[hF,K];exact XR l);have M:C (k+1)=C k+1:=(by rw[N,N];exact Vx l);refine⟨fun o u=>?_,fun o=>⟨k+1,⟨by omega,Bf d x (y.2 ⟨w,T.2 (by omega)⟩),by rw[B];exact z⟩,by omega,⟨by rw[M];rfl,rfl⟩,by rw[B];exact TrE.refl _⟩⟩;have:=T.1 (y.1 ((V.1 u).1.1 k d)).2;omega
 ·cases (show k=8 by omega);rw[V,<-hF,N,OU];exact⟨fun h=>⟨⟨x,h⟩,P⟩,fun h=>h.1.2⟩
def zO:AE:=AU (fun q:A8×Int×Int=>[poT q.1.n q.1.s q.1.hn q.1.h,pT q.2.1 q.2.2]) (fun q=>q.1.n<=1000000/\q.1.hn<=1000000) (fun q=>bR (BN q.1 q.2.1 q.2.2))
theorem NY(p:A8)(a b:Int):zO [poT p.n p.s p.hn p.h,pT a b]=some (p.n<=1000000/\p.hn<=1000000,bR (BN p a b)):=Ac (fun l=>(CY (nth l 0 0) (nth l 0 1),AQ (nth l 1 0),AQ (nth l 1 1))) (fun _=>rfl) (p,a,b)
theorem ZE:Ae Tryz.prog 206 zO:=by
 refine Ar Ah (GOk.cons Oz (AA Tryz.func60 rfl rfl) (GOk.cons Z3 (AA Tryz.func63 rfl rfl) GOk.nil)) mixed Tryz.func206 rfl Tryz.ntmps206 Tryz.results206 5 ?_;rintro⟨p,a,b⟩ ⟨hn,c⟩;replace hn:p.n<=1000000:=hn;replace c:p.hn<=1000000:=c;refine⟨by simp,?_⟩;simp[go_sem,OH,PL,hn,c,BN]
set_option maxRecDepth 20000
set_option maxHeartbeats 1600000
def qj:AE:=AU (fun p:A8=>[poT p.n p.s p.hn p.h]) (fun p=>p.n<=1000000) (fun p=>[iT (roomN p.s p.n:Int)])
theorem zFt(p:A8):qj [poT p.n p.s p.hn p.h]=some (p.n<=1000000,[iT (roomN p.s p.n:Int)]):=Ac (fun l=>CY (nth l 0 0) (nth l 0 1)) (fun _=>rfl) p
theorem zB6:Ae Tryz.prog 214 qj:=by
 refine Ar Ah (GOk.cons OW (AA Tryz.func66 rfl rfl) GOk.nil) mixed Tryz.func214 rfl Tryz.ntmps214 Tryz.results214 5 ?_;rintro p hn;replace hn:p.n<=1000000:=hn;refine⟨by simp,?_⟩;simp[go_sem];refine Ax (fun k:Nat=>⟨[(1,true,.m false [.p 1 0]),(3,true,.i (roomN p.s k)),(4,true,.i k)],[(1,.var [.s .b 3 p.n (Ao .b p.s),.s .b 1 p.hn (Ay p.h)])]⟩) (fun k=>p.n - k) (fun k=>k<=p.n) 0 (by simp[go_sem,roomN]) (by simp) ?_;rintro k c;have d:=Nq p.s k;simp[go_sem,Al (show k<=1000000000 by omega),Al (show roomN p.s k<=1000000000 by omega),M7];refine⟨fun a=>⟨a,fun h=>⟨k+1,by omega,by omega,by rw[Ju h];rfl,rfl⟩,fun h=>⟨k+1,by omega,by omega,by rw[J2 h],rfl⟩⟩,fun a=>?_⟩;cases (show k=p.n by omega);rfl
theorem zEj(p:A8)(k:Nat)(s:AD):TrE (.s fl 3 p.n (Ab (Ao .z p.s) k 0 [.v (.int .i64 s.birth),.s .z 2 s.kn (ptrsT s.ks s.kb),.v (.string s.data)])) (.s fl 3 p.n (Ao .z (BH p k s).s)):=by
 refine FF fun i j hi a=>?_
 by_cases h:i=k
 ·subst h
  match j,a with
  | 0,_=>simp[Ab,Ao,BH]
  | 1,_=>simp[Ab,Ao,BH]
  | 2,_=>simp[Ab,Ao,BH]
 ·match j,a with
  | 0,_=>simp[Ab,Ao,BH,h]
  | 1,_=>simp[Ab,Ao,BH,h]
  | 2,_=>simp[Ab,Ao,BH,h]
def tk1(p:A8)(s:AD):A8×Int×Int×Bool:=@dite _ (∃i,Br p.n p.s i) (Classical.propDecidable _) (fun h=>(BH p h.choose s,(h.choose:Int),s.birth,true)) (fun _=>(p,0,0,false))
theorem I7{s:AD}(h:Br p.n p.s i):tk1 p s=(BH p i s,(i:Int),s.birth,true):=by
 have a:∃i,Br p.n p.s i:=⟨i,h⟩;unfold tk1;rw[dif_pos a,a.choose_spec.uniq h]
theorem NI{s:AD}(h:∀i,i<p.n->¬An (p.s i)):tk1 p s=(p,0,0,false):=dif_neg fun ⟨i,hi⟩=>h i hi.1 hi.2.1
abbrev poV(p:A8):List Tr:=[.s .o 3 p.n (Ao .z p.s),.s .o 1 p.hn (Ay p.h)]
abbrev slZ(s:AD):Bool×List Tr:=(true,[.v (.int .i64 s.birth),.s .z 2 s.kn (ptrsT s.ks s.kb),.v (.string s.data)])
def SM:AE:=AU (fun q:A8×AD=>(true,poV q.1) :: [slZ q.2]) (fun q=>q.1.n<=1000000) (fun q=>[poO (tk1 q.1 q.2).1,pT (tk1 q.1 q.2).2.1 (tk1 q.1 q.2).2.2.1,(false,[.v (.bool (tk1 q.1 q.2).2.2.2)])])
theorem Up(p:A8)(s:AD):SM [(true,poV p),slZ s]=some (p.n<=1000000,[poO (tk1 p s).1,pT (tk1 p s).2.1 (tk1 p s).2.2.1,(false,[.v (.bool (tk1 p s).2.2.2)])]):=Ac (fun l=>(CY (nth l 0 0) (nth l 0 1),JM (nth l 1 0) (nth l 1 1) (nth l 1 2))) (fun _=>rfl) (p,s)
theorem Y7:Cy Tryz.prog 212 SM:=by
 refine F2 Ah (GOk.cons OW (AA Tryz.func66 rfl rfl) GOk.nil) mixed Tryz.func212 rfl Tryz.ntmps212 Tryz.results212 7 ?_;rintro⟨p,s⟩ hn;replace hn:p.n<=1000000:=hn;refine⟨by simp,?_⟩;simp[go_sem];refine Ax (fun k:Nat=>⟨[(6,true,.i k),(4,true,.m false [.p 4 0]),(3,true,.m false [.p 3 0]),(0,true,.m false [.p 0 0])],[(4,.var [.v i0,.v i0]),(3,.var [.v (.int .i64 s.birth),.s .z 2 s.kn (ptrsT s.ks s.kb),.v (.string s.data)]),(0,.var [.h 1000,.h 2000]),(1000,.row 3 p.n (Ao .z p.s)),(2000,.row 1 p.hn (Ay p.h))]⟩) (fun k=>p.n - k) (fun k=>k<=p.n/\∀i,i<k->¬An (p.s i)) 0 (by simp[go_sem]) (by simp) ?_;rintro k ⟨c,a⟩;simp[go_sem,Al (show k<=1000000000 by omega),M7];refine⟨fun b=>⟨b,fun h=>?_,fun h=>⟨k+1,⟨by omega,Bf b a h⟩,by omega,rfl⟩⟩,fun b=>?_⟩
 ·rw[I7 ⟨b,h,a⟩];exact⟨b,by kernel_rfl,⟨⟨zEj p k s,BT⟩,TrE.refl _,BX⟩,⟨rfl,rfl⟩,rfl⟩
 ·rw[NI fun i hi=>a i (by omega)];exact⟨⟨⟨TrE.refl _,BT⟩,TrE.refl _,BX⟩,⟨rfl,rfl⟩,rfl⟩
def orSp(a b:AE):AE:=fun l=>match a l with
 | some r=>some r
 | none=>b l
variable{a b:AE}{l:List (Bool×List Tr)}{r:Prop×List (Bool×List Tr)}
theorem qP(h:a l=some r):orSp a b l=some r:=by unfold orSp;rw[h]
theorem qQ(h:a l=none)(c:b l=some r):orSp a b l=some r:=by unfold orSp;rw[h];exact c
theorem XF{ι : Type}{A:ι->List (Bool×List Tr)}{C:ι->Prop}{R:ι->List (Bool×List Tr)}(h:∀x,A x≠l):AU A C R l=none:=dif_neg fun ⟨x,hx⟩=>h x hx
variable{P:Program}{f:Nat}
theorem zGF(h:Cy P f a)(i:Cy P f b):Cy P f (orSp a b):=by
 intro w vs e c rs d g;unfold orSp at d;split at d
 ·rename_i r hr
  cases d;exact h w vs e c rs hr g
 ·exact i w vs e c rs d g
def PM:AE:=AU (fun q:A8×Int×ByteArray=>(true,poV q.1) :: [(true,[.v (.int .i64 q.2.1),.v n0,.v (.string q.2.2)])]) (fun q=>q.1.n<=1000000) (fun q=>[poO (tk1 q.1 (Bh q.2.1 q.2.2)).1,pT (tk1 q.1 (Bh q.2.1 q.2.2)).2.1 (tk1 q.1 (Bh q.2.1 q.2.2)).2.2.1,(false,[.v (.bool (tk1 q.1 (Bh q.2.1 q.2.2)).2.2.2)])])
theorem zGs:Cy Tryz.prog 212 PM:=by
 intro w vs h c rs a j E o k m;obtain⟨⟨p,b,d⟩,e,hn,rfl⟩:∃q:A8×Int×ByteArray,(true,poV q.1) :: [(true,[.v (.int .i64 q.2.1),.v n0,.v (.string q.2.2)])]=(true,vs) :: h/\q.1.n<=1000000/\[poO (tk1 q.1 (Bh q.2.1 q.2.2)).1,pT (tk1 q.1 (Bh q.2.1 q.2.2)).2.1 (tk1 q.1 (Bh q.2.1 q.2.2)).2.2.1,(false,[.v (.bool (tk1 q.1 (Bh q.2.1 q.2.2)).2.2.2)])]=rs:=by
  unfold PM AU at a;split at a
  ·rename_i l
   cases a;exact⟨_,l.choose_spec,j,rfl⟩
  ·cases a
 simp only[List.cons.injEq,Prod.mk.injEq,true_and]at e;obtain⟨rfl,rfl⟩:=e;refine Y7 w (poV p) [slZ (Bh b d)] _ _ (Up p (Bh b d)) hn E o k ?_;cases m with
 | cons g t=>
  cases t;obtain⟨cs,e,g⟩:=g;refine .cons ⟨cs,e,?_⟩ .nil;cases g with
  | cons k1 k2=>
   cases k2 with
   | cons k2 k3=>exact .cons k1 (.cons ⟨none,0,k2.1,Nat.le_refl _,fun i=>absurd i (Nat.lt_irrefl _)⟩ k3)
def mTk:AE:=orSp SM PM
theorem yj:Cy Tryz.prog 212 mTk:=zGF Y7 zGs
theorem qG(p:A8)(b:Int)(n:Nat)(c a:Nat->Int)(d:ByteArray):mTk [(true,poV p),(true,[.v (.int .i64 b),.s .z 2 n (ptrsT c a),.v (.string d)])]=some (p.n<=1000000,[poO (tk1 p ⟨b,n,c,a,d⟩).1,pT (tk1 p ⟨b,n,c,a,d⟩).2.1 (tk1 p ⟨b,n,c,a,d⟩).2.2.1,(false,[.v (.bool (tk1 p ⟨b,n,c,a,d⟩).2.2.2)])]):=qP (Up p ⟨b,n,c,a,d⟩)
theorem zHf(p:A8)(b:Int)(d:ByteArray):mTk [(true,poV p),(true,[.v (.int .i64 b),.v n0,.v (.string d)])]=some (p.n<=1000000,[poO (tk1 p (Bh b d)).1,pT (tk1 p (Bh b d)).2.1 (tk1 p (Bh b d)).2.2.1,(false,[.v (.bool (tk1 p (Bh b d)).2.2.2)])]):=by
 refine qQ (XF fun x h=>?_) (Ac (fun l=>(CY (nth l 0 0) (nth l 0 1),AQ (nth l 1 0),C1 (nth l 1 2))) (fun _=>rfl) (p,b,d));simp at h
set_option maxRecDepth 20000
set_option maxHeartbeats 1600000
theorem Nh(h:Ag p):∀i,i<p.n->(p.s i).kn<=8:=fun i hi=>by
 rcases h.2.1 i hi with a | a
 ·have:=a.2.1;omega
 ·rcases a.2 with b | b
  ·omega
  ·omega
abbrev toR(t:EC):Bool×List Tr:=(true,[.s .o 3 t.pool.n (Ao .z t.pool.s),.s .o 1 t.pool.hn (Ay t.pool.h),.v (.int .i64 t.rs),.v (.int .i64 t.rb),.s .o 2 t.old.length (ptL t.old),.v (.int .i64 t.code)])
abbrev sT(d:ByteArray):Bool×List Tr:=(false,[.v (.string d)])
theorem AN.upE{w:World}{g:Nat->Bs}:∀{l m:List Tr} {cs:List Value},AN TrE l m->AN (Sh w g) l cs->AN (Sh w g) m cs
 | _,_,_,.nil,h=>by cases h;exact .nil
 | _,_,_,.cons e t,h=>by
  cases h with
  | cons y ty=>exact .cons (y.e e) (AN.upE t ty)
theorem Ae.up{m m2:AE}(h:Ae P f m)(H:∀d c rs,m2 d=some (c,rs)->∃a,m a=some (c,rs)/\AN (fun q i=>q.1=i.1/\AN TrE q.2 i.2) d a):Ae P f m2:=by
 intro w d c rs b r g0 n s l;obtain⟨a,k,j⟩:=H d c rs b;refine h w a c rs k r g0 n s ?_;clear b k H
 induction j generalizing n with
 | nil=>cases l;exact .nil
 | cons e t ih=>
  cases l with
  | cons y ty=>
   refine .cons ?_ (ih _ ty)
   rename_i q i _ _ u _
   obtain⟨q1,v⟩:=q;obtain⟨r1,x⟩:=i;obtain⟨o,g⟩:=e;cases (show q1=r1 from o);cases q1
   ·obtain⟨T,p,hs⟩:=y;cases (show v = [T] from p);cases g with
    | cons g t2=>cases t2;exact⟨_,rfl,hs.e g⟩
   ·obtain⟨cs,e,hs⟩:=y;refine⟨cs,e,?_⟩;exact AN.upE g hs
theorem Ae.upk{ι κ : Type}{A:ι->List (Bool×List Tr)}{C:ι->Prop}{R:ι->List (Bool×List Tr)}{m:AE}(h:Ae P f m)(H:∀x,∃a,m a=some (C x,R x)/\AN (fun q g=>q.1=g.1/\AN TrE q.2 g.2) (A x) a):Ae P f (AU A C R):=h.up fun j c rs e=>by
 unfold AU at e;split at e
 ·rename_i d
  cases e;obtain⟨a,i,b⟩:=H d.choose;rw[d.choose_spec]at b;exact⟨a,i,b⟩
 ·cases e
def PH(a b c d e f:Int):Nat->Nat->Tr:=fun p q=>([Tr.v (.int .i64 a),.v (.int .i64 b),.v (.int .i64 c),.v (.int .i64 d),.v (.int .i64 e),.v (.int .i64 f)]:List Tr)[p*2+q]?.getD (.v (.bool false))
def f3(a b c:Int):Nat->Int
 | 0=>a
 | 1=>b
 | _=>c
theorem RA{a b c d e f:Int}:(Tr.s fl 2 3 fun p q=>([Tr.v (.int .i64 a),.v (.int .i64 b),.v (.int .i64 c),.v (.int .i64 d),.v (.int .i64 e),.v (.int .i64 f)]:List Tr)[p*2+q]?.getD (.v (.bool false))).lend = .s .b 2 3 (PH a b c d e f):=by
 simp only[Tr.lend];congr 1;funext p q;simp only[PH];generalize p*2+q=j
 match j with
 | 0 | 1 | 2 | 3 | 4 | 5=>rfl
 | j+6=>rfl
def yV:AE:=AU (fun q:(Int×Int×Int)×Int×Int×Int=>[(false,[.s .b 2 3 (PH q.1.1 q.2.1 q.1.2.1 q.2.2.1 q.1.2.2 q.2.2.2)])]) (fun q=>(3:Nat)<=1000000) (fun q=>[(false,[.s .o 2 (kidsUp (f3 q.1.1 q.1.2.1 q.1.2.2) (f3 q.2.1 q.2.2.1 q.2.2.2) 3).length (ptL (kidsUp (f3 q.1.1 q.1.2.1 q.1.2.2) (f3 q.2.1 q.2.2.1 q.2.2.2) 3))])])
theorem VJ(a b c d e f:Int):yV [(false,[.s .b 2 3 (PH a b c d e f)])]=some ((3:Nat)<=1000000,[(false,[.s .o 2 (kidsUp (f3 a c e) (f3 b d f) 3).length (ptL (kidsUp (f3 a c e) (f3 b d f) 3))])]):=Ac (fun l=>((AQ (BY (nth l 0 0) 0 0),AQ (BY (nth l 0 0) 1 0),AQ (BY (nth l 0 0) 2 0)),AQ (BY (nth l 0 0) 0 1),AQ (BY (nth l 0 0) 1 1),AQ (BY (nth l 0 0) 2 1))) (fun _=>rfl) ((a,c,e),b,d,f)
theorem Sk:Ae Tryz.prog 213 yV:=X0.upk (κ:=Nat) fun ⟨⟨a,c,e⟩,b,d,f⟩=>⟨_,Ts 3 (f3 a c e) (f3 b d f),.cons ⟨rfl,.cons (FF fun i j hi g=>by
 match i,j,hi,g with
 | 0,0,_,_=>rfl
 | 0,1,_,_=>rfl
 | 1,0,_,_=>rfl
 | 1,1,_,_=>rfl
 | 2,0,_,_=>rfl
 | 2,1,_,_=>rfl) .nil⟩ .nil⟩
variable{xs xb:Int}
theorem qZ:Ep (Ds p (Ca p xs xb n) (D9 p xs xb n)) (n % 8) x=BE p xs xb n 1 x:=rfl
theorem qd:Ep (Dr p (Ca p xs xb n) (D9 p xs xb n)) (n % 8) x=BD p xs xb n 1 x:=rfl
theorem qY:Ep (Ds p xs xb) (n / 8) x=BE p xs xb n 0 x:=rfl
theorem qb:Ep (Dr p xs xb) (n / 8) x=BD p xs xb n 0 x:=rfl
attribute [local go_sem] QD RA
def mTW:AE:=AU (fun q:(A8×Int×Int)×Int×ByteArray×Int=>[poT q.1.1.n q.1.1.s q.1.1.hn q.1.1.h,pT q.1.2.1 q.1.2.2,iT q.2.1,sT q.2.2.1,iT q.2.2.2]) (fun q=>q.1.1.n<=1000000/\q.1.1.hn<=1000000) (fun q=>[toR (EU q.1.1 q.1.2.1 q.1.2.2 q.2.1 q.2.2.1 q.2.2.2)])
theorem zIi(p:A8)(xs xb a:Int)(d:ByteArray)(b:Int):mTW [poT p.n p.s p.hn p.h,pT xs xb,iT a,sT d,iT b]=some (p.n<=1000000/\p.hn<=1000000,[toR (EU p xs xb a d b)]):=Ac (fun l=>((CY (nth l 0 0) (nth l 0 1),AQ (nth l 1 0),AQ (nth l 1 1)),AQ (nth l 2 0),C1 (nth l 3 0),AQ (nth l 4 0))) (fun _=>rfl) ((p,xs,xb),a,d,b)
theorem zC9:Ae Tryz.prog 184 mTW:=by
 refine Ar Ah (GOk.cons OV (AA Tryz.func79 rfl rfl) (GOk.cons ZE (AA Tryz.func206 rfl rfl) (GOk.cons Y8 (AA Tryz.func207 rfl rfl) (GOk.cons ZA (AA Tryz.func208 rfl rfl) (GOk.cons Y9 (AA Tryz.func209 rfl rfl) (GOk.cons RT (AA Tryz.func210 rfl rfl) (GOk.cons Sk (AA Tryz.func213 rfl rfl) (GOk.cons zB6 (AA Tryz.func214 rfl rfl) (GOk.ptrK yj (AA Tryz.func212 rfl rfl) GOk.nil))))))))) mixed Tryz.func184 rfl Tryz.ntmps184 Tryz.results184 22 ?_;rintro⟨⟨p,xs,xb⟩,c,d,b⟩ ⟨hn,q⟩;replace hn:p.n<=1000000:=hn;replace q:p.hn<=1000000:=q;refine⟨by simp,?_⟩;by_cases o:G7 c;rotate_left
 ·have w:(0<=c/\c<=63)↔False:=⟨o,False.elim⟩;simp[go_sem,NY,Nk,OY,w,hn,q];refine⟨fun h=>?_,fun C=>⟨fun h=>h,fun h=>?_,fun g k=>?_⟩⟩
  ·rw[Xa (by omega)];exact⟨rfl,rfl,rfl,rfl,rfl,rfl⟩
  ·rw[XZ (by omega) fun e=>h.elim (· e.1) (· e.2)];exact⟨rfl,rfl,rfl,rfl,rfl,rfl⟩
  ·rw[Yg (by omega) ⟨g,k⟩ fun e=>o e.1];exact⟨rfl,rfl,rfl,rfl,rfl,rfl⟩
 obtain⟨n,rfl⟩:=Int.eq_ofNat_of_zero_le o.1;have a:n<64:=by have:=o.2;omega
 simp[go_sem,NY,Nk,OY,zFt,MH,VK,qG,zHf,QK,VJ,hn,q,NH a,N2];refine⟨fun h=>?_,fun C=>⟨fun h=>h,fun h=>?_,fun g k=>?_⟩⟩
 ·rw[Xa (by omega)];exact⟨rfl,rfl,rfl,rfl,rfl,rfl⟩
 ·rw[XZ (by omega) fun e=>h.elim (· e.1) (· e.2)];exact⟨rfl,rfl,rfl,rfl,rfl,rfl⟩
 refine⟨fun h=>?_,fun D y=>⟨fun h=>?_,fun h=>?_⟩⟩
 ·rw[Yg (by omega) ⟨g,k⟩ fun e=>h.elim (fun h=>absurd h (by omega)) (fun h=>h (by exact_mod_cast e.2))];exact⟨rfl,rfl,rfl,rfl,rfl,rfl⟩
 ·rw[zAJ g a k (by exact_mod_cast y) (by exact_mod_cast h)];exact⟨rfl,rfl,rfl,rfl,rfl,rfl⟩
 have j:d.size=16:=by exact_mod_cast y
 have H:3<=roomN p.s p.n:=by exact_mod_cast h
 obtain⟨i0,m⟩:=LB (f:=p.s) (n:=p.n) (by omega);refine⟨fun i hi=>by have:=Nh g.1 i hi;omega,⟨g,a⟩,?_⟩;have v:Jf p xs xb:=Pc g;have u:Jf p (Ca p xs xb n) (D9 p xs xb n):=Pu g (by omega);have I:roomN (C8 p b d i0).s p.n+1=roomN p.s p.n:=OM (s:=Bh b d) m (K3 k.1 j);obtain⟨l,t⟩:=LB (f:=(C8 p b d i0).s) (n:=p.n) (by omega);have q1:roomN (FB p xs xb n b d i0 l).s p.n+1=roomN (C8 p b d i0).s p.n:=OM (p:=C8 p b d i0) t (Jo g a k m);obtain⟨z,x⟩:=LB (f:=(FB p xs xb n b d i0 l).s) (n:=p.n) (by omega);have E:tk1 p (Bh b d)=(C8 p b d i0,(i0:Int),b,true):=I7 m;have F:tk1 (C8 p b d i0) ⟨b,8,BE p xs xb n 1 (i0:Int),BD p xs xb n 1 b,⟨#[]⟩⟩=(FB p xs xb n b d i0 l,(l:Int),b,true):=I7 t;have G:tk1 (FB p xs xb n b d i0 l) ⟨b,8,BE p xs xb n 0 (l:Int),BD p xs xb n 0 b,⟨#[]⟩⟩=(SO p xs xb n b d i0 l z,(z:Int),b,true):=I7 x;have A:((n:Int) % 8).toNat=n % 8:=by omega
 have r:((n:Int) / 8).toNat=n / 8:=by omega
 simp only[A,r,E,F,G,qZ,qd,qY,qb];rw[zGv g a k j m t x];refine⟨u,by omega,by omega,hn,v,by omega,by omega,hn,?_⟩;have B:JG p xs xb n 3=kidsUp (f3 (CT p xs xb n) (Ca p xs xb n) xs) (f3 (Cb p xs xb n) (D9 p xs xb n) xb) 3:=rfl;rw[B];exact⟨by kernel_rfl,⟨TrE.refl _,BT⟩,⟨TrE.refl _,BX⟩,rfl,rfl,⟨TrE.refl _,Gc⟩,rfl⟩
set_option maxRecDepth 20000
set_option maxHeartbeats 1600000
theorem zB2{f:Nat->Int}:kidsUp f g 8 = []↔Fa f g:=by
 rw[<-List.length_eq_zero_iff,<-Classical.not_not (a:=Fa f g),<-zGo,<-OU];omega
theorem zI6{y:Int}:Ep (BE p xs xb n 0 x) (n / 8) y=BE p xs xb n 0 y:=by
 funext i;unfold Ep BE;show(if i=n / 8 then y else if i=n / 8 then x else _)=if i=n / 8 then y else _
 by_cases h:i=n / 8<;>simp[h]
theorem zI7{y:Int}:Ep (BD p xs xb n 0 x) (n / 8) y=BD p xs xb n 0 y:=by
 funext i;unfold Ep BD;show(if i=n / 8 then y else if i=n / 8 then x else _)=if i=n / 8 then y else _
 by_cases h:i=n / 8<;>simp[h]
theorem Ko{f:Nat->AD}:∀{n j:Nat},j<n->An (f j)->∃i,Br n f i
 | 0,j,h,_=>absurd h (Nat.not_lt_zero _)
 | n+1,j,h,hf=>by
  by_cases c:∃k,k<n/\An (f k)
  ·obtain⟨k,b,a⟩:=c;obtain⟨i,l,d,g⟩:=Ko b a;exact⟨i,by omega,d,g⟩
  ·have:j=n:=Classical.byContradiction fun e=>c ⟨j,by omega,hf⟩
   subst this;exact⟨j,h,hf,fun k b a=>c ⟨k,b,a⟩⟩
def mTT:AE:=AU (fun q:(A8×Int×Int)×Int×Int=>[poT q.1.1.n q.1.1.s q.1.1.hn q.1.1.h,pT q.1.2.1 q.1.2.2,iT q.2.1,iT q.2.2]) (fun q=>q.1.1.n<=1000000/\q.1.1.hn<=1000000) (fun q=>[toR (FZ q.1.1 q.1.2.1 q.1.2.2 q.2.1 q.2.2)])
theorem zIh(p:A8)(xs xb a:Int)(b:Int):mTT [poT p.n p.s p.hn p.h,pT xs xb,iT a,iT b]=some (p.n<=1000000/\p.hn<=1000000,[toR (FZ p xs xb a b)]):=Ac (fun l=>((CY (nth l 0 0) (nth l 0 1),AQ (nth l 1 0),AQ (nth l 1 1)),AQ (nth l 2 0),AQ (nth l 3 0))) (fun _=>rfl) ((p,xs,xb),a,b)
theorem zC3:Ae Tryz.prog 179 mTT:=by
 refine Ar Ah (GOk.cons OV (AA Tryz.func79 rfl rfl) (GOk.cons ZE (AA Tryz.func206 rfl rfl) (GOk.cons Y8 (AA Tryz.func207 rfl rfl) (GOk.cons ZA (AA Tryz.func208 rfl rfl) (GOk.cons Y9 (AA Tryz.func209 rfl rfl) (GOk.cons RT (AA Tryz.func210 rfl rfl) (GOk.cons Sk (AA Tryz.func213 rfl rfl) (GOk.cons zAL (AA Tryz.func211 rfl rfl) (GOk.cons LI (AA Tryz.func111 rfl rfl) (GOk.ptrK yj (AA Tryz.func212 rfl rfl) GOk.nil)))))))))) mixed Tryz.func179 rfl Tryz.ntmps179 Tryz.results179 22 ?_;rintro⟨⟨p,xs,xb⟩,m,b⟩ ⟨hn,y⟩;replace hn:p.n<=1000000:=hn;replace y:p.hn<=1000000:=y;refine⟨by simp,?_⟩;by_cases q:G7 m;rotate_left
 ·have B:(0<=m/\m<=63)↔False:=⟨q,False.elim⟩;simp[go_sem,NY,Nk,OY,B,hn,y];refine⟨fun h=>h,fun h=>?_,fun c l=>?_⟩
  ·rw[Vg fun e=>h.elim (· e.1) (· e.2)];exact⟨rfl,rfl,rfl,rfl,rfl,rfl⟩
  ·rw[zAG ⟨c,l⟩ q];exact⟨rfl,rfl,rfl,rfl,rfl,rfl⟩
 obtain⟨n,rfl⟩:=Int.eq_ofNat_of_zero_le q.1;have a:n<64:=by have:=q.2;omega
 have G:((n:Int) % 8).toNat=n % 8:=by omega
 have z:((n:Int) / 8).toNat=n / 8:=by omega
 simp[go_sem,NY,Nk,OY,MH,VK,qG,QK,VJ,zFv,GB,hn,y,NH a,N2,G,z,qZ,qd,qY,qb,zB2];refine⟨fun h=>h,fun h=>?_,fun c l=>⟨fun h=>absurd h (by omega),fun _=>?_⟩⟩
 ·rw[Vg fun e=>h.elim (· e.1) (· e.2)];exact⟨rfl,rfl,rfl,rfl,rfl,rfl⟩
 refine⟨⟨c,a⟩,fun g h=>?_,fun D=>⟨fun i hi=>by have:=Nh c.1 i hi;omega,Pu c (by omega),by omega,by omega,Pc c,by omega,by omega,fun x=>?_,fun x=>?_⟩⟩
 ·rw[zEu ⟨c,l⟩ q ⟨g,h⟩];exact⟨rfl,rfl,rfl,rfl,rfl,rfl⟩
 ·rw[Uj ⟨c,l⟩ q fun e=>D e.1 e.2,Int.toNat_natCast];refine⟨by omega,by omega,?_⟩;simp only[zI6,zI7];by_cases F:∃i,Br p.n p.s i
  ·obtain⟨i,hi⟩:=F;have I:tk1 p ⟨b,8,BE p xs xb n 1 0,BD p xs xb n 1 0,⟨#[]⟩⟩=(BH p i (C4 (BE p xs xb n 1 0) (BD p xs xb n 1 0) b),(i:Int),b,true):=I7 hi;have A:CD p (C4 (BE p xs xb n 1 0) (BD p xs xb n 1 0) b):=Jm c a (by omega) l (fun s t h=>h) (Or.inl ⟨rfl,rfl⟩);have u:=zJh c a l x hi;have E:Ag (BH p i (C4 (BE p xs xb n 1 0) (BD p xs xb n 1 0) b)):=Qt c.1 hi A;have hF:CD (BH p i (C4 (BE p xs xb n 1 0) (BD p xs xb n 1 0) b)) (C4 (BE p xs xb n 0 (i:Int)) (BD p xs xb n 0 b) b):=Jm c a (by omega) l (fun s t h=>Me hi.2.1 h) (Or.inr ⟨RY hi l.1.1,Int.le_refl _⟩);simp only[I];refine⟨fun k=>?_,fun k _=>⟨fun h=>by simp at h,fun _=>?_⟩⟩
   ·replace k:¬Fa (BE p xs xb n 0 (i:Int)) (BD p xs xb n 0 b):=k.resolve_right (by simp);refine⟨hn,fun h=>?_,fun _ h=>?_⟩
    ·rw[Vh u k E hF fun j d o=>?_]
     ·exact⟨rfl,rfl,rfl,rfl,rfl,rfl⟩
     ·obtain⟨H,r⟩:=Ko (f:=(BH p i (C4 (BE p xs xb n 1 0) (BD p xs xb n 1 0) b)).s) d o;rw[show tk1 _ _=_ from I7 r]at h;simp at h
    ·by_cases w:∃j,Br p.n (BH p i (C4 (BE p xs xb n 1 0) (BD p xs xb n 1 0) b)).s j
     ·obtain⟨j,d⟩:=w;have C:tk1 (BH p i (C4 (BE p xs xb n 1 0) (BD p xs xb n 1 0) b)) ⟨b,8,BE p xs xb n 0 (i:Int),BD p xs xb n 0 b,⟨#[]⟩⟩=(BH (BH p i (C4 (BE p xs xb n 1 0) (BD p xs xb n 1 0) b)) j (C4 (BE p xs xb n 0 (i:Int)) (BD p xs xb n 0 b) b),(j:Int),b,true):=I7 d;simp only[C];rw[Uk u k E hF d];exact⟨by kernel_rfl,⟨TrE.refl _,BT⟩,⟨TrE.refl _,BX⟩,rfl,rfl,⟨TrE.refl _,Gc⟩,rfl⟩
     ·rw[NI (p:=BH p i (C4 (BE p xs xb n 1 0) (BD p xs xb n 1 0) b)) fun j d o=>w (Ko d o)]at h;simp at h
   ·rw[Ui u k];exact⟨by kernel_rfl,⟨TrE.refl _,BT⟩,⟨TrE.refl _,BX⟩,rfl,rfl,⟨TrE.refl _,Gc⟩,rfl⟩
  ·have v:∀j,j<p.n->¬An (p.s j):=fun j d o=>F (Ko d o)
   simp only[NI v];rw[zFg c a l x v];exact⟨fun _=>⟨hn,fun _=>⟨rfl,rfl,rfl,rfl,rfl,rfl⟩,fun h=>by simp at h⟩,fun _ h=>by simp at h⟩
 ·rw[Uj ⟨c,l⟩ q fun e=>D e.1 e.2,Int.toNat_natCast];have u:=zJg (xs:=xs) (xb:=xb) (b:=b) x;have hF:CD p (C4 (BE p xs xb n 0 0) (BD p xs xb n 0 0) b):=Jm c a (by omega) l (fun s t h=>h) (Or.inl ⟨rfl,rfl⟩);refine⟨fun k=>⟨fun h=>?_,fun h=>?_⟩,fun k=>?_⟩
  ·rw[Vh u k c.1 hF fun j d o=>?_]
   ·exact⟨rfl,rfl,rfl,rfl,rfl,rfl⟩
   ·obtain⟨H,r⟩:=Ko d o;rw[I7 r]at h;simp at h
  ·by_cases w:∃j,Br p.n p.s j
   ·obtain⟨j,d⟩:=w;have C:tk1 p ⟨b,8,BE p xs xb n 0 0,BD p xs xb n 0 0,⟨#[]⟩⟩=(BH p j (C4 (BE p xs xb n 0 0) (BD p xs xb n 0 0) b),(j:Int),b,true):=I7 d;simp only[C];rw[Uk u k c.1 hF d];exact⟨by kernel_rfl,⟨TrE.refl _,BT⟩,⟨TrE.refl _,BX⟩,rfl,rfl,⟨TrE.refl _,Gc⟩,rfl⟩
   ·rw[NI fun j d o=>w (Ko d o)]at h;simp at h
  ·rw[Ui u k];exact⟨by kernel_rfl,⟨TrE.refl _,BT⟩,⟨TrE.refl _,BX⟩,rfl,rfl,⟨TrE.refl _,Gc⟩,rfl⟩
set_option maxRecDepth 20000
set_option maxHeartbeats 1600000
theorem zH3(h:Ae P f a)(i:Ae P f b):Ae P f (orSp a b):=by
 intro w e c rs d g;unfold orSp at d;split at d
 ·rename_i r hr
  cases d;exact h w e c rs hr g
 ·exact i w e c rs d g
def Tw:AE:=AU (fun q:Nat×(Nat->AD)=>[(true,[.s .b 3 q.1 (Ao .b q.2),.v n0])]) (fun q=>q.1<=1000000/\(0:Nat)<=1000000) (fun q=>bR (Ag {n:=q.1,s:=q.2,hn:=0,h:=fun _=>0}))
def Pq:AE:=orSp PK Tw
theorem zES:Ae Tryz.prog 60 Tw:=Oz.upk (κ:=Nat) fun q=>⟨_,OH {n:=q.1,s:=q.2,hn:=0,h:=fun _=>0},.cons ⟨rfl,.cons (TrE.refl _) (.cons ⟨rfl,rfl⟩ .nil)⟩ .nil⟩
theorem zET:Ae Tryz.prog 60 Pq:=zH3 Oz zES
theorem zp(p:A8):Pq [poT p.n p.s p.hn p.h]=some (p.n<=1000000/\p.hn<=1000000,bR (Ag p)):=qP (OH p)
theorem zBg(n:Nat)(s:Nat->AD):Pq [(true,[.s .b 3 n (Ao .b s),.v n0])]=some (n<=1000000/\(0:Nat)<=1000000,bR (Ag {n:=n,s:=s,hn:=0,h:=fun _=>0})):=by
 refine qQ (XF fun x h=>by simp at h) (Ac (fun l=>(D2 (nth l 0 0),fun i=>JM (BY (nth l 0 0) i 0) (BY (nth l 0 0) i 1) (BY (nth l 0 0) i 2))) (fun _=>rfl) (n,s))
theorem zz{h:Nat->Int}:Ag {n:=p.n,s:=p.s,hn:=0,h:=h}↔Ag {n:=p.n,s:=p.s,hn:=0,h:=p.h}:=
 ⟨fun x=>⟨x.1,x.2.1,fun i hi=>absurd hi (Nat.not_lt_zero _)⟩,fun x=>⟨x.1,x.2.1,fun i hi=>absurd hi (Nat.not_lt_zero _)⟩⟩
theorem zA7(p:A8)(k:Nat):TrE (.s fl 3 p.n (Ab (Ao .z p.s) k 0 [.v (.int .i64 0),.v n0,.v (.string ⟨#[]⟩)])) (.s fl 3 p.n (Ao .z (BH p k Ef).s)):=by
 refine⟨.inl rfl,rfl,rfl,fun i j hi a=>?_⟩;by_cases h:i=k
 ·subst h
  match j,a with
  | 0,_=>exact TrE.of_eq (by simp[Ab,Ao,BH,Ef])
  | 1,_=>simp[Ab,Ao,BH,Ef,TrE]
  | 2,_=>exact TrE.of_eq (by simp[Ab,Ao,BH,Ef])
 ·match j,a with
  | 0,_=>exact TrE.of_eq (by simp[Ab,Ao,BH,h])
  | 1,_=>exact TrE.of_eq (by simp[Ab,Ao,BH,h])
  | 2,_=>exact TrE.of_eq (by simp[Ab,Ao,BH,h])
def yZ:AE:=AU (fun p:A8=>[poT p.n p.s p.hn p.h]) (fun p=>p.n<=1000000/\p.hn<=1000000/\∀i,i<p.n->(p.s i).kn<=1000000) (fun p=>[poO (Ia p)])
theorem zFw(p:A8):yZ [poT p.n p.s p.hn p.h]=some (p.n<=1000000/\p.hn<=1000000/\∀i,i<p.n->(p.s i).kn<=1000000,[poO (Ia p)]):=Ac (fun l=>CY (nth l 0 0) (nth l 0 1)) (fun _=>rfl) p
theorem zC0:Ae Tryz.prog 141 yZ:=by
 refine Ar Ah (GOk.cons OV (AA Tryz.func79 rfl rfl) (GOk.cons zET (AA Tryz.func60 rfl rfl) GOk.nil)) mixed Tryz.func141 rfl Tryz.ntmps141 Tryz.results141 5 ?_;rintro p ⟨hn,c,g⟩;replace hn:p.n<=1000000:=hn;replace c:p.hn<=1000000:=c;refine⟨by simp,?_⟩;simp[go_sem,MH,zp,hn,c];refine⟨g,fun a=>?_,fun a=>?_⟩
 ·rw[Pe fun h=>a h.1];exact⟨⟨TrE.refl _,BT⟩,TrE.refl _,BX⟩
 refine Ax (fun k:Nat=>⟨[(4,true,.i k),(3,true,.m false [.p 3 0]),(2,true,.m false [.p 2 0]),(1,true,.m false [.p 1 0])],[(3,.var [.h 7,.h 8]),(7,.row 3 p.n (Ao .z (Dq p k).s)),(8,.row 1 p.hn (Ay p.h)),(2,.var [.v n0,.v n0]),(1,.var [.s .b 3 p.n (Ao .b p.s),.s .b 1 p.hn (Ay p.h)])]⟩) (fun k=>p.hn - k) (fun k=>k<=p.hn) 0 ?_ (by simp) ?_
 ·rw[zAs];simp[go_sem]
 rintro k o;simp[go_sem,Al (show k<=1000000000 by omega),zBg,MH,hn,c];refine⟨fun d=>?_,fun d=>?_⟩
 ·obtain⟨j,l,-,-⟩:=a.2.2 k d;refine⟨d,⟨j,l⟩,by omega,by kernel_rfl,k+1,by omega,by omega,by omega,?_⟩;rw[zAr (m:=(p.h k).toNat) (by omega)];exact zA7 (Dq p k) _
 ·cases (show k=p.hn by omega);have q:Ag {n:=p.n,s:=(Dq p p.hn).s,hn:=0,h:=fun x=>0}↔Ag (Gw p):=zz (p:=Dq p p.hn);rw[q];refine⟨fun h=>?_,fun h=>?_⟩
  ·rw[Pe fun e=>h e.2];exact⟨g,⟨TrE.refl _,BT⟩,TrE.refl _,BX⟩
  ·rw[Ug a h];exact⟨⟨TrE.refl _,BT⟩,rfl⟩
end
end Go.Proofs.YtibhefllijahkaaGreatDoor
