/- A part of the proof. -/
import Derived.Test.YtnfjcaoclahfjaaGreatDoorF28
set_option linter.unusedVariables false
set_option maxRecDepth 20000
set_option maxHeartbeats 4000000
namespace Go.Proofs.YtnfjcaoclahfjaaGreatDoor
noncomputable section
open Go.RowKit
set_option linter.unusedSimpArgs false
set_option maxRecDepth 20000
set_option maxHeartbeats 1600000
def setsE(fl:Fl)(s:Nat->Ac):Nat->Nat->Tr:=fun i c=>match c with
 | 0=>.v (.string (s i).name)
 | 1=>.v (.int .i64 (s i).origin)
 | 2=>.v (.int .i64 (s i).A5)
 | 3=>.v (.int .i64 (s i).rs)
 | 4=>.v (.int .i64 (s i).rb)
 | 5=>.s fl 2 (s i).dn (ptrsT (s i).ds (s i).db)
 | _=>.v (.bool false)
def snapsE(fl:Fl)(s:Nat->AT):Nat->Nat->Tr:=fun i c=>match c with
 | 0=>.v (.int .i64 (s i).id)
 | 1=>.v (.string (s i).name)
 | 2=>.v (.string (s i).set)
 | 3=>.v (.int .i64 (s i).A5)
 | 4=>.v (.int .i64 (s i).time)
 | 5=>.v (.int .i64 (s i).rs)
 | 6=>.v (.int .i64 (s i).rb)
 | 7=>.s fl 2 (s i).dn (ptrsT (s i).ds (s i).db)
 | _=>.v (.bool false)
section
variable {fl fl' : Fl} {s : Nat -> Ac} {t : Nat -> AT} {i k n : Nat}
theorem zH5:setsE fl s i 0 = .v (.string (s i).name):=rfl
theorem zH6:setsE fl s i 1 = .v (.int .i64 (s i).origin):=rfl
theorem zH7:setsE fl s i 2 = .v (.int .i64 (s i).A5):=rfl
theorem zH8:setsE fl s i 3 = .v (.int .i64 (s i).rs):=rfl
theorem zH9:setsE fl s i 4 = .v (.int .i64 (s i).rb):=rfl
theorem zHA:setsE fl s i 5 = .s fl 2 (s i).dn (ptrsT (s i).ds (s i).db):=rfl
theorem zFh:snapsE fl t i 0 = .v (.int .i64 (t i).id):=rfl
theorem zFi:snapsE fl t i 1 = .v (.string (t i).name):=rfl
theorem zFj:snapsE fl t i 2 = .v (.string (t i).set):=rfl
theorem zFk:snapsE fl t i 3 = .v (.int .i64 (t i).A5):=rfl
theorem zFl:snapsE fl t i 4 = .v (.int .i64 (t i).time):=rfl
theorem zFm:snapsE fl t i 5 = .v (.int .i64 (t i).rs):=rfl
theorem zFn:snapsE fl t i 6 = .v (.int .i64 (t i).rb):=rfl
theorem zFo:snapsE fl t i 7 = .s fl 2 (t i).dn (ptrsT (t i).ds (t i).db):=rfl
theorem zG:(Tr.s fl k n (setsE fl' s)).lend = .s .b k n (setsE .b s):=by
 simp only[Tr.lend];congr 1;funext i c
 match c with
 | 0 | 1 | 2 | 3 | 4=>rfl
 | 5=>exact M6
 | c+6=>rfl
theorem XF:(Tr.s fl k n (snapsE fl' t)).lend = .s .b k n (snapsE .b t):=by
 simp only[Tr.lend];congr 1;funext i c
 match c with
 | 0 | 1 | 2 | 3 | 4 | 5 | 6=>rfl
 | 7=>exact M6
 | c+8=>rfl
end
abbrev woL(W:A4):List Tr:=[.s .b 3 W.pool.n (Ao .b W.pool.s),.s .b 1 W.pool.hn (B5 W.pool.h),.v (.int .i64 W.time),.v (.int .i64 W.next),.s .b 6 W.sn (setsE .b W.A2),.s .b 8 W.pn (snapsE .b W.A0)]
abbrev woT(W:A4):Bool×List Tr:=(true,woL W)
abbrev woO(W:A4):Bool×List Tr:=(true,[.s .o 3 W.pool.n (Ao .z W.pool.s),.s .o 1 W.pool.hn (B5 W.pool.h),.v (.int .i64 W.time),.v (.int .i64 W.next),.s .o 6 W.sn (setsE .o W.A2),.s .o 8 W.pn (snapsE .z W.A0)])
def zHl(f:Nat->Tr):Ac:=⟨CL (f 0),AO (f 1),AO (f 2),AO (f 3),AO (f 4),DI (f 5),fun i=>AO (Bk (f 5) i 0),fun i=>AO (Bk (f 5) i 1)⟩
def zGR(f:Nat->Tr):AT:=⟨AO (f 0),CL (f 1),CL (f 2),AO (f 3),AO (f 4),AO (f 5),AO (f 6),DI (f 7),fun i=>AO (Bk (f 7) i 0),fun i=>AO (Bk (f 7) i 1)⟩
def BW(f:Nat->Tr):A4:=⟨Cd (f 0) (f 1),AO (f 2),AO (f 3),DI (f 4),fun i=>zHl (Bk (f 4) i),DI (f 5),fun i=>zGR (Bk (f 5) i)⟩
attribute [go_sem] UM BV Z0 TY VU zH5 zH6 zH7 zH8 zH9 zHA zFh zFi zFj zFk zFl zFm zFn zFo zG XF
def BD(n:Nat)(P:Nat->Prop):Int:=@dite _ (∃k,k<n/\P k/\∀j,j<k->¬P j) (Classical.propDecidable _) (fun h=>(h.choose:Int)) (fun _=>-1)
variable{n k:Nat}{P:Nat->Prop}
theorem I4(h:k<n)(b:P k)(c:∀j,j<k->¬P j):BD n P=k:=by
 have a:∃k,k<n/\P k/\∀j,j<k->¬P j:=⟨k,h,b,c⟩;unfold BD;rw[dif_pos a];obtain⟨-,d,f⟩:=a.choose_spec;rcases Nat.lt_trichotomy a.choose k with e | e | e
 ·exact absurd d (c _ e)
 ·exact congrArg _ e
 ·exact absurd b (f _ e)
theorem Py(h:∀k,k<n->¬P k):BD n P = -1:=dif_neg fun ⟨k,h1,h2,_⟩=>h k h1 h2
theorem GA(n:Nat)(P:Nat->Prop):Po n P (BD n P):=by
 by_cases d:∃k,k<n/\P k/\∀j,j<k->¬P j
 ·obtain⟨k,h,a,b⟩:=d;exact .inl ⟨k,h,a,b,I4 h a b⟩
 ·have hn:∀m,m<=n->∀j,j<m->¬P j:=fun m=>by
   induction m with
   | zero=>intro _ j f;omega
   | succ m ih=>
    intro g j f c;by_cases e:j<m
    ·exact ih (by omega) j e c
    ·cases (show j=m by omega);exact d ⟨m,by omega,c,ih (by omega)⟩
  exact .inr ⟨hn n (Nat.le_refl _),Py (hn n (Nat.le_refl _))⟩
def qL:AH:=AR (fun q:A4×Int=>[woT q.1,iT q.2]) (fun q=>q.1.pn<=1000000) (fun q=>[iT (BD q.1.pn fun k=>(q.1.A0 k).id=q.2)])
theorem Dy(W:A4)(x:Int):qL [woT W,iT x]=some (W.pn<=1000000,[iT (BD W.pn fun k=>(W.A0 k).id=x)]):=Aa (fun l=>(BW (nth l 0),AO (nth l 1 0))) (fun _=>rfl) (W,x)
theorem IG:Ag Tryz.prog 23 qL:=by
 refine Au Ai GOk.nil Ah Tryz.func23 rfl Tryz.ntmps23 Tryz.results23 6 ?_;rintro⟨W,x⟩ hn;replace hn:W.pn<=1000000:=hn;refine⟨by simp,?_⟩;simp[go_sem];refine B2 (fun k:Nat=>⟨[(2,true,.m false [.p 2 0]),(1,true,.i x),(5,true,.i k)],[(2,.var ((woL W).map Tr.cv))]⟩) (fun k=>W.pn - k) (fun k=>k<=W.pn/\∀i,i<k->(W.A0 i).id≠x) 0 (by simp[go_sem]) (by simp) ?_;rintro k ⟨c,a⟩;simp[go_sem,Aj (show k<=1000000000 by omega)];refine⟨fun b=>⟨b,fun h=>(I4 b h a).symm,fun h=>⟨k+1,⟨by omega,Bf b a h⟩,by omega,rfl⟩⟩,fun b=>(Py fun i hi=>a i (by omega)).symm⟩
def yC:AH:=AR (fun q:A4×ByteArray=>[woT q.1,sT q.2]) (fun q=>q.1.sn<=1000000) (fun q=>[iT (BD q.1.sn fun k=>(q.1.A2 k).name=q.2)])
theorem CI(W:A4)(x:ByteArray):yC [woT W,sT x]=some (W.sn<=1000000,[iT (BD W.sn fun k=>(W.A2 k).name=x)]):=Aa (fun l=>(BW (nth l 0),CL (nth l 1 0))) (fun _=>rfl) (W,x)
theorem ID:Ag Tryz.prog 79 yC:=by
 refine Au Ai GOk.nil Ah Tryz.func79 rfl Tryz.ntmps79 Tryz.results79 6 ?_;rintro⟨W,x⟩ hn;replace hn:W.sn<=1000000:=hn;refine⟨by simp,?_⟩;simp[go_sem];refine B2 (fun k:Nat=>⟨[(2,true,.m false [.p 2 0]),(1,true,.m false [.v (.string x)]),(5,true,.i k)],[(2,.var ((woL W).map Tr.cv))]⟩) (fun k=>W.sn - k) (fun k=>k<=W.sn/\∀i,i<k->(W.A2 i).name≠x) 0 (by simp[go_sem]) (by simp) ?_;rintro k ⟨c,a⟩;simp[go_sem,Aj (show k<=1000000000 by omega)];refine⟨fun b=>⟨b,fun h=>(I4 b (GB h) a).symm,fun h=>⟨k+1,⟨by omega,Bf b a fun e=>h (congrArg ByteArray.toList e)⟩,by omega,rfl⟩⟩,fun b=>(Py fun i hi=>a i (by omega)).symm⟩
def El(W:A4)(x:Int):AT:=@ite _ (x=0) (Int.instDecidableEq x 0) CQ (AB W x)
def Yq:AH:=AR (fun q:A4×Int=>[woT q.1,iT q.2]) (fun q=>q.1.pn<=1000000) (fun q=>[pT (El q.1 q.2).rs (El q.1 q.2).rb,iT (El q.1 q.2).time])
theorem Jm(W:A4)(x:Int):Yq [woT W,iT x]=some (W.pn<=1000000,[pT (El W x).rs (El W x).rb,iT (El W x).time]):=Aa (fun l=>(BW (nth l 0),AO (nth l 1 0))) (fun _=>rfl) (W,x)
theorem Ks:Ag Tryz.prog 26 Yq:=by
 refine Au Ai (GOk.cons IG (AA Tryz.func23 rfl rfl) GOk.nil) Ah Tryz.func26 rfl Tryz.ntmps26 Tryz.results26 7 ?_;rintro⟨W,x⟩ hn;replace hn:W.pn<=1000000:=hn;refine⟨by simp,?_⟩;simp[go_sem,Dy,hn];obtain⟨k,b,c,d,e⟩ | ⟨b,c⟩:=GA W.pn fun k=>(W.A0 k).id=x
 ·rw[e];have f:AB W x=W.A0 k:=Cn ⟨b,c,d⟩;refine⟨fun h=>?_,fun a _=>⟨⟨by omega,by omega⟩,by kernel_rfl,?_⟩⟩
  ·have a:x=0:=(by omega);rw[show El W x=CQ from if_pos a];exact⟨⟨rfl,rfl⟩,rfl⟩
  ·rw[show El W x=AB W x from if_neg a,f];exact⟨⟨rfl,rfl⟩,rfl⟩
 ·rw[c];refine⟨fun _=>?_,fun _ h=>absurd h (by decide)⟩;by_cases a:x=0
  ·rw[show El W x=CQ from if_pos a];exact⟨⟨rfl,rfl⟩,rfl⟩
  ·rw[show El W x=AB W x from if_neg a,Jp b];exact⟨⟨rfl,rfl⟩,rfl⟩
def nwW(x:Int):A4:=if 0<=x/\x<=200 then⟨Ce x.toNat,1,1,0,fun _=>⟨⟨#[]⟩,0,0,0,0,0,fun _=>0,fun _=>0⟩,0,fun _=>CQ⟩else⟨Ce 0,0,0,0,fun _=>⟨⟨#[]⟩,0,0,0,0,0,fun _=>0,fun _=>0⟩,0,fun _=>CQ⟩
def qS:AH:=AR (fun x:Int=>[iT x]) (fun _=>True) (fun x=>[woO (nwW x)])
theorem zEs(x:Int):qS [iT x]=some (True,[woO (nwW x)]):=Aa (fun l=>AO (nth l 0 0)) (fun _=>rfl) x
theorem zBi:Ag Tryz.prog 39 qS:=by
 refine Au Ai (GOk.cons Ln (AA Tryz.func84 rfl rfl) (GOk.cons zAa (AA Tryz.func85 rfl rfl) GOk.nil)) Ah Tryz.func39 rfl Tryz.ntmps39 Tryz.results39 4 ?_;rintro x -;refine⟨by simp,?_⟩;simp[go_sem,LL,zEg];refine⟨fun h=>?_,fun a b=>?_⟩
 ·rw[show nwW x=_ from if_neg fun e=>absurd (h e.1) (by omega)];exact⟨rfl,rfl,rfl,rfl,rfl,rfl⟩
 ·rw[show nwW x=_ from if_pos ⟨a,b⟩,show GP x=x.toNat from if_pos ⟨a,b⟩];exact⟨⟨TrE.refl _,BZ⟩,⟨TrE.refl _,Bj⟩,rfl,rfl,rfl,rfl⟩
set_option maxRecDepth 20000
set_option maxHeartbeats 1600000
variable{W:A4}
theorem Gx{x:Int}:(BD W.pn fun k=>(W.A0 k).id=x)<0↔¬BG W x:=by
 rcases Xp (GA W.pn fun k=>(W.A0 k).id=x)with⟨h,a,-⟩ | ⟨h,a⟩
 ·exact⟨fun e=>absurd e (by omega),fun e=>absurd h e⟩
 ·rw[a];exact⟨fun _=>h,fun _=>by decide⟩
theorem FX{x:Int}:(0<=BD W.pn fun k=>(W.A0 k).id=x)↔BG W x:=by
 rw[<-Int.not_lt,Gx,Classical.not_not]
variable{x:ByteArray}
theorem Dk:(BD W.sn fun k=>(W.A2 k).name=x)<0↔¬CJ W x:=by
 rcases yd (GA W.sn fun k=>(W.A2 k).name=x)with⟨h,a⟩ | ⟨h,a⟩
 ·exact⟨fun e=>absurd e (by omega),fun e=>absurd h e⟩
 ·rw[a];exact⟨fun _=>h,fun _=>by decide⟩
theorem CW:(0<=BD W.sn fun k=>(W.A2 k).name=x)↔CJ W x:=by
 rw[<-Int.not_lt,Dk,Classical.not_not]
theorem qe(h:k<=1000000000):IntKind.i64.wrap ((k:Int) - 1)=(k:Int) - 1:=by
 unfold IntKind.wrap;simp[IntKind.signed,IntKind.bits];omega
theorem tn1:((k:Int) - 1).toNat=k - 1:=by omega
def Zy:AH:=AR (fun s:ByteArray=>[sT s]) (fun _=>True) (fun s=>bR (Bp s))
theorem I5(s:ByteArray):Zy [sT s]=some (True,bR (Bp s)):=Aa (fun l=>CL (nth l 0 0)) (fun _=>rfl) s
theorem Og:Ag Tryz.prog 81 Zy:=by
 refine Au Ai GOk.nil Ah Tryz.func81 rfl Tryz.ntmps81 Tryz.results81 5 ?_;rintro s -;refine⟨by simp,?_⟩;simp[go_sem];refine⟨fun h=>?_,fun r t=>?_⟩
 ·exact fun d=>by have r:=d.1;have t:=d.2.1;omega
 refine B2 (fun k:Nat=>⟨[(0,true,.m false [.v (.string s)]),(3,true,.i k)],[]⟩) (fun k=>s.size - k) (fun k=>k<=s.size/\∀j,(h:j<k)->(q:j<s.size)->DP j (s[j].toNat:Int)) 0 (by simp[go_sem]) (by simp) ?_;rintro k ⟨u,f⟩;simp[go_sem,Aj (show k<=1000000000 by omega)];refine⟨fun g=>?_,fun g=>⟨by omega,by omega,fun j o=>f j (by omega) o⟩⟩;have e:s[k]?.getD 0=s[k]:=by simp[g]
 rw[e];obtain⟨c,l⟩:∃c:Int,c=(s[k].toNat:Int):=⟨_,rfl⟩;have p:Bp s->DP k c:=fun d=>l▸d.2.2 k g
 have hn:DP k c->∀j,(h:j<k+1)->(q:j<s.size)->DP j (s[j].toNat:Int):=fun h j o n=>by
  by_cases e:j=k
  ·subst e;rw[<-l];exact h
  ·exact f j (by omega) n
 rw[<-l];unfold DP at p;refine⟨g,fun a b c=>⟨⟨a,b⟩,c⟩,fun a b c=>⟨⟨a,b⟩,c⟩,fun a b=>⟨a,b⟩,fun a b d=>?_,fun h=>⟨k+1,⟨by omega,hn ?_⟩,by omega,rfl⟩⟩
 ·have:=p d;omega
 ·unfold DP;omega
def ZC:AH:=AR (fun W:A4=>[woT W]) (fun W=>W.sn<=1000000/\W.pn<=1000000) (fun W=>bR (Ct W))
theorem yK(W:A4):ZC [woT W]=some (W.sn<=1000000/\W.pn<=1000000,bR (Ct W)):=Aa (fun l=>BW (nth l 0)) (fun _=>rfl) W
theorem zBO:Ag Tryz.prog 58 ZC:=by
 refine Au Ai (GOk.cons Ln (AA Tryz.func84 rfl rfl) (GOk.cons ID (AA Tryz.func79 rfl rfl) (GOk.cons IG (AA Tryz.func23 rfl rfl) (GOk.cons Og (AA Tryz.func81 rfl rfl) GOk.nil)))) Ah Tryz.func58 rfl Tryz.ntmps58 Tryz.results58 8 ?_;rintro W ⟨hn,y⟩;refine⟨by simp,?_⟩;simp[go_sem,LL];refine⟨fun h a=>?_,fun z A B C c1 P=>?_⟩
 ·obtain⟨q,r,F,G,-⟩:=a;unfold JV at q r;omega
 refine B2 (fun k:Nat=>⟨[(1,true,.m false [.p 1 0]),(3,true,.i k)],[(1,.var ((woL W).map Tr.cv))]⟩) (fun k=>W.sn - k) (fun k=>k<=W.sn/\∀i,i<k->Gw W i) 0 (by simp[go_sem]) (by simp) ?_;rintro k ⟨I,n⟩;simp[go_sem,Aj (show k<=1000000000 by omega),I5,Dy,CI,y,hn,Gx,FX,Dk,CW,qe (show k<=1000000000 by omega),tn1];refine⟨fun c=>?_,fun c=>?_⟩
 ·have f:Ct W->Gw W k:=fun a=>a.2.2.2.2.1 k c
  have t:Gw W k->∃o:Nat,(o<=W.sn/\∀i,i<o->Gw W i)/\W.sn - o<W.sn - k/\(k:Int)+1=(o:Int):=fun h=>⟨k+1,⟨by omega,Bf c n h⟩,by omega,rfl⟩
  obtain⟨Q,u⟩:∃Q,Q=Gw W k:=⟨_,rfl⟩;rw[<-u]at f t;unfold Gw CM at u;refine⟨c,fun _ _=>⟨by omega,by omega⟩,?_,?_,?_,?_,?_,by kernel_rfl,fun h a=>?_,fun q r F G=>t ?_⟩
  ·grind
  ·grind
  ·grind
  ·grind
  ·grind
  ·have:=f a
   grind
  ·grind
 cases (show k=W.sn by omega);refine B2 (fun k:Nat=>⟨[(1,true,.m false [.p 1 0]),(5,true,.i k)],[(1,.var ((woL W).map Tr.cv))]⟩) (fun k=>W.pn - k) (fun k=>k<=W.pn/\∀i,i<k->NE W i) 0 (by simp[go_sem]) (by simp) ?_;rintro k ⟨I,d⟩;simp[go_sem,Aj (show k<=1000000000 by omega),I5,Dy,CI,y,hn,Gx,FX,Dk,CW,qe (show k<=1000000000 by omega),tn1];refine⟨fun c=>?_,fun c=>⟨⟨z,A⟩,⟨B,C⟩,by omega,by omega,n,fun i hi=>d i (by omega)⟩⟩;have f:Ct W->NE W k:=fun a=>a.2.2.2.2.2 k c
 refine⟨c,fun h a=>?_,fun s1 s2 s3 M N O=>⟨fun _=>⟨by omega,by omega⟩,fun _ _=>⟨by omega,by omega⟩,?_,?_,?_,?_,by kernel_rfl,fun h a=>?_,fun J K=>?_⟩⟩
 ·obtain⟨q1,L,R,S,T,U⟩:=(f a).1
  grind
 ·grind
 ·grind
 ·grind
 ·grind
 ·obtain⟨q1,L⟩:=(f a).2.1
  grind
 have H:Re W k:=⟨J,K⟩;refine B2 (fun j:Nat=>⟨[(1,true,.m false [.p 1 0]),(5,true,.i k),(6,true,.m false [.p 6 0]),(7,true,.i j)],[(6,.var [.v (.int .i64 (W.A0 k).id),.v (.string (W.A0 k).name),.v (.string (W.A0 k).set),.v (.int .i64 (W.A0 k).A5),.v (.int .i64 (W.A0 k).time),.v (.int .i64 (W.A0 k).rs),.v (.int .i64 (W.A0 k).rb),.s .b 2 (W.A0 k).dn (ptrsT (W.A0 k).ds (W.A0 k).db)]),(1,.var ((woL W).map Tr.cv))]⟩) (fun j=>k - j) (fun j=>j<=k/\Rf W k j) 0 (by simp[go_sem]) ⟨Nat.zero_le _,fun j x=>absurd x (Nat.not_lt_zero _)⟩ ?_;rintro j ⟨x,w⟩;simp[go_sem,Aj (show j<=1000000000 by omega),Aj (show k<=1000000000 by omega)];refine⟨fun l=>⟨by omega,fun _=>by omega,by kernel_rfl,fun D E a=>(f a).2.2 j l ⟨GB D,GB E⟩,fun g=>⟨j+1,⟨by omega,fun i hi=>?_⟩,by omega,rfl⟩⟩,fun l=>⟨k+1,⟨by omega,Bf c d ⟨⟨s1,s2,s3,M,N,O⟩,H,fun i hi=>w i (by omega)⟩⟩,by omega,rfl⟩⟩;by_cases e:i=j
 ·subst e;exact fun h=>g (congrArg ByteArray.toList h.1) (congrArg ByteArray.toList h.2)
 ·exact w i (by omega)
set_option maxRecDepth 20000
set_option maxHeartbeats 1600000
def LX(W:A4)(i:Nat):Prop:=Ek W (W.A2 i).name (W.A2 i).A5 (W.A2 i).origin
def Sv:AH:=AR (fun W:A4=>[woT W]) (fun W=>Ct W) (fun W=>bR (∀i,i<W.sn->LX W i))
theorem zAA(W:A4):Sv [woT W]=some (Ct W,bR (∀i,i<W.sn->LX W i)):=Aa (fun l=>BW (nth l 0)) (fun _=>rfl) W
theorem zC3:Ag Tryz.prog 59 Sv:=by
 refine Au Ai (GOk.cons IG (AA Tryz.func23 rfl rfl) GOk.nil) Ah Tryz.func59 rfl Tryz.ntmps59 Tryz.results59 8 ?_;rintro W l;replace l:Ct W:=l;have D:W.sn<=8:=l.2.2.1;have u:W.pn<=20:=l.2.2.2.1;have C:W.pn<=1000000:=by omega
 have r:=l.Cu;refine⟨by simp,?_⟩;simp[go_sem];refine B2 (fun k:Nat=>⟨[(1,true,.m false [.p 1 0]),(3,true,.i k)],[(1,.var ((woL W).map Tr.cv))]⟩) (fun k=>W.sn - k) (fun k=>k<=W.sn/\∀i,i<k->LX W i) 0 (by simp[go_sem]) (by simp) ?_;rintro k ⟨G,n⟩;simp[go_sem,Aj (show k<=1000000000 by omega)];refine⟨fun b=>?_,fun b i hi=>n i (by omega)⟩;refine B2 (fun j:Nat=>⟨[(1,true,.m false [.p 1 0]),(3,true,.i k),(4,true,.m false [.v (.int .i64 0)]),(5,true,.i (ownN W (W.A2 k).name j)),(6,true,.i j)],[(1,.var ((woL W).map Tr.cv))]⟩) (fun j=>W.pn - j) (fun j=>j<=W.pn) 0 (by simp[go_sem,ownN]) (Nat.zero_le _) ?_;rintro j F;have t:=NO W (W.A2 k).name j;simp[go_sem,Aj (show j<=1000000000 by omega),Aj (show ownN W (W.A2 k).name j<=1000000000 by omega)];refine⟨fun c=>⟨c,b,by kernel_rfl,fun h=>⟨j+1,c,by omega,by rw[Lt (GB h)];rfl,rfl⟩,fun h=>⟨j+1,c,by omega,by rw[NP fun e=>h (congrArg ByteArray.toList e)],rfl⟩⟩,fun c=>⟨b,?_⟩⟩;cases (show j=W.pn by omega);refine B2 (fun q:Nat×Int=>⟨[(1,true,.m false [.p 1 0]),(3,true,.i k),(4,true,.i q.1),(5,true,.i (ownN W (W.A2 k).name W.pn)),(7,true,.m false [.v (.int .i64 q.2)])],[(1,.var ((woL W).map Tr.cv))]⟩) (fun q=>1000000 - q.1) (fun q=>ET W (W.A2 k).name (W.A2 k).A5 q.1 q.2) (0,(W.A2 k).A5) (by simp[go_sem]) (ET.start r _ (r.A2 k b)) ?_;rintro⟨a,x⟩ f;replace f:ET W (W.A2 k).name (W.A2 k).A5 a x:=f;have E:a<=900000:=by have:=f.least;have:=f.sum;omega
 simp[go_sem,Dy,C,Aj (show a<=1000000000 by omega),Aj (show k<=1000000000 by omega)];have d:¬Eh W (W.A2 k).name x->(¬(a:Int)=(ownN W (W.A2 k).name W.pn:Nat)\/¬x=(W.A2 k).origin->∃x,x<W.sn/\¬LX W x)/\((a:Int)=(ownN W (W.A2 k).name W.pn:Nat)->x=(W.A2 k).origin->∃o:Nat,(o<=W.sn/\∀i,i<o->LX W i)/\W.sn - o<W.sn - k/\(k:Int)+1=(o:Int)):=fun t=>by
  have hi:=To (origin:=(W.A2 k).origin) f.steps t;refine⟨fun h=>⟨k,b,fun B=>?_⟩,fun z A=>⟨k+1,⟨by omega,Bf b n (hi.2 ⟨by exact_mod_cast z,A⟩)⟩,by omega,rfl⟩⟩;obtain⟨w,y⟩:=hi.1 B;exact h.elim (fun h=>h (by exact_mod_cast w)) (fun h=>h y)
 by_cases s:x=0
 ·subst s;exact⟨fun h=>absurd rfl h,fun h=>absurd rfl h,by kernel_rfl,fun h=>absurd rfl h,fun _=>⟨fun _=>b,d (YI r _)⟩⟩
 ·obtain⟨q,g⟩:=(f.there.resolve_left s).no;have e:(BD W.pn fun k=>(W.A0 k).id=x)=q:=I4 g.1 g.2.1 g.2.2;have:=g.1;rw[e,Int.toNat_natCast];exact⟨fun _=>⟨by omega,by omega⟩,fun _=>b,by kernel_rfl,fun _ h=>⟨⟨by omega,by omega⟩,by kernel_rfl,a+1,_,f.next r g (GB h),by omega,rfl,rfl⟩,fun h=>⟨fun _=>b,d (XQ g fun e=>h s (congrArg ByteArray.toList e))⟩⟩
set_option maxRecDepth 20000
set_option maxHeartbeats 1600000
abbrev psT(n:Nat)(f g:Nat->Int):Bool×List Tr:=(false,[.s .b 2 n (ptrsT f g)])
abbrev psO(l:List (Int×Int)):Bool×List Tr:=(false,[.s .o 2 l.length (ptL l)])
def Jw(a:Tr):Nat×(Nat->Int)×(Nat->Int):=(DI a,fun i=>AO (Bk a i 0),fun i=>AO (Bk a i 1))
def mIn:AH:=AR (fun q:(Nat×(Nat->Int)×(Nat->Int))×Int×Int=>[psT q.1.1 q.1.2.1 q.1.2.2,pT q.2.1 q.2.2]) (fun q=>q.1.1<=1000000) (fun q=>bR (PIn q.1.1 q.1.2.1 q.1.2.2 q.2.1 q.2.2))
theorem NA(n:Nat)(f g:Nat->Int)(a b:Int):mIn [psT n f g,pT a b]=some (n<=1000000,bR (PIn n f g a b)):=Aa (fun l=>(Jw (nth l 0 0),AO (nth l 1 0),AO (nth l 1 1))) (fun _=>rfl) ((n,f,g),a,b)
theorem O7:Ag Tryz.prog 118 mIn:=by
 refine Au Ai GOk.nil Ah Tryz.func118 rfl Tryz.ntmps118 Tryz.results118 6 ?_;rintro⟨⟨n,f,g⟩,a,b⟩ hn;replace hn:n<=1000000:=hn;refine⟨by simp,?_⟩;simp[go_sem];refine B2 (fun k:Nat=>⟨[(3,true,.m false [.p 3 0]),(0,true,.m false [.s .b 2 n (ptrsT f g)]),(5,true,.i k)],[(3,.var [.v (.int .i64 a),.v (.int .i64 b)])]⟩) (fun k=>n - k) (fun k=>k<=n/\∀i,i<k->¬(f i=a/\g i=b)) 0 (by simp[go_sem]) (by simp) ?_;rintro k ⟨q,e⟩;simp[go_sem,Aj (show k<=1000000000 by omega)];refine⟨fun l=>⟨l,by kernel_rfl,fun d c=>⟨k,l,d,c⟩,fun h=>⟨k+1,⟨by omega,fun i hi d c=>?_⟩,by omega,rfl⟩⟩,fun l ⟨j,d,c⟩=>e j (by omega) c⟩;rcases Nat.lt_succ_iff_lt_or_eq.1 hi with o | rfl
 ·exact e i o ⟨d,c⟩
 ·exact h d c
def ZF:AH:=AR (fun q:(Nat×(Nat->Int)×(Nat->Int))×Int=>[psT q.1.1 q.1.2.1 q.1.2.2,iT q.2]) (fun q=>q.1.1<=1000000) (fun q=>[psO (BE q.1.2.1 q.1.2.2 q.2 q.1.1),psO (BS q.1.2.1 q.1.2.2 q.2 q.1.1)])
theorem M7(n:Nat)(f g:Nat->Int)(t:Int):ZF [psT n f g,iT t]=some (n<=1000000,[psO (BE f g t n),psO (BS f g t n)]):=Aa (fun l=>(Jw (nth l 0 0),AO (nth l 1 0))) (fun _=>rfl) ((n,f,g),t)
theorem Oc:Ag Tryz.prog 27 ZF:=by
 refine Au Ai GOk.nil Ah Tryz.func27 rfl Tryz.ntmps27 Tryz.results27 9 ?_;rintro⟨⟨n,f,g⟩,t⟩ hn;replace hn:n<=1000000:=hn;refine⟨by simp,?_⟩;simp[go_sem];refine B2 (fun k:Nat=>⟨[(6,true,.m false [.h 7]),(7,true,.m false [.h 8]),(0,true,.m false [.s .b 2 n (ptrsT f g)]),(1,true,.i t),(8,true,.i k)],[(7,.row 2 (BE f g t k).length (ptL (BE f g t k))),(8,.row 2 (BS f g t k).length (ptL (BS f g t k)))]⟩) (fun k=>n - k) (fun k=>k<=n) 0 (by simp[go_sem,BE,BS];exact LV rfl) (by simp) ?_;rintro k c;have d:=Kr f g t k;simp[go_sem,Aj (show k<=1000000000 by omega)];refine⟨fun a=>⟨a,fun h=>⟨a,by omega,k+1,by omega,by omega,by omega,GZ Hu (by simp[BE,h]),Ga (by simp[BS,h])⟩,fun h=>⟨a,by omega,k+1,by omega,by omega,by omega,Ga (by simp[BE,Int.not_lt.2 h]),GZ Hu (by simp[BS,Int.not_lt.2 h])⟩⟩,fun a=>?_⟩;cases (show k=n from by omega);exact⟨⟨Ga rfl,Gf⟩,Ga rfl,Gf⟩
def qG:AH:=AR (fun q:Nat×(Nat->Int)×(Nat->Int)=>[psT q.1 q.2.1 q.2.2]) (fun q=>q.1<=1000000) (fun q=>bR (C1 q.1 q.2.1 q.2.2))
theorem zEk(n:Nat)(f g:Nat->Int):qG [psT n f g]=some (n<=1000000,bR (C1 n f g)):=Aa (fun l=>Jw (nth l 0 0)) (fun _=>rfl) (n,f,g)
theorem zC4:Ag Tryz.prog 155 qG:=by
 refine Au Ai (GOk.cons Ln (AA Tryz.func84 rfl rfl) (GOk.cons RQ (AA Tryz.func153 rfl rfl) GOk.nil)) Ah Tryz.func155 rfl Tryz.ntmps155 Tryz.results155 5 ?_;rintro⟨n,f,g⟩ hn;replace hn:n<=1000000:=hn;refine⟨by simp,?_⟩;simp[go_sem];refine⟨fun p h=>by have:=h.1;omega,fun p=>?_⟩;refine B2 (fun k:Nat=>⟨[(0,true,.m false [.s .b 2 n (ptrsT f g)]),(3,true,.i k)],[]⟩) (fun k=>n - k) (fun k=>k<=n/\∀i,i<k->Fy (f i) (g i)/\∀j,j<i->f j≠f i) 0 (by simp[go_sem]) (by simp) ?_;rintro k ⟨u,e⟩;simp[go_sem,Aj (show k<=1000000000 by omega),LL,Qw];refine⟨fun c=>?_,fun c=>⟨by omega,fun i hi=>(e i (by omega)).1,fun i hi=>(e i (by omega)).2⟩⟩;refine⟨c,fun _ _=>c,fun h l=>?_,fun q r o=>?_⟩
 ·have:=(l.2.1 k c);unfold Fy at this;unfold DN at h;omega
 refine B2 (fun j:Nat=>⟨[(0,true,.m false [.s .b 2 n (ptrsT f g)]),(3,true,.i k),(4,true,.i j)],[]⟩) (fun j=>k - j) (fun j=>j<=k/\∀i,i<j->f i≠f k) 0 (by simp[go_sem]) (by simp) ?_;rintro j ⟨t,a⟩;simp[go_sem,Aj (show j<=1000000000 by omega),Aj (show k<=1000000000 by omega)];exact⟨fun d=>⟨by omega,c,by kernel_rfl,fun h l=>l.2.2 k c j d h,fun h=>⟨j+1,⟨by omega,Bf d a h⟩,by omega,rfl⟩⟩,fun d=>⟨k+1,⟨by omega,Bf c e ⟨by unfold Fy;unfold DN at o;omega,fun i hi=>a i (by omega)⟩⟩,by omega,rfl⟩⟩
def qJ:AH:=AR (fun q:(Nat×(Nat->Int)×(Nat->Int))×Nat×(Nat->Int)×(Nat->Int)=>[psT q.1.1 q.1.2.1 q.1.2.2,psT q.2.1 q.2.2.1 q.2.2.2]) (fun q=>q.1.1<=1000000/\q.2.1<=1000000) (fun q=>bR (FZ q.1.1 q.1.2.1 q.1.2.2 q.2.1 q.2.2.1 q.2.2.2))
theorem zEn(n:Nat)(f g:Nat->Int)(a:Nat)(f' g':Nat->Int):qJ [psT n f g,psT a f' g']=some (n<=1000000/\a<=1000000,bR (FZ n f g a f' g')):=Aa (fun l=>(Jw (nth l 0 0),Jw (nth l 1 0))) (fun _=>rfl) ((n,f,g),a,f',g')
theorem zBk:Ag Tryz.prog 119 qJ:=by
 refine Au Ai (GOk.cons zC4 (AA Tryz.func155 rfl rfl) (GOk.cons O7 (AA Tryz.func118 rfl rfl) GOk.nil)) Ah Tryz.func119 rfl Tryz.ntmps119 Tryz.results119 6 ?_;rintro⟨⟨n,f,g⟩,j,f',g'⟩ ⟨hn,a⟩;replace hn:n<=1000000:=hn;replace a:j<=1000000:=a;refine⟨by simp,?_⟩;simp[go_sem,zEk,hn,a];refine⟨fun h c=>?_,fun l o p=>?_⟩
 ·have:=c.2.2.1;rcases h with(h | h) | h
  ·exact h c.1
  ·exact h c.2.1
  ·omega
 refine B2 (fun k:Nat=>⟨[(0,true,.m false [.s .b 2 n (ptrsT f g)]),(1,true,.m false [.s .b 2 j (ptrsT f' g')]),(5,true,.i k)],[]⟩) (fun k=>n - k) (fun k=>k<=n/\∀i,i<k->PIn j f' g' (f i) (g i)) 0 (by simp[go_sem]) (by simp) ?_;rintro k ⟨q,d⟩;simp[go_sem,Aj (show k<=1000000000 by omega),NA,a];exact⟨fun e=>⟨e,fun h c=>h (c.2.2.2 k e),fun h=>⟨k+1,⟨by omega,Bf e d h⟩,by omega,rfl⟩⟩,fun e=>⟨l,o,by omega,fun i hi=>d i (by omega)⟩⟩
set_option maxRecDepth 20000
set_option maxHeartbeats 1600000
theorem Kg(h:NB W)(x:Int):El W x=AB W x:=by
 by_cases a:x=0
 ·rw[show El W x=CQ from if_pos a,Jp fun k b e=>by have:=h k b;omega]
 ·exact if_neg a
variable{l:List (Int×Int)}{i:Nat}
theorem LC:(l[i]?.getD (0,0)).1=AI l i:=by simp[AI,List.getD_eq_getElem?_getD]
theorem Rv:(l[i]?.getD (0,0)).2=AK l i:=by simp[AK,List.getD_eq_getElem?_getD]
theorem Rq{x y:Int}:PIn l.length (fun i=>AI l i) (fun i=>AK l i) x y↔(x,y)∈l:=FG
variable{fl:Fl}
theorem Qu:(Tr.s fl k n (Cy encP (0,0) l)).lend = .s .b k n (ptrsT (fun i=>AI l i) (fun i=>AK l i)):=by
 rw[BV];simp only[LC,Rv]
theorem N4:Cy encP (0,0) l i 0 = .v (.int .i64 (AI l i)):=by rw[<-LC];rfl
theorem N5:Cy encP (0,0) l i 1 = .v (.int .i64 (AK l i)):=by rw[<-Rv];rfl
theorem Yx{p q:Prop} [h:Decidable q]:dB p=decide q↔(p↔q):=by
 by_cases a:p<;>by_cases b:q<;>simp[dB,a,b]
attribute [-go_sem] BV
attribute [local go_sem] Qu N4 N5
structure EJ (W:A4):Prop where
 right:AX W.pool
 AP:Ct W
 A0:∀k,k<W.pn->An W.pool (W.A0 k).rs (W.A0 k).rb
theorem EJ.ids(h:EJ W):NB W:=fun k a=>(h.AP.Cu.ids k a).1
theorem EJ.pn(h:EJ W):W.pn<=1000000:=by have:=h.AP.2.2.2.1;omega
def Su:AH:=AR (fun q:(A4×Int)×(Int×Int)×Int=>[woT q.1.1,iT q.1.2,pT q.2.1.1 q.2.1.2,iT q.2.2]) (fun q=>EJ q.1.1/\An q.1.1.pool q.2.1.1 q.2.1.2) (fun q=>bR (Gu (AE q.1.1.pool q.2.1.1 q.2.1.2) (AE q.1.1.pool (AB q.1.1 q.1.2).rs (AB q.1.1 q.1.2).rb) (AB q.1.1 q.1.2).time q.2.2))
theorem XG(W:A4)(x a b t:Int):Su [woT W,iT x,pT a b,iT t]=some (EJ W/\An W.pool a b,bR (Gu (AE W.pool a b) (AE W.pool (AB W x).rs (AB W x).rb) (AB W x).time t)):=Aa (fun l=>((BW (nth l 0),AO (nth l 1 0)),(AO (nth l 2 0),AO (nth l 2 1)),AO (nth l 3 0))) (fun _=>rfl) ((W,x),(a,b),t)
theorem zCI:Ag Tryz.prog 120 Su:=by
 refine Au Ai (GOk.cons Ks (AA Tryz.func26 rfl rfl) (GOk.cons Ix (AA Tryz.func33 rfl rfl) (GOk.cons O7 (AA Tryz.func118 rfl rfl) GOk.nil))) Ah Tryz.func120 rfl Tryz.ntmps120 Tryz.results120 14 ?_;rintro⟨⟨W,x⟩,⟨a,b⟩,t⟩ ⟨p,r⟩;replace p:EJ W:=p;replace r:An W.pool a b:=r;have A:=KK p.A0 x;refine⟨by simp,?_⟩;have C:=Kg p.ids x;simp[go_sem,Jm,I6,p.pn,C,A,r,p.right];obtain⟨c,f⟩:∃l,l=AE W.pool a b:=⟨_,rfl⟩;obtain⟨d,n⟩:∃l,l=AE W.pool (AB W x).rs (AB W x).rb:=⟨_,rfl⟩;have F:c.length<=100:=by have:=D7 W.pool a b;rw[f];omega
 have lo:d.length<=100:=by have:=D7 W.pool (AB W x).rs (AB W x).rb;rw[n];omega
 rw[<-f,<-n];obtain⟨τ,hτ⟩:∃τ,τ = (AB W x).time:=⟨_,rfl⟩;rw[<-hτ];refine B2 (fun k:Nat=>⟨[(12,true,.m false [.h 8]),(11,true,.m false [.h 7]),(10,true,.m false [.v (.int .i64 τ)]),(3,true,.m false [.v (.int .i64 t)]),(13,true,.i k)],[(8,.row 2 c.length (ptL c)),(7,.row 2 d.length (ptL d))]⟩) (fun k=>c.length - k) (fun k=>k<=c.length/\Zh c d τ t k) 0 (by simp[go_sem]) ⟨Nat.zero_le _,fun j B=>absurd B (Nat.not_lt_zero _)⟩ ?_;rintro k ⟨E,q⟩;simp[go_sem,NA,Aj (show k<=1000000000 by omega),Rq,show d.length<=1000000 by omega];have s:Gu c d τ t->AK c k<=t/\((AI c k,AK c k)∈d↔AK c k<=τ)\/¬k<c.length:=fun h=>by
  by_cases o:k<c.length
  ·exact .inl ((T7 c d τ t).2 h k o)
  ·exact .inr o
 refine⟨fun o=>⟨o,fun _=>o,by kernel_rfl,fun h z=>?_,fun w y=>⟨k+1,⟨by omega,fun i hi=>?_⟩,by omega,rfl⟩⟩,fun o=>?_⟩
 ·rcases s z with⟨D,u⟩ | g
  ·exact h.elim (fun h=>by omega) (fun h=>h (Yx.2 u))
  ·exact g o
 ·by_cases e:i=k
  ·subst e;exact⟨w,Yx.1 y⟩
  ·exact q i (by omega)
 ·cases (show k=c.length by omega);exact(T7 c d τ t).1 q
def Ze:AH:=AR (fun q:(A4×Int)×(Int×Int)×Nat×(Nat->Int)×(Nat->Int)=>[woT q.1.1,iT q.1.2,pT q.2.1.1 q.2.1.2,psT q.2.2.1 q.2.2.2.1 q.2.2.2.2]) (fun q=>(EJ q.1.1/\An q.1.1.pool q.2.1.1 q.2.1.2)/\q.2.2.1<=1000000) (fun q=>bR (ES q.2.2.1 q.2.2.2.1 q.2.2.2.2 (BN (AE q.1.1.pool (AB q.1.1 q.1.2).rs (AB q.1.1 q.1.2).rb) (AE q.1.1.pool q.2.1.1 q.2.1.2))))
theorem Tp(W:A4)(x a b:Int)(n:Nat)(f g:Nat->Int):Ze [woT W,iT x,pT a b,psT n f g]=some ((EJ W/\An W.pool a b)/\n<=1000000,bR (ES n f g (BN (AE W.pool (AB W x).rs (AB W x).rb) (AE W.pool a b)))):=Aa (fun l=>((BW (nth l 0),AO (nth l 1 0)),(AO (nth l 2 0),AO (nth l 2 1)),Jw (nth l 3 0))) (fun _=>rfl) ((W,x),(a,b),n,f,g)
theorem zA4:Ag Tryz.prog 61 Ze:=by
 refine Au Ai (GOk.cons Ks (AA Tryz.func26 rfl rfl) (GOk.cons Ix (AA Tryz.func33 rfl rfl) (GOk.cons O7 (AA Tryz.func118 rfl rfl) (GOk.cons zBk (AA Tryz.func119 rfl rfl) GOk.nil)))) Ah Tryz.func61 rfl Tryz.ntmps61 Tryz.results61 15 ?_;rintro⟨⟨W,x⟩,⟨a,b⟩,n,f,g⟩ ⟨⟨o,q⟩,hn⟩;replace o:EJ W:=o;replace q:An W.pool a b:=q;replace hn:n<=1000000:=hn;have t:=KK o.A0 x;refine⟨by simp,?_⟩;have u:=Kg o.ids x;simp[go_sem,Jm,I6,o.pn,u,t,q,o.right];obtain⟨d,e⟩:∃l,l=AE W.pool a b:=⟨_,rfl⟩;obtain⟨c,j⟩:∃l,l=AE W.pool (AB W x).rs (AB W x).rb:=⟨_,rfl⟩;have w:d.length<=100:=by have:=D7 W.pool a b;rw[e];omega
 have lo:c.length<=100:=by have:=D7 W.pool (AB W x).rs (AB W x).rb;rw[j];omega
 rw[<-e,<-j];refine B2 (fun k:Nat=>⟨[(14,true,.i k),(13,true,.m false [.h 9]),(12,true,.m false [.h 8]),(11,true,.m false [.h 7]),(3,true,.m false [.s .b 2 n (ptrsT f g)])],[(9,.row 2 (BN (c.take k) d).length (ptL (BN (c.take k) d))),(8,.row 2 d.length (ptL d)),(7,.row 2 c.length (ptL c))]⟩) (fun k=>c.length - k) (fun k=>k<=c.length) 0 (by simp[go_sem];exact LV rfl) (Nat.zero_le _) ?_;rintro k v;have r:=UK c d k;simp[go_sem,NA,zEn,Aj (show k<=1000000000 by omega),Rq,show d.length<=1000000 by omega,hn];refine⟨fun p=>⟨p,fun h=>⟨p,by omega,k+1,by omega,by omega,rfl,?_⟩,fun h=>⟨k+1,by omega,by omega,rfl,?_⟩⟩,fun p=>?_⟩
 ·refine GZ Hu ?_;rw[QG p h]
 ·rw[Pe p h];exact TrE.refl _
 ·cases (show k=c.length by omega);rw[List.take_length];rw[List.take_length]at r;exact⟨by omega,Iff.rfl⟩
def Yu:AH:=AR (fun W:A4=>[woT W]) (fun W=>EJ W/\∀k,k<W.sn->An W.pool (W.A2 k).rs (W.A2 k).rb) (fun W=>bR (∀i,i<memN W->ER W i))
theorem zQ(W:A4):Yu [woT W]=some (EJ W/\∀k,k<W.sn->An W.pool (W.A2 k).rs (W.A2 k).rb,bR (∀i,i<memN W->ER W i)):=Aa (fun l=>BW (nth l 0)) (fun _=>rfl) W
theorem zA3:Ag Tryz.prog 64 Yu:=by
 refine Au Ai (GOk.cons zCI (AA Tryz.func120 rfl rfl) GOk.nil) Ah Tryz.func64 rfl Tryz.ntmps64 Tryz.results64 5 ?_;rintro W ⟨c,l⟩;replace c:EJ W:=c;have o:W.sn<=8:=c.AP.2.2.1;have j:W.pn<=20:=c.AP.2.2.2.1;refine⟨by simp,?_⟩;simp[go_sem];refine B2 (fun k:Nat=>⟨[(1,true,.m false [.p 1 0]),(3,true,.i k)],[(1,.var ((woL W).map Tr.cv))]⟩) (fun k=>W.pn - k) (fun k=>k<=W.pn/\∀i,i<k->ER W i) 0 (by simp[go_sem]) (by simp) ?_;rintro k ⟨n,f⟩;simp[go_sem,XG,c,Aj (show k<=1000000000 by omega)];refine⟨fun a=>?_,fun a=>?_⟩
 ·have e:A6 W k=Js (W.A0 k):=B9 a;have d:ER W k↔Gu (AE W.pool (W.A0 k).rs (W.A0 k).rb) (AE W.pool (AB W (W.A0 k).A5).rs (AB W (W.A0 k).A5).rb) (AB W (W.A0 k).A5).time (W.A0 k).time:=by
   unfold ER;rw[e];exact Iff.rfl
  refine⟨a,c.A0 k a,by kernel_rfl,fun h=>⟨k,by unfold memN;omega,fun g=>h (d.1 g)⟩,fun h=>⟨k+1,⟨by omega,Bf a f (d.2 h)⟩,by omega,rfl⟩⟩
 cases (show k=W.pn by omega);refine B2 (fun k:Nat=>⟨[(1,true,.m false [.p 1 0]),(4,true,.i k)],[(1,.var ((woL W).map Tr.cv))]⟩) (fun k=>W.sn - k) (fun k=>k<=W.sn/\∀i,i<W.pn+k->ER W i) 0 (by simp[go_sem]) ⟨Nat.zero_le _,f⟩ ?_;rintro k ⟨n,b⟩;simp[go_sem,XG,c,Aj (show k<=1000000000 by omega)];refine⟨fun a=>?_,fun a i hi=>b i (by unfold memN at hi;omega)⟩;have e:A6 W (W.pn+k)=MW W.time (W.A2 k):=By W k;have d:ER W (W.pn+k)↔Gu (AE W.pool (W.A2 k).rs (W.A2 k).rb) (AE W.pool (AB W (W.A2 k).A5).rs (AB W (W.A2 k).A5).rb) (AB W (W.A2 k).A5).time W.time:=by
  unfold ER;rw[e];exact Iff.rfl
 refine⟨a,l k a,by kernel_rfl,fun h=>⟨W.pn+k,by unfold memN;omega,fun g=>h (d.1 g)⟩,fun h=>⟨k+1,⟨by omega,fun i hi=>?_⟩,by omega,rfl⟩⟩;by_cases e:i=W.pn+k
 ·subst e;exact d.2 h
 ·exact b i (by omega)
set_option maxRecDepth 20000
set_option maxHeartbeats 1600000
def D5(h:Nat->Bool):Nat->Nat->Tr:=fun i _=>.v (.bool (h i))
variable{h:Nat->Bool}
theorem yU{j:Nat}:D5 h i j = .v (.bool (h i)):=rfl
theorem zA7:(Tr.s fl k n (D5 h)).lend = .s .b k n (D5 h):=rfl
theorem zAY:(Tr.s .o 1 n (D5 h)).kept:=⟨by simp,fun i j _ _=>trivial⟩
theorem Vs{F:Nat->Nat->Tr}(hF:∀i j,i<n->j<1->F i j = .v (.bool (h i))):TrE (.s fl 1 n F) (.s fl 1 n (D5 h)):=F5 fun i j hi a=>hF i j hi a
variable{f:Nat->Bool}
theorem Jf(hF:∀i,i<n->f i=h i):TrE (.s fl 1 n (D5 f)) (.s fl 1 n (D5 h)):=F5 fun i j hi a=>congrArg (fun b=>Tr.v (.bool b)) (hF i hi)
theorem Vt(hF:∀i,i<n->h i=if i=k then true else f i):TrE (.s fl 1 n (AZ (D5 f) k 0 [.v (.bool true)])) (.s fl 1 n (D5 h)):=F5 fun i j hi a=>by
 cases (show j=0 by omega);rw[show D5 h i 0 = .v (.bool (h i))from rfl,hF i hi];by_cases e:i=k
 ·subst e;simp[AZ]
 ·simp[AZ,e,D5]
theorem Yy{p q:Prop}:dB p=dB q↔(p↔q):=by
 by_cases a:p<;>by_cases b:q<;>simp[dB,a,b]
attribute [go_sem] BV
attribute [-go_sem] BV
attribute [go_sem] yU zA7
structure IQ (W:A4):Prop extends EJ W where
 A2:∀k,k<W.sn->An W.pool (W.A2 k).rs (W.A2 k).rb
theorem IQ.trees(h:IQ W):Db W:=Lj h.right h.AP h.A0 h.A2
structure KG (W:A4):Prop where
 tr:Db W
 sn:W.sn<=8
 pn:W.pn<=20
theorem IQ.reach(h:IQ W):KG W:=⟨h.trees,h.AP.2.2.1,h.AP.2.2.2.1⟩
def Ij(W:A4)(s:Nat):Bool:=dB (JR W s)
def P9:AH:=AR (fun W:A4=>[woT W]) (fun W=>KG W) (fun W=>[(false,[.s .o 1 W.pool.n (D5 (Ij W))])])
theorem VY(W:A4):P9 [woT W]=some (KG W,[(false,[.s .o 1 W.pool.n (D5 (Ij W))])]):=Aa (fun l=>BW (nth l 0)) (fun _=>rfl) W
def JB(W:A4)(k:Nat)(l:List (Int×Int))(j s:Nat):Bool:=dB (Zk W k l j s)
theorem Y1:Ag Tryz.prog 32 P9:=by
 refine Au Ai (GOk.cons Ix (AA Tryz.func33 rfl rfl) GOk.nil) Ah Tryz.func32 rfl Tryz.ntmps32 Tryz.results32 10 ?_;intro W c;replace c:KG W:=c;have C:W.sn<=8:=c.sn;have y:W.pn<=20:=c.pn;have hn:W.pool.n<=200:=c.tr.right.1;refine⟨by simp,?_⟩;simp[go_sem];refine⟨by omega,?_⟩;refine B2 (fun k:Nat=>⟨[(1,true,.m false [.p 1 0]),(3,true,.m false [.h 7]),(4,true,.m false [.h 8]),(5,true,.i k)],[(8,.row 2 (F4 W k).length (ptL (F4 W k))),(7,.row 1 W.pool.n (D5 fun _=>false)),(1,.var ((woL W).map Tr.cv))]⟩) (fun k=>W.sn - k) (fun k=>k<=W.sn) 0 ?_ (Nat.zero_le _) ?_
 ·simp[go_sem];refine⟨LV rfl,Vs fun i j _ B=>?_⟩;cases (show j=0 by omega);rfl
 intro k w;have o:=OU W k;simp[go_sem,Aj (show k<=1000000000 by omega)];refine⟨fun g=>?_,fun g=>?_⟩
 ·refine⟨g,by omega,k+1,by omega,by omega,rfl,GZ Hu ?_⟩;rw[Y7,Ko g]
 cases (show k=W.sn by omega);refine B2 (fun k:Nat=>⟨[(1,true,.m false [.p 1 0]),(3,true,.m false [.h 7]),(4,true,.m false [.h 8]),(6,true,.i k)],[(8,.row 2 (F4 W (W.sn+k)).length (ptL (F4 W (W.sn+k)))),(7,.row 1 W.pool.n (D5 fun _=>false)),(1,.var ((woL W).map Tr.cv))]⟩) (fun k=>W.pn - k) (fun k=>k<=W.pn) 0 (by simp[go_sem]) (Nat.zero_le _) ?_;intro k w;have o:=OU W (W.sn+k);simp[go_sem,Aj (show k<=1000000000 by omega)];refine⟨fun g=>?_,fun g=>?_⟩
 ·refine⟨g,by omega,k+1,by omega,by omega,rfl,GZ Hu ?_⟩;rw[<-Nat.add_assoc,Y7,L0]
 cases (show k=W.pn by omega);obtain⟨R,r⟩:∃R,R=F4 W (W.sn+W.pn):=⟨_,rfl⟩;rw[<-r];have t:R.length=W.sn+W.pn:=by rw[r];exact OU _ _
 refine B2 (fun k:Nat=>⟨[(1,true,.m false [.p 1 0]),(3,true,.m false [.h 7]),(4,true,.m false [.h 8]),(7,true,.i k)],[(8,.row 2 R.length (ptL R)),(7,.row 1 W.pool.n (D5 (JB W k [] 0))),(1,.var ((woL W).map Tr.cv))]⟩) (fun k=>R.length - k) (fun k=>k<=R.length) 0 ?_ (Nat.zero_le _) ?_
 ·simp[go_sem];refine Jf fun i _=>?_
  symm;rw[JB,P2];rintro(⟨i,hi,_⟩ | ⟨q,f,_⟩)
  ·omega
  ·omega
 intro k w;simp[go_sem,Aj (show k<=1000000000 by omega),I6,c.tr.right];refine⟨fun e=>?_,fun e=>?_⟩
 ·have d:k<W.sn+W.pn:=(by omega);have z:AI R k=(Cq W k).1:=(by rw[r];exact(Vl d).1);have A:AK R k=(Cq W k).2:=(by rw[r];exact(Vl d).2);have v:An W.pool (Cq W k).1 (Cq W k).2:=zFI c.tr d;rw[z,A];refine⟨e,v,by kernel_rfl,?_⟩;obtain⟨l,a⟩:∃l,l=AE W.pool (Cq W k).1 (Cq W k).2:=⟨_,rfl⟩;have D:l.length<=100:=(by have:=D7 W.pool (Cq W k).1 (Cq W k).2;rw[a];omega);rw[<-a];refine B2 (fun j:Nat=>⟨[(9,true,.i j),(8,true,.m false [.h 60]),(1,true,.m false [.p 1 0]),(3,true,.m false [.h 7]),(4,true,.m false [.h 8]),(7,true,.i k)],[(60,.row 2 l.length (ptL l)),(8,.row 2 R.length (ptL R)),(7,.row 1 W.pool.n (D5 (JB W k l j))),(1,.var ((woL W).map Tr.cv))]⟩) (fun j=>l.length - j) (fun j=>j<=l.length) 0 ?_ (Nat.zero_le _) ?_
  ·simp[go_sem];refine Jf fun i _=>?_
   rw[JB,JB,Yy];exact⟨fun h=>h.elim Or.inl fun ⟨q,f,_⟩=>by omega,fun h=>h.elim Or.inl fun ⟨q,f,_⟩=>by omega⟩
  intro j B;simp[go_sem,Aj (show j<=1000000000 by omega),Aj (show k<=1000000000 by omega)];have x:LP W k l j (JB W k l j):=fun s=>Ew
  refine⟨fun b=>?_,fun b=>⟨k+1,e,by omega,rfl,?_⟩⟩
  ·obtain⟨q,f,u⟩:=Q6 c.tr.right v (j:=j) (by rw[<-a];exact b);rw[<-a]at f;rw[f];refine⟨b,⟨by omega,by omega⟩,by simpa using u,j+1,b,by omega,rfl,Vt fun i _=>?_⟩;exact Bool.eq_iff_iff.2 (Ew.trans (zAG x f i).symm)
  ·cases (show j=l.length by omega);refine Jf fun i _=>?_
   exact Bool.eq_iff_iff.2 ((zAH x a i).trans Ew.symm)
 ·cases (show k=R.length by omega);refine⟨Jf fun i _=>?_,zAY⟩;rw[JB,Ij,Yy,X8,t];exact⟨fun h=>h.elim id fun ⟨q,f,_⟩=>by omega,Or.inl⟩
end
end Go.Proofs.YtnfjcaoclahfjaaGreatDoor
