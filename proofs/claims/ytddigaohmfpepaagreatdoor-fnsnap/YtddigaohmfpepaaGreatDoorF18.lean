/- A part of the proof. -/
import Derived.Test.YtddigaohmfpepaaGreatDoorF17
set_option linter.unusedVariables false
set_option maxRecDepth 20000
set_option maxHeartbeats 4000000
namespace Go.Proofs.YtddigaohmfpepaaGreatDoor
noncomputable section
open Go.RowKit
set_option linter.unusedSimpArgs false
set_option maxRecDepth 20000
set_option maxHeartbeats 1600000
theorem zAm{f g:Nat->Int}:kidsUp f g 8 = []↔Df f g:=by
 rw[<-List.length_eq_zero_iff,<-Classical.not_not (a:=Df f g),<-zGG,<-OP];omega
variable{p:A7}{x y:Int}{n:Nat}
theorem zHX{xs xb:Int}:Ej (Ao p xs xb n 0 x) (n / 8) y=Ao p xs xb n 0 y:=by
 funext i;unfold Ej Ao;show(if i=n / 8 then y else if i=n / 8 then x else _)=if i=n / 8 then y else _
 by_cases h:i=n / 8<;>simp[h]
theorem zHY{xs xb:Int}:Ej (Am p xs xb n 0 x) (n / 8) y=Am p xs xb n 0 y:=by
 funext i;unfold Ej Am;show(if i=n / 8 then y else if i=n / 8 then x else _)=if i=n / 8 then y else _
 by_cases h:i=n / 8<;>simp[h]
theorem KX{f:Nat->AH}:∀{n j:Nat},j<n->Ah (f j)->∃i,Ba n f i
 | 0,j,h,_=>absurd h (Nat.not_lt_zero _)
 | n+1,j,h,hf=>by
  by_cases c:∃k,k<n/\Ah (f k)
  ·obtain⟨k,b,a⟩:=c;obtain⟨i,l,d,g⟩:=KX b a;exact⟨i,by omega,d,g⟩
  ·have:j=n:=Classical.byContradiction fun e=>c ⟨j,by omega,hf⟩
   subst this;exact⟨j,h,hf,fun k b a=>c ⟨k,b,a⟩⟩
attribute [local go_sem] QU Bd PL QG R2
def mTT:AL:=AY (fun q:(A7×Int×Int)×Int×Int=>[poT q.1.1.n q.1.1.s q.1.1.hn q.1.1.h,pT q.1.2.1 q.1.2.2,iT q.2.1,iT q.2.2]) (fun q=>q.1.1.n<=1000000/\q.1.1.hn<=1000000) (fun q=>[toR (FW q.1.1 q.1.2.1 q.1.2.2 q.2.1 q.2.2)])
theorem zID(p:A7)(xs xb AM:Int)(b:Int):mTT [poT p.n p.s p.hn p.h,pT xs xb,iT AM,iT b]=some (p.n<=1000000/\p.hn<=1000000,[toR (FW p xs xb AM b)]):=Ag (fun l=>((Cw (nth l 0 0) (nth l 0 1),AS (nth l 1 0),AS (nth l 1 1)),AS (nth l 2 0),AS (nth l 3 0))) (fun _=>rfl) ((p,xs,xb),AM,b)
theorem zBt:An Tryz.prog 146 mTT:=by
 refine B6 Al (GOk.cons OQ (AE Tryz.func70 rfl rfl) (GOk.cons Z1 (AE Tryz.func179 rfl rfl) (GOk.cons YF (AE Tryz.func180 rfl rfl) (GOk.cons Ys (AE Tryz.func181 rfl rfl) (GOk.cons YG (AE Tryz.func182 rfl rfl) (GOk.cons RK (AE Tryz.func183 rfl rfl) (GOk.cons Ta (AE Tryz.func186 rfl rfl) (GOk.cons zAt (AE Tryz.func184 rfl rfl) (GOk.cons Ks (AE Tryz.func85 rfl rfl) (GOk.ptrK yT (AE Tryz.func185 rfl rfl) GOk.nil)))))))))) Ak Tryz.func146 rfl Tryz.ntmps146 Tryz.results146 22 ?_;rintro⟨⟨p,xs,xb⟩,AM,b⟩ ⟨hn,x⟩;replace hn:p.n<=1000000:=hn;replace x:p.hn<=1000000:=x;refine⟨by simp,?_⟩;by_cases o:EY AM;rotate_left
 ·have A:(0<=AM/\AM<=63)↔False:=⟨o,False.elim⟩;simp[go_sem,NT,Nj,OU,A,hn,x];refine⟨fun h=>h,fun h=>?_,fun c l=>?_⟩
  ·rw[Vt fun e=>h.elim (· e.1) (· e.2)];exact⟨rfl,rfl,rfl,rfl,rfl,rfl⟩
  ·rw[zA8 ⟨c,l⟩ o];exact⟨rfl,rfl,rfl,rfl,rfl,rfl⟩
 obtain⟨n,rfl⟩:=Int.eq_ofNat_of_zero_le o.1;have a:n<64:=by have:=o.2;omega
 have F:((n:Int) % 8).toNat=n % 8:=by omega
 have y:((n:Int) / 8).toNat=n / 8:=by omega
 simp[go_sem,NT,Nj,OU,Lm,Ut,Zh,QY,Us,zEr,G9,hn,x,N4 a,Mf,F,y,qQ,qS,qP,qR,zAm];refine⟨fun h=>h,fun h=>?_,fun c l=>⟨fun h=>absurd h (by omega),fun _=>?_⟩⟩
 ·rw[Vt fun e=>h.elim (· e.1) (· e.2)];exact⟨rfl,rfl,rfl,rfl,rfl,rfl⟩
 refine⟨⟨c,a⟩,fun g h=>?_,fun C=>⟨fun i hi=>by have:=Ul c.1 i hi;omega,LY c (by omega),by omega,by omega,Nb c,by omega,by omega,fun w=>?_,fun w=>?_⟩⟩
 ·rw[zEL ⟨c,l⟩ o ⟨g,h⟩];exact⟨rfl,rfl,rfl,rfl,rfl,rfl⟩
 ·rw[UJ ⟨c,l⟩ o fun e=>C e.1 e.2,Int.toNat_natCast];refine⟨by omega,by omega,?_⟩;simp only[zHX,zHY];by_cases E:∃i,Ba p.n p.s i
  ·obtain⟨i,hi⟩:=E;have H:tk1 p ⟨b,8,Ao p xs xb n 1 0,Am p xs xb n 1 0,⟨#[]⟩⟩=(Au p i (Bc (Ao p xs xb n 1 0) (Am p xs xb n 1 0) b),(i:Int),b,true):=Gz hi;have z:C5 p (Bc (Ao p xs xb n 1 0) (Am p xs xb n 1 0) b):=Jg c a (by omega) l (fun s t h=>h) (Or.inl ⟨rfl,rfl⟩);have r:=zIg c a l w hi;have D:AZ (Au p i (Bc (Ao p xs xb n 1 0) (Am p xs xb n 1 0) b)):=OK c.1 hi z;have hF:C5 (Au p i (Bc (Ao p xs xb n 1 0) (Am p xs xb n 1 0) b)) (Bc (Ao p xs xb n 0 (i:Int)) (Am p xs xb n 0 b) b):=Jg c a (by omega) l (fun s t h=>MI hi.2.1 h) (Or.inr ⟨MG hi l.1.1,Int.le_refl _⟩);simp only[H];refine⟨fun k=>?_,fun k _=>⟨fun h=>by simp at h,fun _=>?_⟩⟩
   ·replace k:¬Df (Ao p xs xb n 0 (i:Int)) (Am p xs xb n 0 b):=k.resolve_right (by simp);refine⟨hn,fun h=>?_,fun _ h=>?_⟩
    ·rw[Vu r k D hF fun j d m=>?_]
     ·exact⟨rfl,rfl,rfl,rfl,rfl,rfl⟩
     ·obtain⟨G,q⟩:=KX (f:=(Au p i (Bc (Ao p xs xb n 1 0) (Am p xs xb n 1 0) b)).s) d m;rw[show tk1 _ _=_ from Gz q]at h;simp at h
    ·by_cases v:∃j,Ba p.n (Au p i (Bc (Ao p xs xb n 1 0) (Am p xs xb n 1 0) b)).s j
     ·obtain⟨j,d⟩:=v;have B:tk1 (Au p i (Bc (Ao p xs xb n 1 0) (Am p xs xb n 1 0) b)) ⟨b,8,Ao p xs xb n 0 (i:Int),Am p xs xb n 0 b,⟨#[]⟩⟩=(Au (Au p i (Bc (Ao p xs xb n 1 0) (Am p xs xb n 1 0) b)) j (Bc (Ao p xs xb n 0 (i:Int)) (Am p xs xb n 0 b) b),(j:Int),b,true):=Gz d;simp only[B];rw[UK r k D hF d];exact⟨by kernel_rfl,⟨TrE.refl _,Bo⟩,⟨TrE.refl _,Bz⟩,rfl,rfl,⟨TrE.refl _,GZ⟩,rfl⟩
     ·rw[N5 (p:=Au p i (Bc (Ao p xs xb n 1 0) (Am p xs xb n 1 0) b)) fun j d m=>v (KX d m)]at h;simp at h
   ·rw[UI r k];exact⟨by kernel_rfl,⟨TrE.refl _,Bo⟩,⟨TrE.refl _,Bz⟩,rfl,rfl,⟨TrE.refl _,GZ⟩,rfl⟩
  ·have u:∀j,j<p.n->¬Ah (p.s j):=fun j d m=>E (KX d m)
   simp only[N5 u];rw[zF9 c a l w u];exact⟨fun _=>⟨hn,fun _=>⟨rfl,rfl,rfl,rfl,rfl,rfl⟩,fun h=>by simp at h⟩,fun _ h=>by simp at h⟩
 ·rw[UJ ⟨c,l⟩ o fun e=>C e.1 e.2,Int.toNat_natCast];have r:=zIf (xs:=xs) (xb:=xb) (b:=b) w;have hF:C5 p (Bc (Ao p xs xb n 0 0) (Am p xs xb n 0 0) b):=Jg c a (by omega) l (fun s t h=>h) (Or.inl ⟨rfl,rfl⟩);refine⟨fun k=>⟨fun h=>?_,fun h=>?_⟩,fun k=>?_⟩
  ·rw[Vu r k c.1 hF fun j d m=>?_]
   ·exact⟨rfl,rfl,rfl,rfl,rfl,rfl⟩
   ·obtain⟨G,q⟩:=KX d m;rw[Gz q]at h;simp at h
  ·by_cases v:∃j,Ba p.n p.s j
   ·obtain⟨j,d⟩:=v;have B:tk1 p ⟨b,8,Ao p xs xb n 0 0,Am p xs xb n 0 0,⟨#[]⟩⟩=(Au p j (Bc (Ao p xs xb n 0 0) (Am p xs xb n 0 0) b),(j:Int),b,true):=Gz d;simp only[B];rw[UK r k c.1 hF d];exact⟨by kernel_rfl,⟨TrE.refl _,Bo⟩,⟨TrE.refl _,Bz⟩,rfl,rfl,⟨TrE.refl _,GZ⟩,rfl⟩
   ·rw[N5 fun j d m=>v (KX d m)]at h;simp at h
  ·rw[UI r k];exact⟨by kernel_rfl,⟨TrE.refl _,Bo⟩,⟨TrE.refl _,Bz⟩,rfl,rfl,⟨TrE.refl _,GZ⟩,rfl⟩
set_option maxRecDepth 20000
set_option maxHeartbeats 1600000
theorem zHD{P:Program}{f:Nat}{a b:AL}(h:An P f a)(i:An P f b):An P f (orSp a b):=by
 intro w e c rs d g;unfold orSp at d;split at d
 ·rename_i r hr
  cases d;exact h w e c rs hr g
 ·exact i w e c rs d g
def TD:AL:=AY (fun q:Nat×(Nat->AH)=>[(true,[.s .b 3 q.1 (Aw .b q.2),.v n0])]) (fun q=>q.1<=1000000/\(0:Nat)<=1000000) (fun q=>bR (AZ {n:=q.1,s:=q.2,hn:=0,h:=fun _=>0}))
def Ps:AL:=orSp PO TD
theorem zDz:An Tryz.prog 37 TD:=Om.upk (κ:=Nat) fun q=>⟨_,OI {n:=q.1,s:=q.2,hn:=0,h:=fun _=>0},.cons ⟨rfl,.cons (TrE.refl _) (.cons ⟨rfl,rfl⟩ .nil)⟩ .nil⟩
theorem zE0:An Tryz.prog 37 Ps:=zHD Om zDz
theorem zB2(p:A7):Ps [poT p.n p.s p.hn p.h]=some (p.n<=1000000/\p.hn<=1000000,bR (AZ p)):=qI (OI p)
theorem zBY(n:Nat)(s:Nat->AH):Ps [(true,[.s .b 3 n (Aw .b s),.v n0])]=some (n<=1000000/\(0:Nat)<=1000000,bR (AZ {n:=n,s:=s,hn:=0,h:=fun _=>0})):=by
 refine qJ (VU fun x h=>by simp at h) (Ag (fun l=>(DN (nth l 0 0),fun i=>KA (Bp (nth l 0 0) i 0) (Bp (nth l 0 0) i 1) (Bp (nth l 0 0) i 2))) (fun _=>rfl) (n,s))
variable{h:Nat->Int}
theorem zw:AZ {n:=p.n,s:=p.s,hn:=0,h:=h}↔AZ {n:=p.n,s:=p.s,hn:=0,h:=p.h}:=
 ⟨fun x=>⟨x.1,x.2.1,fun i hi=>absurd hi (Nat.not_lt_zero _)⟩,fun x=>⟨x.1,x.2.1,fun i hi=>absurd hi (Nat.not_lt_zero _)⟩⟩
theorem zA3{fl:Fl}(p:A7)(k:Nat):TrE (.s fl 3 p.n (Ae (Aw .z p.s) k 0 [.v (.int .i64 0),.v n0,.v (.string ⟨#[]⟩)])) (.s fl 3 p.n (Aw .z (Au p k EW).s)):=by
 refine⟨.inl rfl,rfl,rfl,fun i j hi a=>?_⟩;by_cases h:i=k
 ·subst h
  match j,a with
  | 0,_=>exact TrE.of_eq (by simp[Ae,Aw,Au,EW])
  | 1,_=>simp[Ae,Aw,Au,EW,TrE]
  | 2,_=>exact TrE.of_eq (by simp[Ae,Aw,Au,EW])
 ·match j,a with
  | 0,_=>exact TrE.of_eq (by simp[Ae,Aw,Au,h])
  | 1,_=>exact TrE.of_eq (by simp[Ae,Aw,Au,h])
  | 2,_=>exact TrE.of_eq (by simp[Ae,Aw,Au,h])
def yM:AL:=AY (fun p:A7=>[poT p.n p.s p.hn p.h]) (fun p=>p.n<=1000000/\p.hn<=1000000/\∀i,i<p.n->(p.s i).kn<=1000000) (fun p=>[poO (IP p)])
theorem zEs(p:A7):yM [poT p.n p.s p.hn p.h]=some (p.n<=1000000/\p.hn<=1000000/\∀i,i<p.n->(p.s i).kn<=1000000,[poO (IP p)]):=Ag (fun l=>Cw (nth l 0 0) (nth l 0 1)) (fun _=>rfl) p
theorem zBp:An Tryz.prog 104 yM:=by
 refine B6 Al (GOk.cons OQ (AE Tryz.func70 rfl rfl) (GOk.cons zE0 (AE Tryz.func37 rfl rfl) GOk.nil)) Ak Tryz.func104 rfl Tryz.ntmps104 Tryz.results104 5 ?_;rintro p ⟨hn,c,f⟩;replace hn:p.n<=1000000:=hn;replace c:p.hn<=1000000:=c;refine⟨by simp,?_⟩;simp[go_sem,Lm,zB2,hn,c];refine⟨f,fun a=>?_,fun a=>?_⟩
 ·rw[PU fun h=>a h.1];exact⟨⟨TrE.refl _,Bo⟩,TrE.refl _,Bz⟩
 refine BF (fun k:Nat=>⟨[(4,true,.i k),(3,true,.m false [.p 3 0]),(2,true,.m false [.p 2 0]),(1,true,.m false [.p 1 0])],[(3,.var [.h 7,.h 8]),(7,.row 3 p.n (Aw .z (Dx p k).s)),(8,.row 1 p.hn (BH p.h)),(2,.var [.v n0,.v n0]),(1,.var [.s .b 3 p.n (Aw .b p.s),.s .b 1 p.hn (BH p.h)])]⟩) (fun k=>p.hn - k) (fun k=>k<=p.hn) 0 ?_ (by simp) ?_
 ·rw[zAb];simp[go_sem]
 rintro k l;simp[go_sem,Ar (show k<=1000000000 by omega),zBY,Lm,hn,c];refine⟨fun d=>?_,fun d=>?_⟩
 ·obtain⟨g,j,-,-⟩:=a.2.2 k d;refine⟨d,⟨g,j⟩,by omega,by kernel_rfl,k+1,by omega,by omega,by omega,?_⟩;rw[zAa (m:=(p.h k).toNat) (by omega)];exact zA3 (Dx p k) _
 ·cases (show k=p.hn by omega);have o:AZ {n:=p.n,s:=(Dx p p.hn).s,hn:=0,h:=fun x=>0}↔AZ (Gn p):=zw (p:=Dx p p.hn);rw[o];refine⟨fun h=>?_,fun h=>?_⟩
  ·rw[PU fun e=>h e.2];exact⟨f,⟨TrE.refl _,Bo⟩,TrE.refl _,Bz⟩
  ·rw[UG a h];exact⟨⟨TrE.refl _,Bo⟩,rfl⟩
set_option maxRecDepth 20000
set_option maxHeartbeats 1600000
def setsE(fl:Fl)(s:Nat->Ab):Nat->Nat->Tr:=fun i c=>match c with
 | 0=>.v (.string (s i).name)
 | 1=>.v (.int .i64 (s i).origin)
 | 2=>.v (.int .i64 (s i).A8)
 | 3=>.v (.int .i64 (s i).rs)
 | 4=>.v (.int .i64 (s i).rb)
 | 5=>.s fl 2 (s i).dn (ptrsT (s i).ds (s i).db)
 | _=>.v (.bool false)
def snapsE(fl:Fl)(s:Nat->Aa):Nat->Nat->Tr:=fun i c=>match c with
 | 0=>.v (.int .i64 (s i).id)
 | 1=>.v (.string (s i).name)
 | 2=>.v (.string (s i).set)
 | 3=>.v (.int .i64 (s i).A8)
 | 4=>.v (.int .i64 (s i).time)
 | 5=>.v (.int .i64 (s i).rs)
 | 6=>.v (.int .i64 (s i).rb)
 | 7=>.s fl 2 (s i).dn (ptrsT (s i).ds (s i).db)
 | _=>.v (.bool false)
section
variable {fl fl' : Fl} {s : Nat -> Ab} {t : Nat -> Aa} {i k n : Nat}
theorem SX:setsE fl s i 0 = .v (.string (s i).name):=rfl
theorem SY:setsE fl s i 1 = .v (.int .i64 (s i).origin):=rfl
theorem SZ:setsE fl s i 2 = .v (.int .i64 (s i).A8):=rfl
theorem Sa:setsE fl s i 3 = .v (.int .i64 (s i).rs):=rfl
theorem Sb:setsE fl s i 4 = .v (.int .i64 (s i).rb):=rfl
theorem Sc:setsE fl s i 5 = .s fl 2 (s i).dn (ptrsT (s i).ds (s i).db):=rfl
theorem U4:snapsE fl t i 0 = .v (.int .i64 (t i).id):=rfl
theorem U5:snapsE fl t i 1 = .v (.string (t i).name):=rfl
theorem U6:snapsE fl t i 2 = .v (.string (t i).set):=rfl
theorem U7:snapsE fl t i 3 = .v (.int .i64 (t i).A8):=rfl
theorem U8:snapsE fl t i 4 = .v (.int .i64 (t i).time):=rfl
theorem U9:snapsE fl t i 5 = .v (.int .i64 (t i).rs):=rfl
theorem UA:snapsE fl t i 6 = .v (.int .i64 (t i).rb):=rfl
theorem UB:snapsE fl t i 7 = .s fl 2 (t i).dn (ptrsT (t i).ds (t i).db):=rfl
theorem VL:(Tr.s fl k n (setsE fl' s)).CY = .s .b k n (setsE .b s):=by
 simp only[Tr.CY];congr 1;funext i c
 match c with
 | 0 | 1 | 2 | 3 | 4=>rfl
 | 5=>exact M5
 | c+6=>rfl
theorem YJ:(Tr.s fl k n (snapsE fl' t)).CY = .s .b k n (snapsE .b t):=by
 simp only[Tr.CY];congr 1;funext i c
 match c with
 | 0 | 1 | 2 | 3 | 4 | 5 | 6=>rfl
 | 7=>exact M5
 | c+8=>rfl
end
abbrev woL(W:A6):List Tr:=[.s .b 3 W.pool.n (Aw .b W.pool.s),.s .b 1 W.pool.hn (BH W.pool.h),.v (.int .i64 W.time),.v (.int .i64 W.next),.s .b 6 W.sn (setsE .b W.A2),.s .b 8 W.pn (snapsE .b W.A3)]
abbrev woT(W:A6):Bool×List Tr:=(true,woL W)
abbrev woO(W:A6):Bool×List Tr:=(true,[.s .o 3 W.pool.n (Aw .z W.pool.s),.s .o 1 W.pool.hn (BH W.pool.h),.v (.int .i64 W.time),.v (.int .i64 W.next),.s .o 6 W.sn (setsE .o W.A2),.s .o 8 W.pn (snapsE .z W.A3)])
def zHi(f:Nat->Tr):Ab:=⟨CO (f 0),AS (f 1),AS (f 2),AS (f 3),AS (f 4),DN (f 5),fun i=>AS (Bp (f 5) i 0),fun i=>AS (Bp (f 5) i 1)⟩
def zGm(f:Nat->Tr):Aa:=⟨AS (f 0),CO (f 1),CO (f 2),AS (f 3),AS (f 4),AS (f 5),AS (f 6),DN (f 7),fun i=>AS (Bp (f 7) i 0),fun i=>AS (Bp (f 7) i 1)⟩
def C2(f:Nat->Tr):A6:=⟨Cw (f 0) (f 1),AS (f 2),AS (f 3),DN (f 4),fun i=>zHi (Bp (f 4) i),DN (f 5),fun i=>zGm (Bp (f 5) i)⟩
attribute [go_sem] SX SY SZ Sa Sb Sc U4 U5 U6 U7 U8 U9 UA UB VL YJ
def BO(n:Nat)(P:Nat->Prop):Int:=@dite _ (∃k,k<n/\P k/\∀j,j<k->¬P j) (Classical.propDecidable _) (fun h=>(h.choose:Int)) (fun _=>-1)
variable{P:Nat->Prop}
theorem I2{k:Nat}(h:k<n)(b:P k)(c:∀j,j<k->¬P j):BO n P=k:=by
 have a:∃k,k<n/\P k/\∀j,j<k->¬P j:=⟨k,h,b,c⟩;unfold BO;rw[dif_pos a];obtain⟨-,d,f⟩:=a.choose_spec;rcases Nat.lt_trichotomy a.choose k with e | e | e
 ·exact absurd d (c _ e)
 ·exact congrArg _ e
 ·exact absurd b (f _ e)
theorem Pf(h:∀k,k<n->¬P k):BO n P = -1:=dif_neg fun ⟨k,h1,h2,_⟩=>h k h1 h2
theorem Hd(n:Nat)(P:Nat->Prop):Q6 n P (BO n P):=by
 by_cases d:∃k,k<n/\P k/\∀j,j<k->¬P j
 ·obtain⟨k,h,a,b⟩:=d;exact .inl ⟨k,h,a,b,I2 h a b⟩
 ·have hn:∀m,m<=n->∀j,j<m->¬P j:=fun m=>by
   induction m with
   | zero=>intro _ j f;omega
   | succ m ih=>
    intro g j f c;by_cases e:j<m
    ·exact ih (by omega) j e c
    ·cases (show j=m by omega);exact d ⟨m,by omega,c,ih (by omega)⟩
  exact .inr ⟨hn n (Nat.le_refl _),Pf (hn n (Nat.le_refl _))⟩
def yJ:AL:=AY (fun q:A6×Int=>[woT q.1,iT q.2]) (fun q=>q.1.pn<=1000000) (fun q=>[iT (BO q.1.pn fun k=>(q.1.A3 k).id=q.2)])
theorem Ex(W:A6)(x:Int):yJ [woT W,iT x]=some (W.pn<=1000000,[iT (BO W.pn fun k=>(W.A3 k).id=x)]):=Ag (fun l=>(C2 (nth l 0),AS (nth l 1 0))) (fun _=>rfl) (W,x)
theorem J6:An Tryz.prog 31 yJ:=by
 refine B6 Al GOk.nil Ak Tryz.func31 rfl Tryz.ntmps31 Tryz.results31 6 ?_;rintro⟨W,x⟩ hn;replace hn:W.pn<=1000000:=hn;refine⟨by simp,?_⟩;simp[go_sem];refine BF (fun k:Nat=>⟨[(2,true,.m false [.p 2 0]),(1,true,.i x),(5,true,.i k)],[(2,.var ((woL W).map Tr.cv))]⟩) (fun k=>W.pn - k) (fun k=>k<=W.pn/\∀i,i<k->(W.A3 i).id≠x) 0 (by simp[go_sem]) (by simp) ?_;rintro k ⟨c,a⟩;simp[go_sem,Ar (show k<=1000000000 by omega)];refine⟨fun b=>⟨b,fun h=>(I2 b h a).symm,fun h=>⟨k+1,⟨by omega,Br b a h⟩,by omega,rfl⟩⟩,fun b=>(Pf fun i hi=>a i (by omega)).symm⟩
def yw:AL:=AY (fun q:A6×ByteArray=>[woT q.1,sT q.2]) (fun q=>q.1.sn<=1000000) (fun q=>[iT (BO q.1.sn fun k=>(q.1.A2 k).name=q.2)])
theorem Cb(W:A6)(x:ByteArray):yw [woT W,sT x]=some (W.sn<=1000000,[iT (BO W.sn fun k=>(W.A2 k).name=x)]):=Ag (fun l=>(C2 (nth l 0),CO (nth l 1 0))) (fun _=>rfl) (W,x)
theorem IA:An Tryz.prog 28 yw:=by
 refine B6 Al GOk.nil Ak Tryz.func28 rfl Tryz.ntmps28 Tryz.results28 6 ?_;rintro⟨W,x⟩ hn;replace hn:W.sn<=1000000:=hn;refine⟨by simp,?_⟩;simp[go_sem];refine BF (fun k:Nat=>⟨[(2,true,.m false [.p 2 0]),(1,true,.m false [.v (.string x)]),(5,true,.i k)],[(2,.var ((woL W).map Tr.cv))]⟩) (fun k=>W.sn - k) (fun k=>k<=W.sn/\∀i,i<k->(W.A2 i).name≠x) 0 (by simp[go_sem]) (by simp) ?_;rintro k ⟨c,a⟩;simp[go_sem,Ar (show k<=1000000000 by omega)];refine⟨fun b=>⟨b,fun h=>(I2 b (G7 h) a).symm,fun h=>⟨k+1,⟨by omega,Br b a fun e=>h (congrArg ByteArray.toList e)⟩,by omega,rfl⟩⟩,fun b=>(Pf fun i hi=>a i (by omega)).symm⟩
def Er(W:A6)(x:Int):Aa:=@ite _ (x=0) (Int.instDecidableEq x 0) DL (AI W x)
def Zr:AL:=AY (fun q:A6×Int=>[woT q.1,iT q.2]) (fun q=>q.1.pn<=1000000) (fun q=>[pT (Er q.1 q.2).rs (Er q.1 q.2).rb,iT (Er q.1 q.2).time])
theorem Jj(W:A6)(x:Int):Zr [woT W,iT x]=some (W.pn<=1000000,[pT (Er W x).rs (Er W x).rb,iT (Er W x).time]):=Ag (fun l=>(C2 (nth l 0),AS (nth l 1 0))) (fun _=>rfl) (W,x)
theorem Kx:An Tryz.prog 88 Zr:=by
 refine B6 Al (GOk.cons J6 (AE Tryz.func31 rfl rfl) GOk.nil) Ak Tryz.func88 rfl Tryz.ntmps88 Tryz.results88 7 ?_;rintro⟨W,x⟩ hn;replace hn:W.pn<=1000000:=hn;refine⟨by simp,?_⟩;simp[go_sem,Ex,hn];obtain⟨k,b,c,d,e⟩ | ⟨b,c⟩:=Hd W.pn fun k=>(W.A3 k).id=x
 ·rw[e];have f:AI W x=W.A3 k:=DW ⟨b,c,d⟩;refine⟨fun h=>?_,fun a _=>⟨⟨by omega,by omega⟩,by kernel_rfl,?_⟩⟩
  ·have a:x=0:=(by omega);rw[show Er W x=DL from if_pos a];exact⟨⟨rfl,rfl⟩,rfl⟩
  ·rw[show Er W x=AI W x from if_neg a,f];exact⟨⟨rfl,rfl⟩,rfl⟩
 ·rw[c];refine⟨fun _=>?_,fun _ h=>absurd h (by decide)⟩;by_cases a:x=0
  ·rw[show Er W x=DL from if_pos a];exact⟨⟨rfl,rfl⟩,rfl⟩
  ·rw[show Er W x=AI W x from if_neg a,RB b];exact⟨⟨rfl,rfl⟩,rfl⟩
def nwW(x:Int):A6:=if 0<=x/\x<=200 then⟨Cs x.toNat,1,1,0,fun _=>⟨⟨#[]⟩,0,0,0,0,0,fun _=>0,fun _=>0⟩,0,fun _=>DL⟩else⟨Cs 0,0,0,0,fun _=>⟨⟨#[]⟩,0,0,0,0,0,fun _=>0,fun _=>0⟩,0,fun _=>DL⟩
def yQ:AL:=AY (fun x:Int=>[iT x]) (fun _=>True) (fun x=>[woO (nwW x)])
theorem zEu(x:Int):yQ [iT x]=some (True,[woO (nwW x)]):=Ag (fun l=>AS (nth l 0 0)) (fun _=>rfl) x
theorem zBu:An Tryz.prog 48 yQ:=by
 refine B6 Al (GOk.cons Lx (AE Tryz.func84 rfl rfl) (GOk.cons zBH (AE Tryz.func95 rfl rfl) GOk.nil)) Ak Tryz.func48 rfl Tryz.ntmps48 Tryz.results48 4 ?_;rintro x -;refine⟨by simp,?_⟩;simp[go_sem,LU,zFE];refine⟨fun h=>?_,fun a b=>?_⟩
 ·rw[show nwW x=_ from if_neg fun e=>absurd (h e.1) (by omega)];exact⟨rfl,rfl,rfl,rfl,rfl,rfl⟩
 ·rw[show nwW x=_ from if_pos ⟨a,b⟩,show GN x=x.toNat from if_pos ⟨a,b⟩];exact⟨⟨TrE.refl _,Bo⟩,⟨TrE.refl _,Bz⟩,rfl,rfl,rfl,rfl⟩
section
variable {w : World} {g : Nat -> Bs} {fl : Fl}
variable{u:Value}
theorem Lu{k:Nat}{f:Nat->Nat->Tr}(hs:Sh w g (.s fl k n f) u):∃a c,u = .slice a n c/\n<=c/\(0<n->∃b o,a=some ⟨b,o,none⟩/\0<=b/\b<w.heap.size/\∀i,i<n->∀j,j<k->∃u,w.cell? ⟨b,o+i*k+j,none⟩=some u/\Sh w g (f i j) u):=by
 obtain⟨a,c,rfl,m,q⟩:=hs;refine⟨a,c,rfl,m,fun e=>?_⟩;obtain⟨b,o,h,l,-,d⟩:=q e;refine⟨b,o,h,Nat.zero_le _,l,fun i hi j p=>?_⟩;rw[Nat.add_assoc];exact d i j hi p
theorem zGe(hs:Sh w g (.s fl 1 n (BH h)) u)(hn:n<=maxLen):DA w 0 w.heap.size u n h:=by
 obtain⟨a,c,rfl,p,q⟩:=Lu hs;refine⟨hn,a,c,rfl,p,fun j=>?_⟩;obtain⟨b,o,m,k,l,d⟩:=q j;refine⟨b,o,m,k,l,fun i hi=>?_⟩;obtain⟨u,f,e⟩:=d i hi 0 (by omega);rw[Nat.mul_one,Nat.add_zero]at f;rw[f,e.1]
variable{f:Nat->Int}
theorem Q4(hs:Sh w g (.s fl 2 n (ptrsT f h)) u)(hn:n<=maxLen):BG w 0 w.heap.size u n f h:=by
 obtain⟨a,c,rfl,t,v⟩:=Lu hs;refine⟨hn,a,c,rfl,t,fun m=>?_⟩;obtain⟨b,o,r,p,q,d⟩:=v m;refine⟨b,o,r,p,q,fun i hi=>?_⟩;obtain⟨u,k,e⟩:=d i hi 0 (by omega);obtain⟨x,j,l⟩:=d i hi 1 (by omega);rw[Nat.add_zero]at k;exact⟨by rw[k,e.1],by rw[j,l.1]⟩
theorem zEU{s:Nat->AH}(hs:Sh w g (.s fl 3 n (Aw fl s)) u)(hn:n<=maxLen)(j:∀i,i<n->(s i).kn<=maxLen/\(s i).data.size<=maxLen):CL w 0 w.heap.size u n s:=by
 obtain⟨a,c,rfl,v,x⟩:=Lu hs;refine⟨hn,a,c,rfl,v,fun p=>?_⟩;obtain⟨b,o,t,q,r,d⟩:=x p;refine⟨b,o,t,q,r,fun i hi=>?_⟩;obtain⟨u,k,e⟩:=d i hi 0 (by omega);obtain⟨y,f,l⟩:=d i hi 1 (by omega);obtain⟨u2,h,m⟩:=d i hi 2 (by omega);rw[Nat.add_zero]at k;exact⟨u,y,u2,k,f,h,e.1,Q4 l (j i hi).1,m.1,(j i hi).2⟩
theorem zGf{s:Nat->Ab}(hs:Sh w g (.s fl 6 n (setsE fl s)) u)(hn:n<=maxLen)(m:∀i,i<n->(s i).dn<=maxLen/\(s i).name.size<=maxLen):EJ w 0 w.heap.size u n s:=by
 obtain⟨a,c,rfl,B,C⟩:=Lu hs;refine⟨hn,a,c,rfl,B,fun x=>?_⟩;obtain⟨b,o,A,y,z,d⟩:=C x;refine⟨b,o,A,y,z,fun i hi=>?_⟩;obtain⟨E,e,e0⟩:=d i hi 0 (by omega);obtain⟨F,f,p⟩:=d i hi 1 (by omega);obtain⟨u2,h,q⟩:=d i hi 2 (by omega);obtain⟨u3,j,r⟩:=d i hi 3 (by omega);obtain⟨u4,k,t⟩:=d i hi 4 (by omega);obtain⟨D,l,v⟩:=d i hi 5 (by omega);rw[Nat.add_zero]at e;exact⟨D,by rw[e,e0.1],by rw[f,p.1],by rw[h,q.1],by rw[j,r.1],by rw[k,t.1],l,Q4 v (m i hi).1,(m i hi).2⟩
theorem zEV{s:Nat->Aa}(hs:Sh w g (.s fl 8 n (snapsE fl s)) u)(hn:n<=maxLen)(q:∀i,i<n->(s i).dn<=maxLen/\(s i).name.size<=maxLen/\(s i).set.size<=maxLen):EE w 0 w.heap.size u n s:=by
 obtain⟨a,c,rfl,F,G⟩:=Lu hs;refine⟨hn,a,c,rfl,F,fun B=>?_⟩;obtain⟨b,o,E,C,D,d⟩:=G B;refine⟨b,o,E,C,D,fun i hi=>?_⟩;obtain⟨I,e,e0⟩:=d i hi 0 (by omega);obtain⟨J,f,r⟩:=d i hi 1 (by omega);obtain⟨u2,h,t⟩:=d i hi 2 (by omega);obtain⟨u3,j,v⟩:=d i hi 3 (by omega);obtain⟨u4,k,x⟩:=d i hi 4 (by omega);obtain⟨K,l,y⟩:=d i hi 5 (by omega);obtain⟨L,m,z⟩:=d i hi 6 (by omega);obtain⟨H,p,A⟩:=d i hi 7 (by omega);rw[Nat.add_zero]at e;exact⟨H,by rw[e,e0.1],by rw[f,r.1],by rw[h,t.1],by rw[j,v.1],by rw[k,x.1],by rw[l,y.1],by rw[m,z.1],p,Q4 A (q i hi).1,(q i hi).2⟩
end
def IK(w:World)(g:Nat->Bs)(lo:Nat):Prop:=∀b,lo<=b->b<w.heap.size->g b = .fz none
section
variable {w : World} {g : Nat -> Bs} {lo hi : Nat}
variable{b:Nat}
theorem IK.ok(h:IK w g lo){e:Nat}(a:lo<=b)(c:b<w.heap.size):(g b).ok .z e:=by
 rw[h b a c];exact .inr fun l e=>by cases e
variable{v:Value}
theorem Lk{j:Nat}(h:w.cell? ⟨b,j,none⟩=some v):b<w.heap.size:=AV h
variable{f:Nat->Int}
theorem zHA(m:IK w g lo)(h:DA w lo hi v n f):Sh w g (.s .z 1 n (BH f)) v:=by
 obtain⟨q,a,cap,rfl,l,p⟩:=h;refine⟨a,cap,rfl,l,fun hn=>?_⟩;obtain⟨b,o,k,e,r,c⟩:=p hn;have d:=Lk (c 0 hn);refine⟨b,o,k,d,m.ok e d,fun i j hi t=>?_⟩;cases (show j=0 by omega);exact⟨_,by rw[Nat.mul_one,Nat.add_zero];exact c i hi,rfl,rfl⟩
theorem Q0(p:IK w g lo){f':Nat->Int}(h:BG w lo hi v n f f'):Sh w g (.s .z 2 n (ptrsT f f')) v:=by
 obtain⟨r,a,cap,rfl,l,q⟩:=h;refine⟨a,cap,rfl,l,fun hn=>?_⟩;obtain⟨b,o,k,e,t,c⟩:=q hn;have d:=Lk (c 0 hn).1;refine⟨b,o,k,d,p.ok e d,fun i j hi m=>?_⟩
 match j,m with
 | 0,_=>exact⟨_,(c i hi).1,rfl,rfl⟩
 | 1,_=>exact⟨_,(c i hi).2,rfl,rfl⟩
theorem zFg(e:IK w g lo){f:Nat->AH}(h:CL w lo hi v n f):Sh w g (.s .z 3 n (Aw .z f)) v:=by
 obtain⟨y,a,cap,rfl,r,u⟩:=h;refine⟨a,cap,rfl,r,fun hn=>?_⟩;obtain⟨b,o,q,p,A,c⟩:=u hn;have d:b<w.heap.size:=by obtain⟨_,_,_,h,_⟩:=c 0 hn;exact Lk h
 refine⟨b,o,q,d,e.ok p d,fun i j hi t=>?_⟩;obtain⟨B,v1,C,c0,c1,k,e0,l,m,x⟩:=c i hi
 match j,t with
 | 0,_=>exact⟨_,c0,e0,rfl⟩
 | 1,_=>exact⟨_,c1,Q0 e l⟩
 | 2,_=>exact⟨_,k,m,rfl⟩
theorem zHB(e:IK w g lo){f:Nat->Ab}(h:EJ w lo hi v n f):Sh w g (.s .z 6 n (setsE .z f)) v:=by
 obtain⟨r,a,cap,rfl,m,q⟩:=h;refine⟨a,cap,rfl,m,fun hn=>?_⟩;obtain⟨b,o,l,k,t,c⟩:=q hn;have d:b<w.heap.size:=by obtain⟨_,h⟩:=c 0 hn;exact Lk h.c0
 refine⟨b,o,l,d,e.ok k d,fun i j hi p=>?_⟩;obtain⟨vd,h⟩:=c i hi
 match j,p with
 | 0,_=>exact⟨_,h.c0,rfl,rfl⟩
 | 1,_=>exact⟨_,h.c1,rfl,rfl⟩
 | 2,_=>exact⟨_,h.c2,rfl,rfl⟩
 | 3,_=>exact⟨_,h.c3,rfl,rfl⟩
 | 4,_=>exact⟨_,h.c4,rfl,rfl⟩
 | 5,_=>exact⟨_,h.c5,Q0 e h.dead⟩
theorem zFh(e:IK w g lo){f:Nat->Aa}(h:EE w lo hi v n f):Sh w g (.s .z 8 n (snapsE .z f)) v:=by
 obtain⟨r,a,cap,rfl,m,q⟩:=h;refine⟨a,cap,rfl,m,fun hn=>?_⟩;obtain⟨b,o,l,k,t,c⟩:=q hn;have d:b<w.heap.size:=by obtain⟨_,h⟩:=c 0 hn;exact Lk h.c0
 refine⟨b,o,l,d,e.ok k d,fun i j hi p=>?_⟩;obtain⟨vd,h⟩:=c i hi
 match j,p with
 | 0,_=>exact⟨_,h.c0,rfl,rfl⟩
 | 1,_=>exact⟨_,h.c1,rfl,rfl⟩
 | 2,_=>exact⟨_,h.c2,rfl,rfl⟩
 | 3,_=>exact⟨_,h.c3,rfl,rfl⟩
 | 4,_=>exact⟨_,h.c4,rfl,rfl⟩
 | 5,_=>exact⟨_,h.c5,rfl,rfl⟩
 | 6,_=>exact⟨_,h.c6,rfl,rfl⟩
 | 7,_=>exact⟨_,h.c7,Q0 e h.dead⟩
end
set_option linter.unusedSimpArgs false
set_option maxRecDepth 20000
set_option maxHeartbeats 1600000
variable{W:A6}
theorem JM:(BO W.pn fun k=>(W.A3 k).id=x)<0↔¬CK W x:=by
 rcases Y6 (Hd W.pn fun k=>(W.A3 k).id=x)with⟨h,a,-⟩ | ⟨h,a⟩
 ·exact⟨fun e=>absurd e (by omega),fun e=>absurd h e⟩
 ·rw[a];exact⟨fun _=>h,fun _=>by decide⟩
theorem Gp:(0<=BO W.pn fun k=>(W.A3 k).id=x)↔CK W x:=by
 rw[<-Int.not_lt,JM,Classical.not_not]
variable{x:ByteArray}
theorem E9:(BO W.sn fun k=>(W.A2 k).name=x)<0↔¬BL W x:=by
 rcases zg (Hd W.sn fun k=>(W.A2 k).name=x)with⟨h,a⟩ | ⟨h,a⟩
 ·exact⟨fun e=>absurd e (by omega),fun e=>absurd h e⟩
 ·rw[a];exact⟨fun _=>h,fun _=>by decide⟩
theorem Cn:(0<=BO W.sn fun k=>(W.A2 k).name=x)↔BL W x:=by
 rw[<-Int.not_lt,E9,Classical.not_not]
variable{k:Nat}
theorem yX(h:k<=1000000000):IntKind.i64.wrap ((k:Int) - 1)=(k:Int) - 1:=by
 unfold IntKind.wrap;simp[IntKind.signed,IntKind.bits];omega
theorem tn1:((k:Int) - 1).toNat=k - 1:=by omega
attribute [go_sem] QU Bd PL QG R2 SX SY SZ Sa Sb Sc U4 U5 U6 U7 U8 U9 UA UB VL YJ
def qw:AL:=AY (fun s:ByteArray=>[sT s]) (fun _=>True) (fun s=>bR (BX s))
theorem I4(s:ByteArray):qw [sT s]=some (True,bR (BX s)):=Ag (fun l=>CO (nth l 0 0)) (fun _=>rfl) s
theorem Oy:An Tryz.prog 27 qw:=by
 refine B6 Al GOk.nil Ak Tryz.func27 rfl Tryz.ntmps27 Tryz.results27 5 ?_;rintro s -;refine⟨by simp,?_⟩;simp[go_sem];refine⟨fun h=>?_,fun r t=>?_⟩
 ·exact fun d=>by have r:=d.1;have t:=d.2.1;omega
 refine BF (fun k:Nat=>⟨[(0,true,.m false [.v (.string s)]),(3,true,.i k)],[]⟩) (fun k=>s.size - k) (fun k=>k<=s.size/\∀j,(h:j<k)->(q:j<s.size)->Dq j (s[j].toNat:Int)) 0 (by simp[go_sem]) (by simp) ?_;rintro k ⟨u,f⟩;simp[go_sem,Ar (show k<=1000000000 by omega)];refine⟨fun g=>?_,fun g=>⟨by omega,by omega,fun j o=>f j (by omega) o⟩⟩;have e:s[k]?.getD 0=s[k]:=by simp[g]
 rw[e];obtain⟨c,l⟩:∃c:Int,c=(s[k].toNat:Int):=⟨_,rfl⟩;have p:BX s->Dq k c:=fun d=>l▸d.2.2 k g
 have hn:Dq k c->∀j,(h:j<k+1)->(q:j<s.size)->Dq j (s[j].toNat:Int):=fun h j o n=>by
  by_cases e:j=k
  ·subst e;rw[<-l];exact h
  ·exact f j (by omega) n
 rw[<-l];unfold Dq at p;refine⟨g,fun a b c=>⟨⟨a,b⟩,c⟩,fun a b c=>⟨⟨a,b⟩,c⟩,fun a b=>⟨a,b⟩,fun a b d=>?_,fun h=>⟨k+1,⟨by omega,hn ?_⟩,by omega,rfl⟩⟩
 ·have:=p d;omega
 ·unfold Dq;omega
def qA:AL:=AY (fun W:A6=>[woT W]) (fun W=>W.sn<=1000000/\W.pn<=1000000) (fun W=>bR (DD W))
theorem zDc(W:A6):qA [woT W]=some (W.sn<=1000000/\W.pn<=1000000,bR (DD W)):=Ag (fun l=>C2 (nth l 0)) (fun _=>rfl) W
theorem zBU:An Tryz.prog 38 qA:=by
 refine B6 Al (GOk.cons Lx (AE Tryz.func84 rfl rfl) (GOk.cons IA (AE Tryz.func28 rfl rfl) (GOk.cons J6 (AE Tryz.func31 rfl rfl) (GOk.cons Oy (AE Tryz.func27 rfl rfl) GOk.nil)))) Ak Tryz.func38 rfl Tryz.ntmps38 Tryz.results38 8 ?_;rintro W ⟨hn,y⟩;refine⟨by simp,?_⟩;simp[go_sem,LU];refine⟨fun h a=>?_,fun z A B C c1 P=>?_⟩
 ·obtain⟨q,r,F,G,-⟩:=a;unfold Jb at q r;omega
 refine BF (fun k:Nat=>⟨[(1,true,.m false [.p 1 0]),(3,true,.i k)],[(1,.var ((woL W).map Tr.cv))]⟩) (fun k=>W.sn - k) (fun k=>k<=W.sn/\∀i,i<k->GJ W i) 0 (by simp[go_sem]) (by simp) ?_;rintro k ⟨I,n⟩;simp[go_sem,Ar (show k<=1000000000 by omega),I4,Ex,Cb,y,hn,JM,Gp,E9,Cn,yX (show k<=1000000000 by omega),tn1];refine⟨fun c=>?_,fun c=>?_⟩
 ·have f:DD W->GJ W k:=fun a=>a.2.2.2.2.1 k c
  have t:GJ W k->∃o:Nat,(o<=W.sn/\∀i,i<o->GJ W i)/\W.sn - o<W.sn - k/\(k:Int)+1=(o:Int):=fun h=>⟨k+1,⟨by omega,Br c n h⟩,by omega,rfl⟩
  obtain⟨Q,u⟩:∃Q,Q=GJ W k:=⟨_,rfl⟩;rw[<-u]at f t;unfold GJ Cd at u;refine⟨c,fun _ _=>⟨by omega,by omega⟩,?_,?_,?_,?_,?_,by kernel_rfl,fun h a=>?_,fun q r F G=>t ?_⟩
  ·grind
  ·grind
  ·grind
  ·grind
  ·grind
  ·have:=f a
   grind
  ·grind
 cases (show k=W.sn by omega);refine BF (fun k:Nat=>⟨[(1,true,.m false [.p 1 0]),(5,true,.i k)],[(1,.var ((woL W).map Tr.cv))]⟩) (fun k=>W.pn - k) (fun k=>k<=W.pn/\∀i,i<k->KJ W i) 0 (by simp[go_sem]) (by simp) ?_;rintro k ⟨I,d⟩;simp[go_sem,Ar (show k<=1000000000 by omega),I4,Ex,Cb,y,hn,JM,Gp,E9,Cn,yX (show k<=1000000000 by omega),tn1];refine⟨fun c=>?_,fun c=>⟨⟨z,A⟩,⟨B,C⟩,by omega,by omega,n,fun i hi=>d i (by omega)⟩⟩;have f:DD W->KJ W k:=fun a=>a.2.2.2.2.2 k c
 refine⟨c,fun h a=>?_,fun s1 s2 s3 M N O=>⟨fun _=>⟨by omega,by omega⟩,fun _ _=>⟨by omega,by omega⟩,?_,?_,?_,?_,by kernel_rfl,fun h a=>?_,fun J K=>?_⟩⟩
 ·obtain⟨q1,L,R,S,T,U⟩:=(f a).1
  grind
 ·grind
 ·grind
 ·grind
 ·grind
 ·obtain⟨q1,L⟩:=(f a).2.1
  grind
 have H:LJ W k:=⟨J,K⟩;refine BF (fun j:Nat=>⟨[(1,true,.m false [.p 1 0]),(5,true,.i k),(6,true,.m false [.p 6 0]),(7,true,.i j)],[(6,.var [.v (.int .i64 (W.A3 k).id),.v (.string (W.A3 k).name),.v (.string (W.A3 k).set),.v (.int .i64 (W.A3 k).A8),.v (.int .i64 (W.A3 k).time),.v (.int .i64 (W.A3 k).rs),.v (.int .i64 (W.A3 k).rb),.s .b 2 (W.A3 k).dn (ptrsT (W.A3 k).ds (W.A3 k).db)]),(1,.var ((woL W).map Tr.cv))]⟩) (fun j=>k - j) (fun j=>j<=k/\LK W k j) 0 (by simp[go_sem]) ⟨Nat.zero_le _,fun j x=>absurd x (Nat.not_lt_zero _)⟩ ?_;rintro j ⟨x,w⟩;simp[go_sem,Ar (show j<=1000000000 by omega),Ar (show k<=1000000000 by omega)];refine⟨fun l=>⟨by omega,fun _=>by omega,by kernel_rfl,fun D E a=>(f a).2.2 j l ⟨G7 D,G7 E⟩,fun g=>⟨j+1,⟨by omega,fun i hi=>?_⟩,by omega,rfl⟩⟩,fun l=>⟨k+1,⟨by omega,Br c d ⟨⟨s1,s2,s3,M,N,O⟩,H,fun i hi=>w i (by omega)⟩⟩,by omega,rfl⟩⟩;by_cases e:i=j
 ·subst e;exact fun h=>g (congrArg ByteArray.toList h.1) (congrArg ByteArray.toList h.2)
 ·exact w i (by omega)
set_option maxRecDepth 20000
set_option maxHeartbeats 1600000
def Lf(W:A6)(i:Nat):Prop:=FA W (W.A2 i).name (W.A2 i).A8 (W.A2 i).origin
def T1:AL:=AY (fun W:A6=>[woT W]) (fun W=>DD W) (fun W=>bR (∀i,i<W.sn->Lf W i))
theorem zB0(W:A6):T1 [woT W]=some (DD W,bR (∀i,i<W.sn->Lf W i)):=Ag (fun l=>C2 (nth l 0)) (fun _=>rfl) W
theorem zCJ:An Tryz.prog 39 T1:=by
 refine B6 Al (GOk.cons J6 (AE Tryz.func31 rfl rfl) GOk.nil) Ak Tryz.func39 rfl Tryz.ntmps39 Tryz.results39 8 ?_;rintro W l;replace l:DD W:=l;have D:W.sn<=8:=l.2.2.1;have u:W.pn<=20:=l.2.2.2.1;have C:W.pn<=1000000:=by omega
 have r:=l.ER;refine⟨by simp,?_⟩;simp[go_sem];refine BF (fun k:Nat=>⟨[(1,true,.m false [.p 1 0]),(3,true,.i k)],[(1,.var ((woL W).map Tr.cv))]⟩) (fun k=>W.sn - k) (fun k=>k<=W.sn/\∀i,i<k->Lf W i) 0 (by simp[go_sem]) (by simp) ?_;rintro k ⟨G,n⟩;simp[go_sem,Ar (show k<=1000000000 by omega)];refine⟨fun b=>?_,fun b i hi=>n i (by omega)⟩;refine BF (fun j:Nat=>⟨[(1,true,.m false [.p 1 0]),(3,true,.i k),(4,true,.m false [.v (.int .i64 0)]),(5,true,.i (ownN W (W.A2 k).name j)),(6,true,.i j)],[(1,.var ((woL W).map Tr.cv))]⟩) (fun j=>W.pn - j) (fun j=>j<=W.pn) 0 (by simp[go_sem,ownN]) (Nat.zero_le _) ?_;rintro j F;have t:=NW W (W.A2 k).name j;simp[go_sem,Ar (show j<=1000000000 by omega),Ar (show ownN W (W.A2 k).name j<=1000000000 by omega)];refine⟨fun c=>⟨c,b,by kernel_rfl,fun h=>⟨j+1,c,by omega,by rw[No (G7 h)];rfl,rfl⟩,fun h=>⟨j+1,c,by omega,by rw[NX fun e=>h (congrArg ByteArray.toList e)],rfl⟩⟩,fun c=>⟨b,?_⟩⟩;cases (show j=W.pn by omega);refine BF (fun q:Nat×Int=>⟨[(1,true,.m false [.p 1 0]),(3,true,.i k),(4,true,.i q.1),(5,true,.i (ownN W (W.A2 k).name W.pn)),(7,true,.m false [.v (.int .i64 q.2)])],[(1,.var ((woL W).map Tr.cv))]⟩) (fun q=>1000000 - q.1) (fun q=>EZ W (W.A2 k).name (W.A2 k).A8 q.1 q.2) (0,(W.A2 k).A8) (by simp[go_sem]) (EZ.start r _ (r.A2 k b)) ?_;rintro⟨a,x⟩ f;replace f:EZ W (W.A2 k).name (W.A2 k).A8 a x:=f;have E:a<=900000:=by have:=f.least;have:=f.sum;omega
 simp[go_sem,Ex,C,Ar (show a<=1000000000 by omega),Ar (show k<=1000000000 by omega)];have d:¬F5 W (W.A2 k).name x->(¬(a:Int)=(ownN W (W.A2 k).name W.pn:Nat)\/¬x=(W.A2 k).origin->∃x,x<W.sn/\¬Lf W x)/\((a:Int)=(ownN W (W.A2 k).name W.pn:Nat)->x=(W.A2 k).origin->∃o:Nat,(o<=W.sn/\∀i,i<o->Lf W i)/\W.sn - o<W.sn - k/\(k:Int)+1=(o:Int)):=fun t=>by
  have hi:=Up (origin:=(W.A2 k).origin) f.steps t;refine⟨fun h=>⟨k,b,fun B=>?_⟩,fun z A=>⟨k+1,⟨by omega,Br b n (hi.2 ⟨by exact_mod_cast z,A⟩)⟩,by omega,rfl⟩⟩;obtain⟨w,y⟩:=hi.1 B;exact h.elim (fun h=>h (by exact_mod_cast w)) (fun h=>h y)
 by_cases s:x=0
 ·subst s;exact⟨fun h=>absurd rfl h,fun h=>absurd rfl h,by kernel_rfl,fun h=>absurd rfl h,fun _=>⟨fun _=>b,d (Yu r _)⟩⟩
 ·obtain⟨q,g⟩:=(f.there.resolve_left s).no;have e:(BO W.pn fun k=>(W.A3 k).id=x)=q:=I2 g.1 g.2.1 g.2.2;have:=g.1;rw[e,Int.toNat_natCast];exact⟨fun _=>⟨by omega,by omega⟩,fun _=>b,by kernel_rfl,fun _ h=>⟨⟨by omega,by omega⟩,by kernel_rfl,a+1,_,f.next r g (G7 h),by omega,rfl,rfl⟩,fun h=>⟨fun _=>b,d (Xe g fun e=>h s (congrArg ByteArray.toList e))⟩⟩
set_option maxRecDepth 20000
set_option maxHeartbeats 1600000
abbrev psT(n:Nat)(f g:Nat->Int):Bool×List Tr:=(false,[.s .b 2 n (ptrsT f g)])
abbrev psO(l:List (Int×Int)):Bool×List Tr:=(false,[.s .o 2 l.length (ptL l)])
def K3(a:Tr):Nat×(Nat->Int)×(Nat->Int):=(DN a,fun i=>AS (Bp a i 0),fun i=>AS (Bp a i 1))
def mIn:AL:=AY (fun q:(Nat×(Nat->Int)×(Nat->Int))×Int×Int=>[psT q.1.1 q.1.2.1 q.1.2.2,pT q.2.1 q.2.2]) (fun q=>q.1.1<=1000000) (fun q=>bR (PIn q.1.1 q.1.2.1 q.1.2.2 q.2.1 q.2.2))
theorem ND(n:Nat)(f g:Nat->Int)(a b:Int):mIn [psT n f g,pT a b]=some (n<=1000000,bR (PIn n f g a b)):=Ag (fun l=>(K3 (nth l 0 0),AS (nth l 1 0),AS (nth l 1 1))) (fun _=>rfl) ((n,f,g),a,b)
theorem Nh:An Tryz.prog 90 mIn:=by
 refine B6 Al GOk.nil Ak Tryz.func90 rfl Tryz.ntmps90 Tryz.results90 6 ?_;rintro⟨⟨n,f,g⟩,a,b⟩ hn;replace hn:n<=1000000:=hn;refine⟨by simp,?_⟩;simp[go_sem];refine BF (fun k:Nat=>⟨[(3,true,.m false [.p 3 0]),(0,true,.m false [.s .b 2 n (ptrsT f g)]),(5,true,.i k)],[(3,.var [.v (.int .i64 a),.v (.int .i64 b)])]⟩) (fun k=>n - k) (fun k=>k<=n/\∀i,i<k->¬(f i=a/\g i=b)) 0 (by simp[go_sem]) (by simp) ?_;rintro k ⟨q,e⟩;simp[go_sem,Ar (show k<=1000000000 by omega)];refine⟨fun l=>⟨l,by kernel_rfl,fun d c=>⟨k,l,d,c⟩,fun h=>⟨k+1,⟨by omega,fun i hi d c=>?_⟩,by omega,rfl⟩⟩,fun l ⟨j,d,c⟩=>e j (by omega) c⟩;rcases Nat.lt_succ_iff_lt_or_eq.1 hi with o | rfl
 ·exact e i o ⟨d,c⟩
 ·exact h d c
def Zg:AL:=AY (fun q:(Nat×(Nat->Int)×(Nat->Int))×Int=>[psT q.1.1 q.1.2.1 q.1.2.2,iT q.2]) (fun q=>q.1.1<=1000000) (fun q=>[psO (Bl q.1.2.1 q.1.2.2 q.2 q.1.1),psO (C6 q.1.2.1 q.1.2.2 q.2 q.1.1)])
theorem M6(n:Nat)(f g:Nat->Int)(t:Int):Zg [psT n f g,iT t]=some (n<=1000000,[psO (Bl f g t n),psO (C6 f g t n)]):=Ag (fun l=>(K3 (nth l 0 0),AS (nth l 1 0))) (fun _=>rfl) ((n,f,g),t)
theorem Og:An Tryz.prog 148 Zg:=by
 refine B6 Al GOk.nil Ak Tryz.func148 rfl Tryz.ntmps148 Tryz.results148 9 ?_;rintro⟨⟨n,f,g⟩,t⟩ hn;replace hn:n<=1000000:=hn;refine⟨by simp,?_⟩;simp[go_sem];refine BF (fun k:Nat=>⟨[(6,true,.m false [.h 7]),(7,true,.m false [.h 8]),(0,true,.m false [.s .b 2 n (ptrsT f g)]),(1,true,.i t),(8,true,.i k)],[(7,.row 2 (Bl f g t k).length (ptL (Bl f g t k))),(8,.row 2 (C6 f g t k).length (ptL (C6 f g t k)))]⟩) (fun k=>n - k) (fun k=>k<=n) 0 (by simp[go_sem,Bl,C6];exact La rfl) (by simp) ?_;rintro k c;have d:=Kq f g t k;simp[go_sem,Ar (show k<=1000000000 by omega)];refine⟨fun a=>⟨a,fun h=>⟨a,by omega,k+1,by omega,by omega,by omega,Ga HJ (by simp[Bl,h]),Gb (by simp[C6,h])⟩,fun h=>⟨a,by omega,k+1,by omega,by omega,by omega,Gb (by simp[Bl,Int.not_lt.2 h]),Ga HJ (by simp[C6,Int.not_lt.2 h])⟩⟩,fun a=>?_⟩;cases (show k=n from by omega);exact⟨⟨Gb rfl,GZ⟩,Gb rfl,GZ⟩
def yE:AL:=AY (fun q:Nat×(Nat->Int)×(Nat->Int)=>[psT q.1 q.2.1 q.2.2]) (fun q=>q.1<=1000000) (fun q=>bR (Cf q.1 q.2.1 q.2.2))
theorem zFI(n:Nat)(f g:Nat->Int):yE [psT n f g]=some (n<=1000000,bR (Cf n f g)):=Ag (fun l=>K3 (nth l 0 0)) (fun _=>rfl) (n,f,g)
theorem zCL:An Tryz.prog 144 yE:=by
 refine B6 Al (GOk.cons Lx (AE Tryz.func84 rfl rfl) (GOk.cons RZ (AE Tryz.func142 rfl rfl) GOk.nil)) Ak Tryz.func144 rfl Tryz.ntmps144 Tryz.results144 5 ?_;rintro⟨n,f,g⟩ hn;replace hn:n<=1000000:=hn;refine⟨by simp,?_⟩;simp[go_sem];refine⟨fun p h=>by have:=h.1;omega,fun p=>?_⟩;refine BF (fun k:Nat=>⟨[(0,true,.m false [.s .b 2 n (ptrsT f g)]),(3,true,.i k)],[]⟩) (fun k=>n - k) (fun k=>k<=n/\∀i,i<k->FU (f i) (g i)/\∀j,j<i->f j≠f i) 0 (by simp[go_sem]) (by simp) ?_;rintro k ⟨u,e⟩;simp[go_sem,Ar (show k<=1000000000 by omega),LU,Qe];refine⟨fun c=>?_,fun c=>⟨by omega,fun i hi=>(e i (by omega)).1,fun i hi=>(e i (by omega)).2⟩⟩;refine⟨c,fun _ _=>c,fun h l=>?_,fun q r o=>?_⟩
 ·have:=(l.2.1 k c);unfold FU at this;unfold DS at h;omega
 refine BF (fun j:Nat=>⟨[(0,true,.m false [.s .b 2 n (ptrsT f g)]),(3,true,.i k),(4,true,.i j)],[]⟩) (fun j=>k - j) (fun j=>j<=k/\∀i,i<j->f i≠f k) 0 (by simp[go_sem]) (by simp) ?_;rintro j ⟨t,a⟩;simp[go_sem,Ar (show j<=1000000000 by omega),Ar (show k<=1000000000 by omega)];exact⟨fun d=>⟨by omega,c,by kernel_rfl,fun h l=>l.2.2 k c j d h,fun h=>⟨j+1,⟨by omega,Br d a h⟩,by omega,rfl⟩⟩,fun d=>⟨k+1,⟨by omega,Br c e ⟨by unfold FU;unfold DS at o;omega,fun i hi=>a i (by omega)⟩⟩,by omega,rfl⟩⟩
def yH:AL:=AY (fun q:(Nat×(Nat->Int)×(Nat->Int))×Nat×(Nat->Int)×(Nat->Int)=>[psT q.1.1 q.1.2.1 q.1.2.2,psT q.2.1 q.2.2.1 q.2.2.2]) (fun q=>q.1.1<=1000000/\q.2.1<=1000000) (fun q=>bR (F6 q.1.1 q.1.2.1 q.1.2.2 q.2.1 q.2.2.1 q.2.2.2))
theorem zFL(n:Nat)(f g:Nat->Int)(a:Nat)(f' g':Nat->Int):yH [psT n f g,psT a f' g']=some (n<=1000000/\a<=1000000,bR (F6 n f g a f' g')):=Ag (fun l=>(K3 (nth l 0 0),K3 (nth l 1 0))) (fun _=>rfl) ((n,f,g),a,f',g')
theorem zBq:An Tryz.prog 91 yH:=by
 refine B6 Al (GOk.cons zCL (AE Tryz.func144 rfl rfl) (GOk.cons Nh (AE Tryz.func90 rfl rfl) GOk.nil)) Ak Tryz.func91 rfl Tryz.ntmps91 Tryz.results91 6 ?_;rintro⟨⟨n,f,g⟩,j,f',g'⟩ ⟨hn,a⟩;replace hn:n<=1000000:=hn;replace a:j<=1000000:=a;refine⟨by simp,?_⟩;simp[go_sem,zFI,hn,a];refine⟨fun h c=>?_,fun l o p=>?_⟩
 ·have:=c.2.2.1;rcases h with(h | h) | h
  ·exact h c.1
  ·exact h c.2.1
  ·omega
 refine BF (fun k:Nat=>⟨[(0,true,.m false [.s .b 2 n (ptrsT f g)]),(1,true,.m false [.s .b 2 j (ptrsT f' g')]),(5,true,.i k)],[]⟩) (fun k=>n - k) (fun k=>k<=n/\∀i,i<k->PIn j f' g' (f i) (g i)) 0 (by simp[go_sem]) (by simp) ?_;rintro k ⟨q,d⟩;simp[go_sem,Ar (show k<=1000000000 by omega),ND,a];exact⟨fun e=>⟨e,fun h c=>h (c.2.2.2 k e),fun h=>⟨k+1,⟨by omega,Br e d h⟩,by omega,rfl⟩⟩,fun e=>⟨l,o,by omega,fun i hi=>d i (by omega)⟩⟩
set_option maxRecDepth 20000
set_option maxHeartbeats 1600000
theorem Kf(h:NL W)(x:Int):Er W x=AI W x:=by
 by_cases a:x=0
 ·rw[show Er W x=DL from if_pos a,RB fun k b e=>by have:=h k b;omega]
 ·exact if_neg a
variable{l:List (Int×Int)}{i:Nat}
theorem LB:(l[i]?.getD (0,0)).1=AN l i:=by simp[AN,List.getD_eq_getElem?_getD]
theorem S9:(l[i]?.getD (0,0)).2=AP l i:=by simp[AP,List.getD_eq_getElem?_getD]
theorem S8{x:Int}:PIn l.length (fun i=>AN l i) (fun i=>AP l i) x y↔(x,y)∈l:=Hu
variable{fl:Fl}
theorem VK:(Tr.s fl k n (DR encP (0,0) l)).CY = .s .b k n (ptrsT (fun i=>AN l i) (fun i=>AP l i)):=by
 rw[Bd];simp only[LB,S9]
theorem PG:DR encP (0,0) l i 0 = .v (.int .i64 (AN l i)):=by rw[<-LB];rfl
theorem PH:DR encP (0,0) l i 1 = .v (.int .i64 (AP l i)):=by rw[<-S9];rfl
theorem Ze{p q:Prop} [h:Decidable q]:dB p=decide q↔(p↔q):=by
 by_cases a:p<;>by_cases b:q<;>simp[dB,a,b]
attribute [-go_sem] Bd
attribute [local go_sem] VK PG PH
structure ET (W:A6):Prop where
 right:AZ W.pool
 Aq:DD W
 A3:∀k,k<W.pn->B3 W.pool (W.A3 k).rs (W.A3 k).rb
theorem ET.ids(h:ET W):NL W:=fun k a=>(h.Aq.ER.ids k a).1
theorem ET.pn(h:ET W):W.pn<=1000000:=by have:=h.Aq.2.2.2.1;omega
def T0:AL:=AY (fun q:(A6×Int)×(Int×Int)×Int=>[woT q.1.1,iT q.1.2,pT q.2.1.1 q.2.1.2,iT q.2.2]) (fun q=>ET q.1.1/\B3 q.1.1.pool q.2.1.1 q.2.1.2) (fun q=>bR (F3 (AG q.1.1.pool q.2.1.1 q.2.1.2) (AG q.1.1.pool (AI q.1.1 q.1.2).rs (AI q.1.1 q.1.2).rb) (AI q.1.1 q.1.2).time q.2.2))
theorem YK(W:A6)(x a b t:Int):T0 [woT W,iT x,pT a b,iT t]=some (ET W/\B3 W.pool a b,bR (F3 (AG W.pool a b) (AG W.pool (AI W x).rs (AI W x).rb) (AI W x).time t)):=Ag (fun l=>((C2 (nth l 0),AS (nth l 1 0)),(AS (nth l 2 0),AS (nth l 2 1)),AS (nth l 3 0))) (fun _=>rfl) ((W,x),(a,b),t)
theorem zCI:An Tryz.prog 92 T0:=by
 refine B6 Al (GOk.cons Kx (AE Tryz.func88 rfl rfl) (GOk.cons Jr (AE Tryz.func89 rfl rfl) (GOk.cons Nh (AE Tryz.func90 rfl rfl) GOk.nil))) Ak Tryz.func92 rfl Tryz.ntmps92 Tryz.results92 14 ?_;rintro⟨⟨W,x⟩,⟨a,b⟩,t⟩ ⟨p,r⟩;replace p:ET W:=p;replace r:B3 W.pool a b:=r;have A:=LN p.A3 x;refine⟨by simp,?_⟩;have C:=Kf p.ids x;simp[go_sem,Jj,Iy,p.pn,C,A,r,p.right];obtain⟨c,f⟩:∃l,l=AG W.pool a b:=⟨_,rfl⟩;obtain⟨d,n⟩:∃l,l=AG W.pool (AI W x).rs (AI W x).rb:=⟨_,rfl⟩;have F:c.length<=100:=by have:=Dh W.pool a b;rw[f];omega
 have lo:d.length<=100:=by have:=Dh W.pool (AI W x).rs (AI W x).rb;rw[n];omega
 rw[<-f,<-n];obtain⟨τ,hτ⟩:∃τ,τ = (AI W x).time:=⟨_,rfl⟩;rw[<-hτ];refine BF (fun k:Nat=>⟨[(12,true,.m false [.h 8]),(11,true,.m false [.h 7]),(10,true,.m false [.v (.int .i64 τ)]),(3,true,.m false [.v (.int .i64 t)]),(13,true,.i k)],[(8,.row 2 c.length (ptL c)),(7,.row 2 d.length (ptL d))]⟩) (fun k=>c.length - k) (fun k=>k<=c.length/\qT c d τ t k) 0 (by simp[go_sem]) ⟨Nat.zero_le _,fun j B=>absurd B (Nat.not_lt_zero _)⟩ ?_;rintro k ⟨E,q⟩;simp[go_sem,ND,Ar (show k<=1000000000 by omega),S8,show d.length<=1000000 by omega];have s:F3 c d τ t->AP c k<=t/\((AN c k,AP c k)∈d↔AP c k<=τ)\/¬k<c.length:=fun h=>by
  by_cases o:k<c.length
  ·exact .inl ((Tp c d τ t).2 h k o)
  ·exact .inr o
 refine⟨fun o=>⟨o,fun _=>o,by kernel_rfl,fun h z=>?_,fun w y=>⟨k+1,⟨by omega,fun i hi=>?_⟩,by omega,rfl⟩⟩,fun o=>?_⟩
 ·rcases s z with⟨D,u⟩ | g
  ·exact h.elim (fun h=>by omega) (fun h=>h (Ze.2 u))
  ·exact g o
 ·by_cases e:i=k
  ·subst e;exact⟨w,Ze.1 y⟩
  ·exact q i (by omega)
 ·cases (show k=c.length by omega);exact(Tp c d τ t).1 q
def qn:AL:=AY (fun q:(A6×Int)×(Int×Int)×Nat×(Nat->Int)×(Nat->Int)=>[woT q.1.1,iT q.1.2,pT q.2.1.1 q.2.1.2,psT q.2.2.1 q.2.2.2.1 q.2.2.2.2]) (fun q=>(ET q.1.1/\B3 q.1.1.pool q.2.1.1 q.2.1.2)/\q.2.2.1<=1000000) (fun q=>bR (E6 q.2.2.1 q.2.2.2.1 q.2.2.2.2 (BR (AG q.1.1.pool (AI q.1.1 q.1.2).rs (AI q.1.1 q.1.2).rb) (AG q.1.1.pool q.2.1.1 q.2.1.2))))
theorem Uq(W:A6)(x a b:Int)(n:Nat)(f g:Nat->Int):qn [woT W,iT x,pT a b,psT n f g]=some ((ET W/\B3 W.pool a b)/\n<=1000000,bR (E6 n f g (BR (AG W.pool (AI W x).rs (AI W x).rb) (AG W.pool a b)))):=Ag (fun l=>((C2 (nth l 0),AS (nth l 1 0)),(AS (nth l 2 0),AS (nth l 2 1)),K3 (nth l 3 0))) (fun _=>rfl) ((W,x),(a,b),n,f,g)
theorem zAv:An Tryz.prog 41 qn:=by
 refine B6 Al (GOk.cons Kx (AE Tryz.func88 rfl rfl) (GOk.cons Jr (AE Tryz.func89 rfl rfl) (GOk.cons Nh (AE Tryz.func90 rfl rfl) (GOk.cons zBq (AE Tryz.func91 rfl rfl) GOk.nil)))) Ak Tryz.func41 rfl Tryz.ntmps41 Tryz.results41 15 ?_;rintro⟨⟨W,x⟩,⟨a,b⟩,n,f,g⟩ ⟨⟨o,q⟩,hn⟩;replace o:ET W:=o;replace q:B3 W.pool a b:=q;replace hn:n<=1000000:=hn;have t:=LN o.A3 x;refine⟨by simp,?_⟩;have u:=Kf o.ids x;simp[go_sem,Jj,Iy,o.pn,u,t,q,o.right];obtain⟨d,e⟩:∃l,l=AG W.pool a b:=⟨_,rfl⟩;obtain⟨c,j⟩:∃l,l=AG W.pool (AI W x).rs (AI W x).rb:=⟨_,rfl⟩;have w:d.length<=100:=by have:=Dh W.pool a b;rw[e];omega
 have lo:c.length<=100:=by have:=Dh W.pool (AI W x).rs (AI W x).rb;rw[j];omega
 rw[<-e,<-j];refine BF (fun k:Nat=>⟨[(14,true,.i k),(13,true,.m false [.h 9]),(12,true,.m false [.h 8]),(11,true,.m false [.h 7]),(3,true,.m false [.s .b 2 n (ptrsT f g)])],[(9,.row 2 (BR (c.take k) d).length (ptL (BR (c.take k) d))),(8,.row 2 d.length (ptL d)),(7,.row 2 c.length (ptL c))]⟩) (fun k=>c.length - k) (fun k=>k<=c.length) 0 (by simp[go_sem];exact La rfl) (Nat.zero_le _) ?_;rintro k v;have r:=Un c d k;simp[go_sem,ND,zFL,Ar (show k<=1000000000 by omega),S8,show d.length<=1000000 by omega,hn];refine⟨fun p=>⟨p,fun h=>⟨p,by omega,k+1,by omega,by omega,rfl,?_⟩,fun h=>⟨k+1,by omega,by omega,rfl,?_⟩⟩,fun p=>?_⟩
 ·refine Ga HJ ?_;rw[QT p h]
 ·rw[Po p h];exact TrE.refl _
 ·cases (show k=c.length by omega);rw[List.take_length];rw[List.take_length]at r;exact⟨by omega,Iff.rfl⟩
def Zv:AL:=AY (fun W:A6=>[woT W]) (fun W=>ET W/\∀k,k<W.sn->B3 W.pool (W.A2 k).rs (W.A2 k).rb) (fun W=>bR (∀i,i<memN W->EX W i))
theorem zDa(W:A6):Zv [woT W]=some (ET W/\∀k,k<W.sn->B3 W.pool (W.A2 k).rs (W.A2 k).rb,bR (∀i,i<memN W->EX W i)):=Ag (fun l=>C2 (nth l 0)) (fun _=>rfl) W
theorem zAu:An Tryz.prog 45 Zv:=by
 refine B6 Al (GOk.cons zCI (AE Tryz.func92 rfl rfl) GOk.nil) Ak Tryz.func45 rfl Tryz.ntmps45 Tryz.results45 5 ?_;rintro W ⟨c,l⟩;replace c:ET W:=c;have o:W.sn<=8:=c.Aq.2.2.1;have j:W.pn<=20:=c.Aq.2.2.2.1;refine⟨by simp,?_⟩;simp[go_sem];refine BF (fun k:Nat=>⟨[(1,true,.m false [.p 1 0]),(3,true,.i k)],[(1,.var ((woL W).map Tr.cv))]⟩) (fun k=>W.pn - k) (fun k=>k<=W.pn/\∀i,i<k->EX W i) 0 (by simp[go_sem]) (by simp) ?_;rintro k ⟨n,f⟩;simp[go_sem,YK,c,Ar (show k<=1000000000 by omega)];refine⟨fun a=>?_,fun a=>?_⟩
 ·have e:AA W k=MW (W.A3 k):=CH a;have d:EX W k↔F3 (AG W.pool (W.A3 k).rs (W.A3 k).rb) (AG W.pool (AI W (W.A3 k).A8).rs (AI W (W.A3 k).A8).rb) (AI W (W.A3 k).A8).time (W.A3 k).time:=by
   unfold EX;rw[e];exact Iff.rfl
  refine⟨a,c.A3 k a,by kernel_rfl,fun h=>⟨k,by unfold memN;omega,fun g=>h (d.1 g)⟩,fun h=>⟨k+1,⟨by omega,Br a f (d.2 h)⟩,by omega,rfl⟩⟩
 cases (show k=W.pn by omega);refine BF (fun k:Nat=>⟨[(1,true,.m false [.p 1 0]),(4,true,.i k)],[(1,.var ((woL W).map Tr.cv))]⟩) (fun k=>W.sn - k) (fun k=>k<=W.sn/\∀i,i<W.pn+k->EX W i) 0 (by simp[go_sem]) ⟨Nat.zero_le _,f⟩ ?_;rintro k ⟨n,b⟩;simp[go_sem,YK,c,Ar (show k<=1000000000 by omega)];refine⟨fun a=>?_,fun a i hi=>b i (by unfold memN at hi;omega)⟩;have e:AA W (W.pn+k)=L4 W.time (W.A2 k):=C4 W k;have d:EX W (W.pn+k)↔F3 (AG W.pool (W.A2 k).rs (W.A2 k).rb) (AG W.pool (AI W (W.A2 k).A8).rs (AI W (W.A2 k).A8).rb) (AI W (W.A2 k).A8).time W.time:=by
  unfold EX;rw[e];exact Iff.rfl
 refine⟨a,l k a,by kernel_rfl,fun h=>⟨W.pn+k,by unfold memN;omega,fun g=>h (d.1 g)⟩,fun h=>⟨k+1,⟨by omega,fun i hi=>?_⟩,by omega,rfl⟩⟩;by_cases e:i=W.pn+k
 ·subst e;exact d.2 h
 ·exact b i (by omega)
set_option maxRecDepth 20000
set_option maxHeartbeats 1600000
def Dm(h:Nat->Bool):Nat->Nat->Tr:=fun i _=>.v (.bool (h i))
variable{h:Nat->Bool}
theorem zY{j:Nat}:Dm h i j = .v (.bool (h i)):=rfl
theorem zAx:(Tr.s fl k n (Dm h)).CY = .s .b k n (Dm h):=rfl
theorem zAj:(Tr.s .o 1 n (Dm h)).kept:=⟨by simp,fun i j _ _=>trivial⟩
theorem XF{F:Nat->Nat->Tr}(hF:∀i j,i<n->j<1->F i j = .v (.bool (h i))):TrE (.s fl 1 n F) (.s fl 1 n (Dm h)):=F9 fun i j hi a=>hF i j hi a
variable{f:Nat->Bool}
theorem Jd(hF:∀i,i<n->f i=h i):TrE (.s fl 1 n (Dm f)) (.s fl 1 n (Dm h)):=F9 fun i j hi a=>congrArg (fun b=>Tr.v (.bool b)) (hF i hi)
theorem XG(hF:∀i,i<n->h i=if i=k then true else f i):TrE (.s fl 1 n (Ae (Dm f) k 0 [.v (.bool true)])) (.s fl 1 n (Dm h)):=F9 fun i j hi a=>by
 cases (show j=0 by omega);rw[show Dm h i 0 = .v (.bool (h i))from rfl,hF i hi];by_cases e:i=k
 ·subst e;simp[Ae]
 ·simp[Ae,e,Dm]
theorem Zf{p q:Prop}:dB p=dB q↔(p↔q):=by
 by_cases a:p<;>by_cases b:q<;>simp[dB,a,b]
attribute [go_sem] Bd
attribute [-go_sem] Bd
attribute [go_sem] zY zAx
structure K8 (W:A6):Prop extends ET W where
 A2:∀k,k<W.sn->B3 W.pool (W.A2 k).rs (W.A2 k).rb
theorem K8.trees(h:K8 W):EV W:=Nw h.right h.Aq h.A3 h.A2
structure PQ (W:A6):Prop where
 tr:EV W
 sn:W.sn<=8
 pn:W.pn<=20
theorem K8.reach(h:K8 W):PQ W:=⟨h.trees,h.Aq.2.2.1,h.Aq.2.2.2.1⟩
def KG(W:A6)(s:Nat):Bool:=dB (KI W s)
def qC:AL:=AY (fun W:A6=>[woT W]) (fun W=>PQ W) (fun W=>[(false,[.s .o 1 W.pool.n (Dm (KG W))])])
theorem zDg(W:A6):qC [woT W]=some (PQ W,[(false,[.s .o 1 W.pool.n (Dm (KG W))])]):=Ag (fun l=>C2 (nth l 0)) (fun _=>rfl) W
def JG(W:A6)(k:Nat)(l:List (Int×Int))(j s:Nat):Bool:=dB (qV W k l j s)
theorem zBW:An Tryz.prog 42 qC:=by
 refine B6 Al (GOk.cons Jr (AE Tryz.func89 rfl rfl) GOk.nil) Ak Tryz.func42 rfl Tryz.ntmps42 Tryz.results42 10 ?_;intro W c;replace c:PQ W:=c;have C:W.sn<=8:=c.sn;have y:W.pn<=20:=c.pn;have hn:W.pool.n<=200:=c.tr.right.1;refine⟨by simp,?_⟩;simp[go_sem];refine⟨by omega,?_⟩;refine BF (fun k:Nat=>⟨[(1,true,.m false [.p 1 0]),(3,true,.m false [.h 7]),(4,true,.m false [.h 8]),(5,true,.i k)],[(8,.row 2 (F8 W k).length (ptL (F8 W k))),(7,.row 1 W.pool.n (Dm fun _=>false)),(1,.var ((woL W).map Tr.cv))]⟩) (fun k=>W.sn - k) (fun k=>k<=W.sn) 0 ?_ (Nat.zero_le _) ?_
 ·simp[go_sem];refine⟨La rfl,XF fun i j _ B=>?_⟩;cases (show j=0 by omega);rfl
 intro k w;have o:=OY W k;simp[go_sem,Ar (show k<=1000000000 by omega)];refine⟨fun g=>?_,fun g=>?_⟩
 ·refine⟨g,by omega,k+1,by omega,by omega,rfl,Ga HJ ?_⟩;rw[YZ,OL g]
 cases (show k=W.sn by omega);refine BF (fun k:Nat=>⟨[(1,true,.m false [.p 1 0]),(3,true,.m false [.h 7]),(4,true,.m false [.h 8]),(6,true,.i k)],[(8,.row 2 (F8 W (W.sn+k)).length (ptL (F8 W (W.sn+k)))),(7,.row 1 W.pool.n (Dm fun _=>false)),(1,.var ((woL W).map Tr.cv))]⟩) (fun k=>W.pn - k) (fun k=>k<=W.pn) 0 (by simp[go_sem]) (Nat.zero_le _) ?_;intro k w;have o:=OY W (W.sn+k);simp[go_sem,Ar (show k<=1000000000 by omega)];refine⟨fun g=>?_,fun g=>?_⟩
 ·refine⟨g,by omega,k+1,by omega,by omega,rfl,Ga HJ ?_⟩;rw[<-Nat.add_assoc,YZ,OX]
 cases (show k=W.pn by omega);obtain⟨R,r⟩:∃R,R=F8 W (W.sn+W.pn):=⟨_,rfl⟩;rw[<-r];have t:R.length=W.sn+W.pn:=by rw[r];exact OY _ _
 refine BF (fun k:Nat=>⟨[(1,true,.m false [.p 1 0]),(3,true,.m false [.h 7]),(4,true,.m false [.h 8]),(7,true,.i k)],[(8,.row 2 R.length (ptL R)),(7,.row 1 W.pool.n (Dm (JG W k [] 0))),(1,.var ((woL W).map Tr.cv))]⟩) (fun k=>R.length - k) (fun k=>k<=R.length) 0 ?_ (Nat.zero_le _) ?_
 ·simp[go_sem];refine Jd fun i _=>?_
  symm;rw[JG,P8];rintro(⟨i,hi,_⟩ | ⟨q,f,_⟩)
  ·omega
  ·omega
 intro k w;simp[go_sem,Ar (show k<=1000000000 by omega),Iy,c.tr.right];refine⟨fun e=>?_,fun e=>?_⟩
 ·have d:k<W.sn+W.pn:=(by omega);have z:AN R k=(DG W k).1:=(by rw[r];exact(Ve d).1);have A:AP R k=(DG W k).2:=(by rw[r];exact(Ve d).2);have v:B3 W.pool (DG W k).1 (DG W k).2:=zFy c.tr d;rw[z,A];refine⟨e,v,by kernel_rfl,?_⟩;obtain⟨l,a⟩:∃l,l=AG W.pool (DG W k).1 (DG W k).2:=⟨_,rfl⟩;have D:l.length<=100:=(by have:=Dh W.pool (DG W k).1 (DG W k).2;rw[a];omega);rw[<-a];refine BF (fun j:Nat=>⟨[(9,true,.i j),(8,true,.m false [.h 60]),(1,true,.m false [.p 1 0]),(3,true,.m false [.h 7]),(4,true,.m false [.h 8]),(7,true,.i k)],[(60,.row 2 l.length (ptL l)),(8,.row 2 R.length (ptL R)),(7,.row 1 W.pool.n (Dm (JG W k l j))),(1,.var ((woL W).map Tr.cv))]⟩) (fun j=>l.length - j) (fun j=>j<=l.length) 0 ?_ (Nat.zero_le _) ?_
  ·simp[go_sem];refine Jd fun i _=>?_
   rw[JG,JG,Zf];exact⟨fun h=>h.elim Or.inl fun ⟨q,f,_⟩=>by omega,fun h=>h.elim Or.inl fun ⟨q,f,_⟩=>by omega⟩
  intro j B;simp[go_sem,Ar (show j<=1000000000 by omega),Ar (show k<=1000000000 by omega)];have x:LW W k l j (JG W k l j):=fun s=>FQ
  refine⟨fun b=>?_,fun b=>⟨k+1,e,by omega,rfl,?_⟩⟩
  ·obtain⟨q,f,u⟩:=U2 c.tr.right v (j:=j) (by rw[<-a];exact b);rw[<-a]at f;rw[f];refine⟨b,⟨by omega,by omega⟩,by simpa using u,j+1,b,by omega,rfl,XG fun i _=>?_⟩;exact Bool.eq_iff_iff.2 (FQ.trans (zAF x f i).symm)
  ·cases (show j=l.length by omega);refine Jd fun i _=>?_
   exact Bool.eq_iff_iff.2 ((zAG x a i).trans FQ.symm)
 ·cases (show k=R.length by omega);refine⟨Jd fun i _=>?_,zAj⟩;rw[JG,KG,Zf,zAg,t];exact⟨fun h=>h.elim id fun ⟨q,f,_⟩=>by omega,Or.inl⟩
set_option maxRecDepth 20000
set_option maxHeartbeats 1600000
variable{a b:Nat}
theorem SA(h:a+b<=1000000000):IntKind.i64.wrap ((a:Int)+(b:Int))=(a:Int)+(b:Int):=by
 unfold IntKind.wrap;simp[IntKind.signed,IntKind.bits];omega
theorem zJH(h:a<=1000000000)(c:b<=1000000000):IntKind.i64.wrap ((a:Int) - (b:Int))=(a:Int) - (b:Int):=by
 unfold IntKind.wrap;simp[IntKind.signed,IntKind.bits];omega
theorem tnS:((a:Int) - (b:Int)).toNat=a - b:=by omega
attribute [go_sem] Bd
attribute [-go_sem] Bd
def K6(W:A6)(k:Nat)(now old:List (Int×Int))(j s:Nat):Bool:=dB (qW W k now old j s)
def Zs:AL:=AY (fun W:A6=>[woT W]) (fun W=>K8 W) (fun W=>bR (Ic W))
theorem zDZ(W:A6):Zs [woT W]=some (K8 W,bR (Ic W)):=Ag (fun l=>C2 (nth l 0)) (fun _=>rfl) W
theorem zBT:An Tryz.prog 46 Zs:=by
 refine B6 Al (GOk.cons Kx (AE Tryz.func88 rfl rfl) (GOk.cons Jr (AE Tryz.func89 rfl rfl) (GOk.cons Nh (AE Tryz.func90 rfl rfl) GOk.nil))) Ak Tryz.func46 rfl Tryz.ntmps46 Tryz.results46 12 ?_;intro W u;replace u:K8 W:=u;have K:W.sn<=8:=u.Aq.2.2.1;have H:W.pn<=20:=u.Aq.2.2.2.1;have hn:W.pool.n<=200:=u.right.1;refine⟨by simp,?_⟩;simp[go_sem];refine⟨by omega,?_⟩;refine BF (fun k:Nat=>⟨[(1,true,.m false [.p 1 0]),(3,true,.m false [.h 61]),(4,true,.i k)],[(61,.row 1 W.pool.n (Dm (K6 W k [] [] 0))),(1,.var ((woL W).map Tr.cv))]⟩) (fun k=>memN W - k) (fun k=>k<=memN W/\Q5 W k) 0 ?_ ⟨Nat.zero_le _,fun i hi=>by omega⟩ ?_
 ·simp[go_sem];refine XF fun i j _ D=>?_
  cases (show j=0 by omega);have:K6 W 0 [] [] 0 i=false:=by
   rw[K6,P8];rintro(⟨i,hi,_⟩ | ⟨q,M,_⟩)<;>omega
  simp[this]
 rintro k ⟨L,G⟩;have J:memN W=W.pn+W.sn:=rfl;by_cases E:k<memN W;rotate_left
 ·have z:¬(k:Int)<(W.pn:Int)+(W.sn:Int):=(by omega);simp[go_sem,SA (show W.pn+W.sn<=1000000000 by omega),z];cases (show k=memN W by omega);exact G
 have z:(k:Int)<(W.pn:Int)+(W.sn:Int):=by omega
 have f:B3 W.pool (AA W k).rs (AA W k).rb:=u.trees.tree k E;have g:=LN u.A3 (AA W k).A8;have x:=Kf u.ids (AA W k).A8;by_cases hs:k<W.pn
 case' pos=>
  have e:AA W k=MW (W.A3 k):=CH hs;rw[e]at f g x;replace f:B3 W.pool (W.A3 k).rs (W.A3 k).rb:=f;replace g:B3 W.pool (AI W (W.A3 k).A8).rs (AI W (W.A3 k).A8).rb:=g;replace x:Er W (W.A3 k).A8=AI W (W.A3 k).A8:=x;obtain⟨a,b⟩:∃l,l=AG W.pool (W.A3 k).rs (W.A3 k).rb:=⟨_,rfl⟩;obtain⟨c,d⟩:∃l,l=AG W.pool (AI W (W.A3 k).A8).rs (AI W (W.A3 k).A8).rb:=⟨_,rfl⟩;have o:a=treeM W (AA W k):=(by rw[e];exact b);have r:c=oldM W (AA W k):=(by rw[e];exact d);simp[go_sem,SA (show W.pn+W.sn<=1000000000 by omega),z,hs,Jj,Iy,u.pn,u.right,x,g,f,<-b,<-d]
 case' neg=>
  have e:AA W k=L4 W.time (W.A2 (k - W.pn)):=by
   have:=C4 W (k - W.pn)
   rwa [show W.pn+(k - W.pn)=k by omega]at this
  rw[e]at f g x;replace f:B3 W.pool (W.A2 (k - W.pn)).rs (W.A2 (k - W.pn)).rb:=f;replace g:B3 W.pool (AI W (W.A2 (k - W.pn)).A8).rs (AI W (W.A2 (k - W.pn)).A8).rb:=g;replace x:Er W (W.A2 (k - W.pn)).A8=AI W (W.A2 (k - W.pn)).A8:=x;obtain⟨a,b⟩:∃l,l=AG W.pool (W.A2 (k - W.pn)).rs (W.A2 (k - W.pn)).rb:=⟨_,rfl⟩;obtain⟨c,d⟩:∃l,l=AG W.pool (AI W (W.A2 (k - W.pn)).A8).rs (AI W (W.A2 (k - W.pn)).A8).rb:=⟨_,rfl⟩;have o:a=treeM W (AA W k):=(by rw[e];exact b);have r:c=oldM W (AA W k):=(by rw[e];exact d);simp[go_sem,SA (show W.pn+W.sn<=1000000000 by omega),zJH (show k<=1000000000 by omega) (show W.pn<=1000000000 by omega),tnS,z,hs,Jj,Iy,u.pn,u.right,x,g,f,<-b,<-d];refine⟨⟨by omega,by omega⟩,?_⟩
 all_goals
  have N:a.length<=100:=(by rw[b];exact Nat.le_trans (Dh ..) (by omega));have lo:c.length<=100:=(by rw[d];exact Nat.le_trans (Dh ..) (by omega));have y:∀j,j<a.length->∃s:Nat,AN a j=(s:Int)/\s<W.pool.n:=fun j D=>by
   rw[b];exact U2 u.right f (by rw[<-b];exact D)
  clear b d f g x e z hs;refine BF (fun j:Nat=>⟨[(11,true,.i j),(10,true,.m false [.h 63]),(9,true,.m false [.h 62]),(1,true,.m false [.p 1 0]),(3,true,.m false [.h 61]),(4,true,.i k)],[(63,.row 2 a.length (ptL a)),(62,.row 2 c.length (ptL c)),(61,.row 1 W.pool.n (Dm (K6 W k a c j))),(1,.var ((woL W).map Tr.cv))]⟩) (fun j=>a.length - j) (fun j=>j<=a.length/\KU W k a c j) 0 ?_ ⟨Nat.zero_le _,fun i hi=>absurd hi (Nat.not_lt_zero _)⟩ ?_
  ·simp[go_sem];have I:FX W k [] [] 0 (K6 W k [] [] 0):=fun s=>FQ
   exact Jd fun i _=>Bool.eq_iff_iff.2 ((zx I a c i).trans FQ.symm)
  rintro j ⟨D,v⟩;have A:FX W k a c j (K6 W k a c j):=fun s=>FQ
  have F:c.length<=1000000:=(by omega);simp[go_sem,ND,Ar (show j<=1000000000 by omega),Ar (show k<=1000000000 by omega),S8,F];refine⟨fun t=>⟨t,fun w=>⟨j+1,⟨t,zG4 v w⟩,by omega,rfl,?_⟩,fun w=>?_⟩,fun t=>?_⟩
  ·exact Jd fun i _=>Bool.eq_iff_iff.2 ((zE9 A w i).trans FQ.symm)
  ·obtain⟨s,hs,C⟩:=y j t;rw[hs];refine⟨t,⟨by omega,by omega⟩,by simpa using C,fun B=>?_,fun B=>⟨t,⟨by omega,by omega⟩,by simpa using C,j+1,⟨t,?_⟩,by omega,rfl,?_⟩⟩
   ·rw[Int.toNat_natCast]at B;exact zy u.trees E o r A t hs w B
   ·rw[Int.toNat_natCast]at B;exact zG1 v A hs B
   ·rw[Int.toNat_natCast];exact XG fun i _=>Bool.eq_iff_iff.2 (FQ.trans (zE8 A hs w i).symm)
  ·cases (show j=a.length by omega);refine⟨k+1,⟨E,zB8 G o r v⟩,by omega,rfl,Jd fun i _=>?_⟩;exact Bool.eq_iff_iff.2 ((zEB A o r i).trans FQ.symm)
set_option maxRecDepth 20000
set_option maxHeartbeats 3200000
attribute [go_sem] Bd
attribute [-go_sem] Bd
structure SmallW (W:A6):Prop where
 n:W.pool.n<=1000000
 hn:W.pool.hn<=1000000
 sn:W.sn<=1000000
 pn:W.pn<=1000000
 sd:∀i,i<W.sn->(W.A2 i).dn<=1000000
 pd:∀i,i<W.pn->(W.A3 i).dn<=1000000
theorem zHg(h:k<W.pn):DU W k↔E6 (W.A3 k).dn (W.A3 k).ds (W.A3 k).db (BR (AG W.pool (AI W (W.A3 k).A8).rs (AI W (W.A3 k).A8).rb) (AG W.pool (W.A3 k).rs (W.A3 k).rb)):=by
 unfold DU;rw[CH h];exact Iff.rfl
theorem zHh:DU W (W.pn+k)↔E6 (W.A2 k).dn (W.A2 k).ds (W.A2 k).db (BR (AG W.pool (AI W (W.A2 k).A8).rs (AI W (W.A2 k).A8).rb) (AG W.pool (W.A2 k).rs (W.A2 k).rb)):=by
 unfold DU;rw[C4];exact Iff.rfl
def mWR:AL:=AY (fun W:A6=>[woT W]) (fun W=>SmallW W) (fun W=>bR (B4 W))
theorem CE(W:A6):mWR [woT W]=some (SmallW W,bR (B4 W)):=Ag (fun l=>C2 (nth l 0)) (fun _=>rfl) W
theorem FK:An Tryz.prog 14 mWR:=by
 refine B6 Al (GOk.cons OR (AE Tryz.func43 rfl rfl) (GOk.cons Om (AE Tryz.func37 rfl rfl) (GOk.cons zBU (AE Tryz.func38 rfl rfl) (GOk.cons zCJ (AE Tryz.func39 rfl rfl) (GOk.cons Yn (AE Tryz.func40 rfl rfl) (GOk.cons zAv (AE Tryz.func41 rfl rfl) (GOk.cons zBW (AE Tryz.func42 rfl rfl) (GOk.cons M4 (AE Tryz.func44 rfl rfl) (GOk.cons zAu (AE Tryz.func45 rfl rfl) (GOk.cons zBT (AE Tryz.func46 rfl rfl) GOk.nil)))))))))) Ak Tryz.func14 rfl Tryz.ntmps14 Tryz.results14 8 ?_;intro W d;replace d:SmallW W:=d;refine⟨by simp,?_⟩;simp[go_sem,OI,zDc,zB0,d.n,d.hn,d.sn,d.pn];refine⟨fun h b=>?_,fun o q z=>?_⟩
 ·rcases h with(h | h) | ⟨x,E,h⟩
  ·exact h b.right
  ·exact h b.Aq
  ·exact h (b.lines x E)
 have D:W.sn<=8:=q.2.2.1;have w:W.pn<=20:=q.2.2.2.1;refine BF (fun k:Nat=>⟨[(1,true,.m false [.p 1 0]),(3,true,.i k)],[(1,.var ((woL W).map Tr.cv))]⟩) (fun k=>W.pn - k) (fun k=>k<=W.pn/\∀i,i<k->B3 W.pool (W.A3 i).rs (W.A3 i).rb) 0 (by simp[go_sem]) (by simp) ?_;rintro k ⟨u,g⟩;simp[go_sem,Ar (show k<=1000000000 by omega),PP,o];refine⟨fun a=>⟨a,by kernel_rfl,fun h b=>h (b.A3 k a),fun h=>⟨k+1,⟨by omega,Br a g h⟩,by omega,rfl⟩⟩,fun a=>?_⟩;cases (show k=W.pn by omega);have f:ET W:=⟨o,q,g⟩;refine BF (fun k:Nat=>⟨[(1,true,.m false [.p 1 0]),(4,true,.i k)],[(1,.var ((woL W).map Tr.cv))]⟩) (fun k=>W.sn - k) (fun k=>k<=W.sn/\∀i,i<k->B3 W.pool (W.A2 i).rs (W.A2 i).rb/\DU W (W.pn+i)) 0 (by simp[go_sem]) (by simp) ?_;rintro k ⟨u,c⟩;simp[go_sem,Ar (show k<=1000000000 by omega),PP,Uq,o,f,<-zHh];refine⟨fun a=>⟨a,fun _=>a,fun h=>⟨h,d.sd k a⟩,by kernel_rfl,fun h b=>?_,fun r t=>⟨k+1,⟨by omega,Br a c ⟨r,t⟩⟩,by omega,rfl⟩⟩,fun a=>?_⟩
 ·exact h.elim (fun h=>h (b.A2 k a).1) (fun h=>h (b.A2 k a).2)
 cases (show k=W.sn by omega);have e:K8 W:=⟨f,fun i hi=>(c i hi).1⟩;refine BF (fun k:Nat=>⟨[(1,true,.m false [.p 1 0]),(5,true,.i k)],[(1,.var ((woL W).map Tr.cv))]⟩) (fun k=>W.pn - k) (fun k=>k<=W.pn/\∀i,i<k->DU W i) 0 (by simp[go_sem]) (by simp) ?_;rintro k ⟨u,j⟩;by_cases a:k<W.pn
 ·have A:=g k a;have B:=d.pd k a;simp[go_sem,Ar (show k<=1000000000 by omega),Uq,f,a,A,B,<-zHg a];refine⟨by kernel_rfl,fun h b=>h (b.dead k a),fun h=>⟨k+1,⟨by omega,Br a j h⟩,by omega,rfl⟩⟩
 simp[go_sem,Ar (show k<=1000000000 by omega),a,zDg,e,e.reach];cases (show k=W.pn by omega);refine BF (fun k:Nat=>⟨[(1,true,.m false [.p 1 0]),(6,true,.m false [.h 61]),(7,true,.i k)],[(61,.row 1 W.pool.n (Dm (KG W))),(1,.var ((woL W).map Tr.cv))]⟩) (fun k=>W.pool.n - k) (fun k=>k<=W.pool.n/\∀i,i<k->(KI W i↔(¬Ah (W.pool.s i)/\¬Has W.pool.hn W.pool.h i))) 0 (by simp[go_sem]) (by simp) ?_;rintro k ⟨u,l⟩;have v:W.pool.n<=200:=o.1;simp[go_sem,Ar (show k<=1000000000 by omega),Lo,KN,zDa,zDZ,e,f,d.hn];have C:KG W k=(!dB (Ah (W.pool.s k)) && !dB (Has W.pool.hn W.pool.h (k:Int)))↔(KI W k↔(¬Ah (W.pool.s k)/\¬Has W.pool.hn W.pool.h k)):=by
  unfold KG;by_cases r:KI W k<;>by_cases t:Ah (W.pool.s k)<;>by_cases y:Has W.pool.hn W.pool.h (k:Int)<;>simp[dB,r,t,y]
 rw[C];refine⟨fun a=>⟨a,by kernel_rfl,fun h b=>h (b.reach k a),fun h=>⟨k+1,⟨by omega,Br a l h⟩,by omega,rfl⟩⟩,fun a=>⟨e.A2,fun h=>?_,fun b=>⟨b.born,b.Bn⟩⟩⟩;cases (show k=W.pool.n by omega);exact⟨o,q,z,g,c,j,l,h.1,h.2⟩
set_option maxRecDepth 20000
set_option maxHeartbeats 3200000
attribute [go_sem] Bd
attribute [-go_sem] Bd
def Dp(W:A6)(x:Int):Nat->Nat
 | 0=>0
 | k+1=>Dp W x k+(if (W.A2 k).A8=x then 1 else 0)
def EH(W:A6)(x:Int):Nat->Nat
 | 0=>0
 | k+1=>EH W x k+(if (W.A3 k).A8=x then 1 else 0)
theorem TX(W:A6)(x:Int):∀k,Dp W x k<=k
 | 0=>Nat.le_refl _
 | k+1=>by have:=TX W x k;rw[Dp];split<;>omega
theorem TV(W:A6)(x:Int):∀k,EH W x k<=k
 | 0=>Nat.le_refl _
 | k+1=>by have:=TV W x k;rw[EH];split<;>omega
def qB:AL:=AY (fun q:A6×Int=>[woT q.1,iT q.2]) (fun q=>q.1.sn<=1000000/\q.1.pn<=1000000) (fun q=>[iT ((Dp q.1 q.2 q.1.sn+EH q.1 q.2 q.1.pn:Nat):Int)])
theorem VQ(W:A6)(x:Int):qB [woT W,iT x]=some (W.sn<=1000000/\W.pn<=1000000,[iT ((Dp W x W.sn+EH W x W.pn:Nat):Int)]):=Ag (fun l=>(C2 (nth l 0),AS (nth l 1 0))) (fun _=>rfl) (W,x)
theorem zBV:An Tryz.prog 147 qB:=by
 refine B6 Al GOk.nil Ak Tryz.func147 rfl Tryz.ntmps147 Tryz.results147 8 ?_;rintro⟨W,x⟩ ⟨hn,b⟩;replace hn:W.sn<=1000000:=hn;replace b:W.pn<=1000000:=b;refine⟨by simp,?_⟩;simp[go_sem];refine BF (fun k:Nat=>⟨[(2,true,.m false [.p 2 0]),(1,true,.i x),(5,true,.i (Dp W x k)),(6,true,.i k)],[(2,.var ((woL W).map Tr.cv))]⟩) (fun k=>W.sn - k) (fun k=>k<=W.sn) 0 (by simp[go_sem,Dp]) (by simp) ?_;intro k e;have f:=TX W x k;simp[go_sem,Ar (show k<=1000000000 by omega),Ar (show Dp W x k<=1000000000 by omega)];refine⟨fun a=>⟨a,fun h=>⟨k+1,by omega,by omega,by rw[Dp,if_pos h];rfl,rfl⟩,fun h=>⟨k+1,by omega,by omega,by rw[Dp,if_neg h];rfl,rfl⟩⟩,fun a=>?_⟩;cases (show k=W.sn by omega);refine BF (fun k:Nat=>⟨[(2,true,.m false [.p 2 0]),(1,true,.i x),(5,true,.i (Dp W x W.sn+EH W x k)),(7,true,.i k)],[(2,.var ((woL W).map Tr.cv))]⟩) (fun k=>W.pn - k) (fun k=>k<=W.pn) 0 (by simp[go_sem,EH]) (by simp) ?_;intro k e;have d:=TV W x k;have c:=Ar (show Dp W x W.sn+EH W x k<=1000000000 by omega);simp only[Int.natCast_add]at c;simp[go_sem,Ar (show k<=1000000000 by omega),c];refine⟨fun a=>⟨a,fun h=>⟨k+1,by omega,by omega,by rw[EH,if_pos h];omega,rfl⟩,fun h=>⟨k+1,by omega,by omega,by rw[EH,if_neg h];rfl,rfl⟩⟩,fun a=>?_⟩;cases (show k=W.pn by omega);rfl
end
end Go.Proofs.YtddigaohmfpepaaGreatDoor
