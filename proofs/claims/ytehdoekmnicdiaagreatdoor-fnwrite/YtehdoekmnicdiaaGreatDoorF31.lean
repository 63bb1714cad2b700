/- A part of the proof. -/
import Derived.Test.YtehdoekmnicdiaaGreatDoorF30
set_option linter.unusedVariables false
set_option maxRecDepth 20000
set_option maxHeartbeats 4000000
namespace Go.Proofs.YtehdoekmnicdiaaGreatDoor
noncomputable section
open Go.RowKit
set_option linter.unusedSimpArgs false
set_option maxRecDepth 20000
set_option maxHeartbeats 1600000
def Dg(h:Nat->Bool):Nat->Nat->Tr:=fun i _=>.v (.bool (h i))
variable{h:Nat->Bool}{i:Nat}
theorem zx{j:Nat}:Dg h i j = .v (.bool (h i)):=rfl
variable{fl:Fl}{k n:Nat}
theorem zBK:(Tr.s fl k n (Dg h)).lend = .s .b k n (Dg h):=rfl
theorem zB7:(Tr.s .o 1 n (Dg h)).kept:=⟨by simp,fun i j _ _=>trivial⟩
variable{F:Nat->Nat->Tr}
theorem XZ(hF:∀i j,i<n->j<1->F i j = .v (.bool (h i))):TrE (.s fl 1 n F) (.s fl 1 n (Dg h)):=F1 fun i j hi a=>hF i j hi a
variable{f:Nat->Bool}
theorem Je(hF:∀i,i<n->f i=h i):TrE (.s fl 1 n (Dg f)) (.s fl 1 n (Dg h)):=F1 fun i j hi a=>congrArg (fun b=>Tr.v (.bool b)) (hF i hi)
theorem Xa(hF:∀i,i<n->h i=if i=k then true else f i):TrE (.s fl 1 n (Ab (Dg f) k 0 [.v (.bool true)])) (.s fl 1 n (Dg h)):=F1 fun i j hi a=>by
 cases (show j=0 by omega);rw[show Dg h i 0 = .v (.bool (h i))from rfl,hF i hi];by_cases e:i=k
 ·subst e;simp[Ab]
 ·simp[Ab,e,Dg]
theorem Zu{p q:Prop}:dB p=dB q↔(p↔q):=by
 by_cases a:p<;>by_cases b:q<;>simp[dB,a,b]
attribute [-go_sem] Bz
attribute [go_sem] Vs PK PL zx zBK
structure Gv (W:A4):Prop extends EO W where
 A1:∀k,k<W.sn->Ay W.pool (W.A1 k).rs (W.A1 k).rb
variable{W:A4}
theorem Gv.trees(h:Gv W):Ej W:=O5 h.right h.Ap h.A2 h.A1
def KM(W:A4)(s:Nat):Bool:=dB (KN W s)
def qL:AJ:=AU (fun W:A4=>[woT W]) (fun W=>Gv W) (fun W=>[(false,[.s .o 1 W.pool.n (Dg (KM W))])])
theorem zDc(W:A4):qL [woT W]=some (Gv W,[(false,[.s .o 1 W.pool.n (Dg (KM W))])]):=Af (fun l=>C3 (nth l 0)) (fun _=>rfl) W
def JH(W:A4)(k:Nat)(l:List (Int×Int))(j s:Nat):Bool:=dB (yB W k l j s)
theorem zBq:Am Tryz.prog 67 qL:=by
 refine Az Al (GOk.cons Jt (AB Tryz.func134 rfl rfl) GOk.nil) Ak Tryz.func67 rfl Tryz.ntmps67 Tryz.results67 10 ?_;intro W c;replace c:Gv W:=c;have C:W.sn<=8:=c.Ap.2.2.1;have y:W.pn<=20:=c.Ap.2.2.2.1;have hn:W.pool.n<=200:=c.right.1;refine⟨by simp,?_⟩;simp[go_sem];refine⟨by omega,?_⟩;refine BC (fun k:Nat=>⟨[(1,true,.m false [.p 1 0]),(3,true,.m false [.h 7]),(4,true,.m false [.h 8]),(5,true,.i k)],[(8,.row 2 (F0 W k).length (ptL (F0 W k))),(7,.row 1 W.pool.n (Dg fun _=>false)),(1,.var ((woL W).map Tr.cv))]⟩) (fun k=>W.sn - k) (fun k=>k<=W.sn) 0 ?_ (Nat.zero_le _) ?_
 ·simp[go_sem];refine⟨KZ rfl,XZ fun i j _ B=>?_⟩;cases (show j=0 by omega);rfl
 intro k w;have o:=Of W k;simp[go_sem,Ao (show k<=1000000000 by omega)];refine⟨fun g=>?_,fun g=>?_⟩
 ·refine⟨g,by omega,k+1,by omega,by omega,rfl,GF Hu ?_⟩;rw[Yi,OO g]
 cases (show k=W.sn by omega);refine BC (fun k:Nat=>⟨[(1,true,.m false [.p 1 0]),(3,true,.m false [.h 7]),(4,true,.m false [.h 8]),(6,true,.i k)],[(8,.row 2 (F0 W (W.sn+k)).length (ptL (F0 W (W.sn+k)))),(7,.row 1 W.pool.n (Dg fun _=>false)),(1,.var ((woL W).map Tr.cv))]⟩) (fun k=>W.pn - k) (fun k=>k<=W.pn) 0 (by simp[go_sem]) (Nat.zero_le _) ?_;intro k w;have o:=Of W (W.sn+k);simp[go_sem,Ao (show k<=1000000000 by omega)];refine⟨fun g=>?_,fun g=>?_⟩
 ·refine⟨g,by omega,k+1,by omega,by omega,rfl,GF Hu ?_⟩;rw[<-Nat.add_assoc,Yi,Oe]
 cases (show k=W.pn by omega);obtain⟨R,r⟩:∃R,R=F0 W (W.sn+W.pn):=⟨_,rfl⟩;rw[<-r];have t:R.length=W.sn+W.pn:=by rw[r];exact Of _ _
 refine BC (fun k:Nat=>⟨[(1,true,.m false [.p 1 0]),(3,true,.m false [.h 7]),(4,true,.m false [.h 8]),(7,true,.i k)],[(8,.row 2 R.length (ptL R)),(7,.row 1 W.pool.n (Dg (JH W k [] 0))),(1,.var ((woL W).map Tr.cv))]⟩) (fun k=>R.length - k) (fun k=>k<=R.length) 0 ?_ (Nat.zero_le _) ?_
 ·simp[go_sem];refine Je fun i _=>?_
  symm;rw[JH,PF];rintro(⟨i,hi,_⟩ | ⟨q,f,_⟩)
  ·omega
  ·omega
 intro k w;simp[go_sem,Ao (show k<=1000000000 by omega),J0,c.right];refine⟨fun e=>?_,fun e=>?_⟩
 ·have d:k<W.sn+W.pn:=(by omega);have z:AK R k=(DG W k).1:=(by rw[r];exact(XB d).1);have A:AM R k=(DG W k).2:=(by rw[r];exact(XB d).2);have v:Ay W.pool (DG W k).1 (DG W k).2:=zFn c.trees d;rw[z,A];refine⟨e,v,by kernel_rfl,?_⟩;obtain⟨l,a⟩:∃l,l=AF W.pool (DG W k).1 (DG W k).2:=⟨_,rfl⟩;have D:l.length<=100:=(by have:=DX W.pool (DG W k).1 (DG W k).2;rw[a];omega);rw[<-a];refine BC (fun j:Nat=>⟨[(9,true,.i j),(8,true,.m false [.h 60]),(1,true,.m false [.p 1 0]),(3,true,.m false [.h 7]),(4,true,.m false [.h 8]),(7,true,.i k)],[(60,.row 2 l.length (ptL l)),(8,.row 2 R.length (ptL R)),(7,.row 1 W.pool.n (Dg (JH W k l j))),(1,.var ((woL W).map Tr.cv))]⟩) (fun j=>l.length - j) (fun j=>j<=l.length) 0 ?_ (Nat.zero_le _) ?_
  ·simp[go_sem];refine Je fun i _=>?_
   rw[JH,JH,Zu];exact⟨fun h=>h.elim Or.inl fun ⟨q,f,_⟩=>by omega,fun h=>h.elim Or.inl fun ⟨q,f,_⟩=>by omega⟩
  intro j B;simp[go_sem,Ao (show j<=1000000000 by omega),Ao (show k<=1000000000 by omega)];have x:La W k l j (JH W k l j):=fun s=>FJ
  refine⟨fun b=>?_,fun b=>⟨k+1,e,by omega,rfl,?_⟩⟩
  ·obtain⟨q,f,u⟩:=UD c.right v (j:=j) (by rw[<-a];exact b);rw[<-a]at f;rw[f];refine⟨b,⟨by omega,by omega⟩,by simpa using u,j+1,b,by omega,rfl,Xa fun i _=>?_⟩;exact Bool.eq_iff_iff.2 (FJ.trans (zAe x f i).symm)
  ·cases (show j=l.length by omega);refine Je fun i _=>?_
   exact Bool.eq_iff_iff.2 ((zAf x a i).trans FJ.symm)
 ·cases (show k=R.length by omega);refine⟨Je fun i _=>?_,zB7⟩;rw[JH,KM,Zu,zB4,t];exact⟨fun h=>h.elim id fun ⟨q,f,_⟩=>by omega,Or.inl⟩
set_option maxRecDepth 20000
set_option maxHeartbeats 1600000
variable{a b:Nat}
theorem SJ(h:a+b<=1000000000):IntKind.i64.wrap ((a:Int)+(b:Int))=(a:Int)+(b:Int):=by
 unfold IntKind.wrap;simp[IntKind.signed,IntKind.bits];omega
theorem zIp(h:a<=1000000000)(c:b<=1000000000):IntKind.i64.wrap ((a:Int) - (b:Int))=(a:Int) - (b:Int):=by
 unfold IntKind.wrap;simp[IntKind.signed,IntKind.bits];omega
theorem tnS:((a:Int) - (b:Int)).toNat=a - b:=by omega
attribute [go_sem] Bz
attribute [-go_sem] Bz
def KC(W:A4)(k:Nat)(now old:List (Int×Int))(j s:Nat):Bool:=dB (yC W k now old j s)
def qB:AJ:=AU (fun W:A4=>[woT W]) (fun W=>Gv W) (fun W=>bR (Ig W))
theorem zn(W:A4):qB [woT W]=some (Gv W,bR (Ig W)):=Af (fun l=>C3 (nth l 0)) (fun _=>rfl) W
theorem zBn:Am Tryz.prog 71 qB:=by
 refine Az Al (GOk.cons L6 (AB Tryz.func82 rfl rfl) (GOk.cons Jt (AB Tryz.func134 rfl rfl) (GOk.cons Nt (AB Tryz.func135 rfl rfl) GOk.nil))) Ak Tryz.func71 rfl Tryz.ntmps71 Tryz.results71 12 ?_;intro W u;replace u:Gv W:=u;have K:W.sn<=8:=u.Ap.2.2.1;have H:W.pn<=20:=u.Ap.2.2.2.1;have hn:W.pool.n<=200:=u.right.1;refine⟨by simp,?_⟩;simp[go_sem];refine⟨by omega,?_⟩;refine BC (fun k:Nat=>⟨[(1,true,.m false [.p 1 0]),(3,true,.m false [.h 61]),(4,true,.i k)],[(61,.row 1 W.pool.n (Dg (KC W k [] [] 0))),(1,.var ((woL W).map Tr.cv))]⟩) (fun k=>memN W - k) (fun k=>k<=memN W/\Q9 W k) 0 ?_ ⟨Nat.zero_le _,fun i hi=>by omega⟩ ?_
 ·simp[go_sem];refine XZ fun i j _ D=>?_
  cases (show j=0 by omega);have:KC W 0 [] [] 0 i=false:=by
   rw[KC,PF];rintro(⟨i,hi,_⟩ | ⟨q,M,_⟩)<;>omega
  simp[this]
 rintro k ⟨L,G⟩;have J:memN W=W.pn+W.sn:=rfl;by_cases E:k<memN W;rotate_left
 ·have z:¬(k:Int)<(W.pn:Int)+(W.sn:Int):=(by omega);simp[go_sem,SJ (show W.pn+W.sn<=1000000000 by omega),z];cases (show k=memN W by omega);exact G
 have z:(k:Int)<(W.pn:Int)+(W.sn:Int):=by omega
 have f:Ay W.pool (A8 W k).rs (A8 W k).rb:=u.trees.tree k E;have g:=LU u.A2 (A8 W k).A6;have x:=Ko u.ids (A8 W k).A6;by_cases hs:k<W.pn
 case' pos=>
  have e:A8 W k=Me (W.A2 k):=Co hs;rw[e]at f g x;replace f:Ay W.pool (W.A2 k).rs (W.A2 k).rb:=f;replace g:Ay W.pool (AI W (W.A2 k).A6).rs (AI W (W.A2 k).A6).rb:=g;replace x:Eo W (W.A2 k).A6=AI W (W.A2 k).A6:=x;obtain⟨a,b⟩:∃l,l=AF W.pool (W.A2 k).rs (W.A2 k).rb:=⟨_,rfl⟩;obtain⟨c,d⟩:∃l,l=AF W.pool (AI W (W.A2 k).A6).rs (AI W (W.A2 k).A6).rb:=⟨_,rfl⟩;have o:a=treeM W (A8 W k):=(by rw[e];exact b);have r:c=oldM W (A8 W k):=(by rw[e];exact d);simp[go_sem,SJ (show W.pn+W.sn<=1000000000 by omega),z,hs,Jr,J0,u.pn,u.right,x,g,f,<-b,<-d]
 case' neg=>
  have e:A8 W k=LA W.time (W.A1 (k - W.pn)):=by
   have:=Cp W (k - W.pn)
   rwa [show W.pn+(k - W.pn)=k by omega]at this
  rw[e]at f g x;replace f:Ay W.pool (W.A1 (k - W.pn)).rs (W.A1 (k - W.pn)).rb:=f;replace g:Ay W.pool (AI W (W.A1 (k - W.pn)).A6).rs (AI W (W.A1 (k - W.pn)).A6).rb:=g;replace x:Eo W (W.A1 (k - W.pn)).A6=AI W (W.A1 (k - W.pn)).A6:=x;obtain⟨a,b⟩:∃l,l=AF W.pool (W.A1 (k - W.pn)).rs (W.A1 (k - W.pn)).rb:=⟨_,rfl⟩;obtain⟨c,d⟩:∃l,l=AF W.pool (AI W (W.A1 (k - W.pn)).A6).rs (AI W (W.A1 (k - W.pn)).A6).rb:=⟨_,rfl⟩;have o:a=treeM W (A8 W k):=(by rw[e];exact b);have r:c=oldM W (A8 W k):=(by rw[e];exact d);simp[go_sem,SJ (show W.pn+W.sn<=1000000000 by omega),zIp (show k<=1000000000 by omega) (show W.pn<=1000000000 by omega),tnS,z,hs,Jr,J0,u.pn,u.right,x,g,f,<-b,<-d];refine⟨⟨by omega,by omega⟩,?_⟩
 all_goals
  have N:a.length<=100:=(by rw[b];exact Nat.le_trans (DX ..) (by omega));have lo:c.length<=100:=(by rw[d];exact Nat.le_trans (DX ..) (by omega));have y:∀j,j<a.length->∃s:Nat,AK a j=(s:Int)/\s<W.pool.n:=fun j D=>by
   rw[b];exact UD u.right f (by rw[<-b];exact D)
  clear b d f g x e z hs;refine BC (fun j:Nat=>⟨[(11,true,.i j),(10,true,.m false [.h 63]),(9,true,.m false [.h 62]),(1,true,.m false [.p 1 0]),(3,true,.m false [.h 61]),(4,true,.i k)],[(63,.row 2 a.length (ptL a)),(62,.row 2 c.length (ptL c)),(61,.row 1 W.pool.n (Dg (KC W k a c j))),(1,.var ((woL W).map Tr.cv))]⟩) (fun j=>a.length - j) (fun j=>j<=a.length/\Kb W k a c j) 0 ?_ ⟨Nat.zero_le _,fun i hi=>absurd hi (Nat.not_lt_zero _)⟩ ?_
  ·simp[go_sem];have I:FT W k [] [] 0 (KC W k [] [] 0):=fun s=>FJ
   exact Je fun i _=>Bool.eq_iff_iff.2 ((zAO I a c i).trans FJ.symm)
  rintro j ⟨D,v⟩;have A:FT W k a c j (KC W k a c j):=fun s=>FJ
  have F:c.length<=1000000:=(by omega);simp[go_sem,NP,Ao (show j<=1000000000 by omega),Ao (show k<=1000000000 by omega),SI,F];refine⟨fun t=>⟨t,fun w=>⟨j+1,⟨t,zFu v w⟩,by omega,rfl,?_⟩,fun w=>?_⟩,fun t=>?_⟩
  ·exact Je fun i _=>Bool.eq_iff_iff.2 ((zE1 A w i).trans FJ.symm)
  ·obtain⟨s,hs,C⟩:=y j t;rw[hs];refine⟨t,⟨by omega,by omega⟩,by simpa using C,fun B=>?_,fun B=>⟨t,⟨by omega,by omega⟩,by simpa using C,j+1,⟨t,?_⟩,by omega,rfl,?_⟩⟩
   ·rw[Int.toNat_natCast]at B;exact zAP u.trees E o r A t hs w B
   ·rw[Int.toNat_natCast]at B;exact zFr v A hs B
   ·rw[Int.toNat_natCast];exact Xa fun i _=>Bool.eq_iff_iff.2 (FJ.trans (zE0 A hs w i).symm)
  ·cases (show j=a.length by omega);refine⟨k+1,⟨E,zBV G o r v⟩,by omega,rfl,Je fun i _=>?_⟩;exact Bool.eq_iff_iff.2 ((zE3 A o r i).trans FJ.symm)
set_option maxRecDepth 20000
set_option maxHeartbeats 3200000
attribute [go_sem] Bz
attribute [-go_sem] Bz
structure SmallW (W:A4):Prop where
 n:W.pool.n<=1000000
 hn:W.pool.hn<=1000000
 sn:W.sn<=1000000
 pn:W.pn<=1000000
 sd:∀i,i<W.sn->(W.A1 i).dn<=1000000
 pd:∀i,i<W.pn->(W.A2 i).dn<=1000000
theorem zHm(h:k<W.pn):Df W k↔Dy (W.A2 k).dn (W.A2 k).ds (W.A2 k).db (BX (AF W.pool (AI W (W.A2 k).A6).rs (AI W (W.A2 k).A6).rb) (AF W.pool (W.A2 k).rs (W.A2 k).rb)):=by
 unfold Df;rw[Co h];exact Iff.rfl
theorem zHn:Df W (W.pn+k)↔Dy (W.A1 k).dn (W.A1 k).ds (W.A1 k).db (BX (AF W.pool (AI W (W.A1 k).A6).rs (AI W (W.A1 k).A6).rb) (AF W.pool (W.A1 k).rs (W.A1 k).rb)):=by
 unfold Df;rw[Cp];exact Iff.rfl
def mWR:AJ:=AU (fun W:A4=>[woT W]) (fun W=>SmallW W) (fun W=>bR (BE W))
theorem CH(W:A4):mWR [woT W]=some (SmallW W,bR (BE W)):=Af (fun l=>C3 (nth l 0)) (fun _=>rfl) W
theorem Fo:Am Tryz.prog 29 mWR:=by
 refine Az Al (GOk.cons OV (AB Tryz.func68 rfl rfl) (GOk.cons P4 (AB Tryz.func62 rfl rfl) (GOk.cons zBo (AB Tryz.func63 rfl rfl) (GOk.cons zCX (AB Tryz.func64 rfl rfl) (GOk.cons Yu (AB Tryz.func65 rfl rfl) (GOk.cons zBI (AB Tryz.func66 rfl rfl) (GOk.cons zBq (AB Tryz.func67 rfl rfl) (GOk.cons MD (AB Tryz.func69 rfl rfl) (GOk.cons zBH (AB Tryz.func70 rfl rfl) (GOk.cons zBn (AB Tryz.func71 rfl rfl) GOk.nil)))))))))) Ak Tryz.func29 rfl Tryz.ntmps29 Tryz.results29 8 ?_;intro W d;replace d:SmallW W:=d;refine⟨by simp,?_⟩;simp[go_sem,OK,zDZ,zBM,d.n,d.hn,d.sn,d.pn];refine⟨fun h b=>?_,fun o q z=>?_⟩
 ·rcases h with(h | h) | ⟨x,E,h⟩
  ·exact h b.right
  ·exact h b.Ap
  ·exact h (b.lines x E)
 have D:W.sn<=8:=q.2.2.1;have w:W.pn<=20:=q.2.2.2.1;refine BC (fun k:Nat=>⟨[(1,true,.m false [.p 1 0]),(3,true,.i k)],[(1,.var ((woL W).map Tr.cv))]⟩) (fun k=>W.pn - k) (fun k=>k<=W.pn/\∀i,i<k->Ay W.pool (W.A2 i).rs (W.A2 i).rb) 0 (by simp[go_sem]) (by simp) ?_;rintro k ⟨u,f⟩;simp[go_sem,Ao (show k<=1000000000 by omega),PT,o];refine⟨fun a=>⟨a,by kernel_rfl,fun h b=>h (b.A2 k a),fun h=>⟨k+1,⟨by omega,Bu a f h⟩,by omega,rfl⟩⟩,fun a=>?_⟩;cases (show k=W.pn by omega);have e:EO W:=⟨o,q,f⟩;refine BC (fun k:Nat=>⟨[(1,true,.m false [.p 1 0]),(4,true,.i k)],[(1,.var ((woL W).map Tr.cv))]⟩) (fun k=>W.sn - k) (fun k=>k<=W.sn/\∀i,i<k->Ay W.pool (W.A1 i).rs (W.A1 i).rb/\Df W (W.pn+i)) 0 (by simp[go_sem]) (by simp) ?_;rintro k ⟨u,c⟩;simp[go_sem,Ao (show k<=1000000000 by omega),PT,V9,o,e,<-zHn];refine⟨fun a=>⟨a,fun _=>a,fun h=>⟨h,d.sd k a⟩,by kernel_rfl,fun h b=>?_,fun r t=>⟨k+1,⟨by omega,Bu a c ⟨r,t⟩⟩,by omega,rfl⟩⟩,fun a=>?_⟩
 ·exact h.elim (fun h=>h (b.A1 k a).1) (fun h=>h (b.A1 k a).2)
 cases (show k=W.sn by omega);have l:Gv W:=⟨e,fun i hi=>(c i hi).1⟩;refine BC (fun k:Nat=>⟨[(1,true,.m false [.p 1 0]),(5,true,.i k)],[(1,.var ((woL W).map Tr.cv))]⟩) (fun k=>W.pn - k) (fun k=>k<=W.pn/\∀i,i<k->Df W i) 0 (by simp[go_sem]) (by simp) ?_;rintro k ⟨u,g⟩;by_cases a:k<W.pn
 ·have A:=f k a;have B:=d.pd k a;simp[go_sem,Ao (show k<=1000000000 by omega),V9,e,a,A,B,<-zHm a];refine⟨by kernel_rfl,fun h b=>h (b.dead k a),fun h=>⟨k+1,⟨by omega,Bu a g h⟩,by omega,rfl⟩⟩
 simp[go_sem,Ao (show k<=1000000000 by omega),a,zDc,l];cases (show k=W.pn by omega);refine BC (fun k:Nat=>⟨[(1,true,.m false [.p 1 0]),(6,true,.m false [.h 61]),(7,true,.i k)],[(61,.row 1 W.pool.n (Dg (KM W))),(1,.var ((woL W).map Tr.cv))]⟩) (fun k=>W.pool.n - k) (fun k=>k<=W.pool.n/\∀i,i<k->(KN W i↔(¬Ag (W.pool.s i)/\¬Has W.pool.hn W.pool.h i))) 0 (by simp[go_sem]) (by simp) ?_;rintro k ⟨u,j⟩;have v:W.pool.n<=200:=o.1;simp[go_sem,Ao (show k<=1000000000 by omega),Lw,KT,zDW,zn,l,e,d.hn];have C:KM W k=(!dB (Ag (W.pool.s k)) && !dB (Has W.pool.hn W.pool.h (k:Int)))↔(KN W k↔(¬Ag (W.pool.s k)/\¬Has W.pool.hn W.pool.h k)):=by
  unfold KM;by_cases r:KN W k<;>by_cases t:Ag (W.pool.s k)<;>by_cases y:Has W.pool.hn W.pool.h (k:Int)<;>simp[dB,r,t,y]
 rw[C];refine⟨fun a=>⟨a,by kernel_rfl,fun h b=>h (b.reach k a),fun h=>⟨k+1,⟨by omega,Bu a j h⟩,by omega,rfl⟩⟩,fun a=>⟨l.A1,fun h=>?_,fun b=>⟨b.born,b.C7⟩⟩⟩;cases (show k=W.pool.n by omega);exact⟨o,q,z,f,c,g,j,h.1,h.2⟩
set_option maxRecDepth 20000
set_option maxHeartbeats 3200000
attribute [go_sem] Bz
attribute [-go_sem] Bz
def Dk(W:A4)(x:Int):Nat->Nat
 | 0=>0
 | k+1=>Dk W x k+(if (W.A1 k).A6=x then 1 else 0)
def E8(W:A4)(x:Int):Nat->Nat
 | 0=>0
 | k+1=>E8 W x k+(if (W.A2 k).A6=x then 1 else 0)
theorem TW(W:A4)(x:Int):∀k,Dk W x k<=k
 | 0=>Nat.le_refl _
 | k+1=>by have:=TW W x k;rw[Dk];split<;>omega
theorem TU(W:A4)(x:Int):∀k,E8 W x k<=k
 | 0=>Nat.le_refl _
 | k+1=>by have:=TU W x k;rw[E8];split<;>omega
def qK:AJ:=AU (fun q:A4×Int=>[woT q.1,iT q.2]) (fun q=>q.1.sn<=1000000/\q.1.pn<=1000000) (fun q=>[iT ((Dk q.1 q.2 q.1.sn+E8 q.1 q.2 q.1.pn:Nat):Int)])
theorem Vy(W:A4)(x:Int):qK [woT W,iT x]=some (W.sn<=1000000/\W.pn<=1000000,[iT ((Dk W x W.sn+E8 W x W.pn:Nat):Int)]):=Af (fun l=>(C3 (nth l 0),AQ (nth l 1 0))) (fun _=>rfl) (W,x)
theorem zBp:Am Tryz.prog 151 qK:=by
 refine Az Al GOk.nil Ak Tryz.func151 rfl Tryz.ntmps151 Tryz.results151 8 ?_;rintro⟨W,x⟩ ⟨hn,b⟩;replace hn:W.sn<=1000000:=hn;replace b:W.pn<=1000000:=b;refine⟨by simp,?_⟩;simp[go_sem];refine BC (fun k:Nat=>⟨[(2,true,.m false [.p 2 0]),(1,true,.i x),(5,true,.i (Dk W x k)),(6,true,.i k)],[(2,.var ((woL W).map Tr.cv))]⟩) (fun k=>W.sn - k) (fun k=>k<=W.sn) 0 (by simp[go_sem,Dk]) (by simp) ?_;intro k e;have f:=TW W x k;simp[go_sem,Ao (show k<=1000000000 by omega),Ao (show Dk W x k<=1000000000 by omega)];refine⟨fun a=>⟨a,fun h=>⟨k+1,by omega,by omega,by rw[Dk,if_pos h];rfl,rfl⟩,fun h=>⟨k+1,by omega,by omega,by rw[Dk,if_neg h];rfl,rfl⟩⟩,fun a=>?_⟩;cases (show k=W.sn by omega);refine BC (fun k:Nat=>⟨[(2,true,.m false [.p 2 0]),(1,true,.i x),(5,true,.i (Dk W x W.sn+E8 W x k)),(7,true,.i k)],[(2,.var ((woL W).map Tr.cv))]⟩) (fun k=>W.pn - k) (fun k=>k<=W.pn) 0 (by simp[go_sem,E8]) (by simp) ?_;intro k e;have d:=TU W x k;have c:=Ao (show Dk W x W.sn+E8 W x k<=1000000000 by omega);simp only[Int.natCast_add]at c;simp[go_sem,Ao (show k<=1000000000 by omega),c];refine⟨fun a=>⟨a,fun h=>⟨k+1,by omega,by omega,by rw[E8,if_pos h];omega,rfl⟩,fun h=>⟨k+1,by omega,by omega,by rw[E8,if_neg h];rfl,rfl⟩⟩,fun a=>?_⟩;cases (show k=W.pn by omega);rfl
set_option maxRecDepth 20000
set_option maxHeartbeats 3200000
def FL(s:Nat->Ad)(k:Nat):Nat->Nat->Tr:=fun i=>if i<k then setsE .o s i else setsE .b s i
def Fp(s:Nat->Ae)(k:Nat):Nat->Nat->Tr:=fun i=>if i<k then snapsE .z s i else snapsE .b s i
theorem CX{s:Nat->Ad}:(Tr.s .o 6 n (setsE .o s)).kept:=⟨by simp,fun i j _ a=>by
 match j,a with
 | 0,_ | 1,_ | 2,_ | 3,_ | 4,_=>trivial
 | 5,_=>exact Ks.2 trivial⟩
theorem CW{s:Nat->Ae}:(Tr.s .o 8 n (snapsE .z s)).kept:=⟨by simp,fun i j _ a=>by
 match j,a with
 | 0,_ | 1,_ | 2,_ | 3,_ | 4,_ | 5,_ | 6,_=>trivial
 | 7,_=>exact⟨by simp,fun p q _ _=>by unfold ptrsT;split<;>trivial⟩⟩
theorem zHz{s:Nat->Ad}:FL s 0=setsE .b s:=by funext i;simp[FL]
theorem zHy{s:Nat->Ae}:Fp s 0=snapsE .b s:=by funext i;simp[Fp]
theorem zGy{s:Nat->Ad}(h:k<=i):FL s k i=setsE .b s i:=if_neg (by omega)
theorem zGw{s:Nat->Ae}(h:k<=i):Fp s k i=snapsE .b s i:=if_neg (by omega)
theorem zEy{s:Nat->Ad}:TrE (.s fl 6 n (FL s n)) (.s fl 6 n (setsE .o s)):=F1 fun i j hi a=>by rw[FL,if_pos hi]
theorem zEx{s:Nat->Ae}:TrE (.s fl 8 n (Fp s n)) (.s fl 8 n (snapsE .z s)):=F1 fun i j hi a=>by rw[Fp,if_pos hi]
theorem zFT{s:Nat->Ad}:(fun p q=>(setsE .b s p q).nt)=setsE .b s:=by
 funext p q
 match q with
 | 0 | 1 | 2 | 3 | 4=>rfl
 | 5=>rfl
 | q+6=>rfl
theorem X2{s:Nat->Ae}:(fun p q=>(snapsE .b s p q).nt)=snapsE .b s:=by
 funext p q
 match q with
 | 0 | 1 | 2 | 3 | 4 | 5 | 6=>rfl
 | 7=>rfl
 | q+8=>rfl
theorem zGz{s:Nat->Ad}(hF:TrE (.s .o 2 (s k).dn F) (.s .o 2 (s k).dn (ptrsT (s k).ds (s k).db))):TrE (.s fl 6 n (Ab (FL s k) k 5 [.s .o 2 (s k).dn F])) (.s fl 6 n (FL s (k+1))):=by
 refine⟨.inl rfl,rfl,rfl,fun i j hi a=>?_⟩;by_cases h:i=k
 ·subst h
  match j,a with
  | 0,_ | 1,_ | 2,_ | 3,_ | 4,_=>exact TrE.of_eq (by simp[Ab,FL,setsE])
  | 5,_=>simpa[Ab,FL,setsE]using hF
 ·refine TrE.of_eq ?_;have:(i<k+1)=(i<k):=propext (by omega);simp[Ab,FL,h,this]
theorem zGx{s:Nat->Ae}(hF:TrE (.s .o 2 (s k).dn F) (.s .z 2 (s k).dn (ptrsT (s k).ds (s k).db))):TrE (.s fl 8 n (Ab (Fp s k) k 7 [.s .o 2 (s k).dn F])) (.s fl 8 n (Fp s (k+1))):=by
 refine⟨.inl rfl,rfl,rfl,fun i j hi a=>?_⟩;by_cases h:i=k
 ·subst h
  match j,a with
  | 0,_ | 1,_ | 2,_ | 3,_ | 4,_ | 5,_ | 6,_=>exact TrE.of_eq (by simp[Ab,Fp,snapsE])
  | 7,_=>simpa[Ab,Fp,snapsE]using hF
 ·refine TrE.of_eq ?_;have:(i<k+1)=(i<k):=propext (by omega);simp[Ab,Fp,h,this]
attribute [go_sem] Bz
structure Bw (W:A4):Prop extends SmallW W where
 kn:∀i,i<W.pool.n->(W.pool.s i).kn<=1000000
def qR:AJ:=AU (fun W:A4=>[woT W]) (fun W=>Bw W) (fun W=>[woO W])
theorem DW(W:A4):qR [woT W]=some (Bw W,[woO W]):=Af (fun l=>C3 (nth l 0)) (fun _=>rfl) W
theorem IK:Am Tryz.prog 81 qR:=by
 refine Az Al (GOk.cons OU (AB Tryz.func89 rfl rfl) GOk.nil) Ak Tryz.func81 rfl Tryz.ntmps81 Tryz.results81 6 ?_;intro W a;replace a:Bw W:=a;have hn:=a.n;have f:=a.hn;have hs:=a.sn;have g:=a.pn;refine⟨by simp,?_⟩;simp[go_sem,Lu,hn,f,GX,TQ,HJ,zFT,X2];refine⟨a.kn,by omega,?_⟩;refine BC (fun k:Nat=>⟨[(4,true,.i k),(3,true,.m false [.p 3 0]),(2,true,.m false [.p 2 0]),(1,true,.m false [.p 1 0])],[(3,.var [.h 61,.h 62,.v (.int .i64 W.time),.v (.int .i64 W.next),.h 63,.s .b 8 W.pn (snapsE .b W.A2)]),(63,.row 6 W.sn (FL W.A1 k)),(62,.row 1 W.pool.hn (BF W.pool.h)),(61,.row 3 W.pool.n (Aw .z W.pool.s)),(2,.var [.v n0,.v n0,.v i0,.v i0,.v n0,.v n0]),(1,.var ((woL W).map Tr.cv))]⟩) (fun k=>W.sn - k) (fun k=>k<=W.sn) 0 (by rw[zHz];simp[go_sem]) (Nat.zero_le _) ?_;intro k e;simp[go_sem,Ao (show k<=1000000000 by omega),GX,HJ,X2,zGy (Nat.le_refl k)];refine⟨fun c=>?_,fun c=>?_⟩
 ·have d:=a.sd k c;exact⟨c,by omega,c,by kernel_rfl,k+1,by omega,by omega,rfl,zGz (TrE.refl _)⟩
 cases (show k=W.sn by omega);refine⟨by omega,?_⟩;refine BC (fun k:Nat=>⟨[(5,true,.i k),(3,true,.m false [.p 3 0]),(2,true,.m false [.p 2 0]),(1,true,.m false [.p 1 0])],[(3,.var [.h 61,.h 62,.v (.int .i64 W.time),.v (.int .i64 W.next),.h 63,.h 64]),(64,.row 8 W.pn (Fp W.A2 k)),(63,.row 6 W.sn (FL W.A1 W.sn)),(62,.row 1 W.pool.hn (BF W.pool.h)),(61,.row 3 W.pool.n (Aw .z W.pool.s)),(2,.var [.v n0,.v n0,.v i0,.v i0,.v n0,.v n0]),(1,.var ((woL W).map Tr.cv))]⟩) (fun k=>W.pn - k) (fun k=>k<=W.pn) 0 (by rw[zHy];simp[go_sem]) (Nat.zero_le _) ?_;intro k e;simp[go_sem,Ao (show k<=1000000000 by omega),GX,HJ,zGw (Nat.le_refl k)];refine⟨fun c=>?_,fun c=>?_⟩
 ·have d:=a.pd k c;exact⟨c,by omega,c,by kernel_rfl,k+1,by omega,by omega,rfl,zGx ⟨.inr ⟨rfl,rfl⟩,rfl,rfl,fun i j _ _=>TrE.refl _⟩⟩
 cases (show k=W.pn by omega);exact⟨Bg,Bq,⟨zEy,CX⟩,zEx,CW⟩
set_option maxRecDepth 20000
set_option maxHeartbeats 3200000
abbrev wuO(o:Bk):Bool×List Tr:=(true,[.s .o 3 o.world.pool.n (Aw .z o.world.pool.s),.s .o 1 o.world.pool.hn (BF o.world.pool.h),.v (.int .i64 o.world.time),.v (.int .i64 o.world.next),.s .o 6 o.world.sn (setsE .o o.world.A1),.s .o 8 o.world.pn (snapsE .z o.world.A2),.v (.int .i64 o.id),.v (.int .i64 o.many),.v (.int .i64 o.code)])
abbrev woV(W:A4):List Tr:=[.s .o 3 W.pool.n (Aw .z W.pool.s),.s .o 1 W.pool.hn (BF W.pool.h),.v (.int .i64 W.time),.v (.int .i64 W.next),.s .o 6 W.sn (setsE .o W.A1),.s .o 8 W.pn (snapsE .z W.A2)]
def GV(W:A4)(l:List (Int×Int)):A4:={W with pool:=BH W.pool l}
abbrev psL(l:List (Int×Int)):Bool×List Tr:=psT l.length (fun i=>AK l i) (fun i=>AM l i)
def K7(a:Tr):List (Int×Int):=(List.range (DI a)).map fun i=>(AQ (Br a i 0),AQ (Br a i 1))
theorem Pr(l:List (Int×Int)):K7 (.s .b 2 l.length (ptrsT (fun i=>AK l i) (fun i=>AM l i)))=l:=by
 show(List.range l.length).map (fun i=>(AK l i,AM l i))=l;apply List.ext_getElem
 ·simp
 ·intro i c a;simp[<-LJ,<-SH,a]
theorem Qq{p:A5}{x:Int}:TrE (.s fl 1 (p.hn+1) (Ah (BF p.h) p.hn (fun a q=>([Tr.v (Value.int .i64 x)][a+q]?.getD (.v (.bool false))).nt))) (.s fl 1 (CM p x).hn (BF (CM p x).h)):=F1 fun i j hi b=>by
 cases (show j=0 by omega);unfold Ah;by_cases h:i<p.hn
 ·rw[if_pos h];show _=Tr.v (.int .i64 (if i=p.hn then x else p.h i));rw[if_neg (by omega)];rfl
 ·cases (show i=p.hn by omega);rw[if_neg h,Nat.sub_self];show _=Tr.v (.int .i64 (if p.hn=p.hn then x else p.h p.hn));rw[if_pos rfl];rfl
attribute [-go_sem] Bz
def zG:AJ:=AU (fun c:Int=>[iT c]) (fun _=>True) (fun c=>[wuO (BQ c)])
theorem C1(c:Int):zG [iT c]=some (True,[wuO (BQ c)]):=Af (fun l=>AQ (nth l 0 0)) (fun _=>rfl) c
theorem Gi:Am Tryz.prog 31 zG:=by
 refine Az Al GOk.nil Ak Tryz.func31 rfl Tryz.ntmps31 Tryz.results31 3 ?_;intro c a;refine⟨by simp,?_⟩;simp[go_sem,BQ,noW,Ck]
open Classical in
def Ix(W:A4)(x:ByteArray):Int:=if BP W x then 5 else if 8<=W.sn then 6 else 0
def zM:AJ:=AU (fun q:A4×ByteArray=>[woT q.1,sT q.2]) (fun q=>q.1.sn<=1000000) (fun q=>[iT (Ix q.1 q.2)])
theorem T5(W:A4)(x:ByteArray):zM [woT W,sT x]=some (W.sn<=1000000,[iT (Ix W x)]):=Af (fun l=>(C3 (nth l 0),CK (nth l 1 0))) (fun _=>rfl) (W,x)
theorem Vn:Am Tryz.prog 98 zM:=by
 refine Az Al (GOk.cons I3 (AB Tryz.func32 rfl rfl) GOk.nil) Ak Tryz.func98 rfl Tryz.ntmps98 Tryz.results98 5 ?_;rintro⟨W,x⟩ a;replace a:W.sn<=1000000:=a;refine⟨by simp,?_⟩;simp[go_sem,Cb,a,E4,Ci];refine⟨fun h=>(if_pos h).symm,fun h=>⟨fun b=>?_,fun b=>?_⟩⟩
 ·rw[Ix,if_neg h,if_pos (by omega)]
 ·rw[Ix,if_neg h,if_neg (by omega)]
def qI:AJ:=AU (fun q:A4×ByteArray×ByteArray=>[woT q.1,sT q.2.1,sT q.2.2]) (fun q=>q.1.pn<=1000000) (fun q=>bR (∃i,i<q.1.pn/\(q.1.A2 i).set=q.2.1/\(q.1.A2 i).name=q.2.2))
theorem Jj(W:A4)(x y:ByteArray):qI [woT W,sT x,sT y]=some (W.pn<=1000000,bR (∃i,i<W.pn/\(W.A2 i).set=x/\(W.A2 i).name=y)):=Af (fun l=>(C3 (nth l 0),CK (nth l 1 0),CK (nth l 2 0))) (fun _=>rfl) (W,x,y)
theorem Yv:Am Tryz.prog 150 qI:=by
 refine Az Al GOk.nil Ak Tryz.func150 rfl Tryz.ntmps150 Tryz.results150 8 ?_;rintro⟨W,x,y⟩ hn;replace hn:W.pn<=1000000:=hn;refine⟨by simp,?_⟩;simp[go_sem];refine BC (fun k:Nat=>⟨[(3,true,.m false [.p 3 0]),(1,true,.m false [.v (.string x)]),(2,true,.m false [.v (.string y)]),(7,true,.i k)],[(3,.var ((woL W).map Tr.cv))]⟩) (fun k=>W.pn - k) (fun k=>k<=W.pn/\∀i,i<k->¬((W.A2 i).set=x/\(W.A2 i).name=y)) 0 (by simp[go_sem]) (by simp) ?_;rintro k ⟨f,c⟩;simp[go_sem,Ao (show k<=1000000000 by omega)];refine⟨fun d=>⟨d,fun _=>d,fun a b=>⟨k,d,GA a,GA b⟩,fun h=>⟨k+1,⟨by omega,fun i hi=>?_⟩,by omega,rfl⟩⟩,fun d i hi a b=>c i (by omega) ⟨a,b⟩⟩;by_cases e:i=k
 ·subst e;exact fun a b=>h (congrArg ByteArray.toList a) (congrArg ByteArray.toList b)
 ·exact fun a b=>c i (by omega) ⟨a,b⟩
def zR:AJ:=AU (fun q:A4×ByteArray=>[woT q.1,sT q.2]) (fun q=>q.1.pn<=1000000) (fun q=>bR (∃i,i<q.1.pn/\(q.1.A2 i).set=q.2))
theorem T8(W:A4)(x:ByteArray):zR [woT W,sT x]=some (W.pn<=1000000,bR (∃i,i<W.pn/\(W.A2 i).set=x)):=Af (fun l=>(C3 (nth l 0),CK (nth l 1 0))) (fun _=>rfl) (W,x)
theorem zg:Am Tryz.prog 152 zR:=by
 refine Az Al GOk.nil Ak Tryz.func152 rfl Tryz.ntmps152 Tryz.results152 6 ?_;rintro⟨W,x⟩ hn;replace hn:W.pn<=1000000:=hn;refine⟨by simp,?_⟩;simp[go_sem];refine BC (fun k:Nat=>⟨[(2,true,.m false [.p 2 0]),(1,true,.m false [.v (.string x)]),(5,true,.i k)],[(2,.var ((woL W).map Tr.cv))]⟩) (fun k=>W.pn - k) (fun k=>k<=W.pn/\∀i,i<k->¬(W.A2 i).set=x) 0 (by simp[go_sem]) (by simp) ?_;rintro k ⟨c,a⟩;simp[go_sem,Ao (show k<=1000000000 by omega)];exact⟨fun b=>⟨b,fun h=>⟨k,b,GA h⟩,fun h=>⟨k+1,⟨by omega,Bu b a fun e=>h (congrArg ByteArray.toList e)⟩,by omega,rfl⟩⟩,fun b i hi=>a i (by omega)⟩
def yN:AJ:=AU (fun q:A4×List (Int×Int)=>(true,woV q.1) :: [psL q.2]) (fun q=>q.1.pool.hn+q.2.length<=1000000) (fun q=>[woO (GV q.1 q.2),iT q.2.length])
theorem QH(W:A4)(l:List (Int×Int)):yN ((true,woV W) :: [psL l])=some (W.pool.hn+l.length<=1000000,[woO (GV W l),iT l.length]):=Af (fun m=>(C3 (nth m 0),K7 (nth m 1 0))) (fun q=>by exact congrArg (Prod.mk q.1) (Pr q.2)) (W,l)
theorem RT:D7 Tryz.prog 84 yN:=by
 refine EW Al GOk.nil Ak Tryz.func84 rfl Tryz.ntmps84 Tryz.results84 6 ?_;rintro⟨W,l⟩ hn;replace hn:W.pool.hn+l.length<=1000000:=hn;refine⟨by simp,?_⟩;simp[go_sem];refine BC (fun k:Nat=>⟨[(5,true,.i k),(0,true,.m false [.p 0 0]),(1,true,.m false [.s .b 2 l.length (ptrsT (fun i=>AK l i) (fun i=>AM l i))])],[(0,.var [.h 1000,.h 2000,.v (.int .i64 W.time),.v (.int .i64 W.next),.h 5000,.h 6000]),(1000,.row 3 W.pool.n (Aw .z W.pool.s)),(2000,.row 1 (BH W.pool (l.take k)).hn (BF (BH W.pool (l.take k)).h)),(5000,.row 6 W.sn (setsE .o W.A1)),(6000,.row 8 W.pn (snapsE .z W.A2))]⟩) (fun k=>l.length - k) (fun k=>k<=l.length) 0 (by simp[go_sem,BH]) (Nat.zero_le _) ?_;intro k g;obtain⟨p,a⟩:∃p,p=BH W.pool (l.take k):=⟨_,rfl⟩;have j:p.hn=W.pool.hn+k:=by rw[a,(EL _ _).2.2,List.length_take,Nat.min_eq_left g]
 have d:k<l.length->BH W.pool (l.take (k+1))=CM p (AK l k):=fun h=>by
  rw[a,List.take_succ_eq_append_getElem h,Oy,<-LJ];simp[h]
 rw[<-a];simp[go_sem,Ao (show k<=1000000000 by omega)];refine⟨fun c=>⟨c,by omega,by kernel_rfl,k+1,c,by omega,rfl,?_⟩,fun c=>?_⟩
 ·rw[d c];exact Qq
 ·cases (show k=l.length by omega);rw[List.take_length]at a;subst a;obtain⟨e,f,-⟩:=EL l W.pool;refine⟨⟨?_,Bg⟩,⟨TrE.refl _,Bq⟩,rfl,rfl,⟨TrE.refl _,CX⟩,TrE.refl _,CW⟩;show TrE _ (Tr.s .o 3 (BH W.pool l).n (Aw .z (BH W.pool l).s));rw[e,f];exact TrE.refl _
open Classical in
def EI(W:A4)(x:ByteArray):Nat:=if h:∃k,k<W.sn/\¬Ce (W.A1 k).name x/\∀j,j<k->Ce (W.A1 j).name x then h.choose else W.sn
variable{x:ByteArray}
theorem VL(h:k<W.sn)(b:¬Ce (W.A1 k).name x)(c:∀j,j<k->Ce (W.A1 j).name x):EI W x=k:=by
 have a:∃k,k<W.sn/\¬Ce (W.A1 k).name x/\∀j,j<k->Ce (W.A1 j).name x:=⟨k,h,b,c⟩;unfold EI;rw[dif_pos a];obtain⟨-,d,f⟩:=a.choose_spec;rcases Nat.lt_trichotomy a.choose k with e | e | e
 ·exact absurd (c _ e) d
 ·exact e
 ·exact absurd (f _ e) b
theorem zGS(h:∀j,j<W.sn->Ce (W.A1 j).name x):EI W x=W.sn:=dif_neg fun ⟨k,h1,h2,_⟩=>h2 (h k h1)
abbrev Ez(a:ByteArray)(o p rs rb:Int):Ad:=⟨a,o,p,rs,rb,0,fun _=>0,fun _=>0⟩
def zE:AJ:=AU (fun q:(A4×ByteArray)×Int×Int×Int×Int=>(true,woV q.1.1) :: [(true,[.v (.string q.1.2),.v (.int .i64 q.2.1),.v (.int .i64 q.2.2.1),.v (.int .i64 q.2.2.2.1),.v (.int .i64 q.2.2.2.2),.v n0])]) (fun q=>q.1.1.sn<=1000000) (fun q=>[woO (Jb q.1.1 (EI q.1.1 q.1.2) (Ez q.1.2 q.2.1 q.2.2.1 q.2.2.2.1 q.2.2.2.2))])
theorem Sx(W:A4)(x:ByteArray)(o p rs rb:Int):zE ((true,woV W) :: [(true,[.v (.string x),.v (.int .i64 o),.v (.int .i64 p),.v (.int .i64 rs),.v (.int .i64 rb),.v n0])])=some (W.sn<=1000000,[woO (Jb W (EI W x) (Ez x o p rs rb))]):=Af (fun m=>((C3 (nth m 0),CK (nth m 1 0)),AQ (nth m 1 1),AQ (nth m 1 2),AQ (nth m 1 3),AQ (nth m 1 4))) (fun _=>rfl) ((W,x),o,p,rs,rb)
theorem Vm:D7 Tryz.prog 99 zE:=by
 refine EW Al GOk.nil Ak Tryz.func99 rfl Tryz.ntmps99 Tryz.results99 6 ?_;rintro⟨⟨W,x⟩,o,p,rs,rb⟩ hn;replace hn:W.sn<=1000000:=hn;refine⟨by simp,?_⟩;simp[go_sem];refine BC (fun k:Nat=>⟨[(4,true,.i k),(0,true,.m false [.p 0 0]),(3,true,.m false [.p 3 0])],[(3,.var [.v (.string x),.v (.int .i64 o),.v (.int .i64 p),.v (.int .i64 rs),.v (.int .i64 rb),.v n0]),(0,.var [.h 1000,.h 2000,.v (.int .i64 W.time),.v (.int .i64 W.next),.h 5000,.h 6000]),(1000,.row 3 W.pool.n (Aw .z W.pool.s)),(2000,.row 1 W.pool.hn (BF W.pool.h)),(5000,.row 6 W.sn (setsE .o W.A1)),(6000,.row 8 W.pn (snapsE .z W.A2))]⟩) (fun k=>W.sn - k) (fun k=>k<=W.sn/\∀j,j<k->Ce (W.A1 j).name x) 0 (by simp[go_sem]) (by simp) ?_;rintro k ⟨c,a⟩;simp[go_sem,Ao (show k<=1000000000 by omega)];refine⟨by kernel_rfl,fun b h=>⟨k+1,⟨b,Bu b a h⟩,by omega,rfl⟩,fun h=>?_⟩;have hK:EI W x=k:=by
  by_cases b:k<W.sn
  ·exact VL b (fun e=>by have:=h b;unfold Ce at e;rw[this]at e;simp at e) a
  ·rw[zGS fun j d=>a j (by omega)];omega
 rw[hK];refine⟨c,⟨c,by omega⟩,by omega,c,⟨by omega,by omega⟩,⟨TrE.refl _,Bg⟩,⟨TrE.refl _,Bq⟩,rfl,rfl,⟨?_,CX⟩,TrE.refl _,CW⟩;refine⟨.inl rfl,rfl,by show k+1+(W.sn - k)=W.sn+1;omega,fun i j hi d=>?_⟩;show TrE _ (setsE .o (ins W.A1 k (Ez x o p rs rb)) i j);rcases Nat.lt_trichotomy i k with e | e | e
 ·have:setsE .o (ins W.A1 k (Ez x o p rs rb)) i j=setsE .o W.A1 i j:=by
   unfold setsE;rw[Zk e]
  rw[this];exact TrE.of_eq (by simp[Ah,e,show i<k+1 by omega])
 ·subst e;have:setsE .o (ins W.A1 i (Ez x o p rs rb)) i j=setsE .o (fun _=>Ez x o p rs rb) i j:=by
   unfold setsE;rw[Zi]
  rw[this]
  match j,d with
  | 0,_ | 1,_ | 2,_ | 3,_ | 4,_=>exact TrE.of_eq (by simp[Ah,setsE])
  | 5,_=>simp[Ah,setsE,TrE]
 ·have:setsE .o (ins W.A1 k (Ez x o p rs rb)) i j=setsE .o W.A1 (i - 1) j:=by
   unfold setsE;rw[Zj e]
  rw[this];refine TrE.of_eq ?_;simp[Ah,ntR,show ¬i<k+1 by omega,show k+(i - (k+1))=i - 1 by omega,show ¬i - 1<k by omega]
set_option maxRecDepth 20000
set_option maxHeartbeats 3200000
open Classical in
def Gb(W:A4)(x:ByteArray):Bk:=if 8000<x.size then BQ 2 else if BE W/\Bp x then(if Ix W x=0 then⟨Jb W (EI W x) (Ez x 0 0 0 0),0,0,0⟩else BQ (Ix W x))else BQ 1
theorem C2{o o':Bk}(h:o'=o):(TrE (.s .o 3 o.world.pool.n (Aw .z o.world.pool.s)) (.s .o 3 o'.world.pool.n (Aw .z o'.world.pool.s))/\(Tr.s .o 3 o'.world.pool.n (Aw .z o'.world.pool.s)).kept)/\(TrE (.s .o 1 o.world.pool.hn (BF o.world.pool.h)) (.s .o 1 o'.world.pool.hn (BF o'.world.pool.h))/\(Tr.s .o 1 o'.world.pool.hn (BF o'.world.pool.h)).kept)/\o.world.time=o'.world.time/\o.world.next=o'.world.next/\(TrE (.s .o 6 o.world.sn (setsE .o o.world.A1)) (.s .o 6 o'.world.sn (setsE .o o'.world.A1))/\(Tr.s .o 6 o'.world.sn (setsE .o o'.world.A1)).kept)/\(TrE (.s .o 8 o.world.pn (snapsE .z o.world.A2)) (.s .o 8 o'.world.pn (snapsE .z o'.world.A2))/\(Tr.s .o 8 o'.world.pn (snapsE .z o'.world.A2)).kept)/\o.id=o'.id/\o.many=o'.many/\o.code=o'.code:=by
 subst h;exact⟨⟨TrE.refl _,Bg⟩,⟨TrE.refl _,Bq⟩,rfl,rfl,⟨TrE.refl _,CX⟩,⟨TrE.refl _,CW⟩,rfl,rfl,rfl⟩
theorem KB{x:Int}(h:CT W x):(BO W.pn fun k=>(W.A2 k).id=x)<W.pn:=by
 rcases YS (I0 W.pn fun k=>(W.A2 k).id=x)with⟨-,-,b,-⟩ | ⟨a,-⟩
 ·exact b
 ·exact absurd h a
theorem Ic(h:BP W x):(BO W.sn fun k=>(W.A1 k).name=x)<W.sn:=by
 rcases I0 W.sn fun k=>(W.A1 k).name=x with⟨k,a,-,-,b⟩ | ⟨a,b⟩
 ·omega
 ·have:=Ci.2 h;omega
attribute [go_sem] Bz
attribute [-go_sem] Bz
def TC:AJ:=AU (fun q:A4×ByteArray=>[woT q.1,sT q.2]) (fun q=>Bw q.1) (fun q=>[wuO (Gb q.1 q.2)])
theorem Xr(W:A4)(x:ByteArray):TC [woT W,sT x]=some (Bw W,[wuO (Gb W x)]):=Af (fun l=>(C3 (nth l 0),CK (nth l 1 0))) (fun _=>rfl) (W,x)
theorem XT:Am Tryz.prog 39 TC:=by
 refine Az Al (GOk.cons IK (AB Tryz.func81 rfl rfl) (GOk.cons Fo (AB Tryz.func29 rfl rfl) (GOk.cons Gi (AB Tryz.func31 rfl rfl) (GOk.cons P3 (AB Tryz.func97 rfl rfl) (GOk.cons Vn (AB Tryz.func98 rfl rfl) (GOk.ptr Vm (AB Tryz.func99 rfl rfl) GOk.nil)))))) Ak Tryz.func39 rfl Tryz.ntmps39 Tryz.results39 7 ?_;rintro⟨W,x⟩ a;replace a:Bw W:=a;have hs:=a.sn;refine⟨by simp,?_⟩;simp[go_sem,DW,CH,C1,IA,T5,Sx,a,a.toSmallW,hs];refine⟨fun h=>?_,fun h=>⟨fun b=>?_,fun b d=>⟨fun c=>?_,fun c=>?_⟩⟩⟩
 ·exact C2 (if_pos (by omega))
 ·exact C2 ((if_neg (by omega)).trans (if_neg fun e=>b.elim (fun h=>h e.1) (fun h=>h e.2)))
 ·exact C2 ((if_neg (by omega)).trans ((if_pos ⟨b,d⟩).trans (if_neg c)))
 ·exact C2 (o:=⟨Jb W (EI W x) (Ez x 0 0 0 0),0,0,0⟩) ((if_neg (by omega)).trans ((if_pos ⟨b,d⟩).trans (if_pos c)))
open Classical in
def Kq(W:A4)(x:Int)(a:ByteArray):Bk:=if 8000<a.size then BQ 2 else if BE W/\Bp a then(if CT W x then(if Ix W a=0 then⟨Jb W (EI W a) (Ez a x x (W.A2 (BO W.pn fun k=>(W.A2 k).id=x).toNat).rs (W.A2 (BO W.pn fun k=>(W.A2 k).id=x).toNat).rb),0,0,0⟩else BQ (Ix W a))else BQ 4)else BQ 1
def qF:AJ:=AU (fun q:A4×Int×ByteArray=>[woT q.1,iT q.2.1,sT q.2.2]) (fun q=>Bw q.1) (fun q=>[wuO (Kq q.1 q.2.1 q.2.2)])
theorem zDY(W:A4)(x:Int)(a:ByteArray):qF [woT W,iT x,sT a]=some (Bw W,[wuO (Kq W x a)]):=Af (fun l=>(C3 (nth l 0),AQ (nth l 1 0),CK (nth l 2 0))) (fun _=>rfl) (W,x,a)
theorem zC8:Am Tryz.prog 105 qF:=by
 refine Az Al (GOk.cons IK (AB Tryz.func81 rfl rfl) (GOk.cons Fo (AB Tryz.func29 rfl rfl) (GOk.cons J7 (AB Tryz.func94 rfl rfl) (GOk.cons Gi (AB Tryz.func31 rfl rfl) (GOk.cons P3 (AB Tryz.func97 rfl rfl) (GOk.cons Vn (AB Tryz.func98 rfl rfl) (GOk.ptr Vm (AB Tryz.func99 rfl rfl) GOk.nil))))))) Ak Tryz.func105 rfl Tryz.ntmps105 Tryz.results105 10 ?_;rintro⟨W,x,a⟩ c;replace c:Bw W:=c;have hs:=c.sn;have i:=c.pn;refine⟨by simp,?_⟩;simp[go_sem,DW,CH,Ep,C1,IA,T5,Sx,c,c.toSmallW,hs,i,JQ,Gr];refine⟨fun h=>?_,fun h=>⟨fun d=>?_,fun d f=>⟨fun b=>?_,fun b=>?_⟩⟩⟩
 ·exact C2 (if_pos (by omega))
 ·exact C2 ((if_neg (by omega)).trans (if_neg fun e=>d.elim (fun h=>h e.1) (fun h=>h e.2)))
 ·exact C2 ((if_neg (by omega)).trans ((if_pos ⟨d,f⟩).trans (if_neg b)))
 ·refine⟨fun g=>?_,fun g=>⟨⟨b,KB b⟩,?_⟩⟩
  ·exact C2 ((if_neg (by omega)).trans ((if_pos ⟨d,f⟩).trans ((if_pos b).trans (if_neg g))))
  ·exact C2 (o:=⟨Jb W (EI W a) (Ez a x x (W.A2 (BO W.pn fun k=>(W.A2 k).id=x).toNat).rs (W.A2 (BO W.pn fun k=>(W.A2 k).id=x).toNat).rb),0,0,0⟩) ((if_neg (by omega)).trans ((if_pos ⟨d,f⟩).trans ((if_pos b).trans (if_pos g))))
end
end Go.Proofs.YtehdoekmnicdiaaGreatDoor
