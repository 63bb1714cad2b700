/- A part of the proof. -/
import Derived.Test.YtibhefllijahkaaGreatDoorF30
set_option linter.unusedVariables false
set_option maxRecDepth 20000
set_option maxHeartbeats 4000000
namespace Go.Proofs.YtibhefllijahkaaGreatDoor
noncomputable section
open Go.RowKit
set_option linter.unusedSimpArgs false
set_option maxRecDepth 20000
set_option maxHeartbeats 1600000
def Da(h:Nat->Bool):Nat->Nat->Tr:=fun i _=>.v (.bool (h i))
variable{h:Nat->Bool}{i:Nat}
theorem zl{j:Nat}:Da h i j = .v (.bool (h i)):=rfl
variable{fl:Fl}{k n:Nat}
theorem zAP:(Tr.s fl k n (Da h)).lend = .s .b k n (Da h):=rfl
theorem zB0:(Tr.s .o 1 n (Da h)).kept:=⟨by simp,fun i j _ _=>trivial⟩
variable{F:Nat->Nat->Tr}
theorem Xi(hF:∀i j,i<n->j<1->F i j = .v (.bool (h i))):TrE (.s fl 1 n F) (.s fl 1 n (Da h)):=FF fun i j hi a=>hF i j hi a
variable{f:Nat->Bool}
theorem Jk(hF:∀i,i<n->f i=h i):TrE (.s fl 1 n (Da f)) (.s fl 1 n (Da h)):=FF fun i j hi a=>congrArg (fun b=>Tr.v (.bool b)) (hF i hi)
theorem XS(hF:∀i,i<n->h i=if i=k then true else f i):TrE (.s fl 1 n (Ab (Da f) k 0 [.v (.bool true)])) (.s fl 1 n (Da h)):=FF fun i j hi a=>by
 cases (show j=0 by omega);rw[show Da h i 0 = .v (.bool (h i))from rfl,hF i hi];by_cases e:i=k
 ·subst e;simp[Ab]
 ·simp[Ab,e,Da]
theorem Zs{p q:Prop}:dB p=dB q↔(p↔q):=by
 by_cases a:p<;>by_cases b:q<;>simp[dB,a,b]
attribute [-go_sem] BP
attribute [go_sem] X6 PP PQ zl zAP
structure Ie (W:A5):Prop extends Ec W where
 A3:∀k,k<W.sn->As W.pool (W.A3 k).rs (W.A3 k).rb
variable{W:A5}
theorem Ie.trees(h:Ie W):Eg W:=Nu h.right h.AX h.A1 h.A3
structure NM (W:A5):Prop where
 tr:Eg W
 sn:W.sn<=8
 pn:W.pn<=20
theorem Ie.reach(h:Ie W):NM W:=⟨h.trees,h.AX.2.2.1,h.AX.2.2.2.1⟩
def KW(W:A5)(s:Nat):Bool:=dB (Ka W s)
def qD:AE:=AU (fun W:A5=>[woT W]) (fun W=>NM W) (fun W=>[(false,[.s .o 1 W.pool.n (Da (KW W))])])
theorem zEE(W:A5):qD [woT W]=some (NM W,[(false,[.s .o 1 W.pool.n (Da (KW W))])]):=Ac (fun l=>BW (nth l 0)) (fun _=>rfl) W
def JK(W:A5)(k:Nat)(l:List (Int×Int))(j s:Nat):Bool:=dB (qs W k l j s)
theorem zBf:Ae Tryz.prog 65 qD:=by
 refine Ar Ah (GOk.cons Jv (AA Tryz.func115 rfl rfl) GOk.nil) mixed Tryz.func65 rfl Tryz.ntmps65 Tryz.results65 10 ?_;intro W c;replace c:NM W:=c;have D:W.sn<=8:=c.sn;have z:W.pn<=20:=c.pn;have hn:W.pool.n<=200:=c.tr.right.1;refine⟨by simp,?_⟩;simp[go_sem];refine⟨by omega,?_⟩;refine Ax (fun k:Nat=>⟨[(1,true,.m false [.p 1 0]),(3,true,.m false [.h 7]),(4,true,.m false [.h 8]),(5,true,.i k)],[(8,.row 2 (FE W k).length (ptL (FE W k))),(7,.row 1 W.pool.n (Da fun _=>false)),(1,.var ((woL W).map Tr.cv))]⟩) (fun k=>W.sn - k) (fun k=>k<=W.sn) 0 ?_ (Nat.zero_le _) ?_
 ·simp[go_sem];refine⟨Lv rfl,Xi fun i j _ C=>?_⟩;cases (show j=0 by omega);rfl
 intro k x;have r:=Od W k;simp[go_sem,Al (show k<=1000000000 by omega)];refine⟨fun o=>?_,fun o=>?_⟩
 ·refine⟨o,by omega,k+1,by omega,by omega,rfl,Gd I5 ?_⟩;rw[Yn,ON o]
 cases (show k=W.sn by omega);refine Ax (fun k:Nat=>⟨[(1,true,.m false [.p 1 0]),(3,true,.m false [.h 7]),(4,true,.m false [.h 8]),(6,true,.i k)],[(8,.row 2 (FE W (W.sn+k)).length (ptL (FE W (W.sn+k)))),(7,.row 1 W.pool.n (Da fun _=>false)),(1,.var ((woL W).map Tr.cv))]⟩) (fun k=>W.pn - k) (fun k=>k<=W.pn) 0 (by simp[go_sem]) (Nat.zero_le _) ?_;intro k x;have r:=Od W (W.sn+k);simp[go_sem,Al (show k<=1000000000 by omega)];refine⟨fun o=>?_,fun o=>?_⟩
 ·refine⟨o,by omega,k+1,by omega,by omega,rfl,Gd I5 ?_⟩;rw[<-Nat.add_assoc,Yn,Oc]
 cases (show k=W.pn by omega);obtain⟨R,t⟩:∃R,R=FE W (W.sn+W.pn):=⟨_,rfl⟩;rw[<-t];have u:R.length=W.sn+W.pn:=by rw[t];exact Od _ _
 refine Ax (fun k:Nat=>⟨[(1,true,.m false [.p 1 0]),(3,true,.m false [.h 7]),(4,true,.m false [.h 8]),(7,true,.i k)],[(8,.row 2 R.length (ptL R)),(7,.row 1 W.pool.n (Da (JK W k [] 0))),(1,.var ((woL W).map Tr.cv))]⟩) (fun k=>R.length - k) (fun k=>k<=R.length) 0 ?_ (Nat.zero_le _) ?_
 ·simp[go_sem];refine Jk fun i _=>?_
  symm;rw[JK,PB];rintro(⟨i,hi,_⟩ | ⟨q,g,_⟩)
  ·omega
  ·omega
 intro k x;simp[go_sem,Al (show k<=1000000000 by omega),J0,c.tr.right];refine⟨fun e=>?_,fun e=>?_⟩
 ·have d:k<W.sn+W.pn:=(by omega);have A:AO R k=(Ct W k).1:=(by rw[t];exact(XP d).1);have B:AS R k=(Ct W k).2:=(by rw[t];exact(XP d).2);have w:As W.pool (Ct W k).1 (Ct W k).2:=zGW c.tr d;rw[A,B];refine⟨e,w,by kernel_rfl,?_⟩;obtain⟨l,a⟩:∃l,l=AF W.pool (Ct W k).1 (Ct W k).2:=⟨_,rfl⟩;have E:l.length<=100:=(by have:=De W.pool (Ct W k).1 (Ct W k).2;rw[a];omega);rw[<-a];refine Ax (fun j:Nat=>⟨[(9,true,.i j),(8,true,.m false [.h 60]),(1,true,.m false [.p 1 0]),(3,true,.m false [.h 7]),(4,true,.m false [.h 8]),(7,true,.i k)],[(60,.row 2 l.length (ptL l)),(8,.row 2 R.length (ptL R)),(7,.row 1 W.pool.n (Da (JK W k l j))),(1,.var ((woL W).map Tr.cv))]⟩) (fun j=>l.length - j) (fun j=>j<=l.length) 0 ?_ (Nat.zero_le _) ?_
  ·simp[go_sem];refine Jk fun i _=>?_
   rw[JK,JK,Zs];exact⟨fun h=>h.elim Or.inl fun ⟨q,g,_⟩=>by omega,fun h=>h.elim Or.inl fun ⟨q,g,_⟩=>by omega⟩
  intro j C;simp[go_sem,Al (show j<=1000000000 by omega),Al (show k<=1000000000 by omega)];have y:Ln W k l j (JK W k l j):=fun s=>FT
  refine⟨fun b=>?_,fun b=>⟨k+1,e,by omega,rfl,?_⟩⟩
  ·obtain⟨q,g,v⟩:=UR c.tr.right w (j:=j) (by rw[<-a];exact b);rw[<-a]at g;rw[g];refine⟨b,⟨by omega,by omega⟩,by simpa using v,j+1,b,by omega,rfl,XS fun i _=>?_⟩;exact Bool.eq_iff_iff.2 (FT.trans (zq y g i).symm)
  ·cases (show j=l.length by omega);refine Jk fun i _=>?_
   exact Bool.eq_iff_iff.2 ((zr y a i).trans FT.symm)
 ·cases (show k=R.length by omega);refine⟨Jk fun i _=>?_,zB0⟩;rw[JK,KW,Zs,zAx,u];exact⟨fun h=>h.elim id fun ⟨q,g,_⟩=>by omega,Or.inl⟩
set_option maxRecDepth 20000
set_option maxHeartbeats 1600000
variable{a b:Nat}
theorem SQ(h:a+b<=1000000000):IntKind.i64.wrap ((a:Int)+(b:Int))=(a:Int)+(b:Int):=by
 unfold IntKind.wrap;simp[IntKind.signed,IntKind.bits];omega
theorem zJX(h:a<=1000000000)(c:b<=1000000000):IntKind.i64.wrap ((a:Int) - (b:Int))=(a:Int) - (b:Int):=by
 unfold IntKind.wrap;simp[IntKind.signed,IntKind.bits];omega
theorem tnS:((a:Int) - (b:Int)).toNat=a - b:=by omega
attribute [go_sem] BP
attribute [-go_sem] BP
def KP(W:A5)(k:Nat)(now old:List (Int×Int))(j s:Nat):Bool:=dB (qt W k now old j s)
def Zj:AE:=AU (fun W:A5=>[woT W]) (fun W=>Ie W) (fun W=>bR (Im W))
theorem zE7(W:A5):Zj [woT W]=some (Ie W,bR (Im W)):=Ac (fun l=>BW (nth l 0)) (fun _=>rfl) W
theorem zBc:Ae Tryz.prog 69 Zj:=by
 refine Ar Ah (GOk.cons LD (AA Tryz.func114 rfl rfl) (GOk.cons Jv (AA Tryz.func115 rfl rfl) (GOk.cons Nj (AA Tryz.func82 rfl rfl) GOk.nil))) mixed Tryz.func69 rfl Tryz.ntmps69 Tryz.results69 12 ?_;intro W v;replace v:Ie W:=v;have L:W.sn<=8:=v.AX.2.2.1;have I:W.pn<=20:=v.AX.2.2.2.1;have hn:W.pool.n<=200:=v.right.1;refine⟨by simp,?_⟩;simp[go_sem];refine⟨by omega,?_⟩;refine Ax (fun k:Nat=>⟨[(1,true,.m false [.p 1 0]),(3,true,.m false [.h 61]),(4,true,.i k)],[(61,.row 1 W.pool.n (Da (KP W k [] [] 0))),(1,.var ((woL W).map Tr.cv))]⟩) (fun k=>memN W - k) (fun k=>k<=memN W/\QA W k) 0 ?_ ⟨Nat.zero_le _,fun i hi=>by omega⟩ ?_
 ·simp[go_sem];refine Xi fun i j _ E=>?_
  cases (show j=0 by omega);have:KP W 0 [] [] 0 i=false:=by
   rw[KP,PB];rintro(⟨i,hi,_⟩ | ⟨q,N,_⟩)<;>omega
  simp[this]
 rintro k ⟨M,H⟩;have K:memN W=W.pn+W.sn:=rfl;by_cases F:k<memN W;rotate_left
 ·have A:¬(k:Int)<(W.pn:Int)+(W.sn:Int):=(by omega);simp[go_sem,SQ (show W.pn+W.sn<=1000000000 by omega),A];cases (show k=memN W by omega);exact H
 have A:(k:Int)<(W.pn:Int)+(W.sn:Int):=by omega
 have g:As W.pool (AB W k).rs (AB W k).rb:=v.trees.tree k F;have o:=Ld v.A1 (AB W k).A6;have y:=L0 v.ids (AB W k).A6;by_cases hs:k<W.pn
 case' pos=>
  have e:AB W k=PI (W.A1 k):=CU hs;rw[e]at g o y;replace g:As W.pool (W.A1 k).rs (W.A1 k).rb:=g;replace o:As W.pool (AC W (W.A1 k).A6).rs (AC W (W.A1 k).A6).rb:=o;replace y:Ez W (W.A1 k).A6=AC W (W.A1 k).A6:=y;obtain⟨a,b⟩:∃l,l=AF W.pool (W.A1 k).rs (W.A1 k).rb:=⟨_,rfl⟩;obtain⟨c,d⟩:∃l,l=AF W.pool (AC W (W.A1 k).A6).rs (AC W (W.A1 k).A6).rb:=⟨_,rfl⟩;have r:a=treeM W (AB W k):=(by rw[e];exact b);have t:c=oldM W (AB W k):=(by rw[e];exact d);simp[go_sem,SQ (show W.pn+W.sn<=1000000000 by omega),A,hs,K4,J0,v.pn,v.right,y,o,g,<-b,<-d]
 case' neg=>
  have e:AB W k=JE W.time (W.A3 (k - W.pn)):=by
   have:=DN W (k - W.pn)
   rwa [show W.pn+(k - W.pn)=k by omega]at this
  rw[e]at g o y;replace g:As W.pool (W.A3 (k - W.pn)).rs (W.A3 (k - W.pn)).rb:=g;replace o:As W.pool (AC W (W.A3 (k - W.pn)).A6).rs (AC W (W.A3 (k - W.pn)).A6).rb:=o;replace y:Ez W (W.A3 (k - W.pn)).A6=AC W (W.A3 (k - W.pn)).A6:=y;obtain⟨a,b⟩:∃l,l=AF W.pool (W.A3 (k - W.pn)).rs (W.A3 (k - W.pn)).rb:=⟨_,rfl⟩;obtain⟨c,d⟩:∃l,l=AF W.pool (AC W (W.A3 (k - W.pn)).A6).rs (AC W (W.A3 (k - W.pn)).A6).rb:=⟨_,rfl⟩;have r:a=treeM W (AB W k):=(by rw[e];exact b);have t:c=oldM W (AB W k):=(by rw[e];exact d);simp[go_sem,SQ (show W.pn+W.sn<=1000000000 by omega),zJX (show k<=1000000000 by omega) (show W.pn<=1000000000 by omega),tnS,A,hs,K4,J0,v.pn,v.right,y,o,g,<-b,<-d];refine⟨⟨by omega,by omega⟩,?_⟩
 all_goals
  have O:a.length<=100:=(by rw[b];exact Nat.le_trans (De ..) (by omega));have lo:c.length<=100:=(by rw[d];exact Nat.le_trans (De ..) (by omega));have z:∀j,j<a.length->∃s:Nat,AO a j=(s:Int)/\s<W.pool.n:=fun j E=>by
   rw[b];exact UR v.right g (by rw[<-b];exact E)
  clear b d g o y e A hs;refine Ax (fun j:Nat=>⟨[(11,true,.i j),(10,true,.m false [.h 63]),(9,true,.m false [.h 62]),(1,true,.m false [.p 1 0]),(3,true,.m false [.h 61]),(4,true,.i k)],[(63,.row 2 a.length (ptL a)),(62,.row 2 c.length (ptL c)),(61,.row 1 W.pool.n (Da (KP W k a c j))),(1,.var ((woL W).map Tr.cv))]⟩) (fun j=>a.length - j) (fun j=>j<=a.length/\Kx W k a c j) 0 ?_ ⟨Nat.zero_le _,fun i hi=>absurd hi (Nat.not_lt_zero _)⟩ ?_
  ·simp[go_sem];have J:Fe W k [] [] 0 (KP W k [] [] 0):=fun s=>FT
   exact Jk fun i _=>Bool.eq_iff_iff.2 ((zA2 J a c i).trans FT.symm)
  rintro j ⟨E,w⟩;have B:Fe W k a c j (KP W k a c j):=fun s=>FT
  have G:c.length<=1000000:=(by omega);simp[go_sem,NK,Al (show j<=1000000000 by omega),Al (show k<=1000000000 by omega),SL,G];refine⟨fun u=>⟨u,fun x=>⟨j+1,⟨u,zGd w x⟩,by omega,rfl,?_⟩,fun x=>?_⟩,fun u=>?_⟩
  ·exact Jk fun i _=>Bool.eq_iff_iff.2 ((zEb B x i).trans FT.symm)
  ·obtain⟨s,hs,D⟩:=z j u;rw[hs];refine⟨u,⟨by omega,by omega⟩,by simpa using D,fun C=>?_,fun C=>⟨u,⟨by omega,by omega⟩,by simpa using D,j+1,⟨u,?_⟩,by omega,rfl,?_⟩⟩
   ·rw[Int.toNat_natCast]at C;exact zA3 v.trees F r t B u hs x C
   ·rw[Int.toNat_natCast]at C;exact zGZ w B hs C
   ·rw[Int.toNat_natCast];exact XS fun i _=>Bool.eq_iff_iff.2 (FT.trans (zEa B hs x i).symm)
  ·cases (show j=a.length by omega);refine⟨k+1,⟨F,zAY H r t w⟩,by omega,rfl,Jk fun i _=>?_⟩;exact Bool.eq_iff_iff.2 ((zEd B r t i).trans FT.symm)
set_option maxRecDepth 20000
set_option maxHeartbeats 3200000
attribute [go_sem] BP
attribute [-go_sem] BP
structure SmallW (W:A5):Prop where
 n:W.pool.n<=1000000
 hn:W.pool.hn<=1000000
 sn:W.sn<=1000000
 pn:W.pn<=1000000
 sd:∀i,i<W.sn->(W.A3 i).dn<=1000000
 pd:∀i,i<W.pn->(W.A1 i).dn<=1000000
theorem zIO(h:k<W.pn):EP W k↔FH (W.A1 k).dn (W.A1 k).ds (W.A1 k).db (BU (AF W.pool (AC W (W.A1 k).A6).rs (AC W (W.A1 k).A6).rb) (AF W.pool (W.A1 k).rs (W.A1 k).rb)):=by
 unfold EP;rw[CU h];exact Iff.rfl
theorem zIP:EP W (W.pn+k)↔FH (W.A3 k).dn (W.A3 k).ds (W.A3 k).db (BU (AF W.pool (AC W (W.A3 k).A6).rs (AC W (W.A3 k).A6).rb) (AF W.pool (W.A3 k).rs (W.A3 k).rb)):=by
 unfold EP;rw[DN];exact Iff.rfl
def mWR:AE:=AU (fun W:A5=>[woT W]) (fun W=>SmallW W) (fun W=>bR (Ak W))
theorem C2(W:A5):mWR [woT W]=some (SmallW W,bR (Ak W)):=Ac (fun l=>BW (nth l 0)) (fun _=>rfl) W
theorem Fv:Ae Tryz.prog 25 mWR:=by
 refine Ar Ah (GOk.cons OW (AA Tryz.func66 rfl rfl) (GOk.cons Oz (AA Tryz.func60 rfl rfl) (GOk.cons zBd (AA Tryz.func61 rfl rfl) (GOk.cons zCO (AA Tryz.func62 rfl rfl) (GOk.cons Z3 (AA Tryz.func63 rfl rfl) (GOk.cons zAN (AA Tryz.func64 rfl rfl) (GOk.cons zBf (AA Tryz.func65 rfl rfl) (GOk.cons MN (AA Tryz.func67 rfl rfl) (GOk.cons zAM (AA Tryz.func68 rfl rfl) (GOk.cons zBc (AA Tryz.func69 rfl rfl) GOk.nil)))))))))) mixed Tryz.func25 rfl Tryz.ntmps25 Tryz.results25 8 ?_;intro W d;replace d:SmallW W:=d;refine⟨by simp,?_⟩;simp[go_sem,OH,zEA,zAS,d.n,d.hn,d.sn,d.pn];refine⟨fun h b=>?_,fun q r A=>?_⟩
 ·rcases h with(h | h) | ⟨x,F,h⟩
  ·exact h b.right
  ·exact h b.AX
  ·exact h (b.lines x F)
 have E:W.sn<=8:=r.2.2.1;have y:W.pn<=20:=r.2.2.2.1;refine Ax (fun k:Nat=>⟨[(1,true,.m false [.p 1 0]),(3,true,.i k)],[(1,.var ((woL W).map Tr.cv))]⟩) (fun k=>W.pn - k) (fun k=>k<=W.pn/\∀i,i<k->As W.pool (W.A1 i).rs (W.A1 i).rb) 0 (by simp[go_sem]) (by simp) ?_;rintro k ⟨v,j⟩;simp[go_sem,Al (show k<=1000000000 by omega),PL,q];refine⟨fun a=>⟨a,by kernel_rfl,fun h b=>h (b.A1 k a),fun h=>⟨k+1,⟨by omega,Bf a j h⟩,by omega,rfl⟩⟩,fun a=>?_⟩;cases (show k=W.pn by omega);have g:Ec W:=⟨q,r,j⟩;refine Ax (fun k:Nat=>⟨[(1,true,.m false [.p 1 0]),(4,true,.i k)],[(1,.var ((woL W).map Tr.cv))]⟩) (fun k=>W.sn - k) (fun k=>k<=W.sn/\∀i,i<k->As W.pool (W.A3 i).rs (W.A3 i).rb/\EP W (W.pn+i)) 0 (by simp[go_sem]) (by simp) ?_;rintro k ⟨v,c⟩;simp[go_sem,Al (show k<=1000000000 by omega),PL,VG,q,g,<-zIP];refine⟨fun a=>⟨a,fun _=>a,fun h=>⟨h,d.sd k a⟩,by kernel_rfl,fun h b=>?_,fun t u=>⟨k+1,⟨by omega,Bf a c ⟨t,u⟩⟩,by omega,rfl⟩⟩,fun a=>?_⟩
 ·exact h.elim (fun h=>h (b.A3 k a).1) (fun h=>h (b.A3 k a).2)
 cases (show k=W.sn by omega);have e:Ie W:=⟨g,fun i hi=>(c i hi).1⟩;refine Ax (fun k:Nat=>⟨[(1,true,.m false [.p 1 0]),(5,true,.i k)],[(1,.var ((woL W).map Tr.cv))]⟩) (fun k=>W.pn - k) (fun k=>k<=W.pn/\∀i,i<k->EP W i) 0 (by simp[go_sem]) (by simp) ?_;rintro k ⟨v,l⟩;by_cases a:k<W.pn
 ·have B:=j k a;have C:=d.pd k a;simp[go_sem,Al (show k<=1000000000 by omega),VG,g,a,B,C,<-zIO a];refine⟨by kernel_rfl,fun h b=>h (b.dead k a),fun h=>⟨k+1,⟨by omega,Bf a l h⟩,by omega,rfl⟩⟩
 simp[go_sem,Al (show k<=1000000000 by omega),a,zEE,e,e.reach];cases (show k=W.pn by omega);refine Ax (fun k:Nat=>⟨[(1,true,.m false [.p 1 0]),(6,true,.m false [.h 61]),(7,true,.i k)],[(61,.row 1 W.pool.n (Da (KW W))),(1,.var ((woL W).map Tr.cv))]⟩) (fun k=>W.pool.n - k) (fun k=>k<=W.pool.n/\∀i,i<k->(Ka W i↔(¬An (W.pool.s i)/\¬Has W.pool.hn W.pool.h i))) 0 (by simp[go_sem]) (by simp) ?_;rintro k ⟨v,o⟩;have w:W.pool.n<=200:=q.1;simp[go_sem,Al (show k<=1000000000 by omega),M7,Kh,zE8,zE7,e,g,d.hn];have D:KW W k=(!dB (An (W.pool.s k)) && !dB (Has W.pool.hn W.pool.h (k:Int)))↔(Ka W k↔(¬An (W.pool.s k)/\¬Has W.pool.hn W.pool.h k)):=by
  unfold KW;by_cases t:Ka W k<;>by_cases u:An (W.pool.s k)<;>by_cases z:Has W.pool.hn W.pool.h (k:Int)<;>simp[dB,t,u,z]
 rw[D];refine⟨fun a=>⟨a,by kernel_rfl,fun h b=>h (b.reach k a),fun h=>⟨k+1,⟨by omega,Bf a o h⟩,by omega,rfl⟩⟩,fun a=>⟨e.A3,fun h=>?_,fun b=>⟨b.born,b.Bi⟩⟩⟩;cases (show k=W.pool.n by omega);exact⟨q,r,A,j,c,l,o,h.1,h.2⟩
set_option maxRecDepth 20000
set_option maxHeartbeats 3200000
attribute [go_sem] BP
attribute [-go_sem] BP
def Dg(W:A5)(x:Int):Nat->Nat
 | 0=>0
 | k+1=>Dg W x k+(if (W.A3 k).A6=x then 1 else 0)
def EA(W:A5)(x:Int):Nat->Nat
 | 0=>0
 | k+1=>EA W x k+(if (W.A1 k).A6=x then 1 else 0)
theorem TI(W:A5)(x:Int):∀k,Dg W x k<=k
 | 0=>Nat.le_refl _
 | k+1=>by have:=TI W x k;rw[Dg];split<;>omega
theorem TG(W:A5)(x:Int):∀k,EA W x k<=k
 | 0=>Nat.le_refl _
 | k+1=>by have:=TG W x k;rw[EA];split<;>omega
def qC:AE:=AU (fun q:A5×Int=>[woT q.1,iT q.2]) (fun q=>q.1.sn<=1000000/\q.1.pn<=1000000) (fun q=>[iT ((Dg q.1 q.2 q.1.sn+EA q.1 q.2 q.1.pn:Nat):Int)])
theorem XA(W:A5)(x:Int):qC [woT W,iT x]=some (W.sn<=1000000/\W.pn<=1000000,[iT ((Dg W x W.sn+EA W x W.pn:Nat):Int)]):=Ac (fun l=>(BW (nth l 0),AQ (nth l 1 0))) (fun _=>rfl) (W,x)
theorem zBe:Ae Tryz.prog 180 qC:=by
 refine Ar Ah GOk.nil mixed Tryz.func180 rfl Tryz.ntmps180 Tryz.results180 8 ?_;rintro⟨W,x⟩ ⟨hn,b⟩;replace hn:W.sn<=1000000:=hn;replace b:W.pn<=1000000:=b;refine⟨by simp,?_⟩;simp[go_sem];refine Ax (fun k:Nat=>⟨[(2,true,.m false [.p 2 0]),(1,true,.i x),(5,true,.i (Dg W x k)),(6,true,.i k)],[(2,.var ((woL W).map Tr.cv))]⟩) (fun k=>W.sn - k) (fun k=>k<=W.sn) 0 (by simp[go_sem,Dg]) (by simp) ?_;intro k e;have g:=TI W x k;simp[go_sem,Al (show k<=1000000000 by omega),Al (show Dg W x k<=1000000000 by omega)];refine⟨fun a=>⟨a,fun h=>⟨k+1,by omega,by omega,by rw[Dg,if_pos h];rfl,rfl⟩,fun h=>⟨k+1,by omega,by omega,by rw[Dg,if_neg h];rfl,rfl⟩⟩,fun a=>?_⟩;cases (show k=W.sn by omega);refine Ax (fun k:Nat=>⟨[(2,true,.m false [.p 2 0]),(1,true,.i x),(5,true,.i (Dg W x W.sn+EA W x k)),(7,true,.i k)],[(2,.var ((woL W).map Tr.cv))]⟩) (fun k=>W.pn - k) (fun k=>k<=W.pn) 0 (by simp[go_sem,EA]) (by simp) ?_;intro k e;have d:=TG W x k;have c:=Al (show Dg W x W.sn+EA W x k<=1000000000 by omega);simp only[Int.natCast_add]at c;simp[go_sem,Al (show k<=1000000000 by omega),c];refine⟨fun a=>⟨a,fun h=>⟨k+1,by omega,by omega,by rw[EA,if_pos h];omega,rfl⟩,fun h=>⟨k+1,by omega,by omega,by rw[EA,if_neg h];rfl,rfl⟩⟩,fun a=>?_⟩;cases (show k=W.pn by omega);rfl
set_option maxRecDepth 20000
set_option maxHeartbeats 3200000
def FV(s:Nat->AM)(k:Nat):Nat->Nat->Tr:=fun i=>if i<k then setsE .o s i else setsE .b s i
def Fw(s:Nat->AL)(k:Nat):Nat->Nat->Tr:=fun i=>if i<k then snapsE .z s i else snapsE .b s i
theorem CB{s:Nat->AM}:(Tr.s .o 6 n (setsE .o s)).kept:=⟨by simp,fun i j _ a=>by
 match j,a with
 | 0,_ | 1,_ | 2,_ | 3,_ | 4,_=>trivial
 | 5,_=>exact L3.2 trivial⟩
theorem CA{s:Nat->AL}:(Tr.s .o 8 n (snapsE .z s)).kept:=⟨by simp,fun i j _ a=>by
 match j,a with
 | 0,_ | 1,_ | 2,_ | 3,_ | 4,_ | 5,_ | 6,_=>trivial
 | 7,_=>exact⟨by simp,fun p q _ _=>by unfold ptrsT;split<;>trivial⟩⟩
theorem zI9{s:Nat->AM}:FV s 0=setsE .b s:=by funext i;simp[FV]
theorem zI8{s:Nat->AL}:Fw s 0=snapsE .b s:=by funext i;simp[Fw]
theorem zHn{s:Nat->AM}(h:k<=i):FV s k i=setsE .b s i:=if_neg (by omega)
theorem zHl{s:Nat->AL}(h:k<=i):Fw s k i=snapsE .b s i:=if_neg (by omega)
theorem zG4{s:Nat->AM}:TrE (.s fl 6 n (FV s n)) (.s fl 6 n (setsE .o s)):=FF fun i j hi a=>by rw[FV,if_pos hi]
theorem zG3{s:Nat->AL}:TrE (.s fl 8 n (Fw s n)) (.s fl 8 n (snapsE .z s)):=FF fun i j hi a=>by rw[Fw,if_pos hi]
theorem zG8{s:Nat->AM}:(fun p q=>(setsE .b s p q).nt)=setsE .b s:=by
 funext p q
 match q with
 | 0 | 1 | 2 | 3 | 4=>rfl
 | 5=>rfl
 | q+6=>rfl
theorem XH{s:Nat->AL}:(fun p q=>(snapsE .b s p q).nt)=snapsE .b s:=by
 funext p q
 match q with
 | 0 | 1 | 2 | 3 | 4 | 5 | 6=>rfl
 | 7=>rfl
 | q+8=>rfl
theorem zHo{s:Nat->AM}(hF:TrE (.s .o 2 (s k).dn F) (.s .o 2 (s k).dn (ptrsT (s k).ds (s k).db))):TrE (.s fl 6 n (Ab (FV s k) k 5 [.s .o 2 (s k).dn F])) (.s fl 6 n (FV s (k+1))):=by
 refine⟨.inl rfl,rfl,rfl,fun i j hi a=>?_⟩;by_cases h:i=k
 ·subst h
  match j,a with
  | 0,_ | 1,_ | 2,_ | 3,_ | 4,_=>exact TrE.of_eq (by simp[Ab,FV,setsE])
  | 5,_=>simpa[Ab,FV,setsE]using hF
 ·refine TrE.of_eq ?_;have:(i<k+1)=(i<k):=propext (by omega);simp[Ab,FV,h,this]
theorem zHm{s:Nat->AL}(hF:TrE (.s .o 2 (s k).dn F) (.s .z 2 (s k).dn (ptrsT (s k).ds (s k).db))):TrE (.s fl 8 n (Ab (Fw s k) k 7 [.s .o 2 (s k).dn F])) (.s fl 8 n (Fw s (k+1))):=by
 refine⟨.inl rfl,rfl,rfl,fun i j hi a=>?_⟩;by_cases h:i=k
 ·subst h
  match j,a with
  | 0,_ | 1,_ | 2,_ | 3,_ | 4,_ | 5,_ | 6,_=>exact TrE.of_eq (by simp[Ab,Fw,snapsE])
  | 7,_=>simpa[Ab,Fw,snapsE]using hF
 ·refine TrE.of_eq ?_;have:(i<k+1)=(i<k):=propext (by omega);simp[Ab,Fw,h,this]
attribute [go_sem] BP
structure BZ (W:A5):Prop extends SmallW W where
 kn:∀i,i<W.pool.n->(W.pool.s i).kn<=1000000
def qJ:AE:=AU (fun W:A5=>[woT W]) (fun W=>BZ W) (fun W=>[woO W])
theorem DM(W:A5):qJ [woT W]=some (BZ W,[woO W]):=Ac (fun l=>BW (nth l 0)) (fun _=>rfl) W
theorem IL:Ae Tryz.prog 30 qJ:=by
 refine Ar Ah (GOk.cons OV (AA Tryz.func79 rfl rfl) GOk.nil) mixed Tryz.func30 rfl Tryz.ntmps30 Tryz.results30 6 ?_;intro W a;replace a:BZ W:=a;have hn:=a.n;have g:=a.hn;have hs:=a.sn;have l:=a.pn;refine⟨by simp,?_⟩;simp[go_sem,MH,hn,g,GW,TE,I6,zG8,XH];refine⟨a.kn,by omega,?_⟩;refine Ax (fun k:Nat=>⟨[(4,true,.i k),(3,true,.m false [.p 3 0]),(2,true,.m false [.p 2 0]),(1,true,.m false [.p 1 0])],[(3,.var [.h 61,.h 62,.v (.int .i64 W.time),.v (.int .i64 W.next),.h 63,.s .b 8 W.pn (snapsE .b W.A1)]),(63,.row 6 W.sn (FV W.A3 k)),(62,.row 1 W.pool.hn (Ay W.pool.h)),(61,.row 3 W.pool.n (Ao .z W.pool.s)),(2,.var [.v n0,.v n0,.v i0,.v i0,.v n0,.v n0]),(1,.var ((woL W).map Tr.cv))]⟩) (fun k=>W.sn - k) (fun k=>k<=W.sn) 0 (by rw[zI9];simp[go_sem]) (Nat.zero_le _) ?_;intro k e;simp[go_sem,Al (show k<=1000000000 by omega),GW,I6,XH,zHn (Nat.le_refl k)];refine⟨fun c=>?_,fun c=>?_⟩
 ·have d:=a.sd k c;exact⟨c,by omega,c,by kernel_rfl,k+1,by omega,by omega,rfl,zHo (TrE.refl _)⟩
 cases (show k=W.sn by omega);refine⟨by omega,?_⟩;refine Ax (fun k:Nat=>⟨[(5,true,.i k),(3,true,.m false [.p 3 0]),(2,true,.m false [.p 2 0]),(1,true,.m false [.p 1 0])],[(3,.var [.h 61,.h 62,.v (.int .i64 W.time),.v (.int .i64 W.next),.h 63,.h 64]),(64,.row 8 W.pn (Fw W.A1 k)),(63,.row 6 W.sn (FV W.A3 W.sn)),(62,.row 1 W.pool.hn (Ay W.pool.h)),(61,.row 3 W.pool.n (Ao .z W.pool.s)),(2,.var [.v n0,.v n0,.v i0,.v i0,.v n0,.v n0]),(1,.var ((woL W).map Tr.cv))]⟩) (fun k=>W.pn - k) (fun k=>k<=W.pn) 0 (by rw[zI8];simp[go_sem]) (Nat.zero_le _) ?_;intro k e;simp[go_sem,Al (show k<=1000000000 by omega),GW,I6,zHl (Nat.le_refl k)];refine⟨fun c=>?_,fun c=>?_⟩
 ·have d:=a.pd k c;exact⟨c,by omega,c,by kernel_rfl,k+1,by omega,by omega,rfl,zHm ⟨.inr ⟨rfl,rfl⟩,rfl,rfl,fun i j _ _=>TrE.refl _⟩⟩
 cases (show k=W.pn by omega);exact⟨BT,BX,⟨zG4,CB⟩,zG3,CA⟩
set_option maxRecDepth 20000
set_option maxHeartbeats 3200000
abbrev wuO(o:BV):Bool×List Tr:=(true,[.s .o 3 o.world.pool.n (Ao .z o.world.pool.s),.s .o 1 o.world.pool.hn (Ay o.world.pool.h),.v (.int .i64 o.world.time),.v (.int .i64 o.world.next),.s .o 6 o.world.sn (setsE .o o.world.A3),.s .o 8 o.world.pn (snapsE .z o.world.A1),.v (.int .i64 o.id),.v (.int .i64 o.many),.v (.int .i64 o.code)])
abbrev woV(W:A5):List Tr:=[.s .o 3 W.pool.n (Ao .z W.pool.s),.s .o 1 W.pool.hn (Ay W.pool.h),.v (.int .i64 W.time),.v (.int .i64 W.next),.s .o 6 W.sn (setsE .o W.A3),.s .o 8 W.pn (snapsE .z W.A1)]
def GL(W:A5)(l:List (Int×Int)):A5:={W with pool:=Bd W.pool l}
abbrev psL(l:List (Int×Int)):Bool×List Tr:=psT l.length (fun i=>AO l i) (fun i=>AS l i)
def KA(a:Tr):List (Int×Int):=(List.range (D2 a)).map fun i=>(AQ (BY a i 0),AQ (BY a i 1))
theorem Q1(l:List (Int×Int)):KA (.s .b 2 l.length (ptrsT (fun i=>AO l i) (fun i=>AS l i)))=l:=by
 show(List.range l.length).map (fun i=>(AO l i,AS l i))=l;apply List.ext_getElem
 ·simp
 ·intro i c a;simp[<-LU,<-SP,a]
theorem R7{p:A8}{x:Int}:TrE (.s fl 1 (p.hn+1) (Ai (Ay p.h) p.hn (fun a q=>([Tr.v (Value.int .i64 x)][a+q]?.getD (.v (.bool false))).nt))) (.s fl 1 (G6 p x).hn (Ay (G6 p x).h)):=FF fun i j hi b=>by
 cases (show j=0 by omega);unfold Ai;by_cases h:i<p.hn
 ·rw[if_pos h];show _=Tr.v (.int .i64 (if i=p.hn then x else p.h i));rw[if_neg (by omega)];rfl
 ·cases (show i=p.hn by omega);rw[if_neg h,Nat.sub_self];show _=Tr.v (.int .i64 (if p.hn=p.hn then x else p.h p.hn));rw[if_pos rfl];rfl
attribute [-go_sem] BP
def zF:AE:=AU (fun c:Int=>[iT c]) (fun _=>True) (fun c=>[wuO (BG c)])
theorem Be(c:Int):zF [iT c]=some (True,[wuO (BG c)]):=Ac (fun l=>AQ (nth l 0 0)) (fun _=>rfl) c
theorem Gg:Ae Tryz.prog 27 zF:=by
 refine Ar Ah GOk.nil mixed Tryz.func27 rfl Tryz.ntmps27 Tryz.results27 3 ?_;intro c a;refine⟨by simp,?_⟩;simp[go_sem,BG,noW,DW]
open Classical in
def EX(W:A5)(x:ByteArray):Int:=if B3 W x then 5 else if 8<=W.sn then 6 else 0
def zH:AE:=AU (fun q:A5×ByteArray=>[woT q.1,sT q.2]) (fun q=>q.1.sn<=1000000) (fun q=>[iT (EX q.1 q.2)])
theorem Tp(W:A5)(x:ByteArray):zH [woT W,sT x]=some (W.sn<=1000000,[iT (EX W x)]):=Ac (fun l=>(BW (nth l 0),C1 (nth l 1 0))) (fun _=>rfl) (W,x)
theorem X2:Ae Tryz.prog 43 zH:=by
 refine Ar Ah (GOk.cons IJ (AA Tryz.func28 rfl rfl) GOk.nil) mixed Tryz.func43 rfl Tryz.ntmps43 Tryz.results43 5 ?_;rintro⟨W,x⟩ a;replace a:W.sn<=1000000:=a;refine⟨by simp,?_⟩;simp[go_sem,CJ,a,E5,CW];refine⟨fun h=>(if_pos h).symm,fun h=>⟨fun b=>?_,fun b=>?_⟩⟩
 ·rw[EX,if_neg h,if_pos (by omega)]
 ·rw[EX,if_neg h,if_neg (by omega)]
def Zp:AE:=AU (fun q:A5×ByteArray×ByteArray=>[woT q.1,sT q.2.1,sT q.2.2]) (fun q=>q.1.pn<=1000000) (fun q=>bR (∃i,i<q.1.pn/\(q.1.A1 i).set=q.2.1/\(q.1.A1 i).name=q.2.2))
theorem K5(W:A5)(x y:ByteArray):Zp [woT W,sT x,sT y]=some (W.pn<=1000000,bR (∃i,i<W.pn/\(W.A1 i).set=x/\(W.A1 i).name=y)):=Ac (fun l=>(BW (nth l 0),C1 (nth l 1 0),C1 (nth l 2 0))) (fun _=>rfl) (W,x,y)
theorem Z4:Ae Tryz.prog 31 Zp:=by
 refine Ar Ah GOk.nil mixed Tryz.func31 rfl Tryz.ntmps31 Tryz.results31 8 ?_;rintro⟨W,x,y⟩ hn;replace hn:W.pn<=1000000:=hn;refine⟨by simp,?_⟩;simp[go_sem];refine Ax (fun k:Nat=>⟨[(3,true,.m false [.p 3 0]),(1,true,.m false [.v (.string x)]),(2,true,.m false [.v (.string y)]),(7,true,.i k)],[(3,.var ((woL W).map Tr.cv))]⟩) (fun k=>W.pn - k) (fun k=>k<=W.pn/\∀i,i<k->¬((W.A1 i).set=x/\(W.A1 i).name=y)) 0 (by simp[go_sem]) (by simp) ?_;rintro k ⟨g,c⟩;simp[go_sem,Al (show k<=1000000000 by omega)];refine⟨fun d=>⟨d,fun _=>d,fun a b=>⟨k,d,G9 a,G9 b⟩,fun h=>⟨k+1,⟨by omega,fun i hi=>?_⟩,by omega,rfl⟩⟩,fun d i hi a b=>c i (by omega) ⟨a,b⟩⟩;by_cases e:i=k
 ·subst e;exact fun a b=>h (congrArg ByteArray.toList a) (congrArg ByteArray.toList b)
 ·exact fun a b=>c i (by omega) ⟨a,b⟩
def zL:AE:=AU (fun q:A5×ByteArray=>[woT q.1,sT q.2]) (fun q=>q.1.pn<=1000000) (fun q=>bR (∃i,i<q.1.pn/\(q.1.A1 i).set=q.2))
theorem Tt(W:A5)(x:ByteArray):zL [woT W,sT x]=some (W.pn<=1000000,bR (∃i,i<W.pn/\(W.A1 i).set=x)):=Ac (fun l=>(BW (nth l 0),C1 (nth l 1 0))) (fun _=>rfl) (W,x)
theorem zDw:Ae Tryz.prog 183 zL:=by
 refine Ar Ah GOk.nil mixed Tryz.func183 rfl Tryz.ntmps183 Tryz.results183 6 ?_;rintro⟨W,x⟩ hn;replace hn:W.pn<=1000000:=hn;refine⟨by simp,?_⟩;simp[go_sem];refine Ax (fun k:Nat=>⟨[(2,true,.m false [.p 2 0]),(1,true,.m false [.v (.string x)]),(5,true,.i k)],[(2,.var ((woL W).map Tr.cv))]⟩) (fun k=>W.pn - k) (fun k=>k<=W.pn/\∀i,i<k->¬(W.A1 i).set=x) 0 (by simp[go_sem]) (by simp) ?_;rintro k ⟨c,a⟩;simp[go_sem,Al (show k<=1000000000 by omega)];exact⟨fun b=>⟨b,fun h=>⟨k,b,G9 h⟩,fun h=>⟨k+1,⟨by omega,Bf b a fun e=>h (congrArg ByteArray.toList e)⟩,by omega,rfl⟩⟩,fun b i hi=>a i (by omega)⟩
def yQ:AE:=AU (fun q:A5×List (Int×Int)=>(true,woV q.1) :: [psL q.2]) (fun q=>q.1.pool.hn+q.2.length<=1000000) (fun q=>[woO (GL q.1 q.2),iT q.2.length])
theorem QJ(W:A5)(l:List (Int×Int)):yQ ((true,woV W) :: [psL l])=some (W.pool.hn+l.length<=1000000,[woO (GL W l),iT l.length]):=Ac (fun m=>(BW (nth m 0),KA (nth m 1 0))) (fun q=>by exact congrArg (Prod.mk q.1) (Q1 q.2)) (W,l)
theorem RU:Cy Tryz.prog 182 yQ:=by
 refine F2 Ah GOk.nil mixed Tryz.func182 rfl Tryz.ntmps182 Tryz.results182 6 ?_;rintro⟨W,l⟩ hn;replace hn:W.pool.hn+l.length<=1000000:=hn;refine⟨by simp,?_⟩;simp[go_sem];refine Ax (fun k:Nat=>⟨[(5,true,.i k),(0,true,.m false [.p 0 0]),(1,true,.m false [.s .b 2 l.length (ptrsT (fun i=>AO l i) (fun i=>AS l i))])],[(0,.var [.h 1000,.h 2000,.v (.int .i64 W.time),.v (.int .i64 W.next),.h 5000,.h 6000]),(1000,.row 3 W.pool.n (Ao .z W.pool.s)),(2000,.row 1 (Bd W.pool (l.take k)).hn (Ay (Bd W.pool (l.take k)).h)),(5000,.row 6 W.sn (setsE .o W.A3)),(6000,.row 8 W.pn (snapsE .z W.A1))]⟩) (fun k=>l.length - k) (fun k=>k<=l.length) 0 (by simp[go_sem,Bd]) (Nat.zero_le _) ?_;intro k j;obtain⟨p,a⟩:∃p,p=Bd W.pool (l.take k):=⟨_,rfl⟩;have q:p.hn=W.pool.hn+k:=by rw[a,(Ft _ _).2.2,List.length_take,Nat.min_eq_left j]
 have d:k<l.length->Bd W.pool (l.take (k+1))=G6 p (AO l k):=fun h=>by
  rw[a,List.take_succ_eq_append_getElem h,Rp,<-LU];simp[h]
 rw[<-a];simp[go_sem,Al (show k<=1000000000 by omega)];refine⟨fun c=>⟨c,by omega,by kernel_rfl,k+1,c,by omega,rfl,?_⟩,fun c=>?_⟩
 ·rw[d c];exact R7
 ·cases (show k=l.length by omega);rw[List.take_length]at a;subst a;obtain⟨e,g,-⟩:=Ft l W.pool;refine⟨⟨?_,BT⟩,⟨TrE.refl _,BX⟩,rfl,rfl,⟨TrE.refl _,CB⟩,TrE.refl _,CA⟩;show TrE _ (Tr.s .o 3 (Bd W.pool l).n (Ao .z (Bd W.pool l).s));rw[e,g];exact TrE.refl _
open Classical in
def Dm(W:A5)(x:ByteArray):Nat:=if h:∃k,k<W.sn/\¬BF (W.A3 k).name x/\∀j,j<k->BF (W.A3 j).name x then h.choose else W.sn
variable{x:ByteArray}
theorem Qi(h:k<W.sn)(b:¬BF (W.A3 k).name x)(c:∀j,j<k->BF (W.A3 j).name x):Dm W x=k:=by
 have a:∃k,k<W.sn/\¬BF (W.A3 k).name x/\∀j,j<k->BF (W.A3 j).name x:=⟨k,h,b,c⟩;unfold Dm;rw[dif_pos a];obtain⟨-,d,g⟩:=a.choose_spec;rcases Nat.lt_trichotomy a.choose k with e | e | e
 ·exact absurd (c _ e) d
 ·exact e
 ·exact absurd (g _ e) b
theorem UF(h:∀j,j<W.sn->BF (W.A3 j).name x):Dm W x=W.sn:=dif_neg fun ⟨k,h1,h2,_⟩=>h2 (h k h1)
abbrev E3(a:ByteArray)(o p rs rb:Int):AM:=⟨a,o,p,rs,rb,0,fun _=>0,fun _=>0⟩
def zD:AE:=AU (fun q:(A5×ByteArray)×Int×Int×Int×Int=>(true,woV q.1.1) :: [(true,[.v (.string q.1.2),.v (.int .i64 q.2.1),.v (.int .i64 q.2.2.1),.v (.int .i64 q.2.2.2.1),.v (.int .i64 q.2.2.2.2),.v n0])]) (fun q=>q.1.1.sn<=1000000) (fun q=>[woO (DE q.1.1 (Dm q.1.1 q.1.2) (E3 q.1.2 q.2.1 q.2.2.1 q.2.2.2.1 q.2.2.2.2))])
theorem Te(W:A5)(x:ByteArray)(o p rs rb:Int):zD ((true,woV W) :: [(true,[.v (.string x),.v (.int .i64 o),.v (.int .i64 p),.v (.int .i64 rs),.v (.int .i64 rb),.v n0])])=some (W.sn<=1000000,[woO (DE W (Dm W x) (E3 x o p rs rb))]):=Ac (fun m=>((BW (nth m 0),C1 (nth m 1 0)),AQ (nth m 1 1),AQ (nth m 1 2),AQ (nth m 1 3),AQ (nth m 1 4))) (fun _=>rfl) ((W,x),o,p,rs,rb)
theorem X1:Cy Tryz.prog 44 zD:=by
 refine F2 Ah GOk.nil mixed Tryz.func44 rfl Tryz.ntmps44 Tryz.results44 6 ?_;rintro⟨⟨W,x⟩,o,p,rs,rb⟩ hn;replace hn:W.sn<=1000000:=hn;refine⟨by simp,?_⟩;simp[go_sem];refine Ax (fun k:Nat=>⟨[(4,true,.i k),(0,true,.m false [.p 0 0]),(3,true,.m false [.p 3 0])],[(3,.var [.v (.string x),.v (.int .i64 o),.v (.int .i64 p),.v (.int .i64 rs),.v (.int .i64 rb),.v n0]),(0,.var [.h 1000,.h 2000,.v (.int .i64 W.time),.v (.int .i64 W.next),.h 5000,.h 6000]),(1000,.row 3 W.pool.n (Ao .z W.pool.s)),(2000,.row 1 W.pool.hn (Ay W.pool.h)),(5000,.row 6 W.sn (setsE .o W.A3)),(6000,.row 8 W.pn (snapsE .z W.A1))]⟩) (fun k=>W.sn - k) (fun k=>k<=W.sn/\∀j,j<k->BF (W.A3 j).name x) 0 (by simp[go_sem]) (by simp) ?_;rintro k ⟨c,a⟩;simp[go_sem,Al (show k<=1000000000 by omega)];refine⟨by kernel_rfl,fun b h=>⟨k+1,⟨b,Bf b a h⟩,by omega,rfl⟩,fun h=>?_⟩;have hK:Dm W x=k:=by
  by_cases b:k<W.sn
  ·exact Qi b (fun e=>by have:=h b;unfold BF at e;rw[this]at e;simp at e) a
  ·rw[UF fun j d=>a j (by omega)];omega
 rw[hK];refine⟨c,⟨c,by omega⟩,by omega,c,⟨by omega,by omega⟩,⟨TrE.refl _,BT⟩,⟨TrE.refl _,BX⟩,rfl,rfl,⟨?_,CB⟩,TrE.refl _,CA⟩;refine⟨.inl rfl,rfl,by show k+1+(W.sn - k)=W.sn+1;omega,fun i j hi d=>?_⟩;show TrE _ (setsE .o (ins W.A3 k (E3 x o p rs rb)) i j);rcases Nat.lt_trichotomy i k with e | e | e
 ·have:setsE .o (ins W.A3 k (E3 x o p rs rb)) i j=setsE .o W.A3 i j:=by
   unfold setsE;rw[ET e]
  rw[this];exact TrE.of_eq (by simp[Ai,e,show i<k+1 by omega])
 ·subst e;have:setsE .o (ins W.A3 i (E3 x o p rs rb)) i j=setsE .o (fun _=>E3 x o p rs rb) i j:=by
   unfold setsE;rw[ER]
  rw[this]
  match j,d with
  | 0,_ | 1,_ | 2,_ | 3,_ | 4,_=>exact TrE.of_eq (by simp[Ai,setsE])
  | 5,_=>simp[Ai,setsE,TrE]
 ·have:setsE .o (ins W.A3 k (E3 x o p rs rb)) i j=setsE .o W.A3 (i - 1) j:=by
   unfold setsE;rw[ES e]
  rw[this];refine TrE.of_eq ?_;simp[Ai,ntR,show ¬i<k+1 by omega,show k+(i - (k+1))=i - 1 by omega,show ¬i - 1<k by omega]
set_option maxRecDepth 20000
set_option maxHeartbeats 3200000
open Classical in
def EH(W:A5)(x:ByteArray):BV:=if 8000<x.size then BG 2 else if Ak W/\BK x then(if EX W x=0 then⟨DE W (Dm W x) (E3 x 0 0 0 0),0,0,0⟩else BG (EX W x))else BG 1
theorem Bg{o o':BV}(h:o'=o):(TrE (.s .o 3 o.world.pool.n (Ao .z o.world.pool.s)) (.s .o 3 o'.world.pool.n (Ao .z o'.world.pool.s))/\(Tr.s .o 3 o'.world.pool.n (Ao .z o'.world.pool.s)).kept)/\(TrE (.s .o 1 o.world.pool.hn (Ay o.world.pool.h)) (.s .o 1 o'.world.pool.hn (Ay o'.world.pool.h))/\(Tr.s .o 1 o'.world.pool.hn (Ay o'.world.pool.h)).kept)/\o.world.time=o'.world.time/\o.world.next=o'.world.next/\(TrE (.s .o 6 o.world.sn (setsE .o o.world.A3)) (.s .o 6 o'.world.sn (setsE .o o'.world.A3))/\(Tr.s .o 6 o'.world.sn (setsE .o o'.world.A3)).kept)/\(TrE (.s .o 8 o.world.pn (snapsE .z o.world.A1)) (.s .o 8 o'.world.pn (snapsE .z o'.world.A1))/\(Tr.s .o 8 o'.world.pn (snapsE .z o'.world.A1)).kept)/\o.id=o'.id/\o.many=o'.many/\o.code=o'.code:=by
 subst h;exact⟨⟨TrE.refl _,BT⟩,⟨TrE.refl _,BX⟩,rfl,rfl,⟨TrE.refl _,CB⟩,⟨TrE.refl _,CA⟩,rfl,rfl,rfl⟩
theorem KL{x:Int}(h:Ba W x):(BC W.pn fun k=>(W.A1 k).id=x)<W.pn:=by
 rcases YO (Ga W.pn fun k=>(W.A1 k).id=x)with⟨-,-,b,-⟩ | ⟨a,-⟩
 ·exact b
 ·exact absurd h a
theorem Ik(h:B3 W x):(BC W.sn fun k=>(W.A3 k).name=x)<W.sn:=by
 rcases Ga W.sn fun k=>(W.A3 k).name=x with⟨k,a,-,-,b⟩ | ⟨a,b⟩
 ·omega
 ·have:=CW.2 h;omega
attribute [go_sem] BP
attribute [-go_sem] BP
def Tx:AE:=AU (fun q:A5×ByteArray=>[woT q.1,sT q.2]) (fun q=>BZ q.1) (fun q=>[wuO (EH q.1 q.2)])
theorem L8(W:A5)(x:ByteArray):Tx [woT W,sT x]=some (BZ W,[wuO (EH W x)]):=Ac (fun l=>(BW (nth l 0),C1 (nth l 1 0))) (fun _=>rfl) (W,x)
theorem RD:Ae Tryz.prog 15 Tx:=by
 refine Ar Ah (GOk.cons IL (AA Tryz.func30 rfl rfl) (GOk.cons Fv (AA Tryz.func25 rfl rfl) (GOk.cons Gg (AA Tryz.func27 rfl rfl) (GOk.cons Oy (AA Tryz.func42 rfl rfl) (GOk.cons X2 (AA Tryz.func43 rfl rfl) (GOk.ptr X1 (AA Tryz.func44 rfl rfl) GOk.nil)))))) mixed Tryz.func15 rfl Tryz.ntmps15 Tryz.results15 7 ?_;rintro⟨W,x⟩ a;replace a:BZ W:=a;have hs:=a.sn;refine⟨by simp,?_⟩;simp[go_sem,DM,C2,Be,IB,Tp,Te,a,a.toSmallW,hs];refine⟨fun h=>?_,fun h=>⟨fun b=>?_,fun b d=>⟨fun c=>?_,fun c=>?_⟩⟩⟩
 ·exact Bg (if_pos (by omega))
 ·exact Bg ((if_neg (by omega)).trans (if_neg fun e=>b.elim (fun h=>h e.1) (fun h=>h e.2)))
 ·exact Bg ((if_neg (by omega)).trans ((if_pos ⟨b,d⟩).trans (if_neg c)))
 ·exact Bg (o:=⟨DE W (Dm W x) (E3 x 0 0 0 0),0,0,0⟩) ((if_neg (by omega)).trans ((if_pos ⟨b,d⟩).trans (if_pos c)))
open Classical in
def L2(W:A5)(x:Int)(a:ByteArray):BV:=if 8000<a.size then BG 2 else if Ak W/\BK a then(if Ba W x then(if EX W a=0 then⟨DE W (Dm W a) (E3 a x x (W.A1 (BC W.pn fun k=>(W.A1 k).id=x).toNat).rs (W.A1 (BC W.pn fun k=>(W.A1 k).id=x).toNat).rb),0,0,0⟩else BG (EX W a))else BG 4)else BG 1
def Zm:AE:=AU (fun q:A5×Int×ByteArray=>[woT q.1,iT q.2.1,sT q.2.2]) (fun q=>BZ q.1) (fun q=>[wuO (L2 q.1 q.2.1 q.2.2)])
theorem zE9(W:A5)(x:Int)(a:ByteArray):Zm [woT W,iT x,sT a]=some (BZ W,[wuO (L2 W x a)]):=Ac (fun l=>(BW (nth l 0),AQ (nth l 1 0),C1 (nth l 2 0))) (fun _=>rfl) (W,x,a)
theorem zBz:Ae Tryz.prog 138 Zm:=by
 refine Ar Ah (GOk.cons IL (AA Tryz.func30 rfl rfl) (GOk.cons Fv (AA Tryz.func25 rfl rfl) (GOk.cons JA (AA Tryz.func29 rfl rfl) (GOk.cons Gg (AA Tryz.func27 rfl rfl) (GOk.cons Oy (AA Tryz.func42 rfl rfl) (GOk.cons X2 (AA Tryz.func43 rfl rfl) (GOk.ptr X1 (AA Tryz.func44 rfl rfl) GOk.nil))))))) mixed Tryz.func138 rfl Tryz.ntmps138 Tryz.results138 10 ?_;rintro⟨W,x,a⟩ c;replace c:BZ W:=c;have hs:=c.sn;have j:=c.pn;refine⟨by simp,?_⟩;simp[go_sem,DM,C2,F4,Be,IB,Tp,Te,c,c.toSmallW,hs,j,JP,Gx];refine⟨fun h=>?_,fun h=>⟨fun d=>?_,fun d g=>⟨fun b=>?_,fun b=>?_⟩⟩⟩
 ·exact Bg (if_pos (by omega))
 ·exact Bg ((if_neg (by omega)).trans (if_neg fun e=>d.elim (fun h=>h e.1) (fun h=>h e.2)))
 ·exact Bg ((if_neg (by omega)).trans ((if_pos ⟨d,g⟩).trans (if_neg b)))
 ·refine⟨fun i=>?_,fun i=>⟨⟨b,KL b⟩,?_⟩⟩
  ·exact Bg ((if_neg (by omega)).trans ((if_pos ⟨d,g⟩).trans ((if_pos b).trans (if_neg i))))
  ·exact Bg (o:=⟨DE W (Dm W a) (E3 a x x (W.A1 (BC W.pn fun k=>(W.A1 k).id=x).toNat).rs (W.A1 (BC W.pn fun k=>(W.A1 k).id=x).toNat).rb),0,0,0⟩) ((if_neg (by omega)).trans ((if_pos ⟨d,g⟩).trans ((if_pos b).trans (if_pos i))))
end
end Go.Proofs.YtibhefllijahkaaGreatDoor
