/- A part of the proof. -/
import Derived.Test.YtddigaohmfpepaaGreatDoorF22
import Derived.Test.YtddigaohmfpepaaGreatDoorF15
set_option linter.unusedVariables false
set_option maxRecDepth 20000
set_option maxHeartbeats 4000000
namespace Go.Proofs.YtddigaohmfpepaaGreatDoor
noncomputable section
open Go.RowKit
set_option linter.unusedSimpArgs false
set_option maxRecDepth 20000
set_option maxHeartbeats 1600000
def Dm(h:Nat->Bool):Nat->Nat->Tr:=fun i _=>.v (.bool (h i))
variable{h:Nat->Bool}{i:Nat}
theorem zX{j:Nat}:Dm h i j = .v (.bool (h i)):=rfl
variable{fl:Fl}{k n:Nat}
theorem zB4:(Tr.s fl k n (Dm h)).CY = .s .b k n (Dm h):=rfl
theorem zAq:(Tr.s .o 1 n (Dm h)).kept:=⟨by simp,fun i j _ _=>trivial⟩
variable{F:Nat->Nat->Tr}
theorem XD(hF:∀i j,i<n->j<1->F i j = .v (.bool (h i))):TrE (.s fl 1 n F) (.s fl 1 n (Dm h)):=F9 fun i j hi a=>hF i j hi a
variable{f:Nat->Bool}
theorem Jd(hF:∀i,i<n->f i=h i):TrE (.s fl 1 n (Dm f)) (.s fl 1 n (Dm h)):=F9 fun i j hi a=>congrArg (fun b=>Tr.v (.bool b)) (hF i hi)
theorem XE(hF:∀i,i<n->h i=if i=k then true else f i):TrE (.s fl 1 n (Ae (Dm f) k 0 [.v (.bool true)])) (.s fl 1 n (Dm h)):=F9 fun i j hi a=>by
 cases (show j=0 by omega);rw[show Dm h i 0 = .v (.bool (h i))from rfl,hF i hi];by_cases e:i=k
 ·subst e;simp[Ae]
 ·simp[Ae,e,Dm]
theorem Zf{p q:Prop}:dB p=dB q↔(p↔q):=by
 by_cases a:p<;>by_cases b:q<;>simp[dB,a,b]
attribute [-go_sem] Bh
attribute [go_sem] VI P5 P6 zX zB4
structure K9 (W:A6):Prop extends ET W where
 A2:∀k,k<W.sn->B3 W.pool (W.A2 k).rs (W.A2 k).rb
variable{W:A6}
theorem K9.trees(h:K9 W):EV W:=Nl h.right h.Aq h.A3 h.A2
structure PL (W:A6):Prop where
 tr:EV W
 sn:W.sn<=8
 pn:W.pn<=20
def KH(W:A6)(s:Nat):Bool:=dB (KJ W s)
def qC:AL:=AY (fun W:A6=>[woT W]) (fun W=>PL W) (fun W=>[(false,[.s .o 1 W.pool.n (Dm (KH W))])])
theorem zDg(W:A6):qC [woT W]=some (PL W,[(false,[.s .o 1 W.pool.n (Dm (KH W))])]):=Ag (fun l=>C2 (nth l 0)) (fun _=>rfl) W
def JM(W:A6)(k:Nat)(l:List (Int×Int))(j s:Nat):Bool:=dB (qV W k l j s)
theorem zBc:An Tryz.prog 42 qC:=by
 refine B6 Al (GOk.cons Jr (AE Tryz.func89 rfl rfl) GOk.nil) Ak Tryz.func42 rfl Tryz.ntmps42 Tryz.results42 10 ?_;intro W c;replace c:PL W:=c;have C:W.sn<=8:=c.sn;have y:W.pn<=20:=c.pn;have hn:W.pool.n<=200:=c.tr.right.1;refine⟨by simp,?_⟩;simp[go_sem];refine⟨by omega,?_⟩;refine BF (fun k:Nat=>⟨[(1,true,.m false [.p 1 0]),(3,true,.m false [.h 7]),(4,true,.m false [.h 8]),(5,true,.i k)],[(8,.row 2 (F8 W k).length (ptL (F8 W k))),(7,.row 1 W.pool.n (Dm fun _=>false)),(1,.var ((woL W).map Tr.cv))]⟩) (fun k=>W.sn - k) (fun k=>k<=W.sn) 0 ?_ (Nat.zero_le _) ?_
 ·simp[go_sem];refine⟨LZ rfl,XD fun i j _ B=>?_⟩;cases (show j=0 by omega);rfl
 intro k w;have o:=ON W k;simp[go_sem,Ar (show k<=1000000000 by omega)];refine⟨fun g=>?_,fun g=>?_⟩
 ·refine⟨g,by omega,k+1,by omega,by omega,rfl,Ga HJ ?_⟩;rw[YY,OA g]
 cases (show k=W.sn by omega);refine BF (fun k:Nat=>⟨[(1,true,.m false [.p 1 0]),(3,true,.m false [.h 7]),(4,true,.m false [.h 8]),(6,true,.i k)],[(8,.row 2 (F8 W (W.sn+k)).length (ptL (F8 W (W.sn+k)))),(7,.row 1 W.pool.n (Dm fun _=>false)),(1,.var ((woL W).map Tr.cv))]⟩) (fun k=>W.pn - k) (fun k=>k<=W.pn) 0 (by simp[go_sem]) (Nat.zero_le _) ?_;intro k w;have o:=ON W (W.sn+k);simp[go_sem,Ar (show k<=1000000000 by omega)];refine⟨fun g=>?_,fun g=>?_⟩
 ·refine⟨g,by omega,k+1,by omega,by omega,rfl,Ga HJ ?_⟩;rw[<-Nat.add_assoc,YY,OM]
 cases (show k=W.pn by omega);obtain⟨R,r⟩:∃R,R=F8 W (W.sn+W.pn):=⟨_,rfl⟩;rw[<-r];have t:R.length=W.sn+W.pn:=by rw[r];exact ON _ _
 refine BF (fun k:Nat=>⟨[(1,true,.m false [.p 1 0]),(3,true,.m false [.h 7]),(4,true,.m false [.h 8]),(7,true,.i k)],[(8,.row 2 R.length (ptL R)),(7,.row 1 W.pool.n (Dm (JM W k [] 0))),(1,.var ((woL W).map Tr.cv))]⟩) (fun k=>R.length - k) (fun k=>k<=R.length) 0 ?_ (Nat.zero_le _) ?_
 ·simp[go_sem];refine Jd fun i _=>?_
  symm;rw[JM,Ox];rintro(⟨i,hi,_⟩ | ⟨q,f,_⟩)
  ·omega
  ·omega
 intro k w;simp[go_sem,Ar (show k<=1000000000 by omega),Iy,c.tr.right];refine⟨fun e=>?_,fun e=>?_⟩
 ·have d:k<W.sn+W.pn:=(by omega);have z:AN R k=(DG W k).1:=(by rw[r];exact(Vc d).1);have A:AP R k=(DG W k).2:=(by rw[r];exact(Vc d).2);have v:B3 W.pool (DG W k).1 (DG W k).2:=zFy c.tr d;rw[z,A];refine⟨e,v,by kernel_rfl,?_⟩;obtain⟨l,a⟩:∃l,l=AG W.pool (DG W k).1 (DG W k).2:=⟨_,rfl⟩;have D:l.length<=100:=(by have:=Dh W.pool (DG W k).1 (DG W k).2;rw[a];omega);rw[<-a];refine BF (fun j:Nat=>⟨[(9,true,.i j),(8,true,.m false [.h 60]),(1,true,.m false [.p 1 0]),(3,true,.m false [.h 7]),(4,true,.m false [.h 8]),(7,true,.i k)],[(60,.row 2 l.length (ptL l)),(8,.row 2 R.length (ptL R)),(7,.row 1 W.pool.n (Dm (JM W k l j))),(1,.var ((woL W).map Tr.cv))]⟩) (fun j=>l.length - j) (fun j=>j<=l.length) 0 ?_ (Nat.zero_le _) ?_
  ·simp[go_sem];refine Jd fun i _=>?_
   rw[JM,JM,Zf];exact⟨fun h=>h.elim Or.inl fun ⟨q,f,_⟩=>by omega,fun h=>h.elim Or.inl fun ⟨q,f,_⟩=>by omega⟩
  intro j B;simp[go_sem,Ar (show j<=1000000000 by omega),Ar (show k<=1000000000 by omega)];have x:LV W k l j (JM W k l j):=fun s=>FQ
  refine⟨fun b=>?_,fun b=>⟨k+1,e,by omega,rfl,?_⟩⟩
  ·obtain⟨q,f,u⟩:=Tx c.tr.right v (j:=j) (by rw[<-a];exact b);rw[<-a]at f;rw[f];refine⟨b,⟨by omega,by omega⟩,by simpa using u,j+1,b,by omega,rfl,XE fun i _=>?_⟩;exact Bool.eq_iff_iff.2 (FQ.trans (zAM x f i).symm)
  ·cases (show j=l.length by omega);refine Jd fun i _=>?_
   exact Bool.eq_iff_iff.2 ((zAN x a i).trans FQ.symm)
 ·cases (show k=R.length by omega);refine⟨Jd fun i _=>?_,zAq⟩;rw[JM,KH,Zf,zAn,t];exact⟨fun h=>h.elim id fun ⟨q,f,_⟩=>by omega,Or.inl⟩
set_option maxRecDepth 20000
set_option maxHeartbeats 1600000
variable{a b:Nat}
theorem S8(h:a+b<=1000000000):IntKind.i64.wrap ((a:Int)+(b:Int))=(a:Int)+(b:Int):=by
 unfold IntKind.wrap;simp[IntKind.signed,IntKind.bits];omega
theorem zJH(h:a<=1000000000)(c:b<=1000000000):IntKind.i64.wrap ((a:Int) - (b:Int))=(a:Int) - (b:Int):=by
 unfold IntKind.wrap;simp[IntKind.signed,IntKind.bits];omega
theorem tnS:((a:Int) - (b:Int)).toNat=a - b:=by omega
attribute [go_sem] Bh
attribute [-go_sem] Bh
def K7(W:A6)(k:Nat)(now old:List (Int×Int))(j s:Nat):Bool:=dB (qW W k now old j s)
def Zs:AL:=AY (fun W:A6=>[woT W]) (fun W=>K9 W) (fun W=>bR (Ic W))
theorem zDZ(W:A6):Zs [woT W]=some (K9 W,bR (Ic W)):=Ag (fun l=>C2 (nth l 0)) (fun _=>rfl) W
theorem zBZ:An Tryz.prog 46 Zs:=by
 refine B6 Al (GOk.cons Kx (AE Tryz.func88 rfl rfl) (GOk.cons Jr (AE Tryz.func89 rfl rfl) (GOk.cons NV (AE Tryz.func90 rfl rfl) GOk.nil))) Ak Tryz.func46 rfl Tryz.ntmps46 Tryz.results46 12 ?_;intro W u;replace u:K9 W:=u;have K:W.sn<=8:=u.Aq.2.2.1;have H:W.pn<=20:=u.Aq.2.2.2.1;have hn:W.pool.n<=200:=u.right.1;refine⟨by simp,?_⟩;simp[go_sem];refine⟨by omega,?_⟩;refine BF (fun k:Nat=>⟨[(1,true,.m false [.p 1 0]),(3,true,.m false [.h 61]),(4,true,.i k)],[(61,.row 1 W.pool.n (Dm (K7 W k [] [] 0))),(1,.var ((woL W).map Tr.cv))]⟩) (fun k=>memN W - k) (fun k=>k<=memN W/\Px W k) 0 ?_ ⟨Nat.zero_le _,fun i hi=>by omega⟩ ?_
 ·simp[go_sem];refine XD fun i j _ D=>?_
  cases (show j=0 by omega);have:K7 W 0 [] [] 0 i=false:=by
   rw[K7,Ox];rintro(⟨i,hi,_⟩ | ⟨q,M,_⟩)<;>omega
  simp[this]
 rintro k ⟨L,G⟩;have J:memN W=W.pn+W.sn:=rfl;by_cases E:k<memN W;rotate_left
 ·have z:¬(k:Int)<(W.pn:Int)+(W.sn:Int):=(by omega);simp[go_sem,S8 (show W.pn+W.sn<=1000000000 by omega),z];cases (show k=memN W by omega);exact G
 have z:(k:Int)<(W.pn:Int)+(W.sn:Int):=by omega
 have f:B3 W.pool (AA W k).rs (AA W k).rb:=u.trees.tree k E;have g:=LM u.A3 (AA W k).A8;have x:=Kg u.ids (AA W k).A8;by_cases hs:k<W.pn
 case' pos=>
  have e:AA W k=MW (W.A3 k):=CH hs;rw[e]at f g x;replace f:B3 W.pool (W.A3 k).rs (W.A3 k).rb:=f;replace g:B3 W.pool (AI W (W.A3 k).A8).rs (AI W (W.A3 k).A8).rb:=g;replace x:Er W (W.A3 k).A8=AI W (W.A3 k).A8:=x;obtain⟨a,b⟩:∃l,l=AG W.pool (W.A3 k).rs (W.A3 k).rb:=⟨_,rfl⟩;obtain⟨c,d⟩:∃l,l=AG W.pool (AI W (W.A3 k).A8).rs (AI W (W.A3 k).A8).rb:=⟨_,rfl⟩;have o:a=treeM W (AA W k):=(by rw[e];exact b);have r:c=oldM W (AA W k):=(by rw[e];exact d);simp[go_sem,S8 (show W.pn+W.sn<=1000000000 by omega),z,hs,Jj,Iy,u.pn,u.right,x,g,f,<-b,<-d]
 case' neg=>
  have e:AA W k=L3 W.time (W.A2 (k - W.pn)):=by
   have:=C4 W (k - W.pn)
   rwa [show W.pn+(k - W.pn)=k by omega]at this
  rw[e]at f g x;replace f:B3 W.pool (W.A2 (k - W.pn)).rs (W.A2 (k - W.pn)).rb:=f;replace g:B3 W.pool (AI W (W.A2 (k - W.pn)).A8).rs (AI W (W.A2 (k - W.pn)).A8).rb:=g;replace x:Er W (W.A2 (k - W.pn)).A8=AI W (W.A2 (k - W.pn)).A8:=x;obtain⟨a,b⟩:∃l,l=AG W.pool (W.A2 (k - W.pn)).rs (W.A2 (k - W.pn)).rb:=⟨_,rfl⟩;obtain⟨c,d⟩:∃l,l=AG W.pool (AI W (W.A2 (k - W.pn)).A8).rs (AI W (W.A2 (k - W.pn)).A8).rb:=⟨_,rfl⟩;have o:a=treeM W (AA W k):=(by rw[e];exact b);have r:c=oldM W (AA W k):=(by rw[e];exact d);simp[go_sem,S8 (show W.pn+W.sn<=1000000000 by omega),zJH (show k<=1000000000 by omega) (show W.pn<=1000000000 by omega),tnS,z,hs,Jj,Iy,u.pn,u.right,x,g,f,<-b,<-d];refine⟨⟨by omega,by omega⟩,?_⟩
 all_goals
  have N:a.length<=100:=(by rw[b];exact Nat.le_trans (Dh ..) (by omega));have lo:c.length<=100:=(by rw[d];exact Nat.le_trans (Dh ..) (by omega));have y:∀j,j<a.length->∃s:Nat,AN a j=(s:Int)/\s<W.pool.n:=fun j D=>by
   rw[b];exact Tx u.right f (by rw[<-b];exact D)
  clear b d f g x e z hs;refine BF (fun j:Nat=>⟨[(11,true,.i j),(10,true,.m false [.h 63]),(9,true,.m false [.h 62]),(1,true,.m false [.p 1 0]),(3,true,.m false [.h 61]),(4,true,.i k)],[(63,.row 2 a.length (ptL a)),(62,.row 2 c.length (ptL c)),(61,.row 1 W.pool.n (Dm (K7 W k a c j))),(1,.var ((woL W).map Tr.cv))]⟩) (fun j=>a.length - j) (fun j=>j<=a.length/\KV W k a c j) 0 ?_ ⟨Nat.zero_le _,fun i hi=>absurd hi (Nat.not_lt_zero _)⟩ ?_
  ·simp[go_sem];have I:FX W k [] [] 0 (K7 W k [] [] 0):=fun s=>FQ
   exact Jd fun i _=>Bool.eq_iff_iff.2 ((zA4 I a c i).trans FQ.symm)
  rintro j ⟨D,v⟩;have A:FX W k a c j (K7 W k a c j):=fun s=>FQ
  have F:c.length<=1000000:=(by omega);simp[go_sem,N1,Ar (show j<=1000000000 by omega),Ar (show k<=1000000000 by omega),S6,F];refine⟨fun t=>⟨t,fun w=>⟨j+1,⟨t,zG4 v w⟩,by omega,rfl,?_⟩,fun w=>?_⟩,fun t=>?_⟩
  ·exact Jd fun i _=>Bool.eq_iff_iff.2 ((zE9 A w i).trans FQ.symm)
  ·obtain⟨s,hs,C⟩:=y j t;rw[hs];refine⟨t,⟨by omega,by omega⟩,by simpa using C,fun B=>?_,fun B=>⟨t,⟨by omega,by omega⟩,by simpa using C,j+1,⟨t,?_⟩,by omega,rfl,?_⟩⟩
   ·rw[Int.toNat_natCast]at B;exact zA5 u.trees E o r A t hs w B
   ·rw[Int.toNat_natCast]at B;exact zG1 v A hs B
   ·rw[Int.toNat_natCast];exact XE fun i _=>Bool.eq_iff_iff.2 (FQ.trans (zE8 A hs w i).symm)
  ·cases (show j=a.length by omega);refine⟨k+1,⟨E,zBD G o r v⟩,by omega,rfl,Jd fun i _=>?_⟩;exact Bool.eq_iff_iff.2 ((zEB A o r i).trans FQ.symm)
set_option maxRecDepth 20000
set_option maxHeartbeats 3200000
attribute [go_sem] Bh
attribute [-go_sem] Bh
structure SmallW (W:A6):Prop where
 n:W.pool.n<=1000000
 hn:W.pool.hn<=1000000
 sn:W.sn<=1000000
 pn:W.pn<=1000000
 sd:∀i,i<W.sn->(W.A2 i).dn<=1000000
 pd:∀i,i<W.pn->(W.A3 i).dn<=1000000
theorem zHg(h:k<W.pn):DU W k↔E6 (W.A3 k).dn (W.A3 k).ds (W.A3 k).db (BR (AG W.pool (AI W (W.A3 k).A8).rs (AI W (W.A3 k).A8).rb) (AG W.pool (W.A3 k).rs (W.A3 k).rb)):=by
 unfold DU;rw[CH h];exact Iff.rfl
theorem zHh:DU W (W.pn+k)↔E6 (W.A2 k).dn (W.A2 k).ds (W.A2 k).db (BR (AG W.pool (AI W (W.A2 k).A8).rs (AI W (W.A2 k).A8).rb) (AG W.pool (W.A2 k).rs (W.A2 k).rb)):=by
 unfold DU;rw[C4];exact Iff.rfl
def mWR:AL:=AY (fun W:A6=>[woT W]) (fun W=>SmallW W) (fun W=>bR (B4 W))
theorem CE(W:A6):mWR [woT W]=some (SmallW W,bR (B4 W)):=Ag (fun l=>C2 (nth l 0)) (fun _=>rfl) W
theorem FK:An Tryz.prog 14 mWR:=by
 refine B6 Al (GOk.cons OG (AE Tryz.func43 rfl rfl) (GOk.cons Oa (AE Tryz.func37 rfl rfl) (GOk.cons zBa (AE Tryz.func38 rfl rfl) (GOk.cons zCN (AE Tryz.func39 rfl rfl) (GOk.cons Ym (AE Tryz.func40 rfl rfl) (GOk.cons zB2 (AE Tryz.func41 rfl rfl) (GOk.cons zBc (AE Tryz.func42 rfl rfl) (GOk.cons M4 (AE Tryz.func44 rfl rfl) (GOk.cons zB1 (AE Tryz.func45 rfl rfl) (GOk.cons zBZ (AE Tryz.func46 rfl rfl) GOk.nil)))))))))) Ak Tryz.func14 rfl Tryz.ntmps14 Tryz.results14 8 ?_;intro W d;replace d:SmallW W:=d;refine⟨by simp,?_⟩;simp[go_sem,O7,zDc,zB7,d.n,d.hn,d.sn,d.pn];refine⟨fun h b=>?_,fun o q z=>?_⟩
 ·rcases h with(h | h) | ⟨x,E,h⟩
  ·exact h b.right
  ·exact h b.Aq
  ·exact h (b.lines x E)
 have D:W.sn<=8:=q.2.2.1;have w:W.pn<=20:=q.2.2.2.1;refine BF (fun k:Nat=>⟨[(1,true,.m false [.p 1 0]),(3,true,.i k)],[(1,.var ((woL W).map Tr.cv))]⟩) (fun k=>W.pn - k) (fun k=>k<=W.pn/\∀i,i<k->B3 W.pool (W.A3 i).rs (W.A3 i).rb) 0 (by simp[go_sem]) (by simp) ?_;rintro k ⟨u,g⟩;simp[go_sem,Ar (show k<=1000000000 by omega),PE,o];refine⟨fun a=>⟨a,by kernel_rfl,fun h b=>h (b.A3 k a),fun h=>⟨k+1,⟨by omega,Br a g h⟩,by omega,rfl⟩⟩,fun a=>?_⟩;cases (show k=W.pn by omega);have f:ET W:=⟨o,q,g⟩;refine BF (fun k:Nat=>⟨[(1,true,.m false [.p 1 0]),(4,true,.i k)],[(1,.var ((woL W).map Tr.cv))]⟩) (fun k=>W.sn - k) (fun k=>k<=W.sn/\∀i,i<k->B3 W.pool (W.A2 i).rs (W.A2 i).rb/\DU W (W.pn+i)) 0 (by simp[go_sem]) (by simp) ?_;rintro k ⟨u,c⟩;simp[go_sem,Ar (show k<=1000000000 by omega),PE,Uk,o,f,<-zHh];refine⟨fun a=>⟨a,fun _=>a,fun h=>⟨h,d.sd k a⟩,by kernel_rfl,fun h b=>?_,fun r t=>⟨k+1,⟨by omega,Br a c ⟨r,t⟩⟩,by omega,rfl⟩⟩,fun a=>?_⟩
 ·exact h.elim (fun h=>h (b.A2 k a).1) (fun h=>h (b.A2 k a).2)
 cases (show k=W.sn by omega);have e:K9 W:=⟨f,fun i hi=>(c i hi).1⟩;refine BF (fun k:Nat=>⟨[(1,true,.m false [.p 1 0]),(5,true,.i k)],[(1,.var ((woL W).map Tr.cv))]⟩) (fun k=>W.pn - k) (fun k=>k<=W.pn/\∀i,i<k->DU W i) 0 (by simp[go_sem]) (by simp) ?_;rintro k ⟨u,j⟩;by_cases a:k<W.pn
 ·have A:=g k a;have B:=d.pd k a;simp[go_sem,Ar (show k<=1000000000 by omega),Uk,f,a,A,B,<-zHg a];refine⟨by kernel_rfl,fun h b=>h (b.dead k a),fun h=>⟨k+1,⟨by omega,Br a j h⟩,by omega,rfl⟩⟩
 simp[go_sem,Ar (show k<=1000000000 by omega),a,zDg,e,e.reach];cases (show k=W.pn by omega);refine BF (fun k:Nat=>⟨[(1,true,.m false [.p 1 0]),(6,true,.m false [.h 61]),(7,true,.i k)],[(61,.row 1 W.pool.n (Dm (KH W))),(1,.var ((woL W).map Tr.cv))]⟩) (fun k=>W.pool.n - k) (fun k=>k<=W.pool.n/\∀i,i<k->(KJ W i↔(¬Ah (W.pool.s i)/\¬Has W.pool.hn W.pool.h i))) 0 (by simp[go_sem]) (by simp) ?_;rintro k ⟨u,l⟩;have v:W.pool.n<=200:=o.1;simp[go_sem,Ar (show k<=1000000000 by omega),Ln,KO,zDa,zDZ,e,f,d.hn];have C:KH W k=(!dB (Ah (W.pool.s k)) && !dB (Has W.pool.hn W.pool.h (k:Int)))↔(KJ W k↔(¬Ah (W.pool.s k)/\¬Has W.pool.hn W.pool.h k)):=by
  unfold KH;by_cases r:KJ W k<;>by_cases t:Ah (W.pool.s k)<;>by_cases y:Has W.pool.hn W.pool.h (k:Int)<;>simp[dB,r,t,y]
 rw[C];refine⟨fun a=>⟨a,by kernel_rfl,fun h b=>h (b.reach k a),fun h=>⟨k+1,⟨by omega,Br a l h⟩,by omega,rfl⟩⟩,fun a=>⟨e.A2,fun h=>?_,fun b=>⟨b.born,b.Bn⟩⟩⟩;cases (show k=W.pool.n by omega);exact⟨o,q,z,g,c,j,l,h.1,h.2⟩
set_option maxRecDepth 20000
set_option maxHeartbeats 3200000
attribute [go_sem] Bh
attribute [-go_sem] Bh
def Dp(W:A6)(x:Int):Nat->Nat
 | 0=>0
 | k+1=>Dp W x k+(if (W.A2 k).A8=x then 1 else 0)
def EH(W:A6)(x:Int):Nat->Nat
 | 0=>0
 | k+1=>EH W x k+(if (W.A3 k).A8=x then 1 else 0)
theorem TG(W:A6)(x:Int):∀k,Dp W x k<=k
 | 0=>Nat.le_refl _
 | k+1=>by have:=TG W x k;rw[Dp];split<;>omega
theorem TE(W:A6)(x:Int):∀k,EH W x k<=k
 | 0=>Nat.le_refl _
 | k+1=>by have:=TE W x k;rw[EH];split<;>omega
def qB:AL:=AY (fun q:A6×Int=>[woT q.1,iT q.2]) (fun q=>q.1.sn<=1000000/\q.1.pn<=1000000) (fun q=>[iT ((Dp q.1 q.2 q.1.sn+EH q.1 q.2 q.1.pn:Nat):Int)])
theorem VN(W:A6)(x:Int):qB [woT W,iT x]=some (W.sn<=1000000/\W.pn<=1000000,[iT ((Dp W x W.sn+EH W x W.pn:Nat):Int)]):=Ag (fun l=>(C2 (nth l 0),AS (nth l 1 0))) (fun _=>rfl) (W,x)
theorem zBb:An Tryz.prog 147 qB:=by
 refine B6 Al GOk.nil Ak Tryz.func147 rfl Tryz.ntmps147 Tryz.results147 8 ?_;rintro⟨W,x⟩ ⟨hn,b⟩;replace hn:W.sn<=1000000:=hn;replace b:W.pn<=1000000:=b;refine⟨by simp,?_⟩;simp[go_sem];refine BF (fun k:Nat=>⟨[(2,true,.m false [.p 2 0]),(1,true,.i x),(5,true,.i (Dp W x k)),(6,true,.i k)],[(2,.var ((woL W).map Tr.cv))]⟩) (fun k=>W.sn - k) (fun k=>k<=W.sn) 0 (by simp[go_sem,Dp]) (by simp) ?_;intro k e;have f:=TG W x k;simp[go_sem,Ar (show k<=1000000000 by omega),Ar (show Dp W x k<=1000000000 by omega)];refine⟨fun a=>⟨a,fun h=>⟨k+1,by omega,by omega,by rw[Dp,if_pos h];rfl,rfl⟩,fun h=>⟨k+1,by omega,by omega,by rw[Dp,if_neg h];rfl,rfl⟩⟩,fun a=>?_⟩;cases (show k=W.sn by omega);refine BF (fun k:Nat=>⟨[(2,true,.m false [.p 2 0]),(1,true,.i x),(5,true,.i (Dp W x W.sn+EH W x k)),(7,true,.i k)],[(2,.var ((woL W).map Tr.cv))]⟩) (fun k=>W.pn - k) (fun k=>k<=W.pn) 0 (by simp[go_sem,EH]) (by simp) ?_;intro k e;have d:=TE W x k;have c:=Ar (show Dp W x W.sn+EH W x k<=1000000000 by omega);simp only[Int.natCast_add]at c;simp[go_sem,Ar (show k<=1000000000 by omega),c];refine⟨fun a=>⟨a,fun h=>⟨k+1,by omega,by omega,by rw[EH,if_pos h];omega,rfl⟩,fun h=>⟨k+1,by omega,by omega,by rw[EH,if_neg h];rfl,rfl⟩⟩,fun a=>?_⟩;cases (show k=W.pn by omega);rfl
set_option maxRecDepth 20000
set_option maxHeartbeats 3200000
def FS(s:Nat->Ab)(k:Nat):Nat->Nat->Tr:=fun i=>if i<k then setsE .o s i else setsE .b s i
def Fp(s:Nat->Aa)(k:Nat):Nat->Nat->Tr:=fun i=>if i<k then snapsE .z s i else snapsE .b s i
theorem Cj{s:Nat->Ab}:(Tr.s .o 6 n (setsE .o s)).kept:=⟨by simp,fun i j _ a=>by
 match j,a with
 | 0,_ | 1,_ | 2,_ | 3,_ | 4,_=>trivial
 | 5,_=>exact Kj.2 trivial⟩
theorem Ci{s:Nat->Aa}:(Tr.s .o 8 n (snapsE .z s)).kept:=⟨by simp,fun i j _ a=>by
 match j,a with
 | 0,_ | 1,_ | 2,_ | 3,_ | 4,_ | 5,_ | 6,_=>trivial
 | 7,_=>exact⟨by simp,fun p q _ _=>by unfold ptrsT;split<;>trivial⟩⟩
theorem zIH{s:Nat->Ab}:FS s 0=setsE .b s:=by funext i;simp[FS]
theorem zIG{s:Nat->Aa}:Fp s 0=snapsE .b s:=by funext i;simp[Fp]
theorem zH6{s:Nat->Ab}(h:k<=i):FS s k i=setsE .b s i:=if_neg (by omega)
theorem zH4{s:Nat->Aa}(h:k<=i):Fp s k i=snapsE .b s i:=if_neg (by omega)
theorem zFa{s:Nat->Ab}:TrE (.s fl 6 n (FS s n)) (.s fl 6 n (setsE .o s)):=F9 fun i j hi a=>by rw[FS,if_pos hi]
theorem zFZ{s:Nat->Aa}:TrE (.s fl 8 n (Fp s n)) (.s fl 8 n (snapsE .z s)):=F9 fun i j hi a=>by rw[Fp,if_pos hi]
theorem zFe{s:Nat->Ab}:(fun p q=>(setsE .b s p q).nt)=setsE .b s:=by
 funext p q
 match q with
 | 0 | 1 | 2 | 3 | 4=>rfl
 | 5=>rfl
 | q+6=>rfl
theorem VT{s:Nat->Aa}:(fun p q=>(snapsE .b s p q).nt)=snapsE .b s:=by
 funext p q
 match q with
 | 0 | 1 | 2 | 3 | 4 | 5 | 6=>rfl
 | 7=>rfl
 | q+8=>rfl
theorem zH7{s:Nat->Ab}(hF:TrE (.s .o 2 (s k).dn F) (.s .o 2 (s k).dn (ptrsT (s k).ds (s k).db))):TrE (.s fl 6 n (Ae (FS s k) k 5 [.s .o 2 (s k).dn F])) (.s fl 6 n (FS s (k+1))):=by
 refine⟨.inl rfl,rfl,rfl,fun i j hi a=>?_⟩;by_cases h:i=k
 ·subst h
  match j,a with
  | 0,_ | 1,_ | 2,_ | 3,_ | 4,_=>exact TrE.of_eq (by simp[Ae,FS,setsE])
  | 5,_=>simpa[Ae,FS,setsE]using hF
 ·refine TrE.of_eq ?_;have:(i<k+1)=(i<k):=propext (by omega);simp[Ae,FS,h,this]
theorem zH5{s:Nat->Aa}(hF:TrE (.s .o 2 (s k).dn F) (.s .z 2 (s k).dn (ptrsT (s k).ds (s k).db))):TrE (.s fl 8 n (Ae (Fp s k) k 7 [.s .o 2 (s k).dn F])) (.s fl 8 n (Fp s (k+1))):=by
 refine⟨.inl rfl,rfl,rfl,fun i j hi a=>?_⟩;by_cases h:i=k
 ·subst h
  match j,a with
  | 0,_ | 1,_ | 2,_ | 3,_ | 4,_ | 5,_ | 6,_=>exact TrE.of_eq (by simp[Ae,Fp,snapsE])
  | 7,_=>simpa[Ae,Fp,snapsE]using hF
 ·refine TrE.of_eq ?_;have:(i<k+1)=(i<k):=propext (by omega);simp[Ae,Fp,h,this]
attribute [go_sem] Bh
structure Bt (W:A6):Prop extends SmallW W where
 kn:∀i,i<W.pool.n->(W.pool.s i).kn<=1000000
def Zj:AL:=AY (fun W:A6=>[woT W]) (fun W=>Bt W) (fun W=>[woO W])
theorem Dg(W:A6):Zj [woT W]=some (Bt W,[woO W]):=Ag (fun l=>C2 (nth l 0)) (fun _=>rfl) W
theorem ID:An Tryz.prog 30 Zj:=by
 refine B6 Al (GOk.cons OF (AE Tryz.func70 rfl rfl) GOk.nil) Ak Tryz.func30 rfl Tryz.ntmps30 Tryz.results30 6 ?_;intro W a;replace a:Bt W:=a;have hn:=a.n;have f:=a.hn;have hs:=a.sn;have g:=a.pn;refine⟨by simp,?_⟩;simp[go_sem,Ll,hn,f,GR,TC,Gy,zFe,VT];refine⟨a.kn,by omega,?_⟩;refine BF (fun k:Nat=>⟨[(4,true,.i k),(3,true,.m false [.p 3 0]),(2,true,.m false [.p 2 0]),(1,true,.m false [.p 1 0])],[(3,.var [.h 61,.h 62,.v (.int .i64 W.time),.v (.int .i64 W.next),.h 63,.s .b 8 W.pn (snapsE .b W.A3)]),(63,.row 6 W.sn (FS W.A2 k)),(62,.row 1 W.pool.hn (BH W.pool.h)),(61,.row 3 W.pool.n (Aw .z W.pool.s)),(2,.var [.v n0,.v n0,.v i0,.v i0,.v n0,.v n0]),(1,.var ((woL W).map Tr.cv))]⟩) (fun k=>W.sn - k) (fun k=>k<=W.sn) 0 (by rw[zIH];simp[go_sem]) (Nat.zero_le _) ?_;intro k e;simp[go_sem,Ar (show k<=1000000000 by omega),GR,Gy,VT,zH6 (Nat.le_refl k)];refine⟨fun c=>?_,fun c=>?_⟩
 ·have d:=a.sd k c;exact⟨c,by omega,c,by kernel_rfl,k+1,by omega,by omega,rfl,zH7 (TrE.refl _)⟩
 cases (show k=W.sn by omega);refine⟨by omega,?_⟩;refine BF (fun k:Nat=>⟨[(5,true,.i k),(3,true,.m false [.p 3 0]),(2,true,.m false [.p 2 0]),(1,true,.m false [.p 1 0])],[(3,.var [.h 61,.h 62,.v (.int .i64 W.time),.v (.int .i64 W.next),.h 63,.h 64]),(64,.row 8 W.pn (Fp W.A3 k)),(63,.row 6 W.sn (FS W.A2 W.sn)),(62,.row 1 W.pool.hn (BH W.pool.h)),(61,.row 3 W.pool.n (Aw .z W.pool.s)),(2,.var [.v n0,.v n0,.v i0,.v i0,.v n0,.v n0]),(1,.var ((woL W).map Tr.cv))]⟩) (fun k=>W.pn - k) (fun k=>k<=W.pn) 0 (by rw[zIG];simp[go_sem]) (Nat.zero_le _) ?_;intro k e;simp[go_sem,Ar (show k<=1000000000 by omega),GR,Gy,zH4 (Nat.le_refl k)];refine⟨fun c=>?_,fun c=>?_⟩
 ·have d:=a.pd k c;exact⟨c,by omega,c,by kernel_rfl,k+1,by omega,by omega,rfl,zH5 ⟨.inr ⟨rfl,rfl⟩,rfl,rfl,fun i j _ _=>TrE.refl _⟩⟩
 cases (show k=W.pn by omega);exact⟨Bo,Bz,⟨zFa,Cj⟩,zFZ,Ci⟩
set_option maxRecDepth 20000
set_option maxHeartbeats 3200000
abbrev wuO(o:Bm):Bool×List Tr:=(true,[.s .o 3 o.world.pool.n (Aw .z o.world.pool.s),.s .o 1 o.world.pool.hn (BH o.world.pool.h),.v (.int .i64 o.world.time),.v (.int .i64 o.world.next),.s .o 6 o.world.sn (setsE .o o.world.A2),.s .o 8 o.world.pn (snapsE .z o.world.A3),.v (.int .i64 o.id),.v (.int .i64 o.many),.v (.int .i64 o.code)])
abbrev woV(W:A6):List Tr:=[.s .o 3 W.pool.n (Aw .z W.pool.s),.s .o 1 W.pool.hn (BH W.pool.h),.v (.int .i64 W.time),.v (.int .i64 W.next),.s .o 6 W.sn (setsE .o W.A2),.s .o 8 W.pn (snapsE .z W.A3)]
def GM(W:A6)(l:List (Int×Int)):A6:={W with pool:=BJ W.pool l}
abbrev psL(l:List (Int×Int)):Bool×List Tr:=psT l.length (fun i=>AN l i) (fun i=>AP l i)
def K3(a:Tr):List (Int×Int):=(List.range (DN a)).map fun i=>(AS (Bp a i 0),AS (Bp a i 1))
theorem Pw(l:List (Int×Int)):K3 (.s .b 2 l.length (ptrsT (fun i=>AN l i) (fun i=>AP l i)))=l:=by
 show(List.range l.length).map (fun i=>(AN l i,AP l i))=l;apply List.ext_getElem
 ·simp
 ·intro i c a;simp[<-LD,<-S7,a]
theorem Qq{p:A7}{x:Int}:TrE (.s fl 1 (p.hn+1) (Ai (BH p.h) p.hn (fun a q=>([Tr.v (Value.int .i64 x)][a+q]?.getD (.v (.bool false))).nt))) (.s fl 1 (CQ p x).hn (BH (CQ p x).h)):=F9 fun i j hi b=>by
 cases (show j=0 by omega);unfold Ai;by_cases h:i<p.hn
 ·rw[if_pos h];show _=Tr.v (.int .i64 (if i=p.hn then x else p.h i));rw[if_neg (by omega)];rfl
 ·cases (show i=p.hn by omega);rw[if_neg h,Nat.sub_self];show _=Tr.v (.int .i64 (if p.hn=p.hn then x else p.h p.hn));rw[if_pos rfl];rfl
attribute [-go_sem] Bh
def ym:AL:=AY (fun c:Int=>[iT c]) (fun _=>True) (fun c=>[wuO (BP c)])
theorem Bx(c:Int):ym [iT c]=some (True,[wuO (BP c)]):=Ag (fun l=>AS (nth l 0 0)) (fun _=>rfl) c
theorem Ge:An Tryz.prog 26 ym:=by
 refine B6 Al GOk.nil Ak Tryz.func26 rfl Tryz.ntmps26 Tryz.results26 3 ?_;intro c a;refine⟨by simp,?_⟩;simp[go_sem,BP,noW,Cs]
open Classical in
def Im(W:A6)(x:ByteArray):Int:=if BL W x then 5 else if 8<=W.sn then 6 else 0
def yo:AL:=AY (fun q:A6×ByteArray=>[woT q.1,sT q.2]) (fun q=>q.1.sn<=1000000) (fun q=>[iT (Im q.1 q.2)])
theorem Sq(W:A6)(x:ByteArray):yo [woT W,sT x]=some (W.sn<=1000000,[iT (Im W x)]):=Ag (fun l=>(C2 (nth l 0),CO (nth l 1 0))) (fun _=>rfl) (W,x)
theorem X1:An Tryz.prog 93 yo:=by
 refine B6 Al (GOk.cons IA (AE Tryz.func28 rfl rfl) GOk.nil) Ak Tryz.func93 rfl Tryz.ntmps93 Tryz.results93 5 ?_;rintro⟨W,x⟩ a;replace a:W.sn<=1000000:=a;refine⟨by simp,?_⟩;simp[go_sem,Cb,a,E9,Cn];refine⟨fun h=>(if_pos h).symm,fun h=>⟨fun b=>?_,fun b=>?_⟩⟩
 ·rw[Im,if_neg h,if_pos (by omega)]
 ·rw[Im,if_neg h,if_neg (by omega)]
def Zz:AL:=AY (fun q:A6×ByteArray×ByteArray=>[woT q.1,sT q.2.1,sT q.2.2]) (fun q=>q.1.pn<=1000000) (fun q=>bR (∃i,i<q.1.pn/\(q.1.A3 i).set=q.2.1/\(q.1.A3 i).name=q.2.2))
theorem Jk(W:A6)(x y:ByteArray):Zz [woT W,sT x,sT y]=some (W.pn<=1000000,bR (∃i,i<W.pn/\(W.A3 i).set=x/\(W.A3 i).name=y)):=Ag (fun l=>(C2 (nth l 0),CO (nth l 1 0),CO (nth l 2 0))) (fun _=>rfl) (W,x,y)
theorem Yn:An Tryz.prog 29 Zz:=by
 refine B6 Al GOk.nil Ak Tryz.func29 rfl Tryz.ntmps29 Tryz.results29 8 ?_;rintro⟨W,x,y⟩ hn;replace hn:W.pn<=1000000:=hn;refine⟨by simp,?_⟩;simp[go_sem];refine BF (fun k:Nat=>⟨[(3,true,.m false [.p 3 0]),(1,true,.m false [.v (.string x)]),(2,true,.m false [.v (.string y)]),(7,true,.i k)],[(3,.var ((woL W).map Tr.cv))]⟩) (fun k=>W.pn - k) (fun k=>k<=W.pn/\∀i,i<k->¬((W.A3 i).set=x/\(W.A3 i).name=y)) 0 (by simp[go_sem]) (by simp) ?_;rintro k ⟨f,c⟩;simp[go_sem,Ar (show k<=1000000000 by omega)];refine⟨fun d=>⟨d,fun _=>d,fun a b=>⟨k,d,G7 a,G7 b⟩,fun h=>⟨k+1,⟨by omega,fun i hi=>?_⟩,by omega,rfl⟩⟩,fun d i hi a b=>c i (by omega) ⟨a,b⟩⟩;by_cases e:i=k
 ·subst e;exact fun a b=>h (congrArg ByteArray.toList a) (congrArg ByteArray.toList b)
 ·exact fun a b=>c i (by omega) ⟨a,b⟩
def yu:AL:=AY (fun q:A6×ByteArray=>[woT q.1,sT q.2]) (fun q=>q.1.pn<=1000000) (fun q=>bR (∃i,i<q.1.pn/\(q.1.A3 i).set=q.2))
theorem Su(W:A6)(x:ByteArray):yu [woT W,sT x]=some (W.pn<=1000000,bR (∃i,i<W.pn/\(W.A3 i).set=x)):=Ag (fun l=>(C2 (nth l 0),CO (nth l 1 0))) (fun _=>rfl) (W,x)
theorem zz:An Tryz.prog 150 yu:=by
 refine B6 Al GOk.nil Ak Tryz.func150 rfl Tryz.ntmps150 Tryz.results150 6 ?_;rintro⟨W,x⟩ hn;replace hn:W.pn<=1000000:=hn;refine⟨by simp,?_⟩;simp[go_sem];refine BF (fun k:Nat=>⟨[(2,true,.m false [.p 2 0]),(1,true,.m false [.v (.string x)]),(5,true,.i k)],[(2,.var ((woL W).map Tr.cv))]⟩) (fun k=>W.pn - k) (fun k=>k<=W.pn/\∀i,i<k->¬(W.A3 i).set=x) 0 (by simp[go_sem]) (by simp) ?_;rintro k ⟨c,a⟩;simp[go_sem,Ar (show k<=1000000000 by omega)];exact⟨fun b=>⟨b,fun h=>⟨k,b,G7 h⟩,fun h=>⟨k+1,⟨by omega,Br b a fun e=>h (congrArg ByteArray.toList e)⟩,by omega,rfl⟩⟩,fun b i hi=>a i (by omega)⟩
def qt:AL:=AY (fun q:A6×List (Int×Int)=>(true,woV q.1) :: [psL q.2]) (fun q=>q.1.pool.hn+q.2.length<=1000000) (fun q=>[woO (GM q.1 q.2),iT q.2.length])
theorem QO(W:A6)(l:List (Int×Int)):qt ((true,woV W) :: [psL l])=some (W.pool.hn+l.length<=1000000,[woO (GM W l),iT l.length]):=Ag (fun m=>(C2 (nth m 0),K3 (nth m 1 0))) (fun q=>by exact congrArg (Prod.mk q.1) (Pw q.2)) (W,l)
theorem RB:DK Tryz.prog 149 qt:=by
 refine Ev Al GOk.nil Ak Tryz.func149 rfl Tryz.ntmps149 Tryz.results149 6 ?_;rintro⟨W,l⟩ hn;replace hn:W.pool.hn+l.length<=1000000:=hn;refine⟨by simp,?_⟩;simp[go_sem];refine BF (fun k:Nat=>⟨[(5,true,.i k),(0,true,.m false [.p 0 0]),(1,true,.m false [.s .b 2 l.length (ptrsT (fun i=>AN l i) (fun i=>AP l i))])],[(0,.var [.h 1000,.h 2000,.v (.int .i64 W.time),.v (.int .i64 W.next),.h 5000,.h 6000]),(1000,.row 3 W.pool.n (Aw .z W.pool.s)),(2000,.row 1 (BJ W.pool (l.take k)).hn (BH (BJ W.pool (l.take k)).h)),(5000,.row 6 W.sn (setsE .o W.A2)),(6000,.row 8 W.pn (snapsE .z W.A3))]⟩) (fun k=>l.length - k) (fun k=>k<=l.length) 0 (by simp[go_sem,BJ]) (Nat.zero_le _) ?_;intro k g;obtain⟨p,a⟩:∃p,p=BJ W.pool (l.take k):=⟨_,rfl⟩;have j:p.hn=W.pool.hn+k:=by rw[a,(EQ _ _).2.2,List.length_take,Nat.min_eq_left g]
 have d:k<l.length->BJ W.pool (l.take (k+1))=CQ p (AN l k):=fun h=>by
  rw[a,List.take_succ_eq_append_getElem h,Of,<-LD];simp[h]
 rw[<-a];simp[go_sem,Ar (show k<=1000000000 by omega)];refine⟨fun c=>⟨c,by omega,by kernel_rfl,k+1,c,by omega,rfl,?_⟩,fun c=>?_⟩
 ·rw[d c];exact Qq
 ·cases (show k=l.length by omega);rw[List.take_length]at a;subst a;obtain⟨e,f,-⟩:=EQ l W.pool;refine⟨⟨?_,Bo⟩,⟨TrE.refl _,Bz⟩,rfl,rfl,⟨TrE.refl _,Cj⟩,TrE.refl _,Ci⟩;show TrE _ (Tr.s .o 3 (BJ W.pool l).n (Aw .z (BJ W.pool l).s));rw[e,f];exact TrE.refl _
open Classical in
def EN(W:A6)(x:ByteArray):Nat:=if h:∃k,k<W.sn/\¬Cd (W.A2 k).name x/\∀j,j<k->Cd (W.A2 j).name x then h.choose else W.sn
variable{x:ByteArray}
theorem V4(h:k<W.sn)(b:¬Cd (W.A2 k).name x)(c:∀j,j<k->Cd (W.A2 j).name x):EN W x=k:=by
 have a:∃k,k<W.sn/\¬Cd (W.A2 k).name x/\∀j,j<k->Cd (W.A2 j).name x:=⟨k,h,b,c⟩;unfold EN;rw[dif_pos a];obtain⟨-,d,f⟩:=a.choose_spec;rcases Nat.lt_trichotomy a.choose k with e | e | e
 ·exact absurd (c _ e) d
 ·exact e
 ·exact absurd (f _ e) b
theorem zGY(h:∀j,j<W.sn->Cd (W.A2 j).name x):EN W x=W.sn:=dif_neg fun ⟨k,h1,h2,_⟩=>h2 (h k h1)
abbrev F7(a:ByteArray)(o p rs rb:Int):Ab:=⟨a,o,p,rs,rb,0,fun _=>0,fun _=>0⟩
def yj:AL:=AY (fun q:(A6×ByteArray)×Int×Int×Int×Int=>(true,woV q.1.1) :: [(true,[.v (.string q.1.2),.v (.int .i64 q.2.1),.v (.int .i64 q.2.2.1),.v (.int .i64 q.2.2.2.1),.v (.int .i64 q.2.2.2.2),.v n0])]) (fun q=>q.1.1.sn<=1000000) (fun q=>[woO (JZ q.1.1 (EN q.1.1 q.1.2) (F7 q.1.2 q.2.1 q.2.2.1 q.2.2.2.1 q.2.2.2.2))])
theorem Si(W:A6)(x:ByteArray)(o p rs rb:Int):yj ((true,woV W) :: [(true,[.v (.string x),.v (.int .i64 o),.v (.int .i64 p),.v (.int .i64 rs),.v (.int .i64 rb),.v n0])])=some (W.sn<=1000000,[woO (JZ W (EN W x) (F7 x o p rs rb))]):=Ag (fun m=>((C2 (nth m 0),CO (nth m 1 0)),AS (nth m 1 1),AS (nth m 1 2),AS (nth m 1 3),AS (nth m 1 4))) (fun _=>rfl) ((W,x),o,p,rs,rb)
theorem X0:DK Tryz.prog 94 yj:=by
 refine Ev Al GOk.nil Ak Tryz.func94 rfl Tryz.ntmps94 Tryz.results94 6 ?_;rintro⟨⟨W,x⟩,o,p,rs,rb⟩ hn;replace hn:W.sn<=1000000:=hn;refine⟨by simp,?_⟩;simp[go_sem];refine BF (fun k:Nat=>⟨[(4,true,.i k),(0,true,.m false [.p 0 0]),(3,true,.m false [.p 3 0])],[(3,.var [.v (.string x),.v (.int .i64 o),.v (.int .i64 p),.v (.int .i64 rs),.v (.int .i64 rb),.v n0]),(0,.var [.h 1000,.h 2000,.v (.int .i64 W.time),.v (.int .i64 W.next),.h 5000,.h 6000]),(1000,.row 3 W.pool.n (Aw .z W.pool.s)),(2000,.row 1 W.pool.hn (BH W.pool.h)),(5000,.row 6 W.sn (setsE .o W.A2)),(6000,.row 8 W.pn (snapsE .z W.A3))]⟩) (fun k=>W.sn - k) (fun k=>k<=W.sn/\∀j,j<k->Cd (W.A2 j).name x) 0 (by simp[go_sem]) (by simp) ?_;rintro k ⟨c,a⟩;simp[go_sem,Ar (show k<=1000000000 by omega)];refine⟨by kernel_rfl,fun b h=>⟨k+1,⟨b,Br b a h⟩,by omega,rfl⟩,fun h=>?_⟩;have hK:EN W x=k:=by
  by_cases b:k<W.sn
  ·exact V4 b (fun e=>by have:=h b;unfold Cd at e;rw[this]at e;simp at e) a
  ·rw[zGY fun j d=>a j (by omega)];omega
 rw[hK];refine⟨c,⟨c,by omega⟩,by omega,c,⟨by omega,by omega⟩,⟨TrE.refl _,Bo⟩,⟨TrE.refl _,Bz⟩,rfl,rfl,⟨?_,Cj⟩,TrE.refl _,Ci⟩;refine⟨.inl rfl,rfl,by show k+1+(W.sn - k)=W.sn+1;omega,fun i j hi d=>?_⟩;show TrE _ (setsE .o (ins W.A2 k (F7 x o p rs rb)) i j);rcases Nat.lt_trichotomy i k with e | e | e
 ·have:setsE .o (ins W.A2 k (F7 x o p rs rb)) i j=setsE .o W.A2 i j:=by
   unfold setsE;rw[Zn e]
  rw[this];exact TrE.of_eq (by simp[Ai,e,show i<k+1 by omega])
 ·subst e;have:setsE .o (ins W.A2 i (F7 x o p rs rb)) i j=setsE .o (fun _=>F7 x o p rs rb) i j:=by
   unfold setsE;rw[Zl]
  rw[this]
  match j,d with
  | 0,_ | 1,_ | 2,_ | 3,_ | 4,_=>exact TrE.of_eq (by simp[Ai,setsE])
  | 5,_=>simp[Ai,setsE,TrE]
 ·have:setsE .o (ins W.A2 k (F7 x o p rs rb)) i j=setsE .o W.A2 (i - 1) j:=by
   unfold setsE;rw[Zm e]
  rw[this];refine TrE.of_eq ?_;simp[Ai,ntR,show ¬i<k+1 by omega,show k+(i - (k+1))=i - 1 by omega,show ¬i - 1<k by omega]
set_option maxRecDepth 20000
set_option maxHeartbeats 3200000
open Classical in
def GX(W:A6)(x:ByteArray):Bm:=if 8000<x.size then BP 2 else if B4 W/\BX x then(if Im W x=0 then⟨JZ W (EN W x) (F7 x 0 0 0 0),0,0,0⟩else BP (Im W x))else BP 1
theorem By{o o':Bm}(h:o'=o):(TrE (.s .o 3 o.world.pool.n (Aw .z o.world.pool.s)) (.s .o 3 o'.world.pool.n (Aw .z o'.world.pool.s))/\(Tr.s .o 3 o'.world.pool.n (Aw .z o'.world.pool.s)).kept)/\(TrE (.s .o 1 o.world.pool.hn (BH o.world.pool.h)) (.s .o 1 o'.world.pool.hn (BH o'.world.pool.h))/\(Tr.s .o 1 o'.world.pool.hn (BH o'.world.pool.h)).kept)/\o.world.time=o'.world.time/\o.world.next=o'.world.next/\(TrE (.s .o 6 o.world.sn (setsE .o o.world.A2)) (.s .o 6 o'.world.sn (setsE .o o'.world.A2))/\(Tr.s .o 6 o'.world.sn (setsE .o o'.world.A2)).kept)/\(TrE (.s .o 8 o.world.pn (snapsE .z o.world.A3)) (.s .o 8 o'.world.pn (snapsE .z o'.world.A3))/\(Tr.s .o 8 o'.world.pn (snapsE .z o'.world.A3)).kept)/\o.id=o'.id/\o.many=o'.many/\o.code=o'.code:=by
 subst h;exact⟨⟨TrE.refl _,Bo⟩,⟨TrE.refl _,Bz⟩,rfl,rfl,⟨TrE.refl _,Cj⟩,⟨TrE.refl _,Ci⟩,rfl,rfl,rfl⟩
theorem KF{x:Int}(h:CK W x):(BO W.pn fun k=>(W.A3 k).id=x)<W.pn:=by
 rcases Y6 (Hd W.pn fun k=>(W.A3 k).id=x)with⟨-,-,b,-⟩ | ⟨a,-⟩
 ·exact b
 ·exact absurd h a
theorem Ib(h:BL W x):(BO W.sn fun k=>(W.A2 k).name=x)<W.sn:=by
 rcases Hd W.sn fun k=>(W.A2 k).name=x with⟨k,a,-,-,b⟩ | ⟨a,b⟩
 ·omega
 ·have:=Cn.2 h;omega
attribute [go_sem] Bh
attribute [-go_sem] Bh
def Sx:AL:=AY (fun q:A6×ByteArray=>[woT q.1,sT q.2]) (fun q=>Bt q.1) (fun q=>[wuO (GX q.1 q.2)])
theorem YL(W:A6)(x:ByteArray):Sx [woT W,sT x]=some (Bt W,[wuO (GX W x)]):=Ag (fun l=>(C2 (nth l 0),CO (nth l 1 0))) (fun _=>rfl) (W,x)
theorem X6:An Tryz.prog 47 Sx:=by
 refine B6 Al (GOk.cons ID (AE Tryz.func30 rfl rfl) (GOk.cons FK (AE Tryz.func14 rfl rfl) (GOk.cons Ge (AE Tryz.func26 rfl rfl) (GOk.cons Oj (AE Tryz.func27 rfl rfl) (GOk.cons X1 (AE Tryz.func93 rfl rfl) (GOk.ptr X0 (AE Tryz.func94 rfl rfl) GOk.nil)))))) Ak Tryz.func47 rfl Tryz.ntmps47 Tryz.results47 7 ?_;rintro⟨W,x⟩ a;replace a:Bt W:=a;have hs:=a.sn;refine⟨by simp,?_⟩;simp[go_sem,Dg,CE,Bx,I4,Sq,Si,a,a.toSmallW,hs];refine⟨fun h=>?_,fun h=>⟨fun b=>?_,fun b d=>⟨fun c=>?_,fun c=>?_⟩⟩⟩
 ·exact By (if_pos (by omega))
 ·exact By ((if_neg (by omega)).trans (if_neg fun e=>b.elim (fun h=>h e.1) (fun h=>h e.2)))
 ·exact By ((if_neg (by omega)).trans ((if_pos ⟨b,d⟩).trans (if_neg c)))
 ·exact By (o:=⟨JZ W (EN W x) (F7 x 0 0 0 0),0,0,0⟩) ((if_neg (by omega)).trans ((if_pos ⟨b,d⟩).trans (if_pos c)))
open Classical in
def Kh(W:A6)(x:Int)(a:ByteArray):Bm:=if 8000<a.size then BP 2 else if B4 W/\BX a then(if CK W x then(if Im W a=0 then⟨JZ W (EN W a) (F7 a x x (W.A3 (BO W.pn fun k=>(W.A3 k).id=x).toNat).rs (W.A3 (BO W.pn fun k=>(W.A3 k).id=x).toNat).rb),0,0,0⟩else BP (Im W a))else BP 4)else BP 1
def Zw:AL:=AY (fun q:A6×Int×ByteArray=>[woT q.1,iT q.2.1,sT q.2.2]) (fun q=>Bt q.1) (fun q=>[wuO (Kh q.1 q.2.1 q.2.2)])
theorem zDb(W:A6)(x:Int)(a:ByteArray):Zw [woT W,iT x,sT a]=some (Bt W,[wuO (Kh W x a)]):=Ag (fun l=>(C2 (nth l 0),AS (nth l 1 0),CO (nth l 2 0))) (fun _=>rfl) (W,x,a)
theorem zBq:An Tryz.prog 100 Zw:=by
 refine B6 Al (GOk.cons ID (AE Tryz.func30 rfl rfl) (GOk.cons FK (AE Tryz.func14 rfl rfl) (GOk.cons J6 (AE Tryz.func31 rfl rfl) (GOk.cons Ge (AE Tryz.func26 rfl rfl) (GOk.cons Oj (AE Tryz.func27 rfl rfl) (GOk.cons X1 (AE Tryz.func93 rfl rfl) (GOk.ptr X0 (AE Tryz.func94 rfl rfl) GOk.nil))))))) Ak Tryz.func100 rfl Tryz.ntmps100 Tryz.results100 10 ?_;rintro⟨W,x,a⟩ c;replace c:Bt W:=c;have hs:=c.sn;have i:=c.pn;refine⟨by simp,?_⟩;simp[go_sem,Dg,CE,Ex,Bx,I4,Sq,Si,c,c.toSmallW,hs,i,JL,Gp];refine⟨fun h=>?_,fun h=>⟨fun d=>?_,fun d f=>⟨fun b=>?_,fun b=>?_⟩⟩⟩
 ·exact By (if_pos (by omega))
 ·exact By ((if_neg (by omega)).trans (if_neg fun e=>d.elim (fun h=>h e.1) (fun h=>h e.2)))
 ·exact By ((if_neg (by omega)).trans ((if_pos ⟨d,f⟩).trans (if_neg b)))
 ·refine⟨fun g=>?_,fun g=>⟨⟨b,KF b⟩,?_⟩⟩
  ·exact By ((if_neg (by omega)).trans ((if_pos ⟨d,f⟩).trans ((if_pos b).trans (if_neg g))))
  ·exact By (o:=⟨JZ W (EN W a) (F7 a x x (W.A3 (BO W.pn fun k=>(W.A3 k).id=x).toNat).rs (W.A3 (BO W.pn fun k=>(W.A3 k).id=x).toNat).rb),0,0,0⟩) ((if_neg (by omega)).trans ((if_pos ⟨d,f⟩).trans ((if_pos b).trans (if_pos g))))
set_option maxRecDepth 20000
set_option maxHeartbeats 3200000
noncomputable abbrev Ay (W:A6) (x:ByteArray):Nat:=(BO W.sn fun k=>(W.A2 k).name=x).toNat
noncomputable abbrev GH (W:A6) (x:Int):Nat:=(BO W.pn fun k=>(W.A3 k).id=x).toNat
open Classical in
def Ef(W:A6)(set name:ByteArray):Bm:=if 8000<set.size\/8000<name.size then BP 2 else if B4 W/\BX name then(if BL W set then(if ∃i,i<W.pn/\(W.A3 i).set=set/\(W.A3 i).name=name then BP 5 else if 20<=W.pn\/900000<=W.time\/900000<=W.next then BP 6 else⟨Co W (Ay W set) name set,W.next,0,0⟩)else BP 4)else BP 1
theorem yU{x:Int}(h:0<=x)(a:x<1000000):IntKind.i64.wrap (x+1)=x+1:=by
 unfold IntKind.wrap;simp[IntKind.signed,IntKind.bits];omega
attribute [go_sem] Bh
attribute [-go_sem] Bh
def Uo:AL:=AY (fun q:A6×ByteArray×ByteArray=>[woT q.1,sT q.2.1,sT q.2.2]) (fun q=>Bt q.1) (fun q=>[wuO (Ef q.1 q.2.1 q.2.2)])
theorem OT(W:A6)(x a:ByteArray):Uo [woT W,sT x,sT a]=some (Bt W,[wuO (Ef W x a)]):=Ag (fun l=>(C2 (nth l 0),CO (nth l 1 0),CO (nth l 2 0))) (fun _=>rfl) (W,x,a)
theorem YV:An Tryz.prog 7 Uo:=by
 refine B6 Al (GOk.cons ID (AE Tryz.func30 rfl rfl) (GOk.cons FK (AE Tryz.func14 rfl rfl) (GOk.cons IA (AE Tryz.func28 rfl rfl) (GOk.cons Ge (AE Tryz.func26 rfl rfl) (GOk.cons Oj (AE Tryz.func27 rfl rfl) (GOk.cons Yn (AE Tryz.func29 rfl rfl) GOk.nil)))))) Ak Tryz.func7 rfl Tryz.ntmps7 Tryz.results7 10 ?_;rintro⟨W,x,a⟩ c;replace c:Bt W:=c;have hs:=c.sn;have q:=c.pn;refine⟨by simp,?_⟩;by_cases m:8000<x.size\/8000<a.size
 ·have s:(8000:Int)<x.size\/(8000:Int)<a.size:=(by omega);simp[go_sem,Bx,s];exact⟨By (if_pos m),fun h r=>absurd m (by omega)⟩
 have d:¬(8000:Int)<x.size:=by omega
 have f:¬(8000:Int)<a.size:=by omega
 by_cases b:B4 W/\BX a;rotate_left
 ·simp[go_sem,Dg,CE,Cb,Bx,I4,Jk,c,c.toSmallW,hs,q,E9,Cn,d,f];refine⟨fun _=>By ((if_neg m).trans (if_neg b)),fun h r=>absurd ⟨h,r⟩ b⟩
 obtain⟨b,l⟩:=b;by_cases g:BL W x;rotate_left
 ·simp[go_sem,Dg,CE,Cb,Bx,I4,Jk,c,c.toSmallW,hs,q,E9,Cn,d,f,b,l,g];exact By ((if_neg m).trans ((if_pos ⟨b,l⟩).trans (if_neg g)))
 by_cases n:∃i,i<W.pn/\(W.A3 i).set=x/\(W.A3 i).name=a
 ·simp[go_sem,Dg,CE,Cb,Bx,I4,Jk,c,c.toSmallW,hs,q,E9,Cn,d,f,b,l,g,n];exact By ((if_neg m).trans ((if_pos ⟨b,l⟩).trans ((if_pos g).trans (if_pos n))))
 by_cases hF:20<=W.pn\/900000<=W.time\/900000<=W.next
 ·simp[go_sem,Dg,CE,Cb,Bx,I4,Jk,c,c.toSmallW,hs,q,E9,Cn,d,f,b,l,g,n];refine⟨fun _=>By ((if_neg m).trans ((if_pos ⟨b,l⟩).trans ((if_pos g).trans ((if_neg n).trans (if_pos hF))))),fun h r C=>absurd hF (by omega)⟩
 have t:¬(20:Int)<=W.pn:=by omega
 have u:¬900000<=W.time:=by omega
 have v:¬900000<=W.next:=by omega
 have A:=Ib g;simp[go_sem,Dg,CE,Cb,Bx,I4,Jk,c,c.toSmallW,hs,q,E9,Cn,d,f,b,l,g,n,t,u,v];have B:Ef W x a=⟨Co W (Ay W x) a x,W.next,0,0⟩:=by
  unfold Ef;rw[if_neg m,if_pos ⟨b,l⟩,if_pos g,if_neg n,if_neg hF]
 rw[B];have y:Ay W x<W.sn:=by have:=Cn.2 g;show(BO W.sn fun k=>(W.A2 k).name=x).toNat<W.sn;omega
 obtain⟨k,p⟩:∃k,k=Ay W x:=⟨_,rfl⟩;rw[<-p]at y ⊢;refine⟨A,by omega,A,⟨TrE.refl _,Bo⟩,⟨TrE.refl _,Bz⟩,?_⟩;rw[show(BO W.sn fun k=>(W.A2 k).name=x).toNat=k from p.symm];refine⟨yU (by have:=b.Aq.1.1;omega) (by omega),yU (by have:=b.Aq.2.1.1;omega) (by omega),⟨⟨.inl rfl,rfl,rfl,fun i j hi w=>?_⟩,Cj⟩,⟨⟨.inl rfl,rfl,rfl,fun i j hi w=>?_⟩,Ci⟩,rfl,rfl,rfl⟩
 ·show TrE _ (setsE .o (fun j=>if j=k then {W.A2 k with A8:=W.next,dn:=0}else W.A2 j) i j);by_cases e:i=k
  ·subst e
   match j,w with
   | 0,_ | 1,_ | 2,_ | 3,_ | 4,_=>exact TrE.of_eq (by simp[Ae,setsE])
   | 5,_=>simp[Ae,setsE,TrE]
  ·exact TrE.of_eq (by unfold setsE;simp[Ae,e])
 ·show TrE _ (snapsE .z (fun j=>if j=W.pn then Ed W k a x else W.A3 j) i j);by_cases e:i<W.pn
  ·exact TrE.of_eq (by unfold snapsE;simp[Ai,e,show i≠W.pn by omega])
  ·cases (show i=W.pn by omega)
   match j,w with
   | 0,_ | 1,_ | 2,_ | 3,_ | 4,_ | 5,_ | 6,_=>exact TrE.of_eq (by simp[Ai,snapsE,Ed,Tr.nt])
   | 7,_=>exact TrE.of_eq (by simp[Ai,snapsE,Ed,Tr.nt])
set_option maxRecDepth 20000
set_option maxHeartbeats 3200000
def KU(W:A6)(k:Nat)(t:Int):List (Int×Int):=Bl (fun i=>AN (AG W.pool (W.A2 k).rs (W.A2 k).rb) i) (fun i=>AP (AG W.pool (W.A2 k).rs (W.A2 k).rb) i) t (AG W.pool (W.A2 k).rs (W.A2 k).rb).length
def zIl(W:A6)(k j:Nat):A6:={GM W (KU W k (W.A3 j).time)with A2:=fun i=>if i=k then {W.A2 k with rs:=(W.A3 j).rs,rb:=(W.A3 j).rb,dn:=0}else W.A2 i}
open Classical in
def Mk(W:A6)(k:Nat)(x:ByteArray):Bm:=if CK W (W.A2 k).A8/\(W.A3 (GH W (W.A2 k).A8)).set=x then⟨zIl W k (GH W (W.A2 k).A8),0,(KU W k (W.A3 (GH W (W.A2 k).A8)).time).length,0⟩else BP 4
open Classical in
def IQ(W:A6)(x:ByteArray):Bm:=if 8000<x.size then BP 2 else if B4 W then(if BL W x then Mk W (Ay W x) x else BP 4)else BP 1
theorem GB(f g:Nat->Int)(t:Int)(n:Nat):(Bl f g t n).length<=n:=by
 have:=Kq f g t n;omega
attribute [go_sem] Bh
attribute [-go_sem] Bh
def yF:AL:=AY (fun q:A6×ByteArray=>[woT q.1,sT q.2]) (fun q=>Bt q.1) (fun q=>[wuO (IQ q.1 q.2)])
theorem zFJ(W:A6)(x:ByteArray):yF [woT W,sT x]=some (Bt W,[wuO (IQ W x)]):=Ag (fun l=>(C2 (nth l 0),CO (nth l 1 0))) (fun _=>rfl) (W,x)
theorem zBt:An Tryz.prog 102 yF:=by
 refine B6 Al (GOk.cons ID (AE Tryz.func30 rfl rfl) (GOk.cons FK (AE Tryz.func14 rfl rfl) (GOk.cons IA (AE Tryz.func28 rfl rfl) (GOk.cons J6 (AE Tryz.func31 rfl rfl) (GOk.cons Ge (AE Tryz.func26 rfl rfl) (GOk.cons Jr (AE Tryz.func89 rfl rfl) (GOk.cons OZ (AE Tryz.func148 rfl rfl) (GOk.ptr RB (AE Tryz.func149 rfl rfl) GOk.nil)))))))) Ak Tryz.func102 rfl Tryz.ntmps102 Tryz.results102 11 ?_;rintro⟨W,x⟩ b;replace b:Bt W:=b;have hs:=b.sn;have p:=b.pn;refine⟨by simp,?_⟩;by_cases m:8000<x.size
 ·simp[go_sem,Bx,show(8000:Int)<x.size by omega];exact By (if_pos m)
 have d:¬(8000:Int)<x.size:=by omega
 by_cases c:B4 W;rotate_left
 ·simp[go_sem,Dg,CE,Cb,Bx,b,b.toSmallW,hs,p,E9,Cn,d,c];exact By ((if_neg m).trans (if_neg c))
 by_cases l:BL W x;rotate_left
 ·simp[go_sem,Dg,CE,Cb,Bx,b,b.toSmallW,hs,p,E9,Cn,d,c,l];exact By ((if_neg m).trans ((if_pos c).trans (if_neg l)))
 have w:=Ib l;have u:=Cn.2 l;have a:Ay W x<W.sn:=by show(BO W.sn fun k=>(W.A2 k).name=x).toNat<W.sn;omega
 obtain⟨k,f⟩:∃k,k=Ay W x:=⟨_,rfl⟩;have n:(BO W.sn fun k=>(W.A2 k).name=x)=(k:Int):=by rw[f];show _=((BO W.sn fun k=>(W.A2 k).name=x).toNat:Int);omega
 rw[<-f]at a;have s:=(c.A2 k a).1;simp[go_sem,Dg,CE,Cb,Ex,Bx,Iy,M6,QO,b,b.toSmallW,hs,p,n,d,c,c.right,s,a,JL,Gp];have q:IQ W x=Mk W k x:=by
  unfold IQ;rw[if_neg m,if_pos c,if_pos l,<-f]
 refine⟨fun h=>absurd h (by omega),by kernel_rfl,fun h=>⟨h,KF h⟩,fun h=>?_,fun g r=>?_⟩
 ·exact By (q.trans (if_neg fun e=>h.elim (fun h=>h e.1) (fun h=>h (congrArg ByteArray.toList e.2))))
 rw[q,Mk,if_pos ⟨g,G7 r⟩];have hn:=Lz c.right;refine⟨⟨g,KF g⟩,Nat.le_trans (Dh ..) (by omega),by kernel_rfl,?_,⟨g,KF g⟩,a,by kernel_rfl,a,⟨TrE.refl _,Bo⟩,⟨TrE.refl _,Bz⟩,rfl,rfl,⟨⟨.inl rfl,rfl,rfl,fun i j hi t=>?_⟩,Cj⟩,⟨TrE.refl _,Ci⟩,rfl,rfl,rfl⟩
 ·have v:(AG W.pool (W.A2 k).rs (W.A2 k).rb).length<=73:=Dh ..;exact Nat.le_trans (Nat.add_le_add_left (Nat.le_trans (GB ..) v) _) (by omega)
 show TrE _ (setsE .o (fun i=>if i=k then {W.A2 k with rs:=(W.A3 (GH W (W.A2 k).A8)).rs,rb:=(W.A3 (GH W (W.A2 k).A8)).rb,dn:=0}else W.A2 i) i j);by_cases e:i=k
 ·subst e
  match j,t with
  | 0,_ | 1,_ | 2,_ | 3,_ | 4,_=>exact TrE.of_eq (by simp[Ae,setsE,GM])
  | 5,_=>simp[Ae,setsE,TrE]
 ·exact TrE.of_eq (by unfold setsE;simp[Ae,e,GM])
set_option maxRecDepth 20000
set_option maxHeartbeats 3200000
def qi(W:A6)(k:Nat):A6:={GM W (KU W k (AI W (W.A2 k).A8).time)with sn:=W.sn - 1,A2:=fun i=>if i<k then W.A2 i else W.A2 (i+1)}
open Classical in
def IY(W:A6)(x:ByteArray):Bm:=if 8000<x.size then BP 2 else if B4 W then(if BL W x then(if ∃i,i<W.pn/\(W.A3 i).set=x then BP 7 else⟨qi W (Ay W x),0,(KU W (Ay W x) (AI W (W.A2 (Ay W x)).A8).time).length,0⟩)else BP 4)else BP 1
variable{l:List (Int×Int)}
theorem UY:(GM W l).sn=W.sn:=rfl
theorem YB:(GM W l).A2=W.A2:=rfl
theorem UX:(GM W l).pn=W.pn:=rfl
theorem Yi:(GM W l).A3=W.A3:=rfl
attribute [go_sem] Bh
attribute [-go_sem] Bh
def qo:AL:=AY (fun q:A6×ByteArray=>[woT q.1,sT q.2]) (fun q=>Bt q.1) (fun q=>[wuO (IY q.1 q.2)])
theorem zFC(W:A6)(x:ByteArray):qo [woT W,sT x]=some (Bt W,[wuO (IY W x)]):=Ag (fun l=>(C2 (nth l 0),CO (nth l 1 0))) (fun _=>rfl) (W,x)
theorem zCp:An Tryz.prog 101 qo:=by
 refine B6 Al (GOk.cons ID (AE Tryz.func30 rfl rfl) (GOk.cons FK (AE Tryz.func14 rfl rfl) (GOk.cons IA (AE Tryz.func28 rfl rfl) (GOk.cons Ge (AE Tryz.func26 rfl rfl) (GOk.cons Kx (AE Tryz.func88 rfl rfl) (GOk.cons Jr (AE Tryz.func89 rfl rfl) (GOk.cons OZ (AE Tryz.func148 rfl rfl) (GOk.cons zz (AE Tryz.func150 rfl rfl) (GOk.ptr RB (AE Tryz.func149 rfl rfl) GOk.nil))))))))) Ak Tryz.func101 rfl Tryz.ntmps101 Tryz.results101 12 ?_;rintro⟨W,x⟩ b;replace b:Bt W:=b;have hs:=b.sn;have p:=b.pn;refine⟨by simp,?_⟩;by_cases h:8000<x.size
 ·simp[go_sem,Bx,show(8000:Int)<x.size by omega];exact By (if_pos h)
 have c:¬(8000:Int)<x.size:=by omega
 by_cases a:B4 W;rotate_left
 ·simp[go_sem,Dg,CE,Cb,Bx,b,b.toSmallW,hs,p,E9,Cn,c,a];exact By ((if_neg h).trans (if_neg a))
 by_cases g:BL W x;rotate_left
 ·simp[go_sem,Dg,CE,Cb,Bx,b,b.toSmallW,hs,p,E9,Cn,c,a,g];exact By ((if_neg h).trans ((if_pos a).trans (if_neg g)))
 have q:=Ib g;have u:=Cn.2 g;have f:Ay W x<W.sn:=by show(BO W.sn fun k=>(W.A2 k).name=x).toNat<W.sn;omega
 obtain⟨k,d⟩:∃k,k=Ay W x:=⟨_,rfl⟩;have l:(BO W.sn fun k=>(W.A2 k).name=x)=(k:Int):=by rw[d];show _=((BO W.sn fun k=>(W.A2 k).name=x).toNat:Int);omega
 have m:¬(k:Int)<0:=by omega
 by_cases n:∃i,i<W.pn/\(W.A3 i).set=x
 ·simp[go_sem,Dg,CE,Cb,Bx,Su,b,b.toSmallW,hs,p,l,m,c,a,n];exact By ((if_neg h).trans ((if_pos a).trans ((if_pos g).trans (if_pos n))))
 have r:IY W x=⟨qi W k,0,(KU W k (AI W (W.A2 k).A8).time).length,0⟩:=by
  unfold IY;rw[if_neg h,if_pos a,if_pos g,if_neg n,<-d]
 rw[<-d]at f;have t:=(a.A2 k f).1;have w:=Kg (fun k q=>(a.Aq.ER.ids k q).1) (W.A2 k).A8;simp[go_sem,Dg,CE,Cb,Su,Jj,Bx,Iy,M6,QO,b,b.toSmallW,hs,p,l,m,c,a,n,w,a.right,t,f,r,Ar (show k<=1000000000 by omega),UY,YB,UX,Yi];have hn:=Lz a.right;refine⟨by kernel_rfl,Nat.le_trans (Dh ..) (by omega),by kernel_rfl,?_,?_⟩
 ·have v:(AG W.pool (W.A2 k).rs (W.A2 k).rb).length<=73:=Dh ..;exact Nat.le_trans (Nat.add_le_add_left (Nat.le_trans (GB ..) v) _) (by omega)
 refine⟨by omega,⟨by omega,by omega⟩,⟨by omega,by omega⟩,⟨by omega,by omega⟩,by kernel_rfl,⟨TrE.refl _,Bo⟩,⟨TrE.refl _,Bz⟩,rfl,rfl,⟨⟨.inl rfl,rfl,by show k+(W.sn - (k+1))=W.sn - 1;omega,fun i j hi y=>TrE.of_eq ?_⟩,Cj⟩,⟨TrE.refl _,Ci⟩,rfl⟩;show _=setsE .o (fun i=>if i<k then W.A2 i else W.A2 (i+1)) i j;by_cases e:i<k
 ·unfold setsE;simp[Ai,e]
 ·have:k+1+(i - k)=i+1:=(by omega);have s:¬i+1<k:=(by omega);unfold setsE;simp[Ai,e,ntR,this,s]
end
end Go.Proofs.YtddigaohmfpepaaGreatDoor
