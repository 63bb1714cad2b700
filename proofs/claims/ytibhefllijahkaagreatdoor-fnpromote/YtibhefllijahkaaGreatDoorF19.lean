/- A part of the proof. -/
import Derived.Test.YtibhefllijahkaaGreatDoorF18
import Derived.Shelf.Abstract
set_option linter.unusedVariables false
set_option maxRecDepth 20000
set_option maxHeartbeats 4000000
namespace Go.Proofs.YtibhefllijahkaaGreatDoor
open Go.RowKit Go.Maps
theorem P6(q v1 r s:Value)(lo hi:Nat)(W:A5)(w:World)(h:BR w lo hi q v1 r s W)(Q:E7 W) :
 Calls Tryz.prog 26 #[BS q v1 r s W] w fun e w'=>AG (CF W) e/\Below w.heap.size w w':=by
 have u:=A4 h;have v:=A4 Q;clear h Q;have N:=A9 w (.cells #[q,v1,.int .i64 W.time,.int .i64 W.next,r,s] 30);have T:=A4 (Aj.new w q v1 (.int .i64 W.time) (.int .i64 W.next) r s 30);obtain⟨k,l,m,n,o,p⟩:=T.out.c;go_enter Tryz.func26,Tryz.ntmps26;go_wp2_with fail;generalize w.alloc (.cells #[q,v1,.int .i64 W.time,.int .i64 W.next,r,s] 30)=W0 at N T k l m n o p ⊢;refine(ZV W.time W0).mono ?_;rintro e w1 ⟨⟨g,rfl,b⟩,rfl⟩;have a:=A4 b;clear b;cases g
 ·have i:=A4 (show ¬CF W from fun j=>absurd (a.out.2 j.AX.time) (by simp));clear a;go_wp2;go_ret;exact⟨AG.no i.out,N⟩
 have H1:=A4 (a.out.1 rfl);clear a;go_wp2_with fail;refine(ZV W.next _).mono ?_;rintro e w1 ⟨⟨g,rfl,b⟩,rfl⟩;have a:=A4 b;clear b;cases g
 ·have i:=A4 (show ¬CF W from fun j=>absurd (a.out.2 j.AX.next) (by simp));clear a;go_wp2;go_ret;exact⟨AG.no i.out,N⟩
 have H2:=A4 (a.out.1 rfl);clear a;go_wp2_with fail;refine(zCm r W.sn lo hi W.A3 _ (u.out.A0 N).A3).mono ?_;rintro e w2 ⟨⟨g,rfl,b⟩,d⟩;have a:=A4 b;have x:=A7 N d;have H:=A4 (T.out.A0 d);clear b d k l m n o p;obtain⟨k,l,m,n,o,p⟩:=H.out.c;cases g
 ·have i:=A4 (show ¬CF W from fun j=>absurd (a.out.2 j.AX.A3) (by simp));clear a;go_wp2;go_ret;exact⟨AG.no i.out,x⟩
 have X:=A4 (a.out.1 rfl);clear a;have hs:=X.out.1;go_wp2_with fail;refine(zCs q v1 r s lo hi W _ (u.out.A0 x) hs).mono ?_;rintro e w3 ⟨⟨g,rfl,b⟩,d⟩;have a:=A4 b;have y:=A7 x d;have I:=A4 (H.out.A0 d);clear b d k l m n o p;obtain⟨k,l,m,n,o,p⟩:=I.out.c;cases g
 ·have i:=A4 (show ¬CF W from fun j=>absurd (a.out.2 j.AX.A1) (by simp));clear a;go_wp2;go_ret;exact⟨AG.no i.out,y⟩
 have Y:=A4 (a.out.1 rfl);clear a;have P:=Y.out.1;have t:=A4 (show C6 W from⟨H1.out,H2.out,X.out,Y.out⟩);go_wp2_with fail;refine(Zb q v1 lo hi W.pool _ (u.out.A0 y).pool).mono ?_;rintro e w4 ⟨⟨g,rfl,b⟩,d⟩;have a:=A4 b;have z:=A7 y d;have J:=A4 (I.out.A0 d);clear b d k l m n o p;obtain⟨k,l,m,n,o,p⟩:=J.out.c;cases g
 ·have i:=A4 (show ¬CF W from fun j=>absurd (a.out.2 j.right) (by simp));clear a;go_wp2;go_ret;exact⟨AG.no i.out,z⟩
 have R:=A4 (a.out.1 rfl);clear a;go_wp2_with fail;refine(Yr q v1 r s lo hi W _ (u.out.A0 z) P t.out.idsWf).mono ?_;rintro e w5 ⟨A,rfl,hA,d⟩;have E:=A4 hA;have O:=A7 z d;have K:=A4 (J.out.A0 d);clear hA d k l m n o p;obtain⟨k,l,m,n,o,p⟩:=K.out.c;go_wp2_with fail;refine(zCz q v1 r s lo hi W A _ (u.out.A0 O) hs P E.out t.out.dist v.out).mono ?_;rintro e w6 ⟨⟨g,rfl,b⟩,d⟩;have a:=A4 b;have B:=A7 O d;have L:=A4 (K.out.A0 d);have F:=A4 (E.out.A0 d);clear b d k l m n o p;obtain⟨k,l,m,n,o,p⟩:=L.out.c;cases g
 ·have i:=A4 (show ¬CF W from fun j=>absurd (a.out.2 j.prevs) (by simp));clear a;go_wp2;go_ret;exact⟨AG.no i.out,B⟩
 have Z:=A4 (a.out.1 rfl);clear a;go_wp2_with fail;refine(zCw q v1 r s lo hi W A _ (u.out.A0 B) P hs F.out t.out.dist (t.out.DG Z.out)).mono ?_;rintro e w7 ⟨⟨g,rfl,b⟩,d⟩;have a:=A4 b;have C:=A7 B d;have M:=A4 (L.out.A0 d);have G:=A4 (F.out.A0 d);clear b d k l m n o p;obtain⟨k,l,m,n,o,p⟩:=M.out.c;cases g
 ·have i:=A4 (show ¬CF W from fun j=>absurd (a.out.2 j.lines) (by simp));clear a;go_wp2;go_ret;exact⟨AG.no i.out,C⟩
 have H8:=A4 (a.out.1 rfl);clear a;go_wp2_with fail;refine(zCv q v1 r s lo hi W A _ (u.out.A0 C) hs P G.out t.out.dist v.out R.out t.out.times).mono ?_;rintro e w8 ⟨⟨g,rfl,b⟩,d⟩;have a:=A4 b;have D:=A7 C d;have U:=A4 (M.out.A0 d);have S:=A4 (G.out.A0 d);clear b d k l m n o p;obtain⟨k,l,m,n,o,p⟩:=U.out.c;cases g
 ·have i:=A4 (show ¬CF W from fun j=>absurd (a.out.2 j.trees) (by simp));clear a;go_wp2;go_ret;exact⟨AG.no i.out,D⟩
 have H9:=A4 (a.out.1 rfl);clear a;go_wp2_with fail;refine(zD8 q v1 r s lo hi W A _ (u.out.A0 D) hs P S.out t.out.dist v.out R.out t.out.times H9.out.1).mono ?_;rintro e w9 ⟨⟨g,rfl,b⟩,d⟩;have a:=A4 b;have V:=A7 D d;clear b d;have i:=A4 (show g=true↔CF W from⟨fun e=>⟨t.out,R.out,Z.out,H8.out,H9.out,a.out.1 e⟩,fun j=>a.out.2 j.homes⟩);clear a;go_wp2;go_ret;exact⟨⟨g,rfl,i.out⟩,V⟩
def JI(w:World)(b:Nat)(v0 v1 v2 v3:Value):Prop:=AJ w b 0 v0/\AJ w b 1 v1/\AJ w b 2 v2/\AJ w b 3 v3
variable{w:World}
theorem JI.A0{w':World}{b:Nat}{v0 v1 v2 v3:Value}(h:JI w b v0 v1 v2 v3)(t:Below w.heap.size w w'):JI w' b v0 v1 v2 v3:=⟨h.1.A0 t,h.2.1.A0 t,h.2.2.1.A0 t,h.2.2.2.A0 t⟩
theorem JI.new(w:World)(b v1 c d:Value)(t:TypeId):JI (w.alloc (.cells #[b,v1,c,d] t)) w.heap.size b v1 c d:=by
 have a:(w.alloc (.cells #[b,v1,c,d] t)).heap[w.heap.size]?=some (.cells #[b,v1,c,d] t):=heap_alloc_new _ _;exact⟨B2 a rfl,B2 a rfl,B2 a rfl,B2 a rfl⟩
def It(w:World)(p:Nat->Addr)(v:Value)(m:Nat)(g:Nat->Nat)(lb:Nat->Array Value)(ei:Nat->Nat):Prop:=
 m<=1000/\∃a c,v = .slice a m c/\(0<m->∃b off,a=some ⟨b,off,none⟩/\∀i,i<m->w.cell? ⟨b,off+i*2,none⟩=some (.func (.func (g i)) #[] (lb i))/\w.cell? ⟨b,off+i*2+1,none⟩=some (AY (p (ei i))))
variable{p:Nat->Addr}{g ei:Nat->Nat}{lb:Nat->Array Value}
theorem It.A0{w':World}{v:Value}{m:Nat}(h:It w p v m g lb ei)(t:Below w.heap.size w w'):It w' p v m g lb ei:=by
 obtain⟨l,a,c,hv,k⟩:=h;refine⟨l,a,c,hv,fun e=>?_⟩;obtain⟨b,off,j,d⟩:=k e;exact⟨b,off,j,fun i hi=>⟨(t.cell (AZ (d i hi).1)).trans (d i hi).1,(t.cell (AZ (d i hi).2)).trans (d i hi).2⟩⟩
theorem It.cells{a:Option Addr}{c m:Nat}(h:It w p (.slice a m c) m g lb ei){i:Nat}(hi:i<m):∃b off,a=some ⟨b,off,none⟩/\w.cell? ⟨b,off+i*2,none⟩=some (.func (.func (g i)) #[] (lb i))/\w.cell? ⟨b,off+i*2+1,none⟩=some (AY (p (ei i))):=by
 obtain⟨l,k,c0,hv,j⟩:=h;simp only[Value.slice.injEq,true_and]at hv;obtain⟨rfl,rfl⟩:=hv;obtain⟨b,off,d,e⟩:=j (by omega);exact⟨b,off,d,e i hi⟩
def Et(W:A5)(long bad:Prop)(m:Nat)(Q:Nat->Prop)(ei:Nat->Nat)(r:Option Nat):Prop:=
 (long/\r=some 1)\/(¬long/\(¬CF W\/bad)/\r=some 0)\/(¬long/\CF W/\¬bad/\∃i,i<m/\¬Q i/\(∀j,j<i->Q j)/\r=some (ei i))\/(¬long/\CF W/\¬bad/\(∀j,j<m->Q j)/\r=none)
def SU(p:Nat->Addr):Option Nat->Value
 | none=>.nilIface
 | some i=>AY (p i)
theorem zBG(p:Nat->Addr)(tv nv qv dv:Value)(B A m:Nat)(tx nx:Nat->ByteArray)(g:Nat->Nat)(lb:Nat->Array Value)(ei:Nat->Nat)(Q:Nat->Prop)(K v1 L M:Value)(lo hi:Nat)(W:A5)(w:World)(hE:Cr w p)(h:BR w lo hi K v1 L M W)(fB:E7 W)
 (ht:E8 w tv B tx) (hn:E8 w nv A nx) (hq:It w p qv m g lb ei) (eg:∀i,i<m->Enters Tryz.prog (g i))
 (hQ:∀i,i<m->∀w',Below w.heap.size w w'->CF W->(∀j,j<i->Q j)->Calls Tryz.prog (g i) (#[BS K v1 L M W] ++ lb i) w' fun e iB=>AG (Q i) e/\Below w'.heap.size w' iB) :
 Calls Tryz.prog 57 #[.agg #[tv,nv,qv,dv],BS K v1 L M W] w fun e w'=>∃r,e = .returned (SU p r)/\Et W (∃i,i<B/\8000<(tx i).size) (∃i,i<A/\¬BK (nx i)) m Q ei r/\Below w.heap.size w w':=by
 have Hp:=AP h;have HE:=AP hE;have Ht:=AP ht;have Hn:=AP hn;have Hq:=AP hq;have HQ:=AP hQ;have Hg:=AP eg;obtain⟨t1,ta,tc,rfl,-⟩:=ht;obtain⟨n1,na,nc,rfl,-⟩:=hn;obtain⟨m1,qa,qc,rfl,-⟩:=hq;clear h hE hQ eg;have bA:=A9 w (.cells #[.slice ta B tc,.slice na A nc,.slice qa m qc,dv] 64);have J:=A9 (w.alloc (.cells #[.slice ta B tc,.slice na A nc,.slice qa m qc,dv] 64)) (.cells #[K,v1,.int .i64 W.time,.int .i64 W.next,L,M] 30);have D:=A7 bA J;have hd:=(JI.new w (.slice ta B tc) (.slice na A nc) (.slice qa m qc) (dv) 64).A0 J;have hx:=Aj.new (w.alloc (.cells #[.slice ta B tc,.slice na A nc,.slice qa m qc,dv] 64)) (K) (v1) (.int .i64 W.time) (.int .i64 W.next) (L) (M) 30;rw[World.size_alloc]at hx;have HD:=AP hd;have HX:=AP hx;clear hd hx;obtain⟨⟨U,-⟩,⟨X,-⟩,⟨Y,-⟩,⟨Z,-⟩⟩:=HD.out;go_enter Tryz.func57,Tryz.ntmps57;go_wp2_with fail;clear U X Y Z;generalize ((w.alloc (.cells #[.slice ta B tc,.slice na A nc,.slice qa m qc,dv] 64)).alloc (.cells #[K,v1,.int .i64 W.time,.int .i64 W.next,L,M] 30))=W1 at D HD HX ⊢;clear bA J;refine(zDm _ B tx W1 (Ht.out.A0 D)).mono ?_;rintro e w2 ⟨⟨t,rfl,d⟩,s⟩;have o:=A7 D s;have R:=AP (HD.out.A0 s);have F:=AP (HX.out.A0 s);clear s D HD HX;by_cases n:∃i,i<B/\8000<(tx i).size
 ·obtain rfl:t=true:=d.2 n;have N:=AP n;have cA:w2.cell? ⟨4,0,none⟩=some (AY (p 1)):=(HE.out.A0 o).cell 1 (by omega);clear d n;go_wp2;go_ret;exact⟨some 1,rfl,Or.inl ⟨N.out,rfl⟩,o⟩
 obtain rfl:t=false:=Bc d n;have N:=AP n;clear d n;obtain⟨x0,x1,x2,x3,x4,x5⟩:=F.out.c;go_wp2_with fail;clear x0 x1 x2 x3 x4 x5;refine(P6 _ _ _ _ lo hi W w2 (Hp.out.A0 o) fB).mono ?_;rintro e w3 ⟨⟨t,rfl,d⟩,u⟩;have q:=A7 o u;have E:=AP (R.out.A0 u);have T:=AP (F.out.A0 u);clear u o R F;by_cases P:CF W;rotate_left
 ·obtain rfl:t=false:=Bc d P;have S:=AP P;have cA:w3.cell? ⟨5,0,none⟩=some (AY (p 0)):=(HE.out.A0 q).cell 0 (by omega);clear d P;go_wp2;go_ret;exact⟨some 0,rfl,Or.inr (Or.inl ⟨N.out,Or.inl S.out,rfl⟩),q⟩
 obtain rfl:t=true:=d.2 P;have S:=AP P;clear d P;obtain⟨⟨U,-⟩,⟨X,-⟩,⟨Y,-⟩,⟨Z,-⟩⟩:=E.out;go_wp2_with fail;clear U X Y Z;refine(zDn _ A nx w3 (Hn.out.A0 q)).mono ?_;rintro e w4 ⟨⟨t,rfl,d⟩,v⟩;have H:=A7 q v;have pA:=AP (E.out.A0 v);have aB:=AP (T.out.A0 v);clear v q E T;by_cases n:∃i,i<A/\¬BK (nx i)
 ·obtain rfl:t=true:=d.2 n;have HN:=AP n;have cA:w4.cell? ⟨5,0,none⟩=some (AY (p 0)):=(HE.out.A0 H).cell 0 (by omega);clear d n;go_wp2;go_ret;exact⟨some 0,rfl,Or.inr (Or.inl ⟨N.out,Or.inr HN.out,rfl⟩),H⟩
 obtain rfl:t=false:=Bc d n;have HN:=AP n;clear d n;obtain⟨⟨U,-⟩,⟨X,-⟩,⟨Y,-⟩,⟨Z,-⟩⟩:=pA.out;go_wp2;clear U X Y Z
 go_loopw [23] (fun i wr=>∃k:Nat,k<=m/\i = .int .i64 k/\(∀j,j<k->Q j)/\Aj wr (w.heap.size+1) (K) (v1) (.int .i64 W.time) (.int .i64 W.next) (L) (M)/\Below w.heap.size w wr) (fun i _=>m - (intOf i).toNat)
 case atStart=>exact⟨0,Nat.zero_le _,rfl,fun j hj=>absurd hj (Nat.not_lt_zero _),aB.out,H⟩
 case round=>
  obtain⟨k,hk,rfl,C,hX,D⟩:=hrel;have l:=AP C;have cB:=AP hX;clear C hX;by_cases z:k<m
  ·have bC:(k:Int)<(m:Int):=(by omega);obtain⟨b,off,rfl,q0,q1⟩:=(Hq.out.A0 D).cells z;have I:=A9 wr (.cells #[.func (.func (g k)) #[] (lb k),AY (p (ei k))] 57);have HV:=AP (Ad.new wr (.func (.func (g k)) #[] (lb k)) (AY (p (ei k))) 57);have G:=AP (cB.out.A0 I);have y:=A7 D I;have e0:∀(args:Array Value) (w:World),(callFunc (g k) args).run Tryz.prog w = .ok (.enter (g k) args) w:=Hg.out k z;have eB:=fun (w:World) (a:Addr)=>run_store Tryz.prog w a (.func (.func (g k)) #[] (lb k)) .plain rfl
   obtain⟨⟨z0,-⟩,⟨z1,-⟩⟩:=HV.out;obtain⟨x0,x1,x2,x3,x4,x5⟩:=G.out.c;go_wp2_with fail;clear x0 x1 x2 x3 x4 x5 z0 z1 q0 q1 eB;generalize wr.alloc (.cells #[.func (.func (g k)) #[] (lb k),AY (p (ei k))] 57)=W5 at HV G y ⊢;generalize wr.heap.size=V at HV ⊢;refine(HQ.out k z W5 y S.out l.out).mono ?_;rintro e w6 ⟨⟨t,rfl,d⟩,x⟩;have aA:=A7 y x;have tA:=AP (HV.out.A0 x);have bB:=AP (G.out.A0 x);clear x y I e0;by_cases O:Q k
   ·obtain rfl:t=true:=d.2 O;have HF:=AP O;clear d O;go_wp2;go_roundw
    case rel=>
     refine⟨k+1,by omega,by go_num,fun j hj=>?_,bB.out,aA⟩;by_cases e:j=k
     ·subst e;exact HF.out
     ·exact l.out j (by omega)
    case measure=>simp[intOf];omega
   ·obtain rfl:t=false:=Bc d O;have HF:=AP O;clear d O;obtain⟨⟨z0,-⟩,⟨z1,-⟩⟩:=tA.out;go_wp2;go_ret;exact⟨some (ei k),rfl,Or.inr (Or.inr (Or.inl ⟨N.out,S.out,HN.out,k,z,HF.out,l.out,rfl⟩)),aA⟩
  ·obtain rfl:k=m:=(by omega);go_wp2;go_ret;exact⟨none,rfl,Or.inr (Or.inr (Or.inr ⟨N.out,S.out,HN.out,l.out,rfl⟩)),D⟩
theorem zCc(g:Nat)(lb:Array Value)(z:Enters Tryz.prog g)(P:Nat->Prop)(v:Value)(n lo hi:Nat)(f:Nat->AL)(w:World)(h:DR w lo hi v n f)(hn:n<=1000)
 (A:∀i,i<n->∀a c w',Below w.heap.size w w'->B4 w' lo hi (.slice a (f i).dn c) (f i).dn (f i).ds (f i).db->Calls Tryz.prog g (#[.agg #[.int .i64 (f i).id,.string (f i).name,.string (f i).set,.int .i64 (f i).A6,.int .i64 (f i).time,.int .i64 (f i).rs,.int .i64 (f i).rb,.slice a (f i).dn c]] ++ lb) w' fun e x=>AG (P i) e/\Below w'.heap.size w' x) :
 Calls Tryz.prog 98 #[v,.func (.func g) #[] lb] w fun e w'=>((∃i:Nat,i<n/\P i/\(∀j,j<i->¬P j)/\e = .returned (.int .i64 (i:Int)))\/((∀j,j<n->¬P j)/\e = .returned (.int .i64 (-1))))/\Below w.heap.size w w':=by
 have E:=A4 h;obtain⟨-,a,c,rfl,-,-⟩:=h;have D:=A4 A;clear A;have e0:∀(args:Array Value) (w:World),(callFunc g args).run Tryz.prog w = .ok (.enter g args) w:=z;clear z;go_enter Tryz.func98,Tryz.ntmps98;go_wp2
 go_loopw [8] (fun i wr=>∃k:Nat,k<=n/\i = .int .i64 k/\(∀j,j<k->¬P j)/\Below w.heap.size w wr) (fun i _=>n - (intOf i).toNat)
 case atStart=>exact⟨0,Nat.zero_le _,rfl,fun j B=>absurd B (Nat.not_lt_zero _),Below.refl _ _⟩
 case round=>
  obtain⟨k,O,rfl,l,r⟩:=hrel;have d:=A4 l;clear l;by_cases m:k<n
  ·have C:(k:Int)<(n:Int):=(by omega);obtain⟨b,off,vd,rfl,hs⟩:=(E.out.A0 r).cells m;obtain⟨-,F,G,rfl,-,-⟩:=id hs.dead;have y:=A4 hs.dead;obtain⟨H,q1,I,J,K,L,M,N,-,-⟩:=hs;go_wp2_with fail;clear H q1 I J K L M N;refine(D.out k m F G wr r y.out).mono ?_;rintro e Q ⟨⟨t,rfl,s⟩,p⟩;have q:=A7 r p;clear p y;by_cases o:P k
   ·obtain rfl:t=true:=s.2 o;have u:=A4 o;clear s o;go_wp2;go_ret;exact⟨Or.inl ⟨k,m,u.out,d.out,rfl⟩,q⟩
   ·obtain rfl:t=false:=Bc s o;have u:=A4 o;clear s o;go_wp2;go_roundw
    case rel=>
     refine⟨k+1,by omega,by go_num,fun j B=>?_,q⟩;by_cases e:j=k
     ·subst e;exact u.out
     ·exact d.out j (by omega)
    case measure=>simp[intOf];omega
  ·obtain rfl:k=n:=(by omega);go_wp2;go_ret;exact⟨Or.inr ⟨d.out,rfl⟩,r⟩
theorem zCG(g:Nat)(lb:Array Value)(q:Enters Tryz.prog g)(P:Nat->Prop)(v:Value)(n lo hi:Nat)(f:Nat->AL)(w:World)(h:DR w lo hi v n f)(hn:n<=1000)
 (l:∀i,i<n->∀a c w',Below w.heap.size w w'->B4 w' lo hi (.slice a (f i).dn c) (f i).dn (f i).ds (f i).db->Calls Tryz.prog g (#[.agg #[.int .i64 (f i).id,.string (f i).name,.string (f i).set,.int .i64 (f i).A6,.int .i64 (f i).time,.int .i64 (f i).rs,.int .i64 (f i).rb,.slice a (f i).dn c]] ++ lb) w' fun e k=>AG (P i) e/\Below w'.heap.size w' k) :
 Calls Tryz.prog 55 #[v,.func (.func g) #[] lb] w fun e w'=>AG (∃i,i<n/\P i) e/\Below w.heap.size w w':=by
 have p:=A4 h;have o:=A4 l;obtain⟨-,a,c,rfl,-,-⟩:=h;clear l;go_enter Tryz.func55,Tryz.ntmps55;go_wp2_with fail;refine(zCc g lb q P _ n lo hi f w p.out hn o.out).mono ?_;rintro e t ⟨r,b⟩;rcases r with⟨i,hi,m,-,rfl⟩ | ⟨d,rfl⟩
 ·have j:=A4 (show ∃i,i<n/\P i from⟨i,hi,m⟩);have s:(0:Int)<=(i:Int):=(by omega);clear m;go_wp2;go_ret;exact⟨AG.yes j.out,b⟩
 ·have j:=A4 d;clear d;go_wp2;go_ret;exact⟨AG.no fun ⟨i,hi,hq⟩=>j.out i hi hq,b⟩
theorem zCK(g:Nat)(lb:Array Value)(z:Enters Tryz.prog g)(P:Nat->Prop)(v:Value)(n lo hi:Nat)(f:Nat->AM)(w:World)(h:EF w lo hi v n f)(hn:n<=1000)
 (A:∀i,i<n->∀a c w',Below w.heap.size w w'->B4 w' lo hi (.slice a (f i).dn c) (f i).dn (f i).ds (f i).db->Calls Tryz.prog g (#[.agg #[.string (f i).name,.int .i64 (f i).origin,.int .i64 (f i).A6,.int .i64 (f i).rs,.int .i64 (f i).rb,.slice a (f i).dn c]] ++ lb) w' fun e x=>AG (P i) e/\Below w'.heap.size w' x) :
 Calls Tryz.prog 96 #[v,.func (.func g) #[] lb] w fun e w'=>((∃i:Nat,i<n/\P i/\(∀j,j<i->¬P j)/\e = .returned (.int .i64 (i:Int)))\/((∀j,j<n->¬P j)/\e = .returned (.int .i64 (-1))))/\Below w.heap.size w w':=by
 have E:=A4 h;obtain⟨-,a,c,rfl,-,-⟩:=h;have D:=A4 A;clear A;have e0:∀(args:Array Value) (w:World),(callFunc g args).run Tryz.prog w = .ok (.enter g args) w:=z;clear z;go_enter Tryz.func96,Tryz.ntmps96;go_wp2
 go_loopw [8] (fun i wr=>∃k:Nat,k<=n/\i = .int .i64 k/\(∀j,j<k->¬P j)/\Below w.heap.size w wr) (fun i _=>n - (intOf i).toNat)
 case atStart=>exact⟨0,Nat.zero_le _,rfl,fun j B=>absurd B (Nat.not_lt_zero _),Below.refl _ _⟩
 case round=>
  obtain⟨k,M,rfl,l,r⟩:=hrel;have d:=A4 l;clear l;by_cases m:k<n
  ·have C:(k:Int)<(n:Int):=(by omega);obtain⟨b,off,vd,rfl,hs⟩:=(E.out.A0 r).cells m;obtain⟨-,F,G,rfl,-,-⟩:=id hs.dead;have y:=A4 hs.dead;obtain⟨H,q1,I,J,K,L,-,-⟩:=hs;go_wp2_with fail;clear H q1 I J K L;refine(D.out k m F G wr r y.out).mono ?_;rintro e N ⟨⟨t,rfl,s⟩,p⟩;have q:=A7 r p;clear p y;by_cases o:P k
   ·obtain rfl:t=true:=s.2 o;have u:=A4 o;clear s o;go_wp2;go_ret;exact⟨Or.inl ⟨k,m,u.out,d.out,rfl⟩,q⟩
   ·obtain rfl:t=false:=Bc s o;have u:=A4 o;clear s o;go_wp2;go_roundw
    case rel=>
     refine⟨k+1,by omega,by go_num,fun j B=>?_,q⟩;by_cases e:j=k
     ·subst e;exact u.out
     ·exact d.out j (by omega)
    case measure=>simp[intOf];omega
  ·obtain rfl:k=n:=(by omega);go_wp2;go_ret;exact⟨Or.inr ⟨d.out,rfl⟩,r⟩
theorem Rq(a:Option Addr)(n c:Nat)(xs:List Value)(w:World)(H:xs.length=n*6)(o:∀u∈xs,u.oneCell'=true)(hn:n<=1048576)
 (F:0<n->∃b off,a=some ⟨b,off,none⟩/\∀j u,xs[j]?=some u->w.cell? ⟨b,off+j,none⟩=some u) :
 Calls Tryz.prog 104 #[.slice a n c] w fun e w'=>∃p,e = .returned p/\w'.ownsRow w.heap.size 44 6 p n xs/\Below w.heap.size w w'/\(n=0->∃a,p = .slice a 0 0):=by
 have E:Hid (0<n->∃b off,a=some ⟨b,off,none⟩/\∀j u,xs[j]?=some u->w.cell? ⟨b,off+j,none⟩=some u):=F;have y:Hid (xs.length=n*6/\∀u∈xs,u.oneCell'=true):=⟨H,o⟩;clear F H o;have K:=fun w=>Lib.run_eql_slice_nil (P:=Tryz.prog) w 27 44 a n c 0 0 (by kernel_rfl)
 cases a with
 | none=>
  have B:n=0:=by
   by_cases h:0<n
   ·obtain⟨b,off,z,_⟩:=E.out h;simp at z
   ·omega
  subst B;have C:xs = []:=List.eq_nil_of_length_eq_zero (by simpa using y.out.1);subst C;go_enter Tryz.func104,Tryz.ntmps104;go_wp2;go_ret;exact⟨_,rfl,World.ownsRow_nil _ _ _ _,Below.refl _ _,fun _=>⟨_,rfl⟩⟩
 | some ad=>
  obtain⟨i0,hi,v⟩:=Option.map_eq_some_iff.1 V7;simp only[Prod.mk.injEq]at v;obtain⟨I,hs,t⟩:=v;have x:Hid (Tryz.prog.info? 44=some i0/\i0.zero=some (.agg #[.string ⟨#[]⟩,.int .i64 0,.int .i64 0,.int .i64 0,.int .i64 0,.slice none 0 0])/\i0.size=6/\i0.bytes=72):=⟨hi,I,hs,t⟩;have d:Hid ((w.alloc (.cells #[] 44)).ownsRow w.heap.size 44 6 (.slice (some ⟨w.heap.size,0,none⟩) 0 0) 0 []):=World.ownsRow_made w #[] 0 (Nat.le_refl _) (Nat.zero_le _) (by simp);clear hi I hs t;go_enter Tryz.func104,Tryz.ntmps104;go_wp2_with (first
   | (at_builtin;refine LK rfl _ _ 27 rfl w.heap.size 44 i0 (.agg #[.string ⟨#[]⟩,.int .i64 0,.int .i64 0,.int .i64 0,.int .i64 0,.slice none 0 0]) 6 72 (by kernel_rfl) x.out.1 x.out.2.1 x.out.2.2.1 x.out.2.2.2 rfl (by decide) _ _ _ rfl d.out (some ad) n c xs rfl y.out.1 y.out.2 ?c1 ?c3 ?c4 ?c5 ?_))
  case c1=>
   intro J;obtain⟨b,off,z,g⟩:=E.out J;exact⟨b,off,z,fun j u G=>(((Below.refl _ _).alloc (Nat.le_refl _) _).cell (AZ (g j u G))).trans (g j u G)⟩
  case c3=>unfold maxLen;omega
  case c4=>omega
  case c5=>simp
  intro p D k i m;have A:Below w.heap.size w D:=((Below.refl _ _).alloc (Nat.le_refl _) _).grown i (by simp) (fun q L=>by have:=d.out.lt q L;omega);have l:D.ownsRow w.heap.size 44 6 p n xs:=(by simpa using k);have r:Hid (D.ownsRow w.heap.size 44 6 p n xs):=l;have s:Hid (n=0->p = .slice (some ⟨w.heap.size,0,none⟩) 0 0):=m;clear k l i m;go_wp2;go_ret;exact⟨p,rfl,r.out,A,fun e=>⟨_,s.out e⟩⟩
theorem P3(a:Option Addr)(n c:Nat)(xs:List Value)(w:World)(H:xs.length=n*8)(o:∀u∈xs,u.oneCell'=true)(hn:n<=1048576)
 (F:0<n->∃b off,a=some ⟨b,off,none⟩/\∀j u,xs[j]?=some u->w.cell? ⟨b,off+j,none⟩=some u) :
 Calls Tryz.prog 105 #[.slice a n c] w fun e w'=>∃p,e = .returned p/\w'.ownsRow w.heap.size 41 8 p n xs/\Below w.heap.size w w'/\(n=0->∃a,p = .slice a 0 0):=by
 have E:Hid (0<n->∃b off,a=some ⟨b,off,none⟩/\∀j u,xs[j]?=some u->w.cell? ⟨b,off+j,none⟩=some u):=F;have y:Hid (xs.length=n*8/\∀u∈xs,u.oneCell'=true):=⟨H,o⟩;clear F H o;have K:=fun w=>Lib.run_eql_slice_nil (P:=Tryz.prog) w 28 41 a n c 0 0 (by kernel_rfl)
 cases a with
 | none=>
  have B:n=0:=by
   by_cases h:0<n
   ·obtain⟨b,off,z,_⟩:=E.out h;simp at z
   ·omega
  subst B;have C:xs = []:=List.eq_nil_of_length_eq_zero (by simpa using y.out.1);subst C;go_enter Tryz.func105,Tryz.ntmps105;go_wp2;go_ret;exact⟨_,rfl,World.ownsRow_nil _ _ _ _,Below.refl _ _,fun _=>⟨_,rfl⟩⟩
 | some ad=>
  obtain⟨i0,hi,v⟩:=Option.map_eq_some_iff.1 Vv;simp only[Prod.mk.injEq]at v;obtain⟨I,hs,t⟩:=v;have x:Hid (Tryz.prog.info? 41=some i0/\i0.zero=some (.agg #[.int .i64 0,.string ⟨#[]⟩,.string ⟨#[]⟩,.int .i64 0,.int .i64 0,.int .i64 0,.int .i64 0,.slice none 0 0])/\i0.size=8/\i0.bytes=96):=⟨hi,I,hs,t⟩;have d:Hid ((w.alloc (.cells #[] 41)).ownsRow w.heap.size 41 8 (.slice (some ⟨w.heap.size,0,none⟩) 0 0) 0 []):=World.ownsRow_made w #[] 0 (Nat.le_refl _) (Nat.zero_le _) (by simp);clear hi I hs t;go_enter Tryz.func105,Tryz.ntmps105;go_wp2_with (first
   | (at_builtin;refine LK rfl _ _ 28 rfl w.heap.size 41 i0 (.agg #[.int .i64 0,.string ⟨#[]⟩,.string ⟨#[]⟩,.int .i64 0,.int .i64 0,.int .i64 0,.int .i64 0,.slice none 0 0]) 8 96 (by kernel_rfl) x.out.1 x.out.2.1 x.out.2.2.1 x.out.2.2.2 rfl (by decide) _ _ _ rfl d.out (some ad) n c xs rfl y.out.1 y.out.2 ?c1 ?c3 ?c4 ?c5 ?_))
  case c1=>
   intro J;obtain⟨b,off,z,g⟩:=E.out J;exact⟨b,off,z,fun j u G=>(((Below.refl _ _).alloc (Nat.le_refl _) _).cell (AZ (g j u G))).trans (g j u G)⟩
  case c3=>unfold maxLen;omega
  case c4=>omega
  case c5=>simp
  intro p D k i m;have A:Below w.heap.size w D:=((Below.refl _ _).alloc (Nat.le_refl _) _).grown i (by simp) (fun q L=>by have:=d.out.lt q L;omega);have l:D.ownsRow w.heap.size 41 8 p n xs:=(by simpa using k);have r:Hid (D.ownsRow w.heap.size 41 8 p n xs):=l;have s:Hid (n=0->p = .slice (some ⟨w.heap.size,0,none⟩) 0 0):=m;clear k l i m;go_wp2;go_ret;exact⟨p,rfl,r.out,A,fun e=>⟨_,s.out e⟩⟩
theorem ZU(v:Value)(n lo hi:Nat)(f g:Nat->Int)(w:World)(S:B4 w lo hi v n f g)(hn:n<=1048576) :
 Calls Tryz.prog 106 #[v] w fun e w'=>(∃y x,e = .returned y/\CE w' 38 2 y n/\CI w' x y n f g/\(0<n->w.heap.size<=x/\x<w'.heap.size))/\Below w.heap.size w w':=by
 obtain⟨Q,a,c,rfl,X,L⟩:=S;have G:Hid (0<n->∃b off,a=some ⟨b,off,none⟩/\lo<=b/\b<hi/\∀i,i<n->w.cell? ⟨b,off+i*2,none⟩=some (.int .i64 (f i))/\w.cell? ⟨b,off+i*2+1,none⟩=some (.int .i64 (g i))):=L;have R:Hid (n<=maxLen):=Q;clear L Q;have V:=fun w=>Lib.run_eql_slice_nil (P:=Tryz.prog) w 39 38 a n c 0 0 (by kernel_rfl)
 cases a with
 | none=>
  have J:n=0:=by
   by_cases h:0<n
   ·obtain⟨b,off,r,_⟩:=G.out h;simp at r
   ·omega
  subst J;go_enter Tryz.func106,Tryz.ntmps106;go_wp2;go_ret;exact⟨⟨_,0,rfl,Or.inl ⟨rfl,_,rfl⟩,⟨Nat.zero_le _,none,0,rfl,Nat.le_refl _,fun h=>absurd h (Nat.lt_irrefl _)⟩,fun h=>absurd h (Nat.lt_irrefl _)⟩,Below.refl _ _⟩
 | some ad=>
  obtain⟨i0,hi,C⟩:=Option.map_eq_some_iff.1 Qg;simp only[Prod.mk.injEq]at C;obtain⟨O,hs,B⟩:=C;have t:∀(w':World),Below w.heap.size w w'->∀j u,(kc f g n)[j]?=some u->w'.cell? (ad.add j)=some u:=fun w' T j u F=>by
   by_cases A:0<n
   ·obtain⟨b,off,r,_,_,U⟩:=G.out A;simp only[Option.some.injEq]at r;subst r;have:=VA U j u F;have l:(⟨b,off,none⟩:Addr).add j=⟨b,off+j,none⟩:=(by unfold Addr.add;split<;>simp_all);rw[l]at this ⊢;exact(T.cell (AZ this)).trans this
   ·obtain rfl:n=0:=(by omega);simp[kc]at F
  have z:Hid (∀(w':World),Below w.heap.size w w'->∀j u,(kc f g n)[j]?=some u->w'.cell? (ad.add j)=some u):=t;have E:Hid (Tryz.prog.info? 38=some i0/\i0.zero=some (.agg #[.int .i64 0,.int .i64 0])/\i0.size=2/\i0.bytes=16):=⟨hi,O,hs,B⟩;have p:(w.alloc (.cells #[] 38)).ownsRow w.heap.size 38 2 (.slice (some ⟨w.heap.size,0,none⟩) 0 0) 0 []:=World.ownsRow_made w #[] 0 (Nat.le_refl _) (Nat.zero_le _) (by simp);have k:Hid ((w.alloc (.cells #[] 38)).ownsRow w.heap.size 38 2 (.slice (some ⟨w.heap.size,0,none⟩) 0 0) 0 []):=p;clear hi O hs B t p;go_enter Tryz.func106,Tryz.ntmps106;go_wp2_with (first
   | (at_builtin;refine LK rfl _ _ 39 rfl w.heap.size 38 i0 (.agg #[.int .i64 0,.int .i64 0]) 2 16 (by kernel_rfl) E.out.1 E.out.2.1 E.out.2.2.1 E.out.2.2.2 rfl (by decide) _ _ _ rfl k.out (some ad) n c (kc f g n) rfl (KZ f g n) (Zw f g n) ?c1 ?c3 ?c4 ?c5 ?_))
  case c1=>
   intro A;obtain⟨b,off,r,_,_,_⟩:=G.out A;simp only[Option.some.injEq]at r;refine⟨b,off,by rw[r],fun j u F=>?_⟩;have:=z.out _ ((Below.refl _ _).alloc (Nat.le_refl _) (.cells #[] 38)) j u F;have l:(⟨b,off,none⟩:Addr).add j=⟨b,off+j,none⟩:=(by unfold Addr.add;split<;>simp_all);rw[r,l]at this;exact this
  case c3=>unfold maxLen;omega
  case c4=>omega
  case c5=>simp
  intro y D o m s;have I:Below w.heap.size w D:=((Below.refl _ _).alloc (Nat.le_refl _) _).grown m (by simp) (fun q W=>by have:=k.out.lt q W;omega);have d:D.ownsRow w.heap.size 38 2 y n (kc f g n):=(by simpa using o);obtain⟨x,N,M⟩:=ZC R.out d;have H:Hid (CE D 38 2 y n):=IM d (fun A=>⟨_,s A⟩);have K:Hid (CI D x y n f g/\(0<n->w.heap.size<=x/\x<D.heap.size)):=⟨N,M⟩;clear N M o d m s;go_wp2;go_ret;exact⟨⟨y,x,rfl,H.out,K.out.1,K.out.2⟩,I⟩
end Go.Proofs.YtibhefllijahkaaGreatDoor
