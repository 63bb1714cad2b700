/- A part of the proof. -/
import Derived.Test.YtibhefllijahkaaGreatDoorF14
set_option linter.unusedVariables false
set_option maxRecDepth 20000
set_option maxHeartbeats 4000000
namespace Go.Proofs.YtibhefllijahkaaGreatDoor
open Go.RowKit Go.Maps
def G2(f:Nat->AL):Nat->AL
 | 0=>Ap
 | k+1=>f k
def JR(W:A5)(i:Nat):Prop:=B3 W (W.A1 i).set/\BK (W.A1 i).name/\(W.A1 i).A6<(W.A1 i).id/\Mid (G2 W.A1 i).id (W.A1 i).id W.next/\Mid (G2 W.A1 i).time (W.A1 i).time W.time
def Zf(W:A5):Prop:=W.pn<=20/\(∀i,i<W.pn->JR W i)/\Mi W.pn W.A1
theorem MF(w:World):(zeroValue 44).run Tryz.prog w = .ok (.agg #[.string ⟨#[]⟩,.int .i64 0,.int .i64 0,.int .i64 0,.int .i64 0,.slice none 0 0]) w:=by kernel_rfl
variable{W:A5}{vd:Nat->Value}
theorem Vb(o:∀i,i<W.sn->∃a n c,vd i = .slice a n c)(x:ByteArray):∃(l:ByteArray) (b d g j:Int) (a:Option Addr) (n c:Nat),(putD (fun i=>CS (W.A3 i).name) (fun i=>Dh (vd i) (W.A3 i)) W.sn).atKey (CS x) (.held (.agg #[.string ⟨#[]⟩,.int .i64 0,.int .i64 0,.int .i64 0,.int .i64 0,.slice none 0 0])) = .held (.agg #[.string l,.int .i64 b,.int .i64 d,.int .i64 g,.int .i64 j,.slice a n c]):=by
 have m:GU (fun i=>CS (W.A3 i).name):=fun i=>QU _
 have:∀k,k<=W.sn->∃(l:ByteArray) (b d g j:Int) (a:Option Addr) (n c:Nat),(putD (fun i=>CS (W.A3 i).name) (fun i=>Dh (vd i) (W.A3 i)) k).atKey (CS x) (.held (.agg #[.string ⟨#[]⟩,.int .i64 0,.int .i64 0,.int .i64 0,.int .i64 0,.slice none 0 0])) = .held (.agg #[.string l,.int .i64 b,.int .i64 d,.int .i64 g,.int .i64 j,.slice a n c]):=by
  intro k
  induction k with
  | zero=>exact fun _=>⟨⟨#[]⟩,0,0,0,0,none,0,0,OL m _ (fun i hi=>absurd hi (Nat.not_lt_zero _)) _⟩
  | succ k ih=>
   intro p;by_cases e:CS (W.A3 k).name=CS x
   ·obtain⟨a,n,c,hv⟩:=o k (by omega);refine⟨(W.A3 k).name,(W.A3 k).origin,(W.A3 k).A6,(W.A3 k).rs,(W.A3 k).rb,a,n,c,?_⟩;rw[<-e];refine(atKey_put_same (L5 m _ k).isMap (m k) _ _).trans ?_;show DataW.held (Dh (vd k) (W.A3 k))=_;rw[hv];rfl
   ·obtain⟨l,b,d,g,j,a,n,c,h⟩:=ih (by omega);exact⟨l,b,d,g,j,a,n,c,(atKey_put_other (Ne.symm e) _ _).trans h⟩
 exact this W.sn (Nat.le_refl _)
theorem UQ(x:ByteArray):Maps.has (putD (fun i=>CS (W.A3 i).name) (fun i=>Dh (vd i) (W.A3 i)) W.sn) (CS x)=true↔B3 W x:=by
 rw[MB (fun i=>QU _)];constructor
 ·rintro⟨i,hi,e⟩;exact⟨i,hi,QT e⟩
 ·rintro⟨i,hi,e⟩;exact⟨i,hi,by rw[e]⟩
abbrev put8(w:World)(b:Nat)(u0 u1 u2 u3 u4 u5 u6 u7:Value):World:=(((((((w.setCell ⟨b,0,none⟩ u0).setCell ⟨b,1,none⟩ u1).setCell ⟨b,2,none⟩ u2).setCell ⟨b,3,none⟩ u3).setCell ⟨b,4,none⟩ u4).setCell ⟨b,5,none⟩ u5).setCell ⟨b,6,none⟩ u6).setCell ⟨b,7,none⟩ u7
variable{w:World}{b:Nat}
theorem Bu.put{v0 v1 v2 v3 v4 v5 v6 v7:Value}(h:Bu w b v0 v1 v2 v3 v4 v5 v6 v7)(a c d e g i j k:Value):Bu (put8 w b a c d e g i j k) b a c d e g i j k:=by
 obtain⟨⟨l,m,n,o⟩,p,q,r,s⟩:=h;refine⟨⟨?_,?_,?_,?_⟩,?_,?_,?_,?_⟩
 ·exact(((((((l.set _).other _ (Or.inr (by omega))).other _ (Or.inr (by omega))).other _ (Or.inr (by omega))).other _ (Or.inr (by omega))).other _ (Or.inr (by omega))).other _ (Or.inr (by omega))).other _ (Or.inr (by omega))
 ·exact(((((((m.other _ (Or.inr (by omega))).set _).other _ (Or.inr (by omega))).other _ (Or.inr (by omega))).other _ (Or.inr (by omega))).other _ (Or.inr (by omega))).other _ (Or.inr (by omega))).other _ (Or.inr (by omega))
 ·exact(((((((n.other _ (Or.inr (by omega))).other _ (Or.inr (by omega))).set _).other _ (Or.inr (by omega))).other _ (Or.inr (by omega))).other _ (Or.inr (by omega))).other _ (Or.inr (by omega))).other _ (Or.inr (by omega))
 ·exact(((((((o.other _ (Or.inr (by omega))).other _ (Or.inr (by omega))).other _ (Or.inr (by omega))).set _).other _ (Or.inr (by omega))).other _ (Or.inr (by omega))).other _ (Or.inr (by omega))).other _ (Or.inr (by omega))
 ·exact(((((((p.other _ (Or.inr (by omega))).other _ (Or.inr (by omega))).other _ (Or.inr (by omega))).other _ (Or.inr (by omega))).set _).other _ (Or.inr (by omega))).other _ (Or.inr (by omega))).other _ (Or.inr (by omega))
 ·exact(((((((q.other _ (Or.inr (by omega))).other _ (Or.inr (by omega))).other _ (Or.inr (by omega))).other _ (Or.inr (by omega))).other _ (Or.inr (by omega))).set _).other _ (Or.inr (by omega))).other _ (Or.inr (by omega))
 ·exact(((((((r.other _ (Or.inr (by omega))).other _ (Or.inr (by omega))).other _ (Or.inr (by omega))).other _ (Or.inr (by omega))).other _ (Or.inr (by omega))).other _ (Or.inr (by omega))).set _).other _ (Or.inr (by omega))
 ·exact(((((((s.other _ (Or.inr (by omega))).other _ (Or.inr (by omega))).other _ (Or.inr (by omega))).other _ (Or.inr (by omega))).other _ (Or.inr (by omega))).other _ (Or.inr (by omega))).other _ (Or.inr (by omega))).set _
theorem AI.put8(w:World)(b:Nat)(a c d e g h i j:Value):AI (fun k=>k=b) w (put8 w b a c d e g h i j):=
 (((((((AI.put w b 0 a).trans (AI.put _ b 1 c)).trans (AI.put _ b 2 d)).trans (AI.put _ b 3 e)).trans (AI.put _ b 4 g)).trans (AI.put _ b 5 h)).trans (AI.put _ b 6 i)).trans (AI.put _ b 7 j)
variable{n:Nat}
theorem FM.put8{M:Nat}(h:FM w W M n vd)(a:M≠b)(c d e g i j k l:Value):FM (Go.Proofs.YtibhefllijahkaaGreatDoor.put8 w b c d e g i j k l) W M n vd:=
 (((((((World.ownsMap.setCell h a c).setCell a d).setCell a e).setCell a g).setCell a i).setCell a j).setCell a k).setCell a l
variable{w':World}
theorem YC{B:Nat}(h:Below B w w')(a:B<=b)(c d e g i j k l:Value):Below B w (put8 w' b c d e g i j k l):=
 (((((((h.setCell a c).setCell a d).setCell a e).setCell a g).setCell a i).setCell a j).setCell a k).setCell a l
theorem zCs(R v1 S v3:Value)(lo hi:Nat)(W:A5)(w:World)(h:BR w lo hi R v1 S v3 W)(hs:W.sn<=8) :
 Calls Tryz.prog 72 #[BS R v1 S v3 W] w fun e w'=>AG (Zf W) e/\Below w.heap.size w w':=by
 have Hp:=A4 h;obtain⟨m1,a,c,rfl,mc,-⟩:=id h.A1;unfold maxLen at m1;clear h;have ha:=A9 w (.cells #[R,v1,.int .i64 W.time,.int .i64 W.next,S,.slice a W.pn c] 30);have E:=A4 (Aj.new w R v1 (.int .i64 W.time) (.int .i64 W.next) S (.slice a W.pn c) 30);obtain⟨T,U,V,X,Y,p⟩:=E.out.c;by_cases hn:W.pn<=20;rotate_left
 ·have gB:(20:Int)<(W.pn:Int):=(by omega);go_enter Tryz.func72,Tryz.ntmps72;go_wp2;go_ret;exact⟨AG.no fun h=>hn h.1,ha⟩
 have gB:¬(20:Int)<(W.pn:Int):=by omega
 go_enter Tryz.func72,Tryz.ntmps72;go_wp2_with fail;clear T U V X Y p;generalize w.alloc (.cells #[R,v1,.int .i64 W.time,.int .i64 W.next,S,.slice a W.pn c] 30)=W0 at ha E ⊢;refine(K9 R v1 S _ lo hi W W0 (Hp.out.A0 ha) hs).mono ?_;rintro e w1 ⟨vd,rfl,u,oA,Q⟩;have lA:∀i,i<W.sn->∃a n c,vd i = .slice a n c:=fun i fB=>by
  obtain⟨_,aa,cc,hv,_⟩:=oA i fB;exact⟨aa,_,cc,hv⟩
 have P:=A4 (Vb lA);have B:=A4 (UQ (W:=W) (vd:=vd));have z:=A9 w1 (.cells #[.int .i64 0,.string ⟨#[]⟩,.string ⟨#[]⟩,.int .i64 0,.int .i64 0,.int .i64 0,.int .i64 0,.slice none 0 0] 41);have K:=A4 ((E.out.A0 Q).A0 z);have F:=A4 (Bu.new w1 (.int .i64 0) (.string ⟨#[]⟩) (.string ⟨#[]⟩) (.int .i64 0) (.int .i64 0) (.int .i64 0) (.int .i64 0) (.slice none 0 0) 41);have G:=A4 (u.A0 z);have aA:=A4 (A7 (A7 ha Q) z);have gA:W0.heap.size+1<w1.heap.size:=u.lt;have cA:=A4 (show w.heap.size<W0.heap.size+1 by have:=E.out.1.lt;omega);clear u oA lA Q z ha E;obtain⟨T,U,V,X,Y,p⟩:=K.out.c;go_wp2;clear T U V X Y p;obtain⟨L,hL⟩:∃L,L=w1.heap.size:=⟨_,rfl⟩;rw[<-hL]at F gA ⊢;obtain⟨M,hM⟩:∃M,M=W0.heap.size+1:=⟨_,rfl⟩;rw[<-hM]at G gA cA ⊢;have cD:w.heap.size<L:=by have:=cA.out;omega
 go_loopw [18] (fun i wr=>∃(k:Nat) (al:Option Addr) (nl cl:Nat),k<=W.pn/\i = .int .i64 k/\(∀j,j<k->JR W j)/\Bu wr L (.int .i64 (G2 W.A1 k).id) (.string (G2 W.A1 k).name) (.string (G2 W.A1 k).set) (.int .i64 (G2 W.A1 k).A6) (.int .i64 (G2 W.A1 k).time) (.int .i64 (G2 W.A1 k).rs) (.int .i64 (G2 W.A1 k).rb) (.slice al nl cl)/\Aj wr w.heap.size R v1 (.int .i64 W.time) (.int .i64 W.next) S (.slice a W.pn c)/\FM wr W M W.sn vd/\Below w.heap.size w wr) (fun i _=>W.pn - (intOf i).toNat)
 case atStart=>exact⟨0,none,0,0,Nat.zero_le _,rfl,fun j hj=>absurd hj (Nat.not_lt_zero _),F.out,K.out,G.out,aA.out⟩
 case round=>
  clear F K G aA hL hM;obtain⟨k,al,nl,cl,hk,rfl,C,hV,hX,hM,hb⟩:=hrel;have A:=A4 C;have HV:=A4 hV;have HX:=A4 hX;have HM:=A4 hM;clear C hV hX hM;obtain⟨T,U,V,X,Y,p⟩:=HX.out.c;by_cases o:k<W.pn
  ·have bC:(k:Int)<(W.pn:Int):=(by omega);obtain⟨b,off,nD,rfl,g⟩:=(Hp.out.A1.A0 hb).cells o;obtain⟨-,ad,cd,rfl,-,-⟩:=id g.dead;obtain⟨s0,i1,i2,i3,i4,sa,sn,sc,jA⟩:=P.out (W.A1 k).set;have O:=A4 jA;have t:=A4 (NW g.Bo.2);have iB:=g.Bo.1;clear jA;have cB:wr.heap.size≠L:=(by have:=HV.out.1.1.lt;omega);have r:=A9 wr (.cells #[.int .i64 (W.A1 k).id,.string (W.A1 k).name,.string (W.A1 k).set,.int .i64 (W.A1 k).A6,.int .i64 (W.A1 k).time,.int .i64 (W.A1 k).rs,.int .i64 (W.A1 k).rb,.slice ad (W.A1 k).dn cd] 41);have s:=A9 (wr.alloc (.cells #[.int .i64 (W.A1 k).id,.string (W.A1 k).name,.string (W.A1 k).set,.int .i64 (W.A1 k).A6,.int .i64 (W.A1 k).time,.int .i64 (W.A1 k).rs,.int .i64 (W.A1 k).rb,.slice ad (W.A1 k).dn cd] 41)) (.cells #[.string s0,.int .i64 i1,.int .i64 i2,.int .i64 i3,.int .i64 i4,.slice sa sn sc] 44);have I:=A4 (Bu.new wr (.int .i64 (W.A1 k).id) (.string (W.A1 k).name) (.string (W.A1 k).set) (.int .i64 (W.A1 k).A6) (.int .i64 (W.A1 k).time) (.int .i64 (W.A1 k).rs) (.int .i64 (W.A1 k).rb) (.slice ad (W.A1 k).dn cd) 41);have H:=A4 (HM.out.A0 r);have x:=A4 (I.out.A0 s);have J:=A4 ((HV.out.A0 r).A0 s);have N:=A4 ((HX.out.A0 r).A0 s);have Z:=A4 ((HM.out.A0 r).A0 s);have m:=A7 (A7 hb r) s;have mA:((wr.alloc (.cells #[.int .i64 (W.A1 k).id,.string (W.A1 k).name,.string (W.A1 k).set,.int .i64 (W.A1 k).A6,.int .i64 (W.A1 k).time,.int .i64 (W.A1 k).rs,.int .i64 (W.A1 k).rb,.slice ad (W.A1 k).dn cd] 41)).alloc (.cells #[.string s0,.int .i64 i1,.int .i64 i2,.int .i64 i3,.int .i64 i4,.slice sa sn sc] 44)).heap.size=wr.heap.size+2:=(by rw[World.size_alloc,World.size_alloc]);have q0:=g.c0;have q1:=g.c1;have q2:=g.c2;have q3:=g.c3;have q4:=g.c4;have q5:=g.c5;have q6:=g.c6;have q7:=g.c7;obtain⟨⟨⟨y0,-⟩,⟨y1,-⟩,⟨y2,-⟩,⟨y3,-⟩⟩,⟨y4,-⟩,⟨y5,-⟩,⟨y6,-⟩,⟨y7,-⟩⟩:=I.out;obtain⟨⟨⟨z0,-⟩,⟨z1,-⟩,⟨z2,-⟩,⟨z3,-⟩⟩,⟨z4,-⟩,⟨z5,-⟩,⟨z6,-⟩,⟨z7,-⟩⟩:=x.out;clear g;by_cases l:B3 W (W.A1 k).set;rotate_left
   ·have Hc:=A4 (show Maps.has (putD (fun i=>CS (W.A3 i).name) (fun i=>Dh (vd i) (W.A3 i)) W.sn) (CS (W.A1 k).set)=false by rw[Bool.eq_false_iff];exact fun h=>l ((B.out _).1 h));have y:=A4 (show ¬JR W k from fun h=>l h.1);clear l;go_wp2_with (first
     | (at_lookup;refine P7 _ rfl _ _ 86 rfl 9 44 LM KQ (MF _) M W.sn _ rfl H.out _ _ rfl t.out _ O.out false Hc.out ?_)
     | go_in)
    go_ret;exact⟨AG.no fun h=>y.out (h.2.1 k o),m⟩
   have bA:=A4 l;have Hc:=A4 ((B.out _).2 l);clear l;go_wp2_with (first
    | (at_lookup;refine P7 _ rfl _ _ 86 rfl 9 44 LM KQ (MF _) M W.sn _ rfl H.out _ _ rfl t.out _ O.out true Hc.out ?_)
    | fail)
   clear T U V X Y p y0 y1 y2 y3 y4 y5 y6 y7 z0 z1 z2 z3 z4 z5 z6 z7 q0 q1 q2 q3 q4 q5 q6 q7 I H HV HX HM hb r s t O Hc;generalize (wr.alloc (.cells #[.int .i64 (W.A1 k).id,.string (W.A1 k).name,.string (W.A1 k).set,.int .i64 (W.A1 k).A6,.int .i64 (W.A1 k).time,.int .i64 (W.A1 k).rs,.int .i64 (W.A1 k).rb,.slice ad (W.A1 k).dn cd] 41)).alloc (.cells #[.string s0,.int .i64 i1,.int .i64 i2,.int .i64 i3,.int .i64 i4,.slice sa sn sc] 44)=W2 at x J N Z m mA ⊢;generalize wr.heap.size=V8 at x cB ⊢;obtain⟨T,U,V,X,Y,p⟩:=N.out.c;obtain⟨⟨⟨z0,-⟩,⟨z1,-⟩,⟨z2,-⟩,⟨z3,-⟩⟩,⟨z4,-⟩,⟨z5,-⟩,⟨z6,-⟩,⟨z7,-⟩⟩:=x.out;obtain⟨⟨⟨l0,m0⟩,⟨l1,n1⟩,⟨l2,n2⟩,⟨l3,n3⟩⟩,⟨l4,n4⟩,⟨l5,n5⟩,⟨l6,n6⟩,⟨l7,n7⟩⟩:=J.out;refine(Rh (W.A1 k).name _ iB).mono ?_;rintro e wn ⟨⟨D,rfl,d⟩,rfl⟩;by_cases v:BK (W.A1 k).name;rotate_left
   ·have y:=A4 (show ¬JR W k from fun h=>v h.2.1);obtain rfl:D=false:=Bc d v;clear d v;go_wp2;go_ret;exact⟨AG.no fun h=>y.out (h.2.1 k o),m⟩
   have HA:=A4 v;obtain rfl:D=true:=d.2 v;clear d v;by_cases hg:(W.A1 k).id<=(W.A1 k).A6
   ·have y:=A4 (show ¬JR W k from fun h=>by have:=h.2.2.1;omega);go_wp2;go_ret;exact⟨AG.no fun h=>y.out (h.2.1 k o),m⟩
   have Hg:=A4 (show(W.A1 k).A6<(W.A1 k).id by omega);go_wp2_with fail;clear hg;refine(Yv _ _ _ _).mono ?_;rintro e wn ⟨⟨D,rfl,d⟩,rfl⟩;by_cases q:Mid (G2 W.A1 k).id (W.A1 k).id W.next;rotate_left
   ·have y:=A4 (show ¬JR W k from fun h=>q h.2.2.2.1);obtain rfl:D=false:=Bc d q;clear d q;go_wp2;go_ret;exact⟨AG.no fun h=>y.out (h.2.1 k o),m⟩
   have E:=A4 q;obtain rfl:D=true:=d.2 q;clear d q;go_wp2_with fail;refine(Yv _ _ _ _).mono ?_;rintro e wn ⟨⟨D,rfl,d⟩,rfl⟩;by_cases q:Mid (G2 W.A1 k).time (W.A1 k).time W.time;rotate_left
   ·have y:=A4 (show ¬JR W k from fun h=>q h.2.2.2.2);obtain rfl:D=false:=Bc d q;clear d q;go_wp2;go_ret;exact⟨AG.no fun h=>y.out (h.2.1 k o),m⟩
   have sA:=A4 q;obtain rfl:D=true:=d.2 q;clear d q;go_wp2;go_roundw
   case rel=>exact⟨k+1,_,_,_,by omega,by go_num,Bf o A.out ⟨bA.out,HA.out,Hg.out,E.out,sA.out⟩,J.out.put _ _ _ _ _ _ _ _,N.out.AH (AI.put8 _ L _ _ _ _ _ _ _ _) (by omega),Z.out.put8 (by omega) _ _ _ _ _ _ _ _,YC m (by omega) _ _ _ _ _ _ _ _⟩
   case measure=>simp[intOf];omega
  ·obtain rfl:k=W.pn:=(by omega);go_wp2_with fail;clear T U V X Y p;refine(zCx _ W.pn lo hi W.A1 _ (Hp.out.A1.A0 hb) hn).mono ?_;rintro e w6 ⟨⟨t6,rfl,nA⟩,eB⟩;have Ht:=A4 nA;clear nA;go_wp2;go_ret;exact⟨⟨t6,rfl,Ht.out.trans ⟨fun v=>⟨hn,A.out,v⟩,fun v=>v.2.2⟩⟩,A7 hb eB⟩
def Iv(W:A5):Prop:=∀i,i<W.pn->∀j,j<i->(W.A1 j).id≠(W.A1 i).id
def Fj(w:World)(lo hi:Nat)(W:A5)(A:Nat):Prop:=∃M vd,AJ w A 0 (.map (some M))/\Jt w W M W.pn vd/\OA w lo hi W.pn W.A1 vd
abbrev Kb(A:Nat):Value:=.func (.func 122) #[] #[.pointer (some ⟨A,0,none⟩)]
variable{lo hi:Nat}
theorem Fj.A0{A:Nat}(h:Fj w lo hi W A)(t:Below w.heap.size w w'):Fj w' lo hi W A:=by
 obtain⟨M,vd,b,c,d⟩:=h;exact⟨M,vd,b.A0 t,c.A0 t,fun i a=>(d i a).A0 t⟩
theorem zEy(w:World):(zeroValue 41).run Tryz.prog w = .ok (.agg #[.int .i64 0,.string ⟨#[]⟩,.string ⟨#[]⟩,.int .i64 0,.int .i64 0,.int .i64 0,.int .i64 0,.slice none 0 0]) w:=by kernel_rfl
theorem zA9(q:Iv W)(r:OA w lo hi W.pn W.A1 vd)(x:Int):∃a c,(putD (fun i=>Gt (W.A1 i).id) (fun i=>DK (vd i) (W.A1 i)) W.pn).atKey (Gt x) (.held (.agg #[.int .i64 0,.string ⟨#[]⟩,.string ⟨#[]⟩,.int .i64 0,.int .i64 0,.int .i64 0,.int .i64 0,.slice none 0 0])) = .held (DK (.slice a (AC W x).dn c) (AC W x))/\B4 w lo hi (.slice a (AC W x).dn c) (AC W x).dn (AC W x).ds (AC W x).db:=by
 have l:GU (fun i=>Gt (W.A1 i).id):=fun i=>zFf _
 by_cases g:∃k,B5 W x k
 ·obtain⟨k,b⟩:=g;rw[CM b];have m:=r k b.1;obtain⟨_,a,c,hv,_⟩:=id m;refine⟨a,c,?_,by rw[<-hv];exact m⟩;have:=Nc l (fun i=>DK (vd i) (W.A1 i)) (.held (.agg #[.int .i64 0,.string ⟨#[]⟩,.string ⟨#[]⟩,.int .i64 0,.int .i64 0,.int .i64 0,.int .i64 0,.slice none 0 0])) W.pn k b.1 (fun j o p e=>q j p k o (VC e).symm);rw[b.2.1]at this;rw[this,hv]
 ·have e:AC W x=Ap:=(by unfold AC;rw[dif_neg g]);rw[e];refine⟨none,0,?_,⟨Nat.zero_le _,none,0,rfl,Nat.le_refl _,fun h=>absurd h (by simp[Ap])⟩⟩;refine OL l _ (fun i d n=>?_) _;exact g (Qw (Nat.le_refl _) ⟨i,d,VC n⟩)
theorem Jy(lo hi:Nat)(W:A5)(A:Nat)(x:Int)(w:World)(h:Fj w lo hi W A)(r:Iv W)(p:(Lit.int .i64 x).wf=true)(hn:W.pn<=20) :
 Calls Tryz.prog 122 #[.int .i64 x,.pointer (some ⟨A,0,none⟩)] w fun e w'=>∃a c,e = .returned (DK (.slice a (AC W x).dn c) (AC W x))/\B4 w lo hi (.slice a (AC W x).dn c) (AC W x).dn (AC W x).ds (AC W x).db/\Below w.heap.size w w':=by
 obtain⟨M,vd,l,n,m⟩:=h;obtain⟨a,c,j,o⟩:=zA9 r m x;have d:=A4 j;have k:=A4 o;have g:=A4 (TV p);clear j o m p;unfold DK at d ⊢;generalize AC W x=S at *;have b:=A9 w (.cells #[.int .i64 0,.string ⟨#[]⟩,.string ⟨#[]⟩,.int .i64 0,.int .i64 0,.int .i64 0,.int .i64 0,.slice none 0 0] 41);have q:=A4 (n.A0 b);obtain⟨E,-⟩:=l.A0 b;have i:=A9 w (.cells #[.int .i64 S.id,.string S.name,.string S.set,.int .i64 S.A6,.int .i64 S.time,.int .i64 S.rs,.int .i64 S.rb,.slice a S.dn c] 41);obtain⟨⟨⟨s,-⟩,⟨t,-⟩,⟨u,-⟩,⟨y,-⟩⟩,⟨z,-⟩,⟨B,-⟩,⟨C,-⟩,⟨D,-⟩⟩:=Bu.new w (.int .i64 S.id) (.string S.name) (.string S.set) (.int .i64 S.A6) (.int .i64 S.time) (.int .i64 S.rs) (.int .i64 S.rb) (.slice a S.dn c) 41;clear n l b;go_enter Tryz.func122,Tryz.ntmps122;go_wp2_with (first
  | (at_lookup;refine zDP _ rfl _ _ 156 rfl 2 41 yx qW (zEy _) M W.pn _ rfl q.out _ _ rfl g.out _ d.out ?_)
  | go_in)
 refine bodyPost_ret (v:=.agg #[.int .i64 S.id,.string S.name,.string S.set,.int .i64 S.A6,.int .i64 S.time,.int .i64 S.rs,.int .i64 S.rb,.slice a S.dn c]) (by simp[results,Tryz.results122,go_sem,s,t,u,y,z,B,C,D]) rfl ⟨a,c,rfl,k.out,i⟩
theorem Yr(d v1 g j:Value)(lo hi:Nat)(W:A5)(w:World)(h:BR w lo hi d v1 g j W)(hn:W.pn<=20)(o:SA W.pn W.A1) :
 Calls Tryz.prog 74 #[BS d v1 g j W] w fun e w'=>∃A,e = .returned (Kb A)/\Fj w' lo hi W A/\Below w.heap.size w w':=by
 have u:=A4 h;clear h;have v:∀(fn:Fn) (first cap:Array Value) (w:World),(Instr.makeFunc fn first cap).run Tryz.prog w = .ok (.func fn first cap) w:=fun _ _ _ _=>rfl
 have l:=A9 w (.cells #[d,v1,.int .i64 W.time,.int .i64 W.next,g,j] 30);obtain⟨x,y,z,B,C,p⟩:=(Aj.new w d v1 (.int .i64 W.time) (.int .i64 W.next) g j 30).c;go_enter Tryz.func74,Tryz.ntmps74;go_wp2_with fail;clear x y z B C p;generalize w.alloc (.cells #[d,v1,.int .i64 W.time,.int .i64 W.next,g,j] 30)=W0 at l ⊢;refine(zCo d v1 g j lo hi W W0 (u.out.A0 l) hn o).mono ?_;rintro e k ⟨vd,rfl,s,r,b⟩;have a:=A9 k (.cells #[.map (some (W0.heap.size+1))] 156);have q:AJ (k.alloc (.cells #[.map (some (W0.heap.size+1))] 156)) k.heap.size 0 (.map (some (W0.heap.size+1))):=B2 (heap_alloc_new _ _) rfl;have t:=A4 (show Fj (k.alloc (.cells #[.map (some (W0.heap.size+1))] 156)) lo hi W k.heap.size from⟨_,vd,q,s.A0 a,fun i n=>((r i n).A0 b).A0 a⟩);have m:=A7 (A7 l b) a;clear s r b a q;go_wp2;go_ret;exact⟨_,rfl,t.out,m⟩
def N6(vd:Value)(m:Cs):List Value:=[.int .i64 m.A6,.int .i64 m.time,.int .i64 m.rs,.int .i64 m.rb,vd]
def mrow(W:A5)(vd:Nat->Value):Nat->List Value
 | 0=>[]
 | k+1=>mrow W vd k ++ N6 (vd k) (AB W k)
theorem Nn(W:A5)(vd:Nat->Value):∀n,(mrow W vd n).length=n*5
 | 0=>rfl
 | n+1=>by simp[mrow,Nn W vd n,N6];omega
theorem Ks{W:A5}{vd:Nat->Value}:∀{n i j:Nat},i<n->j<5->(mrow W vd n)[i*5+j]?=(N6 (vd i) (AB W i))[j]?
 | 0,i,j,hi,_=>absurd hi (Nat.not_lt_zero _)
 | n+1,i,j,hi,hj=>by
  unfold mrow;by_cases e:i=n
  ·subst e;rw[List.getElem?_append_right (by rw[Nn];omega),Nn,show i*5+j - i*5=j by omega]
  ·rw[List.getElem?_append_left (by rw[Nn];omega),Ks (by omega) hj]
def Qk(w:World)(lo hi:Nat)(W:A5)(vd:Nat->Value):Prop:=∀i,i<memN W->B4 w lo hi (vd i) (AB W i).dn (AB W i).ds (AB W i).db
def Eb(w:World)(base:Nat)(v:Value)(W:A5)(vd:Nat->Value)(n:Nat):Prop:=w.ownsRow base 161 5 v n (mrow W vd n)
variable{base:Nat}{v:Value}
theorem Eb.A0{w1:World}(h:Eb w base v W vd n)(a:Below w.heap.size w w1):Eb w1 base v W vd n:=
 h.kept (Dy a none) (by cases v.ownBlock<;>simp)
theorem Eb.lt(h:Eb w base v W vd n){q:Nat}(a:v.ownBlock=some q):base<=q/\q<w.heap.size:=by
 rcases h.2 with⟨rfl,_⟩ | ⟨g,cap,b,rfl,c,d,_⟩
 ·simp[Value.ownBlock]at a
 ·simp only[Value.ownBlock,Option.some.injEq]at a;subst a;exact⟨c,(Array.getElem?_eq_some_iff.1 d).1⟩
theorem Eb.next{w2:World}{g cap:Nat}(h:w2.ownsRow base 161 5 (.slice (some ⟨g,0,none⟩) (n+1) cap) (n+1) (mrow W vd n ++ N6 (vd n) (AB W n))):Eb w2 base (.slice (some ⟨g,0,none⟩) (n+1) cap) W vd (n+1):=h
structure Ja (w:World) (lo hi:Nat) (v:Value) (W:A5) (vd:Nat->Value):Prop where
 C5:∃a c,v = .slice a (memN W) c/\memN W<=c
 cells:∀i,i<memN W->∃g c,v = .slice (some ⟨g,0,none⟩) (memN W) c/\w.cell? ⟨g,i*5,none⟩=some (.int .i64 (AB W i).A6)/\w.cell? ⟨g,i*5+1,none⟩=some (.int .i64 (AB W i).time)/\w.cell? ⟨g,i*5+2,none⟩=some (.int .i64 (AB W i).rs)/\w.cell? ⟨g,i*5+3,none⟩=some (.int .i64 (AB W i).rb)/\w.cell? ⟨g,i*5+4,none⟩=some (vd i)
 dead:Qk w lo hi W vd
theorem Ja.A0{w1:World}(h:Ja w lo hi v W vd)(t:Below w.heap.size w w1):Ja w1 lo hi v W vd where
 C5:=h.C5
 cells:=fun i a=>by
  obtain⟨g,c,e,b,d,j,k,l⟩:=h.cells i a;exact⟨g,c,e,(t.cell (AZ b)).trans b,(t.cell (AZ d)).trans d,(t.cell (AZ j)).trans j,(t.cell (AZ k)).trans k,(t.cell (AZ l)).trans l⟩
 dead:=fun i a=>(h.dead i a).A0 t
theorem Eb.at(h:Eb w base v W vd (memN W))(d:Qk w lo hi W vd):Ja w lo hi v W vd where
 C5:=CV h
 cells:=fun i b=>by
  obtain⟨g,cap,e,c,k,j,a⟩:=FN h (by omega);refine⟨g,cap,e,?_,?_,?_,?_,?_⟩
  ·exact(a (i*5) _ (by have:=Ks (W:=W) (vd:=vd) b (show 0<5 by omega);rw[Nat.add_zero]at this;rw[this];rfl)).1
  ·exact(a (i*5+1) _ (by rw[Ks b (by omega)];rfl)).1
  ·exact(a (i*5+2) _ (by rw[Ks b (by omega)];rfl)).1
  ·exact(a (i*5+3) _ (by rw[Ks b (by omega)];rfl)).1
  ·exact(a (i*5+4) _ (by rw[Ks b (by omega)];rfl)).1
 dead:=d
theorem zHX:(Tryz.prog.info? 161).map (fun i=>(i.zero,i.size,i.bytes))=some (some (.agg #[.int .i64 0,.int .i64 0,.int .i64 0,.int .i64 0,.slice none 0 0]),5,56):=by kernel_rfl
theorem Rt(M v1 v2 v3:Value)(lo hi:Nat)(W:A5)(w:World)(h:BR w lo hi M v1 v2 v3 W)(hs:W.sn<=8)(hp:W.pn<=20) :
 Calls Tryz.prog 123 #[BS M v1 v2 v3 W] w fun e w'=>∃v vd,e = .returned v/\Ja w' lo hi v W vd/\Below w.heap.size w w':=by
 have Hp:=A4 h;obtain⟨m1,a,c,rfl,mc,-⟩:=id h.A1;obtain⟨m2,a',c',rfl,jB,-⟩:=id h.A3;unfold maxLen at m1 m2;obtain⟨vs,aA,R⟩:=h.A1.vals;obtain⟨vt,bA,S⟩:=h.A3.vals;have mA:∃vd:Nat->Value,(∀i,i<W.pn->vd i=vs i)/\(∀i,i<W.sn->vd (W.pn+i)=vt i)/\Qk w lo hi W vd:=by
  refine⟨fun i=>if i<W.pn then vs i else vt (i - W.pn),fun i x=>if_pos x,fun i x=>?_,fun i x=>?_⟩
  ·show(if W.pn+i<W.pn then vs (W.pn+i)else vt (W.pn+i - W.pn))=vt i;rw[if_neg (by omega),show W.pn+i - W.pn=i by omega]
  ·show B4 w lo hi (if i<W.pn then vs i else vt (i - W.pn)) _ _ _;by_cases E:i<W.pn
   ·rw[if_pos E,CU E];exact aA i E
   ·have e:=DN W (i - W.pn);rw[show W.pn+(i - W.pn)=i by omega]at e;rw[if_neg E,e];unfold memN at x;exact bA _ (by omega)
 obtain⟨vd,T,U,V⟩:=mA;have gA:=A4 R;have iA:=A4 S;have jA:=A4 T;have kA:=A4 U;have lA:=A4 V;clear h aA R bA S T U V;obtain⟨i0,X,K⟩:=Option.map_eq_some_iff.1 zHX;simp only[Prod.mk.injEq]at K;have F:=A4 (And.intro X K);clear X K;have ha:=A9 w (.cells #[M,v1,.int .i64 W.time,.int .i64 W.next,.slice a' W.sn c',.slice a W.pn c] 30);have HB:=A4 (Aj.new w M v1 (.int .i64 W.time) (.int .i64 W.next) (.slice a' W.sn c') (.slice a W.pn c) 30);obtain⟨x0,x2,x4,x6,x8,L⟩:=HB.out.c;go_enter Tryz.func123,Tryz.ntmps123;go_wp2;clear x0 x2 x4 x6 x8 L
 go_loopw [3,11] (fun v i wr=>∃k:Nat,k<=W.pn/\i = .int .i64 k/\Eb wr (w.heap.size+1) v W vd k/\Aj wr w.heap.size M v1 (.int .i64 W.time) (.int .i64 W.next) (.slice a' W.sn c') (.slice a W.pn c)/\Below w.heap.size w wr) (fun _ i _=>W.pn - (intOf i).toNat)
 case atStart=>exact⟨0,Nat.zero_le _,rfl,World.ownsRow_nil _ _ _ _,HB.out,ha⟩
 case round=>
  clear HB ha;obtain⟨k,hk,rfl,r,P,D⟩:=hrel;have j:=A4 r;have y:=A4 P;clear r P;by_cases s:k<W.pn
  ·have Y:(k:Int)<(W.pn:Int):=(by omega);obtain⟨b,off,rfl,C⟩:=gA.out k s;have d:=C.A0 D;rw[<-jA.out k s]at d;obtain⟨-,o,p,u,-,-⟩:=id d.dead;have I:=A4 u;rw[u]at d;clear u C;have n:=A9 wr (.cells #[.int .i64 (W.A1 k).id,.string (W.A1 k).name,.string (W.A1 k).set,.int .i64 (W.A1 k).A6,.int .i64 (W.A1 k).time,.int .i64 (W.A1 k).rs,.int .i64 (W.A1 k).rb,.slice o (W.A1 k).dn p] 41);have G:=A4 (Bu.new wr (.int .i64 (W.A1 k).id) (.string (W.A1 k).name) (.string (W.A1 k).set) (.int .i64 (W.A1 k).A6) (.int .i64 (W.A1 k).time) (.int .i64 (W.A1 k).rs) (.int .i64 (W.A1 k).rb) (.slice o (W.A1 k).dn p) 41);have m:=A9 (wr.alloc (.cells #[.int .i64 (W.A1 k).id,.string (W.A1 k).name,.string (W.A1 k).set,.int .i64 (W.A1 k).A6,.int .i64 (W.A1 k).time,.int .i64 (W.A1 k).rs,.int .i64 (W.A1 k).rb,.slice o (W.A1 k).dn p] 41)) (.cells #[.int .i64 (W.A1 k).A6,.int .i64 (W.A1 k).time,.int .i64 (W.A1 k).rs,.int .i64 (W.A1 k).rb,.slice o (W.A1 k).dn p] 161);have N:=A4 (World.news_of_block (heap_alloc_last (wr.alloc (.cells #[.int .i64 (W.A1 k).id,.string (W.A1 k).name,.string (W.A1 k).set,.int .i64 (W.A1 k).A6,.int .i64 (W.A1 k).time,.int .i64 (W.A1 k).rs,.int .i64 (W.A1 k).rb,.slice o (W.A1 k).dn p] 41)) (.cells #[.int .i64 (W.A1 k).A6,.int .i64 (W.A1 k).time,.int .i64 (W.A1 k).rs,.int .i64 (W.A1 k).rb,.slice o (W.A1 k).dn p] 161)));have l:=A4 ((j.out.A0 n).A0 m);have H:=A4 ((y.out.A0 n).A0 m);have z:=A7 (A7 D n) m;have nA:=y.out.1.lt;have J:(wr.alloc (.cells #[.int .i64 (W.A1 k).id,.string (W.A1 k).name,.string (W.A1 k).set,.int .i64 (W.A1 k).A6,.int .i64 (W.A1 k).time,.int .i64 (W.A1 k).rs,.int .i64 (W.A1 k).rb,.slice o (W.A1 k).dn p] 41)).heap.size=wr.heap.size+1:=World.size_alloc _ _;have oA:=m.size;rw[J]at N;have q0:=d.c0;have q1:=d.c1;have q2:=d.c2;have q3:=d.c3;have q4:=d.c4;have q5:=d.c5;have q6:=d.c6;have q7:=d.c7;obtain⟨⟨⟨y0,-⟩,⟨y1,-⟩,⟨y2,-⟩,⟨y3,-⟩⟩,⟨y4,-⟩,⟨y5,-⟩,⟨y6,-⟩,⟨y7,-⟩⟩:=G.out;clear d n m j y;go_wp2_with (first
    | (at_builtin;refine wpList_append_lies _ rfl _ _ 158 rfl (w.heap.size+1) 161 i0 (.agg #[.int .i64 0,.int .i64 0,.int .i64 0,.int .i64 0,.slice none 0 0]) 5 56 (by kernel_rfl) F.out.1 F.out.2.1 F.out.2.2.1 F.out.2.2.2 rfl (by decide) _ _ _ rfl l.out ⟨wr.heap.size+1,0,none⟩ 1 1 [.int .i64 (W.A1 k).A6,.int .i64 (W.A1 k).time,.int .i64 (W.A1 k).rs,.int .i64 (W.A1 k).rb,.slice o (W.A1 k).dn p] rfl rfl N.out (by simp[Value.oneCell']) (by decide) (by unfold maxLen;omega) (by omega) (by omega) _ rfl ?_;intro g' O w8 t g Q Z)
    | go_in)
   go_roundw
   case rel=>
    have A:∀q,Value.ownBlock _=some q->w.heap.size+1<=q:=fun q B=>(l.out.lt B).1
    refine⟨k+1,by omega,by go_num,?_,H.out.grown g (fun q B=>by have:=A q B;omega),z.grown g z.size (fun q B=>by have:=A q B;omega)⟩;refine Eb.next ?_;rw[CU s,I.out];exact t
   case measure=>simp[intOf];omega
  ·obtain rfl:k=W.pn:=(by omega);obtain⟨x0,x2,x4,x6,x8,L⟩:=y.out.c;go_wp2;clear x0 x2 x4 x6 x8 L
   go_loopw [3,31] (fun v i wr=>∃k:Nat,k<=W.sn/\i = .int .i64 k/\Eb wr (w.heap.size+1) v W vd (W.pn+k)/\Aj wr w.heap.size M v1 (.int .i64 W.time) (.int .i64 W.next) (.slice a' W.sn c') (.slice a W.pn c)/\Below w.heap.size w wr) (fun _ i _=>W.sn - (intOf i).toNat)
   case atStart=>exact⟨0,Nat.zero_le _,rfl,j.out,y.out,D⟩
   case round=>
    clear y D j hk s;obtain⟨k,hk,rfl,r,P,D⟩:=hrel;have j:=A4 r;have y:=A4 P;clear r P;by_cases s:k<W.sn
    ·have Y:(k:Int)<(W.sn:Int):=(by omega);obtain⟨b,off,rfl,C⟩:=iA.out k s;have d:=C.A0 D;rw[<-kA.out k s]at d;obtain⟨-,o,p,u,-,-⟩:=id d.dead;have I:=A4 u;rw[u]at d;clear u C;have n:=A9 wr (.cells #[.string (W.A3 k).name,.int .i64 (W.A3 k).origin,.int .i64 (W.A3 k).A6,.int .i64 (W.A3 k).rs,.int .i64 (W.A3 k).rb,.slice o (W.A3 k).dn p] 44);have G:=A4 (Aj.new wr (.string (W.A3 k).name) (.int .i64 (W.A3 k).origin) (.int .i64 (W.A3 k).A6) (.int .i64 (W.A3 k).rs) (.int .i64 (W.A3 k).rb) (.slice o (W.A3 k).dn p) 44);have fA:=A4 (y.out.A0 n);have m:=A9 (wr.alloc (.cells #[.string (W.A3 k).name,.int .i64 (W.A3 k).origin,.int .i64 (W.A3 k).A6,.int .i64 (W.A3 k).rs,.int .i64 (W.A3 k).rb,.slice o (W.A3 k).dn p] 44)) (.cells #[.int .i64 (W.A3 k).A6,.int .i64 W.time,.int .i64 (W.A3 k).rs,.int .i64 (W.A3 k).rb,.slice o (W.A3 k).dn p] 161);have N:=A4 (World.news_of_block (heap_alloc_last (wr.alloc (.cells #[.string (W.A3 k).name,.int .i64 (W.A3 k).origin,.int .i64 (W.A3 k).A6,.int .i64 (W.A3 k).rs,.int .i64 (W.A3 k).rb,.slice o (W.A3 k).dn p] 44)) (.cells #[.int .i64 (W.A3 k).A6,.int .i64 W.time,.int .i64 (W.A3 k).rs,.int .i64 (W.A3 k).rb,.slice o (W.A3 k).dn p] 161)));have l:=A4 ((j.out.A0 n).A0 m);have H:=A4 ((y.out.A0 n).A0 m);have z:=A7 (A7 D n) m;have nA:=y.out.1.lt;have J:(wr.alloc (.cells #[.string (W.A3 k).name,.int .i64 (W.A3 k).origin,.int .i64 (W.A3 k).A6,.int .i64 (W.A3 k).rs,.int .i64 (W.A3 k).rb,.slice o (W.A3 k).dn p] 44)).heap.size=wr.heap.size+1:=World.size_alloc _ _;have oA:=m.size;rw[J]at N;have q0:=d.c0;have q1:=d.c1;have q2:=d.c2;have q3:=d.c3;have q4:=d.c4;have q5:=d.c5;obtain⟨y0,y1,y2,y3,y4,y5⟩:=G.out.c;obtain⟨z0,z2,z4,z6,z8,bC⟩:=fA.out.c;clear d n m j y;go_wp2_with (first
      | (at_builtin;refine wpList_append_lies _ rfl _ _ 158 rfl (w.heap.size+1) 161 i0 (.agg #[.int .i64 0,.int .i64 0,.int .i64 0,.int .i64 0,.slice none 0 0]) 5 56 (by kernel_rfl) F.out.1 F.out.2.1 F.out.2.2.1 F.out.2.2.2 rfl (by decide) _ _ _ rfl l.out ⟨wr.heap.size+1,0,none⟩ 1 1 [.int .i64 (W.A3 k).A6,.int .i64 W.time,.int .i64 (W.A3 k).rs,.int .i64 (W.A3 k).rb,.slice o (W.A3 k).dn p] rfl rfl N.out (by simp[Value.oneCell']) (by decide) (by unfold maxLen;omega) (by omega) (by omega) _ rfl ?_;intro g' O w8 t g Q Z)
      | go_in)
     go_roundw
     case rel=>
      have A:∀q,Value.ownBlock _=some q->w.heap.size+1<=q:=fun q B=>(l.out.lt B).1
      refine⟨k+1,by omega,by go_num,?_,H.out.grown g (fun q B=>by have:=A q B;omega),z.grown g z.size (fun q B=>by have:=A q B;omega)⟩;show Eb w8 (w.heap.size+1) _ W vd (W.pn+k+1);refine Eb.next ?_;rw[DN,I.out];exact t
     case measure=>simp[intOf];omega
    ·obtain rfl:k=W.sn:=(by omega);go_wp2;go_ret;exact⟨_,vd,rfl,Eb.at j.out (fun i x=>(lA.out i x).A0 D),D⟩
def G3(w:World)(b:Nat)(v0 v1 v2 v3 v4:Value):Prop:=AJ w b 0 v0/\AJ w b 1 v1/\AJ w b 2 v2/\AJ w b 3 v3/\AJ w b 4 v4
theorem G3.A0{v0 v1 v2 v3 v4:Value}(h:G3 w b v0 v1 v2 v3 v4)(t:Below w.heap.size w w'):G3 w' b v0 v1 v2 v3 v4:=⟨h.1.A0 t,h.2.1.A0 t,h.2.2.1.A0 t,h.2.2.2.1.A0 t,h.2.2.2.2.A0 t⟩
theorem G3.new(w:World)(b v1 c d e:Value)(t:TypeId):G3 (w.alloc (.cells #[b,v1,c,d,e] t)) w.heap.size b v1 c d e:=by
 have a:(w.alloc (.cells #[b,v1,c,d,e] t)).heap[w.heap.size]?=some (.cells #[b,v1,c,d,e] t):=heap_alloc_new _ _;exact⟨B2 a rfl,B2 a rfl,B2 a rfl,B2 a rfl,B2 a rfl⟩
def E7(W:A5):Prop:=∀i,i<memN W->(Lit.int .i64 (AB W i).A6).wf=true
def JW(W:A5)(i:Nat):Prop:=(AC W (AB W i).A6).id=(AB W i).A6
theorem Og(v:Value)(s:AL)(w:World):(Instr.field 41 (DK v s) 0).run Tryz.prog w = .ok (.int .i64 s.id) w/\(Instr.field 41 (DK v s) 2).run Tryz.prog w = .ok (.string s.set) w/\(Instr.field 41 (DK v s) 3).run Tryz.prog w = .ok (.int .i64 s.A6) w/\(Instr.field 41 (DK v s) 4).run Tryz.prog w = .ok (.int .i64 s.time) w:=by
 refine⟨?_,?_,?_,?_⟩<;>kernel_rfl
theorem zCz(r v1 s t:Value)(lo hi:Nat)(W:A5)(A:Nat)(w:World)(h:BR w lo hi r v1 s t W)(hs:W.sn<=8)(S:W.pn<=20)(P:Fj w lo hi W A)(Q:Iv W)(C:E7 W) :
 Calls Tryz.prog 75 #[BS r v1 s t W,Kb A] w fun e w'=>AG (∀i,i<memN W->JW W i) e/\Below w.heap.size w w':=by
 have Z:=A4 h;have X:=A4 P;have Y:=A4 Q;have G:=A4 C;clear h P Q C;have E:=A9 w (.cells #[r,v1,.int .i64 W.time,.int .i64 W.next,s,t] 30);obtain⟨x0,x2,x4,x6,x8,N⟩:=(Aj.new w r v1 (.int .i64 W.time) (.int .i64 W.next) s t 30).c;go_enter Tryz.func75,Tryz.ntmps75;go_wp2_with fail;clear x0 x2 x4 x6 x8 N;generalize w.alloc (.cells #[r,v1,.int .i64 W.time,.int .i64 W.next,s,t] 30)=W0 at E ⊢;refine(Rt r v1 s t lo hi W W0 (Z.out.A0 E) hs S).mono ?_;rintro e U ⟨vm,vd,rfl,L,x⟩;have O:=A4 L;have n:=A7 E x;obtain⟨am,cm,rfl,cA⟩:=id L.C5;have fA:memN W<=28:=by unfold memN;omega
 clear E x L;go_wp2
 go_loopw [10] (fun i wr=>∃k:Nat,k<=memN W/\i = .int .i64 k/\(∀j,j<k->JW W j)/\Below U.heap.size U wr) (fun i _=>memN W - (intOf i).toNat)
 case atStart=>exact⟨0,Nat.zero_le _,rfl,fun j hj=>absurd hj (Nat.not_lt_zero _),Below.refl _ _⟩
 case round=>
  obtain⟨k,hk,rfl,d,v⟩:=hrel;have b:=A4 d;clear d;by_cases a:k<memN W;rotate_left
  ·obtain rfl:k=memN W:=(by omega);go_wp2;go_ret;exact⟨AG.yes b.out,A7 n v⟩
  have R:(k:Int)<(memN W:Int):=(by omega);obtain⟨g,cg,e,q0,q1,q2,q3,T⟩:=(O.out.A0 v).cells k a;obtain⟨-,I,J,B,-,-⟩:=id ((O.out.A0 v).dead k a);rw[B]at T;cases e;have p:=A9 wr (.cells #[.int .i64 (AB W k).A6,.int .i64 (AB W k).time,.int .i64 (AB W k).rs,.int .i64 (AB W k).rb,.slice I (AB W k).dn J] 161);have D:=A4 (G3.new wr (.int .i64 (AB W k).A6) (.int .i64 (AB W k).time) (.int .i64 (AB W k).rs) (.int .i64 (AB W k).rb) (.slice I (AB W k).dn J) 161);have l:=A4 (X.out.A0 (A7 n (A7 v p)));have y:=A7 v p;have H:=A4 (G.out k a);have u:=A4 (show JW W k↔(AC W (AB W k).A6).id=(AB W k).A6 from Iff.rfl);clear B p;generalize AB W k=m at *;go_wp2_with fail;clear q0 q1 q2 q3 T;generalize wr.alloc (.cells #[.int .i64 m.A6,.int .i64 m.time,.int .i64 m.rs,.int .i64 m.rb,.slice I m.dn J] 161)=W2 at D l y ⊢;generalize wr.heap.size=V at D ⊢;obtain⟨⟨y0,-⟩,-⟩:=D.out;go_region_held3 (fun w'=>w'.cell? ⟨V,0,none⟩=some (.int .i64 m.A6)) (go_keep)
   (first | (go_at_call 122;refine(Jy lo hi W A m.A6 _ ?_ Y.out H.out S).mono ?_;(exact l.out.A0 (Below.refl _ _).drew);rintro e w6 ⟨aa,ca,rfl,M,o⟩;have K:=fun w=>(Og (.slice aa (AC W m.A6).dn ca) (AC W m.A6) w).1;obtain⟨⟨z0,_⟩,_⟩:=D.out.A0 (Cp o)))
  have z:=RM y o;clear o M K z0 y0 l;by_cases q:(AC W m.A6).id=m.A6
  ·have hd:((AC W m.A6).id != m.A6)=false:=(by simp[q]);have F:=A4 (u.out.2 q);clear q;go_wp2;go_roundw
   case rel=>exact⟨k+1,by omega,by go_num,Bf a b.out F.out,z⟩
   case measure=>simp[intOf];omega
  ·have hd:((AC W m.A6).id != m.A6)=true:=(by simp[q]);have F:=A4 (fun h=>q (u.out.1 h));clear q;go_wp2;go_ret;exact⟨AG.no fun h=>F.out (h k a),A7 n z⟩
theorem zAy(v:Value)(n lo hi:Nat)(f g:Nat->Int)(x y:Int)(w:World)(t:B4 w lo hi v n f g) :
 Calls Tryz.prog 203 #[v,.agg #[.int .i64 x,.int .i64 y]] w fun e w'=>∃r:Int,e = .returned (.int .i64 r)/\(0<=r↔PIn n f g x y)/\Below w.heap.size w w':=by
 have D:=A4 t;obtain⟨F,a,c,rfl,K,-⟩:=id t;unfold maxLen at F;clear t;have E:=A9 w (.cells #[.int .i64 x,.int .i64 y] 38);have C:=A4 (Ad.new w (.int .i64 x) (.int .i64 y) 38);go_enter Tryz.func203,Tryz.ntmps203;go_wp2
 go_loopw [8] (fun i wr=>∃k:Nat,k<=n/\i = .int .i64 k/\¬PIn k f g x y/\Ad wr w.heap.size (.int .i64 x) (.int .i64 y)/\Below w.heap.size w wr) (fun i _=>n - (intOf i).toNat)
 case atStart=>exact⟨0,Nat.zero_le _,rfl,fun ⟨j,A,_⟩=>absurd A (Nat.not_lt_zero _),C.out,E⟩
 case round=>
  obtain⟨k,J,rfl,p,z,q⟩:=hrel;have m:=A4 p;have u:=A4 z;clear p z;obtain⟨⟨L,M⟩,⟨N,O⟩⟩:=u.out;by_cases o:k<n
  ·have B:(k:Int)<(n:Int):=(by omega);obtain⟨b,off,rfl,G,q1⟩:=(D.out.A0 q).cellsD o;by_cases d:f k=x/\g k=y
   ·have H:=A4 (show PIn n f g x y from⟨k,o,d.1,d.2⟩);rw[d.1]at G;rw[d.2]at q1;clear d;go_wp2
    go_quiet (fail)
    go_wp2;go_ret;exact⟨k,rfl,⟨fun _=>H.out,fun _=>by omega⟩,K7 q _⟩
   ·have H:=A4 d;have e0:(x == f k)=false\/(x == f k)=true/\(y == g k)=false:=by
     by_cases h:f k=x
     ·right;refine⟨by simp[h],?_⟩;have:¬y=g k:=fun s=>d ⟨h,s.symm⟩
      simp[this]
     ·left;have:¬x=f k:=fun s=>h s.symm
      simp[this]
    clear d;rcases e0 with e0 | ⟨e0,I⟩
    all_goals
     go_wp2
     go_quiet (fail)
     go_wp2;go_roundw
     case rel=>
      refine⟨k+1,by omega,by go_num,?_,u.out.A0 (K7 (Below.refl _ _) _),K7 q _⟩;rintro⟨j,A,l⟩;by_cases e:j=k
      ·subst e;exact H.out ⟨l.1,l.2⟩
      ·exact m.out ⟨j,by omega,l⟩
     case measure=>simp[intOf];omega
  ·obtain rfl:k=n:=(by omega);go_wp2;go_ret;exact⟨-1,rfl,⟨fun h=>absurd h (by decide),fun h=>absurd h m.out⟩,q⟩
theorem ZL(v:Value)(n lo hi:Nat)(f g:Nat->Int)(x y:Int)(w:World)(c:B4 w lo hi v n f g) :
 Calls Tryz.prog 172 #[v,.agg #[.int .i64 x,.int .i64 y]] w fun e w'=>AG (PIn n f g x y) e/\Below w.heap.size w w':=by
 have h:=A4 c;clear c;have b:=A9 w (.cells #[.int .i64 x,.int .i64 y] 38);obtain⟨⟨k,-⟩,⟨l,-⟩⟩:=Ad.new w (.int .i64 x) (.int .i64 y) 38;go_enter Tryz.func172,Tryz.ntmps172;go_wp2_with fail;refine(zAy v n lo hi f g x y _ (h.out.A0 b)).mono ?_;rintro e m ⟨r,rfl,d,a⟩;have i:=A4 d;have j:=A7 b a;clear d a k l b;go_wp2;go_ret;refine⟨⟨_,rfl,?_⟩,j⟩;have:=i.out;simp only[decide_eq_true_eq];exact this
theorem zBX(v:Value)(n lo hi:Nat)(f g:Nat->Int)(x y:Int)(T:Nat)(w:World)(i:B4 w lo hi v n f g)(j:w.cell? ⟨T,0,none⟩=some v) :
 Calls Tryz.prog 171 #[.agg #[.int .i64 x,.int .i64 y],.pointer (some ⟨T,0,none⟩)] w fun e w'=>AG (PIn n f g x y) e/\Below w.heap.size w w':=by
 have l:=A4 i;obtain⟨s,a,c,rfl,t,-⟩:=id i;clear i;have h:=A9 w (.cells #[.int .i64 x,.int .i64 y] 38);obtain⟨⟨q,-⟩,⟨r,-⟩⟩:=Ad.new w (.int .i64 x) (.int .i64 y) 38;have k:=(h.cell (p:=⟨T,0,none⟩) (AZ j)).trans j;clear j;go_enter Tryz.func171,Tryz.ntmps171;go_wp2_with fail;refine(ZL _ n lo hi f g x y _ (l.out.A0 h)).mono ?_;rintro e z ⟨⟨u,rfl,d⟩,b⟩;have m:=A4 d;have o:=A7 h b;clear d b q r h k;go_wp2;go_ret;exact⟨⟨_,rfl,m.out⟩,o⟩
theorem zAw(v:Value)(n lo hi:Nat)(f g:Nat->Int)(x y:Int)(T:Nat)(w:World)(i:B4 w lo hi v n f g)(j:w.cell? ⟨T,0,none⟩=some v) :
 Calls Tryz.prog 173 #[.agg #[.int .i64 x,.int .i64 y],.pointer (some ⟨T,0,none⟩)] w fun e w'=>AG (PIn n f g x y) e/\Below w.heap.size w w':=by
 have l:=A4 i;obtain⟨s,a,c,rfl,t,-⟩:=id i;clear i;have h:=A9 w (.cells #[.int .i64 x,.int .i64 y] 38);obtain⟨⟨q,-⟩,⟨r,-⟩⟩:=Ad.new w (.int .i64 x) (.int .i64 y) 38;have k:=(h.cell (p:=⟨T,0,none⟩) (AZ j)).trans j;clear j;go_enter Tryz.func173,Tryz.ntmps173;go_wp2_with fail;refine(ZL _ n lo hi f g x y _ (l.out.A0 h)).mono ?_;rintro e z ⟨⟨u,rfl,d⟩,b⟩;have m:=A4 d;have o:=A7 h b;clear d b q r h k;go_wp2;go_ret;exact⟨⟨_,rfl,m.out⟩,o⟩
theorem LA(r v1 b c:Value)(lo hi:Nat)(W:A5)(xs xb:Int)(w:World)(h:BR w lo hi r v1 b c W)(l:Ag W.pool)(m:As W.pool xs xb) :
 Calls Tryz.prog 128 #[BS r v1 b c W,.agg #[.int .i64 xs,.int .i64 xb]] w fun e w'=>∃v,e = .returned v/\BQ w' w.heap.size v (AF W.pool xs xb)/\Below w.heap.size w w':=by
 have u:=A4 h;have s:=A4 l;have t:=A4 (show Nil xs xb\/BM W.pool xs xb from m.imp id (fun h=>h.1.1));obtain⟨E,g,c0,rfl,z,-⟩:=id h.pool.1;clear h l m;have p:=A9 w (.cells #[.slice g W.pool.n c0,v1,.int .i64 W.time,.int .i64 W.next,b,c] 30);have j:=Aj.new w (.slice g W.pool.n c0) v1 (.int .i64 W.time) (.int .i64 W.next) b c 30;have y:(w.alloc (.cells #[.slice g W.pool.n c0,v1,.int .i64 W.time,.int .i64 W.next,b,c] 30)).heap.size=w.heap.size+1:=World.size_alloc _ _;have d:=A9 (w.alloc (.cells #[.slice g W.pool.n c0,v1,.int .i64 W.time,.int .i64 W.next,b,c] 30)) (.cells #[.int .i64 xs,.int .i64 xb] 38);have o:=Ad.new (w.alloc (.cells #[.slice g W.pool.n c0,v1,.int .i64 W.time,.int .i64 W.next,b,c] 30)) (.int .i64 xs) (.int .i64 xb) 38;rw[y]at o;have a:=A7 p d;obtain⟨⟨A,-⟩,⟨B,-⟩,-⟩:=j.A0 d;obtain⟨⟨C,-⟩,⟨D,-⟩⟩:=o;clear j p d;go_enter Tryz.func128,Tryz.ntmps128;go_wp2_with fail;clear A B C D;generalize (w.alloc (.cells #[.slice g W.pool.n c0,v1,.int .i64 W.time,.int .i64 W.next,b,c] 30)).alloc (.cells #[.int .i64 xs,.int .i64 xb] 38)=W0 at a ⊢;refine(XK W.pool s.out _ lo hi xs xb W0 (u.out.pool.1.A0 a) t.out).mono ?_;rintro e F ⟨v,rfl,q,i⟩;have x:=A4 q;have j:=A7 a i;have k:=a.size;clear q i;go_wp2;go_ret;exact⟨v,rfl,BQ.mono x.out k,j⟩
end Go.Proofs.YtibhefllijahkaaGreatDoor
