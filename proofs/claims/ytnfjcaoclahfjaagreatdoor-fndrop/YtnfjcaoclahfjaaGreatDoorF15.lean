/- A part of the proof. -/
import Derived.Test.YtnfjcaoclahfjaaGreatDoorF14
set_option linter.unusedVariables false
set_option maxRecDepth 20000
set_option maxHeartbeats 4000000
namespace Go.Proofs.YtnfjcaoclahfjaaGreatDoor
open Go.RowKit Go.Maps
def G3(f:Nat->AT):Nat->AT
 | 0=>CQ
 | k+1=>f k
def JH(W:A4)(i:Nat):Prop:=CJ W (W.A0 i).set/\Bp (W.A0 i).name/\(W.A0 i).A5<(W.A0 i).id/\Mid (G3 W.A0 i).id (W.A0 i).id W.next/\Mid (G3 W.A0 i).time (W.A0 i).time W.time
def Yj(W:A4):Prop:=W.pn<=20/\(∀i,i<W.pn->JH W i)/\ML W.pn W.A0
theorem Tf(w:World):(zeroValue 70).run Tryz.prog w = .ok (.agg #[.string ⟨#[]⟩,.int .i64 0,.int .i64 0,.int .i64 0,.int .i64 0,.slice none 0 0]) w:=by kernel_rfl
variable{W:A4}{vd:Nat->Value}
theorem zDj(m:∀i,i<W.sn->∃a n c,vd i = .slice a n c)(x:ByteArray):∃(j:ByteArray) (b d f g:Int) (a:Option Addr) (n c:Nat),(putD (fun i=>DZ (W.A2 i).name) (fun i=>Gl (vd i) (W.A2 i)) W.sn).atKey (DZ x) (.held (.agg #[.string ⟨#[]⟩,.int .i64 0,.int .i64 0,.int .i64 0,.int .i64 0,.slice none 0 0])) = .held (.agg #[.string j,.int .i64 b,.int .i64 d,.int .i64 f,.int .i64 g,.slice a n c]):=by
 have l:Gy (fun i=>DZ (W.A2 i).name):=fun i=>Uo _
 have:∀k,k<=W.sn->∃(j:ByteArray) (b d f g:Int) (a:Option Addr) (n c:Nat),(putD (fun i=>DZ (W.A2 i).name) (fun i=>Gl (vd i) (W.A2 i)) k).atKey (DZ x) (.held (.agg #[.string ⟨#[]⟩,.int .i64 0,.int .i64 0,.int .i64 0,.int .i64 0,.slice none 0 0])) = .held (.agg #[.string j,.int .i64 b,.int .i64 d,.int .i64 f,.int .i64 g,.slice a n c]):=by
  intro k
  induction k with
  | zero=>exact fun _=>⟨⟨#[]⟩,0,0,0,0,none,0,0,R2 l _ (fun i hi=>absurd hi (Nat.not_lt_zero _)) _⟩
  | succ k ih=>
   intro o;by_cases e:DZ (W.A2 k).name=DZ x
   ·obtain⟨a,n,c,hv⟩:=m k (by omega);refine⟨(W.A2 k).name,(W.A2 k).origin,(W.A2 k).A5,(W.A2 k).rs,(W.A2 k).rb,a,n,c,?_⟩;rw[<-e];refine(atKey_put_same (Kn l _ k).isMap (l k) _ _).trans ?_;show DataW.held (Gl (vd k) (W.A2 k))=_;rw[hv];rfl
   ·obtain⟨j,b,d,f,g,a,n,c,h⟩:=ih (by omega);exact⟨j,b,d,f,g,a,n,c,(atKey_put_other (Ne.symm e) _ _).trans h⟩
 exact this W.sn (Nat.le_refl _)
theorem zFc(x:ByteArray):Maps.has (putD (fun i=>DZ (W.A2 i).name) (fun i=>Gl (vd i) (W.A2 i)) W.sn) (DZ x)=true↔CJ W x:=by
 rw[KV (fun i=>Uo _)];constructor
 ·rintro⟨i,hi,e⟩;exact⟨i,hi,zEZ e⟩
 ·rintro⟨i,hi,e⟩;exact⟨i,hi,by rw[e]⟩
abbrev put8(w:World)(b:Nat)(u0 u1 u2 u3 u4 u5 u6 u7:Value):World:=(((((((w.setCell ⟨b,0,none⟩ u0).setCell ⟨b,1,none⟩ u1).setCell ⟨b,2,none⟩ u2).setCell ⟨b,3,none⟩ u3).setCell ⟨b,4,none⟩ u4).setCell ⟨b,5,none⟩ u5).setCell ⟨b,6,none⟩ u6).setCell ⟨b,7,none⟩ u7
variable{w:World}{b:Nat}
theorem CG.put{v0 v1 v2 v3 v4 v5 v6 v7:Value}(h:CG w b v0 v1 v2 v3 v4 v5 v6 v7)(a c u2 u3 u4 d e f:Value):CG (put8 w b a c u2 u3 u4 d e f) b a c u2 u3 u4 d e f:=by
 obtain⟨⟨g,i,j,k⟩,l,m,n,o⟩:=h;refine⟨⟨?_,?_,?_,?_⟩,?_,?_,?_,?_⟩
 ·exact(((((((g.set _).other _ (Or.inr (by omega))).other _ (Or.inr (by omega))).other _ (Or.inr (by omega))).other _ (Or.inr (by omega))).other _ (Or.inr (by omega))).other _ (Or.inr (by omega))).other _ (Or.inr (by omega))
 ·exact(((((((i.other _ (Or.inr (by omega))).set _).other _ (Or.inr (by omega))).other _ (Or.inr (by omega))).other _ (Or.inr (by omega))).other _ (Or.inr (by omega))).other _ (Or.inr (by omega))).other _ (Or.inr (by omega))
 ·exact(((((((j.other _ (Or.inr (by omega))).other _ (Or.inr (by omega))).set _).other _ (Or.inr (by omega))).other _ (Or.inr (by omega))).other _ (Or.inr (by omega))).other _ (Or.inr (by omega))).other _ (Or.inr (by omega))
 ·exact(((((((k.other _ (Or.inr (by omega))).other _ (Or.inr (by omega))).other _ (Or.inr (by omega))).set _).other _ (Or.inr (by omega))).other _ (Or.inr (by omega))).other _ (Or.inr (by omega))).other _ (Or.inr (by omega))
 ·exact(((((((l.other _ (Or.inr (by omega))).other _ (Or.inr (by omega))).other _ (Or.inr (by omega))).other _ (Or.inr (by omega))).set _).other _ (Or.inr (by omega))).other _ (Or.inr (by omega))).other _ (Or.inr (by omega))
 ·exact(((((((m.other _ (Or.inr (by omega))).other _ (Or.inr (by omega))).other _ (Or.inr (by omega))).other _ (Or.inr (by omega))).other _ (Or.inr (by omega))).set _).other _ (Or.inr (by omega))).other _ (Or.inr (by omega))
 ·exact(((((((n.other _ (Or.inr (by omega))).other _ (Or.inr (by omega))).other _ (Or.inr (by omega))).other _ (Or.inr (by omega))).other _ (Or.inr (by omega))).other _ (Or.inr (by omega))).set _).other _ (Or.inr (by omega))
 ·exact(((((((o.other _ (Or.inr (by omega))).other _ (Or.inr (by omega))).other _ (Or.inr (by omega))).other _ (Or.inr (by omega))).other _ (Or.inr (by omega))).other _ (Or.inr (by omega))).other _ (Or.inr (by omega))).set _
theorem AC.put8(w:World)(b:Nat)(a c u2 u3 u4 d e f:Value):AC (fun k=>k=b) w (put8 w b a c u2 u3 u4 d e f):=
 (((((((AC.put w b 0 a).trans (AC.put _ b 1 c)).trans (AC.put _ b 2 u2)).trans (AC.put _ b 3 u3)).trans (AC.put _ b 4 u4)).trans (AC.put _ b 5 d)).trans (AC.put _ b 6 e)).trans (AC.put _ b 7 f)
variable{n:Nat}
theorem GW.put8{M:Nat}(h:GW w W M n vd)(a:M≠b)(c d u2 u3 u4 e f g:Value):GW (Go.Proofs.YtnfjcaoclahfjaaGreatDoor.put8 w b c d u2 u3 u4 e f g) W M n vd:=
 (((((((World.ownsMap.setCell h a c).setCell a d).setCell a u2).setCell a u3).setCell a u4).setCell a e).setCell a f).setCell a g
variable{w':World}
theorem zAl{B:Nat}(h:Below B w w')(a:B<=b)(c d u2 u3 u4 e f g:Value):Below B w (put8 w' b c d u2 u3 u4 e f g):=
 (((((((h.setCell a c).setCell a d).setCell a u2).setCell a u3).setCell a u4).setCell a e).setCell a f).setCell a g
theorem zCK(Q v1 R v3:Value)(lo hi:Nat)(W:A4)(w:World)(h:BM w lo hi Q v1 R v3 W)(hs:W.sn<=8) :
 Calls Tryz.prog 68 #[Bh Q v1 R v3 W] w fun e w'=>AJ (Yj W) e/\Below w.heap.size w w':=by
 have Hp:=A3 h;obtain⟨m1,a,c,rfl,mc,-⟩:=id h.A0;unfold maxLen at m1;clear h;have ha:=A9 w (.cells #[Q,v1,.int .i64 W.time,.int .i64 W.next,R,.slice a W.pn c] 30);have D:=A3 (Af.new w Q v1 (.int .i64 W.time) (.int .i64 W.next) R (.slice a W.pn c) 30);obtain⟨S,T,U,V,X,o⟩:=D.out.c;by_cases hn:W.pn<=20;rotate_left
 ·have fB:(20:Int)<(W.pn:Int):=(by omega);go_enter Tryz.func68,Tryz.ntmps68;go_wp2;go_ret;exact⟨AJ.no fun h=>hn h.1,ha⟩
 have fB:¬(20:Int)<(W.pn:Int):=by omega
 go_enter Tryz.func68,Tryz.ntmps68;go_wp2_with fail;clear S T U V X o;generalize w.alloc (.cells #[Q,v1,.int .i64 W.time,.int .i64 W.next,R,.slice a W.pn c] 30)=W0 at ha D ⊢;refine(zCp Q v1 R _ lo hi W W0 (Hp.out.A1 ha) hs).mono ?_;rintro e w1 ⟨vd,rfl,t,nA,P⟩;have kA:∀i,i<W.sn->∃a n c,vd i = .slice a n c:=fun i eB=>by
  obtain⟨_,aa,cc,hv,_⟩:=nA i eB;exact⟨aa,_,cc,hv⟩
 have O:=A3 (zDj kA);have A:=A3 (zFc (W:=W) (vd:=vd));have y:=A9 w1 (.cells #[.int .i64 0,.string ⟨#[]⟩,.string ⟨#[]⟩,.int .i64 0,.int .i64 0,.int .i64 0,.int .i64 0,.slice none 0 0] 43);have J:=A3 ((D.out.A1 P).A1 y);have E:=A3 (CG.new w1 (.int .i64 0) (.string ⟨#[]⟩) (.string ⟨#[]⟩) (.int .i64 0) (.int .i64 0) (.int .i64 0) (.int .i64 0) (.slice none 0 0) 43);have F:=A3 (t.A1 y);have Z:=A3 (A8 (A8 ha P) y);have fA:W0.heap.size+1<w1.heap.size:=t.lt;have bA:=A3 (show w.heap.size<W0.heap.size+1 by have:=D.out.1.lt;omega);clear t nA kA P y ha D;obtain⟨S,T,U,V,X,o⟩:=J.out.c;go_wp2;clear S T U V X o;obtain⟨L,hL⟩:∃L,L=w1.heap.size:=⟨_,rfl⟩;rw[<-hL]at E fA ⊢;obtain⟨M,hM⟩:∃M,M=W0.heap.size+1:=⟨_,rfl⟩;rw[<-hM]at F fA bA ⊢;have tC:w.heap.size<L:=by have:=bA.out;omega
 go_loopw [18] (fun i wr=>∃(k:Nat) (al:Option Addr) (nl cl:Nat),k<=W.pn/\i = .int .i64 k/\(∀j,j<k->JH W j)/\CG wr L (.int .i64 (G3 W.A0 k).id) (.string (G3 W.A0 k).name) (.string (G3 W.A0 k).set) (.int .i64 (G3 W.A0 k).A5) (.int .i64 (G3 W.A0 k).time) (.int .i64 (G3 W.A0 k).rs) (.int .i64 (G3 W.A0 k).rb) (.slice al nl cl)/\Af wr w.heap.size Q v1 (.int .i64 W.time) (.int .i64 W.next) R (.slice a W.pn c)/\GW wr W M W.sn vd/\Below w.heap.size w wr) (fun i _=>W.pn - (intOf i).toNat)
 case atStart=>exact⟨0,none,0,0,Nat.zero_le _,rfl,fun j hj=>absurd hj (Nat.not_lt_zero _),E.out,J.out,F.out,Z.out⟩
 case round=>
  clear E J F Z hL hM;obtain⟨k,al,nl,cl,hk,rfl,B,hV,hX,hM,hb⟩:=hrel;have z:=A3 B;have HV:=A3 hV;have HX:=A3 hX;have HM:=A3 hM;clear B hV hX hM;obtain⟨S,T,U,V,X,o⟩:=HX.out.c;by_cases m:k<W.pn
  ·have aC:(k:Int)<(W.pn:Int):=(by omega);obtain⟨b,off,jD,rfl,f⟩:=(Hp.out.A0.A1 hb).cells m;obtain⟨-,ad,cd,rfl,-,-⟩:=id f.dead;obtain⟨s0,i1,i2,i3,i4,sa,sn,sc,iA⟩:=O.out (W.A0 k).set;have N:=A3 iA;have s:=A3 (TP f.Bo.2);have gB:=f.Bo.1;clear iA;have bB:wr.heap.size≠L:=(by have:=HV.out.1.1.lt;omega);have q:=A9 wr (.cells #[.int .i64 (W.A0 k).id,.string (W.A0 k).name,.string (W.A0 k).set,.int .i64 (W.A0 k).A5,.int .i64 (W.A0 k).time,.int .i64 (W.A0 k).rs,.int .i64 (W.A0 k).rb,.slice ad (W.A0 k).dn cd] 43);have r:=A9 (wr.alloc (.cells #[.int .i64 (W.A0 k).id,.string (W.A0 k).name,.string (W.A0 k).set,.int .i64 (W.A0 k).A5,.int .i64 (W.A0 k).time,.int .i64 (W.A0 k).rs,.int .i64 (W.A0 k).rb,.slice ad (W.A0 k).dn cd] 43)) (.cells #[.string s0,.int .i64 i1,.int .i64 i2,.int .i64 i3,.int .i64 i4,.slice sa sn sc] 70);have H:=A3 (CG.new wr (.int .i64 (W.A0 k).id) (.string (W.A0 k).name) (.string (W.A0 k).set) (.int .i64 (W.A0 k).A5) (.int .i64 (W.A0 k).time) (.int .i64 (W.A0 k).rs) (.int .i64 (W.A0 k).rb) (.slice ad (W.A0 k).dn cd) 43);have G:=A3 (HM.out.A1 q);have v:=A3 (H.out.A1 r);have I:=A3 ((HV.out.A1 q).A1 r);have K:=A3 ((HX.out.A1 q).A1 r);have Y:=A3 ((HM.out.A1 q).A1 r);have l:=A8 (A8 hb q) r;have lA:((wr.alloc (.cells #[.int .i64 (W.A0 k).id,.string (W.A0 k).name,.string (W.A0 k).set,.int .i64 (W.A0 k).A5,.int .i64 (W.A0 k).time,.int .i64 (W.A0 k).rs,.int .i64 (W.A0 k).rb,.slice ad (W.A0 k).dn cd] 43)).alloc (.cells #[.string s0,.int .i64 i1,.int .i64 i2,.int .i64 i3,.int .i64 i4,.slice sa sn sc] 70)).heap.size=wr.heap.size+2:=(by rw[World.size_alloc,World.size_alloc]);have q0:=f.c0;have q1:=f.c1;have q2:=f.c2;have q3:=f.c3;have q4:=f.c4;have q5:=f.c5;have q6:=f.c6;have q7:=f.c7;obtain⟨⟨⟨y0,-⟩,⟨y1,-⟩,⟨y2,-⟩,⟨y3,-⟩⟩,⟨y4,-⟩,⟨y5,-⟩,⟨y6,-⟩,⟨y7,-⟩⟩:=H.out;obtain⟨⟨⟨z0,-⟩,⟨z1,-⟩,⟨z2,-⟩,⟨z3,-⟩⟩,⟨z4,-⟩,⟨z5,-⟩,⟨z6,-⟩,⟨z7,-⟩⟩:=v.out;clear f;by_cases g:CJ W (W.A0 k).set;rotate_left
   ·have Hc:=A3 (show Maps.has (putD (fun i=>DZ (W.A2 i).name) (fun i=>Gl (vd i) (W.A2 i)) W.sn) (DZ (W.A0 k).set)=false by rw[Bool.eq_false_iff];exact fun h=>g ((A.out _).1 h));have x:=A3 (show ¬JH W k from fun h=>g h.1);clear g;go_wp2_with (first
     | (at_lookup;refine Rd _ rfl _ _ 165 rfl 9 70 S6 Ru (Tf _) M W.sn _ rfl G.out _ _ rfl s.out _ N.out false Hc.out ?_)
     | go_in)
    go_ret;exact⟨AJ.no fun h=>x.out (h.2.1 k m),l⟩
   have aA:=A3 g;have Hc:=A3 ((A.out _).2 g);clear g;go_wp2_with (first
    | (at_lookup;refine Rd _ rfl _ _ 165 rfl 9 70 S6 Ru (Tf _) M W.sn _ rfl G.out _ _ rfl s.out _ N.out true Hc.out ?_)
    | fail)
   clear S T U V X o y0 y1 y2 y3 y4 y5 y6 y7 z0 z1 z2 z3 z4 z5 z6 z7 q0 q1 q2 q3 q4 q5 q6 q7 H G HV HX HM hb q r s N Hc;generalize (wr.alloc (.cells #[.int .i64 (W.A0 k).id,.string (W.A0 k).name,.string (W.A0 k).set,.int .i64 (W.A0 k).A5,.int .i64 (W.A0 k).time,.int .i64 (W.A0 k).rs,.int .i64 (W.A0 k).rb,.slice ad (W.A0 k).dn cd] 43)).alloc (.cells #[.string s0,.int .i64 i1,.int .i64 i2,.int .i64 i3,.int .i64 i4,.slice sa sn sc] 70)=W2 at v I K Y l lA ⊢;generalize wr.heap.size=V8 at v bB ⊢;obtain⟨S,T,U,V,X,o⟩:=K.out.c;obtain⟨⟨⟨z0,-⟩,⟨z1,-⟩,⟨z2,-⟩,⟨z3,-⟩⟩,⟨z4,-⟩,⟨z5,-⟩,⟨z6,-⟩,⟨z7,-⟩⟩:=v.out;obtain⟨⟨⟨l0,m0⟩,⟨l1,n1⟩,⟨l2,n2⟩,⟨l3,n3⟩⟩,⟨l4,n4⟩,⟨l5,n5⟩,⟨l6,n6⟩,⟨l7,n7⟩⟩:=I.out;refine(RS (W.A0 k).name _ gB).mono ?_;rintro e wn ⟨⟨C,rfl,d⟩,rfl⟩;by_cases u:Bp (W.A0 k).name;rotate_left
   ·have x:=A3 (show ¬JH W k from fun h=>u h.2.1);obtain rfl:C=false:=Bb d u;clear d u;go_wp2;go_ret;exact⟨AJ.no fun h=>x.out (h.2.1 k m),l⟩
   have HA:=A3 u;obtain rfl:C=true:=d.2 u;clear d u;by_cases hg:(W.A0 k).id<=(W.A0 k).A5
   ·have x:=A3 (show ¬JH W k from fun h=>by have:=h.2.2.1;omega);go_wp2;go_ret;exact⟨AJ.no fun h=>x.out (h.2.1 k m),l⟩
   have Hg:=A3 (show(W.A0 k).A5<(W.A0 k).id by omega);go_wp2_with fail;clear hg;refine(Xt _ _ _ _).mono ?_;rintro e wn ⟨⟨C,rfl,d⟩,rfl⟩;by_cases p:Mid (G3 W.A0 k).id (W.A0 k).id W.next;rotate_left
   ·have x:=A3 (show ¬JH W k from fun h=>p h.2.2.2.1);obtain rfl:C=false:=Bb d p;clear d p;go_wp2;go_ret;exact⟨AJ.no fun h=>x.out (h.2.1 k m),l⟩
   have D:=A3 p;obtain rfl:C=true:=d.2 p;clear d p;go_wp2_with fail;refine(Xt _ _ _ _).mono ?_;rintro e wn ⟨⟨C,rfl,d⟩,rfl⟩;by_cases p:Mid (G3 W.A0 k).time (W.A0 k).time W.time;rotate_left
   ·have x:=A3 (show ¬JH W k from fun h=>p h.2.2.2.2);obtain rfl:C=false:=Bb d p;clear d p;go_wp2;go_ret;exact⟨AJ.no fun h=>x.out (h.2.1 k m),l⟩
   have rA:=A3 p;obtain rfl:C=true:=d.2 p;clear d p;go_wp2;go_roundw
   case rel=>exact⟨k+1,_,_,_,by omega,by go_num,Bf m z.out ⟨aA.out,HA.out,Hg.out,D.out,rA.out⟩,I.out.put _ _ _ _ _ _ _ _,K.out.AD (AC.put8 _ L _ _ _ _ _ _ _ _) (by omega),Y.out.put8 (by omega) _ _ _ _ _ _ _ _,zAl l (by omega) _ _ _ _ _ _ _ _⟩
   case measure=>simp[intOf];omega
  ·obtain rfl:k=W.pn:=(by omega);go_wp2_with fail;clear S T U V X o;refine(zCt _ W.pn lo hi W.A0 _ (Hp.out.A0.A1 hb) hn).mono ?_;rintro e w6 ⟨⟨t6,rfl,mA⟩,cB⟩;have Ht:=A3 mA;clear mA;go_wp2;go_ret;exact⟨⟨t6,rfl,Ht.out.trans ⟨fun u=>⟨hn,z.out,u⟩,fun u=>u.2.2⟩⟩,A8 hb cB⟩
def EC(W:A4):Prop:=∀i,i<W.pn->∀j,j<i->(W.A0 j).id≠(W.A0 i).id
def G8(w:World)(lo hi:Nat)(W:A4)(A:Nat):Prop:=∃M vd,AF w A 0 (.map (some M))/\Fm w W M W.pn vd/\O8 w lo hi W.pn W.A0 vd
abbrev JO(A:Nat):Value:=.func (.func 126) #[] #[.pointer (some ⟨A,0,none⟩)]
variable{lo hi:Nat}
theorem G8.A1{A:Nat}(h:G8 w lo hi W A)(t:Below w.heap.size w w'):G8 w' lo hi W A:=by
 obtain⟨M,vd,b,c,d⟩:=h;exact⟨M,vd,b.A1 t,c.A1 t,fun i a=>(d i a).A1 t⟩
theorem M3(w:World):(zeroValue 43).run Tryz.prog w = .ok (.agg #[.int .i64 0,.string ⟨#[]⟩,.string ⟨#[]⟩,.int .i64 0,.int .i64 0,.int .i64 0,.int .i64 0,.slice none 0 0]) w:=by kernel_rfl
theorem OW(p:EC W)(q:O8 w lo hi W.pn W.A0 vd)(x:Int):∃a c,(putD (fun i=>Dr (W.A0 i).id) (fun i=>BX (vd i) (W.A0 i)) W.pn).atKey (Dr x) (.held (.agg #[.int .i64 0,.string ⟨#[]⟩,.string ⟨#[]⟩,.int .i64 0,.int .i64 0,.int .i64 0,.int .i64 0,.slice none 0 0])) = .held (BX (.slice a (AB W x).dn c) (AB W x))/\Ay w lo hi (.slice a (AB W x).dn c) (AB W x).dn (AB W x).ds (AB W x).db:=by
 have g:Gy (fun i=>Dr (W.A0 i).id):=fun i=>QF _
 by_cases f:∃k,BB W x k
 ·obtain⟨k,b⟩:=f;rw[Cn b];have l:=q k b.1;obtain⟨_,a,c,hv,_⟩:=id l;refine⟨a,c,?_,by rw[<-hv];exact l⟩;have:=NS g (fun i=>BX (vd i) (W.A0 i)) (.held (.agg #[.int .i64 0,.string ⟨#[]⟩,.string ⟨#[]⟩,.int .i64 0,.int .i64 0,.int .i64 0,.int .i64 0,.slice none 0 0])) W.pn k b.1 (fun j n o e=>p j o k n (O5 e).symm);rw[b.2.1]at this;rw[this,hv]
 ·have e:AB W x=CQ:=(by unfold AB;rw[dif_neg f]);rw[e];refine⟨none,0,?_,⟨Nat.zero_le _,none,0,rfl,Nat.le_refl _,fun h=>absurd h (by simp[CQ])⟩⟩;refine R2 g _ (fun i d m=>?_) _;exact f (Qd (Nat.le_refl _) ⟨i,d,O5 m⟩)
theorem Ji(lo hi:Nat)(W:A4)(A:Nat)(x:Int)(w:World)(h:G8 w lo hi W A)(q:EC W)(o:(Lit.int .i64 x).wf=true)(hn:W.pn<=20) :
 Calls Tryz.prog 126 #[.int .i64 x,.pointer (some ⟨A,0,none⟩)] w fun e w'=>∃a c,e = .returned (BX (.slice a (AB W x).dn c) (AB W x))/\Ay w lo hi (.slice a (AB W x).dn c) (AB W x).dn (AB W x).ds (AB W x).db/\Below w.heap.size w w':=by
 obtain⟨M,vd,k,m,l⟩:=h;obtain⟨a,c,i,n⟩:=OW q l x;have d:=A3 i;have j:=A3 n;have f:=A3 (JY o);clear i n l o;unfold BX at d ⊢;generalize AB W x=S at *;have b:=A9 w (.cells #[.int .i64 0,.string ⟨#[]⟩,.string ⟨#[]⟩,.int .i64 0,.int .i64 0,.int .i64 0,.int .i64 0,.slice none 0 0] 43);have p:=A3 (m.A1 b);obtain⟨B,-⟩:=k.A1 b;have g:=A9 w (.cells #[.int .i64 S.id,.string S.name,.string S.set,.int .i64 S.A5,.int .i64 S.time,.int .i64 S.rs,.int .i64 S.rb,.slice a S.dn c] 43);obtain⟨⟨⟨y0,-⟩,⟨y1,-⟩,⟨r,-⟩,⟨s,-⟩⟩,⟨t,-⟩,⟨u,-⟩,⟨y,-⟩,⟨z,-⟩⟩:=CG.new w (.int .i64 S.id) (.string S.name) (.string S.set) (.int .i64 S.A5) (.int .i64 S.time) (.int .i64 S.rs) (.int .i64 S.rb) (.slice a S.dn c) 43;clear m k b;go_enter Tryz.func126,Tryz.ntmps126;go_wp2_with (first
  | (at_lookup;refine Rc _ rfl _ _ 76 rfl 2 43 J3 JM (M3 _) M W.pn _ rfl p.out _ _ rfl f.out _ d.out ?_)
  | go_in)
 refine bodyPost_ret (v:=.agg #[.int .i64 S.id,.string S.name,.string S.set,.int .i64 S.A5,.int .i64 S.time,.int .i64 S.rs,.int .i64 S.rb,.slice a S.dn c]) (by simp[results,Tryz.results126,go_sem,y0,y1,r,s,t,u,y,z]) rfl ⟨a,c,rfl,j.out,g⟩
theorem Xq(d v1 f g:Value)(lo hi:Nat)(W:A4)(w:World)(h:BM w lo hi d v1 f g W)(hn:W.pn<=20)(n:GL W.pn W.A0) :
 Calls Tryz.prog 70 #[Bh d v1 f g W] w fun e w'=>∃A,e = .returned (JO A)/\G8 w' lo hi W A/\Below w.heap.size w w':=by
 have t:=A3 h;clear h;have u:∀(fn:Fn) (first cap:Array Value) (w:World),(Instr.makeFunc fn first cap).run Tryz.prog w = .ok (.func fn first cap) w:=fun _ _ _ _=>rfl
 have k:=A9 w (.cells #[d,v1,.int .i64 W.time,.int .i64 W.next,f,g] 30);obtain⟨v,x,y,z,B,o⟩:=(Af.new w d v1 (.int .i64 W.time) (.int .i64 W.next) f g 30).c;go_enter Tryz.func70,Tryz.ntmps70;go_wp2_with fail;clear v x y z B o;generalize w.alloc (.cells #[d,v1,.int .i64 W.time,.int .i64 W.next,f,g] 30)=W0 at k ⊢;refine(Ot d v1 f g lo hi W W0 (t.out.A1 k) hn n).mono ?_;rintro e j ⟨vd,rfl,r,q,b⟩;have a:=A9 j (.cells #[.map (some (W0.heap.size+1))] 76);have p:AF (j.alloc (.cells #[.map (some (W0.heap.size+1))] 76)) j.heap.size 0 (.map (some (W0.heap.size+1))):=At (heap_alloc_new _ _) rfl;have s:=A3 (show G8 (j.alloc (.cells #[.map (some (W0.heap.size+1))] 76)) lo hi W j.heap.size from⟨_,vd,p,r.A1 a,fun i m=>((q i m).A1 b).A1 a⟩);have l:=A8 (A8 k b) a;clear r q b a p;go_wp2;go_ret;exact⟨_,rfl,s.out,l⟩
def Ma(vd:Value)(m:DJ):List Value:=[.int .i64 m.A5,.int .i64 m.time,.int .i64 m.rs,.int .i64 m.rb,vd]
def mrow(W:A4)(vd:Nat->Value):Nat->List Value
 | 0=>[]
 | k+1=>mrow W vd k ++ Ma (vd k) (A6 W k)
theorem Nq(W:A4)(vd:Nat->Value):∀n,(mrow W vd n).length=n*5
 | 0=>rfl
 | n+1=>by simp[mrow,Nq W vd n,Ma];omega
theorem KT{W:A4}{vd:Nat->Value}:∀{n i j:Nat},i<n->j<5->(mrow W vd n)[i*5+j]?=(Ma (vd i) (A6 W i))[j]?
 | 0,i,j,hi,_=>absurd hi (Nat.not_lt_zero _)
 | n+1,i,j,hi,hj=>by
  unfold mrow;by_cases e:i=n
  ·subst e;rw[List.getElem?_append_right (by rw[Nq];omega),Nq,show i*5+j - i*5=j by omega]
  ·rw[List.getElem?_append_left (by rw[Nq];omega),KT (by omega) hj]
def QU(w:World)(lo hi:Nat)(W:A4)(vd:Nat->Value):Prop:=∀i,i<memN W->Ay w lo hi (vd i) (A6 W i).dn (A6 W i).ds (A6 W i).db
def EI(w:World)(base:Nat)(v:Value)(W:A4)(vd:Nat->Value)(n:Nat):Prop:=w.ownsRow base 143 5 v n (mrow W vd n)
variable{base:Nat}{v:Value}
theorem EI.A1{w1:World}(h:EI w base v W vd n)(a:Below w.heap.size w w1):EI w1 base v W vd n:=
 h.kept (Dg a none) (by cases v.ownBlock<;>simp)
theorem EI.lt(h:EI w base v W vd n){q:Nat}(a:v.ownBlock=some q):base<=q/\q<w.heap.size:=by
 rcases h.2 with⟨rfl,_⟩ | ⟨g,cap,b,rfl,c,d,_⟩
 ·simp[Value.ownBlock]at a
 ·simp only[Value.ownBlock,Option.some.injEq]at a;subst a;exact⟨c,(Array.getElem?_eq_some_iff.1 d).1⟩
theorem EI.next{w2:World}{g cap:Nat}(h:w2.ownsRow base 143 5 (.slice (some ⟨g,0,none⟩) (n+1) cap) (n+1) (mrow W vd n ++ Ma (vd n) (A6 W n))):EI w2 base (.slice (some ⟨g,0,none⟩) (n+1) cap) W vd (n+1):=h
structure Ia (w:World) (lo hi:Nat) (v:Value) (W:A4) (vd:Nat->Value):Prop where
 Bv:∃a c,v = .slice a (memN W) c/\memN W<=c
 cells:∀i,i<memN W->∃g c,v = .slice (some ⟨g,0,none⟩) (memN W) c/\w.cell? ⟨g,i*5,none⟩=some (.int .i64 (A6 W i).A5)/\w.cell? ⟨g,i*5+1,none⟩=some (.int .i64 (A6 W i).time)/\w.cell? ⟨g,i*5+2,none⟩=some (.int .i64 (A6 W i).rs)/\w.cell? ⟨g,i*5+3,none⟩=some (.int .i64 (A6 W i).rb)/\w.cell? ⟨g,i*5+4,none⟩=some (vd i)
 dead:QU w lo hi W vd
theorem Ia.A1{w1:World}(h:Ia w lo hi v W vd)(t:Below w.heap.size w w1):Ia w1 lo hi v W vd where
 Bv:=h.Bv
 cells:=fun i a=>by
  obtain⟨g,c,e,b,d,f,j,k⟩:=h.cells i a;exact⟨g,c,e,(t.cell (AM b)).trans b,(t.cell (AM d)).trans d,(t.cell (AM f)).trans f,(t.cell (AM j)).trans j,(t.cell (AM k)).trans k⟩
 dead:=fun i a=>(h.dead i a).A1 t
theorem EI.at(h:EI w base v W vd (memN W))(d:QU w lo hi W vd):Ia w lo hi v W vd where
 Bv:=C6 h
 cells:=fun i b=>by
  obtain⟨g,cap,e,c,j,f,a⟩:=Gd h (by omega);refine⟨g,cap,e,?_,?_,?_,?_,?_⟩
  ·exact(a (i*5) _ (by have:=KT (W:=W) (vd:=vd) b (show 0<5 by omega);rw[Nat.add_zero]at this;rw[this];rfl)).1
  ·exact(a (i*5+1) _ (by rw[KT b (by omega)];rfl)).1
  ·exact(a (i*5+2) _ (by rw[KT b (by omega)];rfl)).1
  ·exact(a (i*5+3) _ (by rw[KT b (by omega)];rfl)).1
  ·exact(a (i*5+4) _ (by rw[KT b (by omega)];rfl)).1
 dead:=d
theorem TN:(Tryz.prog.info? 143).map (fun i=>(i.zero,i.size,i.bytes))=some (some (.agg #[.int .i64 0,.int .i64 0,.int .i64 0,.int .i64 0,.slice none 0 0]),5,56):=by kernel_rfl
theorem Oo(L v1 v2 v3:Value)(lo hi:Nat)(W:A4)(w:World)(h:BM w lo hi L v1 v2 v3 W)(hs:W.sn<=8)(hp:W.pn<=20) :
 Calls Tryz.prog 101 #[Bh L v1 v2 v3 W] w fun e w'=>∃v vd,e = .returned v/\Ia w' lo hi v W vd/\Below w.heap.size w w':=by
 have Hp:=A3 h;obtain⟨m1,a,c,rfl,mc,-⟩:=id h.A0;obtain⟨m2,a',c',rfl,iB,-⟩:=id h.A2;unfold maxLen at m1 m2;obtain⟨vs,Z,Q⟩:=h.A0.vals;obtain⟨vt,aA,R⟩:=h.A2.vals;have lA:∃vd:Nat->Value,(∀i,i<W.pn->vd i=vs i)/\(∀i,i<W.sn->vd (W.pn+i)=vt i)/\QU w lo hi W vd:=by
  refine⟨fun i=>if i<W.pn then vs i else vt (i - W.pn),fun i u=>if_pos u,fun i u=>?_,fun i u=>?_⟩
  ·show(if W.pn+i<W.pn then vs (W.pn+i)else vt (W.pn+i - W.pn))=vt i;rw[if_neg (by omega),show W.pn+i - W.pn=i by omega]
  ·show Ay w lo hi (if i<W.pn then vs i else vt (i - W.pn)) _ _ _;by_cases D:i<W.pn
   ·rw[if_pos D,B9 D];exact Z i D
   ·have e:=By W (i - W.pn);rw[show W.pn+(i - W.pn)=i by omega]at e;rw[if_neg D,e];unfold memN at u;exact aA _ (by omega)
 obtain⟨vd,S,T,U⟩:=lA;have fA:=A3 Q;have gA:=A3 R;have iA:=A3 S;have jA:=A3 T;have kA:=A3 U;clear h Z Q aA R S T U;obtain⟨i0,V,J⟩:=Option.map_eq_some_iff.1 TN;simp only[Prod.mk.injEq]at J;have E:=A3 (And.intro V J);clear V J;have ha:=A9 w (.cells #[L,v1,.int .i64 W.time,.int .i64 W.next,.slice a' W.sn c',.slice a W.pn c] 30);have HB:=A3 (Af.new w L v1 (.int .i64 W.time) (.int .i64 W.next) (.slice a' W.sn c') (.slice a W.pn c) 30);obtain⟨x0,x2,x4,x6,x8,K⟩:=HB.out.c;go_enter Tryz.func101,Tryz.ntmps101;go_wp2;clear x0 x2 x4 x6 x8 K
 go_loopw [3,11] (fun v i wr=>∃k:Nat,k<=W.pn/\i = .int .i64 k/\EI wr (w.heap.size+1) v W vd k/\Af wr w.heap.size L v1 (.int .i64 W.time) (.int .i64 W.next) (.slice a' W.sn c') (.slice a W.pn c)/\Below w.heap.size w wr) (fun _ i _=>W.pn - (intOf i).toNat)
 case atStart=>exact⟨0,Nat.zero_le _,rfl,World.ownsRow_nil _ _ _ _,HB.out,ha⟩
 case round=>
  clear HB ha;obtain⟨k,hk,rfl,p,O,C⟩:=hrel;have g:=A3 p;have x:=A3 O;clear p O;by_cases r:k<W.pn
  ·have X:(k:Int)<(W.pn:Int):=(by omega);obtain⟨b,off,rfl,B⟩:=fA.out k r;have d:=B.A1 C;rw[<-iA.out k r]at d;obtain⟨-,n,o,t,-,-⟩:=id d.dead;have H:=A3 t;rw[t]at d;clear t B;have m:=A9 wr (.cells #[.int .i64 (W.A0 k).id,.string (W.A0 k).name,.string (W.A0 k).set,.int .i64 (W.A0 k).A5,.int .i64 (W.A0 k).time,.int .i64 (W.A0 k).rs,.int .i64 (W.A0 k).rb,.slice n (W.A0 k).dn o] 43);have F:=A3 (CG.new wr (.int .i64 (W.A0 k).id) (.string (W.A0 k).name) (.string (W.A0 k).set) (.int .i64 (W.A0 k).A5) (.int .i64 (W.A0 k).time) (.int .i64 (W.A0 k).rs) (.int .i64 (W.A0 k).rb) (.slice n (W.A0 k).dn o) 43);have l:=A9 (wr.alloc (.cells #[.int .i64 (W.A0 k).id,.string (W.A0 k).name,.string (W.A0 k).set,.int .i64 (W.A0 k).A5,.int .i64 (W.A0 k).time,.int .i64 (W.A0 k).rs,.int .i64 (W.A0 k).rb,.slice n (W.A0 k).dn o] 43)) (.cells #[.int .i64 (W.A0 k).A5,.int .i64 (W.A0 k).time,.int .i64 (W.A0 k).rs,.int .i64 (W.A0 k).rb,.slice n (W.A0 k).dn o] 143);have M:=A3 (World.news_of_block (heap_alloc_last (wr.alloc (.cells #[.int .i64 (W.A0 k).id,.string (W.A0 k).name,.string (W.A0 k).set,.int .i64 (W.A0 k).A5,.int .i64 (W.A0 k).time,.int .i64 (W.A0 k).rs,.int .i64 (W.A0 k).rb,.slice n (W.A0 k).dn o] 43)) (.cells #[.int .i64 (W.A0 k).A5,.int .i64 (W.A0 k).time,.int .i64 (W.A0 k).rs,.int .i64 (W.A0 k).rb,.slice n (W.A0 k).dn o] 143)));have j:=A3 ((g.out.A1 m).A1 l);have G:=A3 ((x.out.A1 m).A1 l);have y:=A8 (A8 C m) l;have mA:=x.out.1.lt;have I:(wr.alloc (.cells #[.int .i64 (W.A0 k).id,.string (W.A0 k).name,.string (W.A0 k).set,.int .i64 (W.A0 k).A5,.int .i64 (W.A0 k).time,.int .i64 (W.A0 k).rs,.int .i64 (W.A0 k).rb,.slice n (W.A0 k).dn o] 43)).heap.size=wr.heap.size+1:=World.size_alloc _ _;have nA:=l.size;rw[I]at M;have q0:=d.c0;have q1:=d.c1;have q2:=d.c2;have q3:=d.c3;have q4:=d.c4;have q5:=d.c5;have q6:=d.c6;have q7:=d.c7;obtain⟨⟨⟨y0,-⟩,⟨y1,-⟩,⟨y2,-⟩,⟨y3,-⟩⟩,⟨y4,-⟩,⟨y5,-⟩,⟨y6,-⟩,⟨y7,-⟩⟩:=F.out;clear d m l g x;go_wp2_with (first
    | (at_builtin;refine wpList_append_lies _ rfl _ _ 139 rfl (w.heap.size+1) 143 i0 (.agg #[.int .i64 0,.int .i64 0,.int .i64 0,.int .i64 0,.slice none 0 0]) 5 56 (by kernel_rfl) E.out.1 E.out.2.1 E.out.2.2.1 E.out.2.2.2 rfl (by decide) _ _ _ rfl j.out ⟨wr.heap.size+1,0,none⟩ 1 1 [.int .i64 (W.A0 k).A5,.int .i64 (W.A0 k).time,.int .i64 (W.A0 k).rs,.int .i64 (W.A0 k).rb,.slice n (W.A0 k).dn o] rfl rfl M.out (by simp[Value.oneCell']) (by decide) (by unfold maxLen;omega) (by omega) (by omega) _ rfl ?_;intro g' N w8 s f P Y)
    | go_in)
   go_roundw
   case rel=>
    have z:∀q,Value.ownBlock _=some q->w.heap.size+1<=q:=fun q A=>(j.out.lt A).1
    refine⟨k+1,by omega,by go_num,?_,G.out.grown f (fun q A=>by have:=z q A;omega),y.grown f y.size (fun q A=>by have:=z q A;omega)⟩;refine EI.next ?_;rw[B9 r,H.out];exact s
   case measure=>simp[intOf];omega
  ·obtain rfl:k=W.pn:=(by omega);obtain⟨x0,x2,x4,x6,x8,K⟩:=x.out.c;go_wp2;clear x0 x2 x4 x6 x8 K
   go_loopw [3,31] (fun v i wr=>∃k:Nat,k<=W.sn/\i = .int .i64 k/\EI wr (w.heap.size+1) v W vd (W.pn+k)/\Af wr w.heap.size L v1 (.int .i64 W.time) (.int .i64 W.next) (.slice a' W.sn c') (.slice a W.pn c)/\Below w.heap.size w wr) (fun _ i _=>W.sn - (intOf i).toNat)
   case atStart=>exact⟨0,Nat.zero_le _,rfl,g.out,x.out,C⟩
   case round=>
    clear x C g hk r;obtain⟨k,hk,rfl,p,O,C⟩:=hrel;have g:=A3 p;have x:=A3 O;clear p O;by_cases r:k<W.sn
    ·have X:(k:Int)<(W.sn:Int):=(by omega);obtain⟨b,off,rfl,B⟩:=gA.out k r;have d:=B.A1 C;rw[<-jA.out k r]at d;obtain⟨-,n,o,t,-,-⟩:=id d.dead;have H:=A3 t;rw[t]at d;clear t B;have m:=A9 wr (.cells #[.string (W.A2 k).name,.int .i64 (W.A2 k).origin,.int .i64 (W.A2 k).A5,.int .i64 (W.A2 k).rs,.int .i64 (W.A2 k).rb,.slice n (W.A2 k).dn o] 70);have F:=A3 (Af.new wr (.string (W.A2 k).name) (.int .i64 (W.A2 k).origin) (.int .i64 (W.A2 k).A5) (.int .i64 (W.A2 k).rs) (.int .i64 (W.A2 k).rb) (.slice n (W.A2 k).dn o) 70);have eA:=A3 (x.out.A1 m);have l:=A9 (wr.alloc (.cells #[.string (W.A2 k).name,.int .i64 (W.A2 k).origin,.int .i64 (W.A2 k).A5,.int .i64 (W.A2 k).rs,.int .i64 (W.A2 k).rb,.slice n (W.A2 k).dn o] 70)) (.cells #[.int .i64 (W.A2 k).A5,.int .i64 W.time,.int .i64 (W.A2 k).rs,.int .i64 (W.A2 k).rb,.slice n (W.A2 k).dn o] 143);have M:=A3 (World.news_of_block (heap_alloc_last (wr.alloc (.cells #[.string (W.A2 k).name,.int .i64 (W.A2 k).origin,.int .i64 (W.A2 k).A5,.int .i64 (W.A2 k).rs,.int .i64 (W.A2 k).rb,.slice n (W.A2 k).dn o] 70)) (.cells #[.int .i64 (W.A2 k).A5,.int .i64 W.time,.int .i64 (W.A2 k).rs,.int .i64 (W.A2 k).rb,.slice n (W.A2 k).dn o] 143)));have j:=A3 ((g.out.A1 m).A1 l);have G:=A3 ((x.out.A1 m).A1 l);have y:=A8 (A8 C m) l;have mA:=x.out.1.lt;have I:(wr.alloc (.cells #[.string (W.A2 k).name,.int .i64 (W.A2 k).origin,.int .i64 (W.A2 k).A5,.int .i64 (W.A2 k).rs,.int .i64 (W.A2 k).rb,.slice n (W.A2 k).dn o] 70)).heap.size=wr.heap.size+1:=World.size_alloc _ _;have nA:=l.size;rw[I]at M;have q0:=d.c0;have q1:=d.c1;have q2:=d.c2;have q3:=d.c3;have q4:=d.c4;have q5:=d.c5;obtain⟨y0,y1,y2,y3,y4,y5⟩:=F.out.c;obtain⟨z0,z2,z4,z6,z8,tB⟩:=eA.out.c;clear d m l g x;go_wp2_with (first
      | (at_builtin;refine wpList_append_lies _ rfl _ _ 139 rfl (w.heap.size+1) 143 i0 (.agg #[.int .i64 0,.int .i64 0,.int .i64 0,.int .i64 0,.slice none 0 0]) 5 56 (by kernel_rfl) E.out.1 E.out.2.1 E.out.2.2.1 E.out.2.2.2 rfl (by decide) _ _ _ rfl j.out ⟨wr.heap.size+1,0,none⟩ 1 1 [.int .i64 (W.A2 k).A5,.int .i64 W.time,.int .i64 (W.A2 k).rs,.int .i64 (W.A2 k).rb,.slice n (W.A2 k).dn o] rfl rfl M.out (by simp[Value.oneCell']) (by decide) (by unfold maxLen;omega) (by omega) (by omega) _ rfl ?_;intro g' N w8 s f P Y)
      | go_in)
     go_roundw
     case rel=>
      have z:∀q,Value.ownBlock _=some q->w.heap.size+1<=q:=fun q A=>(j.out.lt A).1
      refine⟨k+1,by omega,by go_num,?_,G.out.grown f (fun q A=>by have:=z q A;omega),y.grown f y.size (fun q A=>by have:=z q A;omega)⟩;show EI w8 (w.heap.size+1) _ W vd (W.pn+k+1);refine EI.next ?_;rw[By,H.out];exact s
     case measure=>simp[intOf];omega
    ·obtain rfl:k=W.sn:=(by omega);go_wp2;go_ret;exact⟨_,vd,rfl,EI.at g.out (fun i u=>(kA.out i u).A1 C),C⟩
def Ez(w:World)(b:Nat)(v0 v1 v2 v3 v4:Value):Prop:=AF w b 0 v0/\AF w b 1 v1/\AF w b 2 v2/\AF w b 3 v3/\AF w b 4 v4
theorem Ez.A1{v0 v1 v2 v3 v4:Value}(h:Ez w b v0 v1 v2 v3 v4)(t:Below w.heap.size w w'):Ez w' b v0 v1 v2 v3 v4:=⟨h.1.A1 t,h.2.1.A1 t,h.2.2.1.A1 t,h.2.2.2.1.A1 t,h.2.2.2.2.A1 t⟩
theorem Ez.new(w:World)(b v1 c d e:Value)(t:TypeId):Ez (w.alloc (.cells #[b,v1,c,d,e] t)) w.heap.size b v1 c d e:=by
 have a:(w.alloc (.cells #[b,v1,c,d,e] t)).heap[w.heap.size]?=some (.cells #[b,v1,c,d,e] t):=heap_alloc_new _ _;exact⟨At a rfl,At a rfl,At a rfl,At a rfl,At a rfl⟩
def F6(W:A4):Prop:=∀i,i<memN W->(Lit.int .i64 (A6 W i).A5).wf=true
def JD(W:A4)(i:Nat):Prop:=(AB W (A6 W i).A5).id=(A6 W i).A5
theorem OM(v:Value)(s:AT)(w:World):(Instr.field 43 (BX v s) 0).run Tryz.prog w = .ok (.int .i64 s.id) w/\(Instr.field 43 (BX v s) 2).run Tryz.prog w = .ok (.string s.set) w/\(Instr.field 43 (BX v s) 3).run Tryz.prog w = .ok (.int .i64 s.A5) w/\(Instr.field 43 (BX v s) 4).run Tryz.prog w = .ok (.int .i64 s.time) w:=by
 refine⟨?_,?_,?_,?_⟩<;>kernel_rfl
theorem zCv(q v1 r s:Value)(lo hi:Nat)(W:A4)(A:Nat)(w:World)(h:BM w lo hi q v1 r s W)(hs:W.sn<=8)(R:W.pn<=20)(O:G8 w lo hi W A)(P:EC W)(B:F6 W) :
 Calls Tryz.prog 71 #[Bh q v1 r s W,JO A] w fun e w'=>AJ (∀i,i<memN W->JD W i) e/\Below w.heap.size w w':=by
 have Y:=A3 h;have U:=A3 O;have X:=A3 P;have F:=A3 B;clear h O P B;have D:=A9 w (.cells #[q,v1,.int .i64 W.time,.int .i64 W.next,r,s] 30);obtain⟨x0,x2,x4,x6,x8,M⟩:=(Af.new w q v1 (.int .i64 W.time) (.int .i64 W.next) r s 30).c;go_enter Tryz.func71,Tryz.ntmps71;go_wp2_with fail;clear x0 x2 x4 x6 x8 M;generalize w.alloc (.cells #[q,v1,.int .i64 W.time,.int .i64 W.next,r,s] 30)=W0 at D ⊢;refine(Oo q v1 r s lo hi W W0 (Y.out.A1 D) hs R).mono ?_;rintro e T ⟨vm,vd,rfl,K,v⟩;have N:=A3 K;have l:=A8 D v;obtain⟨am,cm,rfl,bA⟩:=id K.Bv;have eA:memN W<=28:=by unfold memN;omega
 clear D v K;go_wp2
 go_loopw [10] (fun i wr=>∃k:Nat,k<=memN W/\i = .int .i64 k/\(∀j,j<k->JD W j)/\Below T.heap.size T wr) (fun i _=>memN W - (intOf i).toNat)
 case atStart=>exact⟨0,Nat.zero_le _,rfl,fun j hj=>absurd hj (Nat.not_lt_zero _),Below.refl _ _⟩
 case round=>
  obtain⟨k,hk,rfl,d,u⟩:=hrel;have b:=A3 d;clear d;by_cases a:k<memN W;rotate_left
  ·obtain rfl:k=memN W:=(by omega);go_wp2;go_ret;exact⟨AJ.yes b.out,A8 l u⟩
  have Q:(k:Int)<(memN W:Int):=(by omega);obtain⟨g,cg,e,q0,q1,q2,q3,S⟩:=(N.out.A1 u).cells k a;obtain⟨-,H,I,z,-,-⟩:=id ((N.out.A1 u).dead k a);rw[z]at S;cases e;have o:=A9 wr (.cells #[.int .i64 (A6 W k).A5,.int .i64 (A6 W k).time,.int .i64 (A6 W k).rs,.int .i64 (A6 W k).rb,.slice H (A6 W k).dn I] 143);have C:=A3 (Ez.new wr (.int .i64 (A6 W k).A5) (.int .i64 (A6 W k).time) (.int .i64 (A6 W k).rs) (.int .i64 (A6 W k).rb) (.slice H (A6 W k).dn I) 143);have f:=A3 (U.out.A1 (A8 l (A8 u o)));have x:=A8 u o;have G:=A3 (F.out k a);have t:=A3 (show JD W k↔(AB W (A6 W k).A5).id=(A6 W k).A5 from Iff.rfl);clear z o;generalize A6 W k=m at *;go_wp2_with fail;clear q0 q1 q2 q3 S;generalize wr.alloc (.cells #[.int .i64 m.A5,.int .i64 m.time,.int .i64 m.rs,.int .i64 m.rb,.slice H m.dn I] 143)=W2 at C f x ⊢;generalize wr.heap.size=V at C ⊢;obtain⟨⟨y0,-⟩,-⟩:=C.out;go_region_held3 (fun w'=>w'.cell? ⟨V,0,none⟩=some (.int .i64 m.A5)) (go_keep)
   (first | (go_at_call 126;refine(Ji lo hi W A m.A5 _ ?_ X.out G.out R).mono ?_;(exact f.out.A1 (Below.refl _ _).drew);rintro e w6 ⟨Z,ca,rfl,L,n⟩;have J:=fun w=>(OM (.slice Z (AB W m.A5).dn ca) (AB W m.A5) w).1;obtain⟨⟨z0,_⟩,_⟩:=C.out.A1 (Cs n)))
  have y:=RE x n;clear n L J z0 y0 f;by_cases p:(AB W m.A5).id=m.A5
  ·have hd:((AB W m.A5).id != m.A5)=false:=(by simp[p]);have E:=A3 (t.out.2 p);clear p;go_wp2;go_roundw
   case rel=>exact⟨k+1,by omega,by go_num,Bf a b.out E.out,y⟩
   case measure=>simp[intOf];omega
  ·have hd:((AB W m.A5).id != m.A5)=true:=(by simp[p]);have E:=A3 (fun h=>p (t.out.1 h));clear p;go_wp2;go_ret;exact⟨AJ.no fun h=>E.out (h k a),A8 l y⟩
theorem zAW(v:Value)(n lo hi:Nat)(f g:Nat->Int)(x y:Int)(w:World)(t:Ay w lo hi v n f g) :
 Calls Tryz.prog 188 #[v,.agg #[.int .i64 x,.int .i64 y]] w fun e w'=>∃r:Int,e = .returned (.int .i64 r)/\(0<=r↔PIn n f g x y)/\Below w.heap.size w w':=by
 have D:=A3 t;obtain⟨F,a,c,rfl,K,-⟩:=id t;unfold maxLen at F;clear t;have E:=A9 w (.cells #[.int .i64 x,.int .i64 y] 40);have C:=A3 (Ad.new w (.int .i64 x) (.int .i64 y) 40);go_enter Tryz.func188,Tryz.ntmps188;go_wp2
 go_loopw [8] (fun i wr=>∃k:Nat,k<=n/\i = .int .i64 k/\¬PIn k f g x y/\Ad wr w.heap.size (.int .i64 x) (.int .i64 y)/\Below w.heap.size w wr) (fun i _=>n - (intOf i).toNat)
 case atStart=>exact⟨0,Nat.zero_le _,rfl,fun ⟨j,A,_⟩=>absurd A (Nat.not_lt_zero _),C.out,E⟩
 case round=>
  obtain⟨k,J,rfl,p,z,q⟩:=hrel;have m:=A3 p;have u:=A3 z;clear p z;obtain⟨⟨L,M⟩,⟨N,O⟩⟩:=u.out;by_cases o:k<n
  ·have B:(k:Int)<(n:Int):=(by omega);obtain⟨b,off,rfl,G,q1⟩:=(D.out.A1 q).cellsD o;by_cases d:f k=x/\g k=y
   ·have H:=A3 (show PIn n f g x y from⟨k,o,d.1,d.2⟩);rw[d.1]at G;rw[d.2]at q1;clear d;go_wp2
    go_quiet (fail)
    go_wp2;go_ret;exact⟨k,rfl,⟨fun _=>H.out,fun _=>by omega⟩,Jq q _⟩
   ·have H:=A3 d;have e0:(x == f k)=false\/(x == f k)=true/\(y == g k)=false:=by
     by_cases h:f k=x
     ·right;refine⟨by simp[h],?_⟩;have:¬y=g k:=fun s=>d ⟨h,s.symm⟩
      simp[this]
     ·left;have:¬x=f k:=fun s=>h s.symm
      simp[this]
    clear d;rcases e0 with e0 | ⟨e0,I⟩
    all_goals
     go_wp2
     go_quiet (fail)
     go_wp2;go_roundw
     case rel=>
      refine⟨k+1,by omega,by go_num,?_,u.out.A1 (Jq (Below.refl _ _) _),Jq q _⟩;rintro⟨j,A,l⟩;by_cases e:j=k
      ·subst e;exact H.out ⟨l.1,l.2⟩
      ·exact m.out ⟨j,by omega,l⟩
     case measure=>simp[intOf];omega
  ·obtain rfl:k=n:=(by omega);go_wp2;go_ret;exact⟨-1,rfl,⟨fun h=>absurd h (by decide),fun h=>absurd h m.out⟩,q⟩
theorem YQ(v:Value)(n lo hi:Nat)(f g:Nat->Int)(x y:Int)(w:World)(c:Ay w lo hi v n f g) :
 Calls Tryz.prog 167 #[v,.agg #[.int .i64 x,.int .i64 y]] w fun e w'=>AJ (PIn n f g x y) e/\Below w.heap.size w w':=by
 have h:=A3 c;clear c;have b:=A9 w (.cells #[.int .i64 x,.int .i64 y] 40);obtain⟨⟨k,-⟩,⟨l,-⟩⟩:=Ad.new w (.int .i64 x) (.int .i64 y) 40;go_enter Tryz.func167,Tryz.ntmps167;go_wp2_with fail;refine(zAW v n lo hi f g x y _ (h.out.A1 b)).mono ?_;rintro e m ⟨r,rfl,d,a⟩;have i:=A3 d;have j:=A8 b a;clear d a k l b;go_wp2;go_ret;refine⟨⟨_,rfl,?_⟩,j⟩;have:=i.out;simp only[decide_eq_true_eq];exact this
theorem zBb(v:Value)(n lo hi:Nat)(f g:Nat->Int)(x y:Int)(T:Nat)(w:World)(i:Ay w lo hi v n f g)(j:w.cell? ⟨T,0,none⟩=some v) :
 Calls Tryz.prog 166 #[.agg #[.int .i64 x,.int .i64 y],.pointer (some ⟨T,0,none⟩)] w fun e w'=>AJ (PIn n f g x y) e/\Below w.heap.size w w':=by
 have l:=A3 i;obtain⟨s,a,c,rfl,t,-⟩:=id i;clear i;have h:=A9 w (.cells #[.int .i64 x,.int .i64 y] 40);obtain⟨⟨q,-⟩,⟨r,-⟩⟩:=Ad.new w (.int .i64 x) (.int .i64 y) 40;have k:=(h.cell (p:=⟨T,0,none⟩) (AM j)).trans j;clear j;go_enter Tryz.func166,Tryz.ntmps166;go_wp2_with fail;refine(YQ _ n lo hi f g x y _ (l.out.A1 h)).mono ?_;rintro e z ⟨⟨u,rfl,d⟩,b⟩;have m:=A3 d;have o:=A8 h b;clear d b q r h k;go_wp2;go_ret;exact⟨⟨_,rfl,m.out⟩,o⟩
theorem zAV(v:Value)(n lo hi:Nat)(f g:Nat->Int)(x y:Int)(T:Nat)(w:World)(i:Ay w lo hi v n f g)(j:w.cell? ⟨T,0,none⟩=some v) :
 Calls Tryz.prog 168 #[.agg #[.int .i64 x,.int .i64 y],.pointer (some ⟨T,0,none⟩)] w fun e w'=>AJ (PIn n f g x y) e/\Below w.heap.size w w':=by
 have l:=A3 i;obtain⟨s,a,c,rfl,t,-⟩:=id i;clear i;have h:=A9 w (.cells #[.int .i64 x,.int .i64 y] 40);obtain⟨⟨q,-⟩,⟨r,-⟩⟩:=Ad.new w (.int .i64 x) (.int .i64 y) 40;have k:=(h.cell (p:=⟨T,0,none⟩) (AM j)).trans j;clear j;go_enter Tryz.func168,Tryz.ntmps168;go_wp2_with fail;refine(YQ _ n lo hi f g x y _ (l.out.A1 h)).mono ?_;rintro e z ⟨⟨u,rfl,d⟩,b⟩;have m:=A3 d;have o:=A8 h b;clear d b q r h k;go_wp2;go_ret;exact⟨⟨_,rfl,m.out⟩,o⟩
theorem Ky(q v1 b c:Value)(lo hi:Nat)(W:A4)(xs xb:Int)(w:World)(h:BM w lo hi q v1 b c W)(k:AX W.pool)(l:An W.pool xs xb) :
 Calls Tryz.prog 130 #[Bh q v1 b c W,.agg #[.int .i64 xs,.int .i64 xb]] w fun e w'=>∃v,e = .returned v/\B6 w' w.heap.size v (AE W.pool xs xb)/\Below w.heap.size w w':=by
 have t:=A3 h;have r:=A3 k;have s:=A3 (show Nil xs xb\/BA W.pool xs xb from l.imp id (fun h=>h.1.1));obtain⟨C,f,c0,rfl,y,-⟩:=id h.pool.1;clear h k l;have o:=A9 w (.cells #[.slice f W.pool.n c0,v1,.int .i64 W.time,.int .i64 W.next,b,c] 30);have i:=Af.new w (.slice f W.pool.n c0) v1 (.int .i64 W.time) (.int .i64 W.next) b c 30;have x:(w.alloc (.cells #[.slice f W.pool.n c0,v1,.int .i64 W.time,.int .i64 W.next,b,c] 30)).heap.size=w.heap.size+1:=World.size_alloc _ _;have d:=A9 (w.alloc (.cells #[.slice f W.pool.n c0,v1,.int .i64 W.time,.int .i64 W.next,b,c] 30)) (.cells #[.int .i64 xs,.int .i64 xb] 40);have m:=Ad.new (w.alloc (.cells #[.slice f W.pool.n c0,v1,.int .i64 W.time,.int .i64 W.next,b,c] 30)) (.int .i64 xs) (.int .i64 xb) 40;rw[x]at m;have a:=A8 o d;obtain⟨⟨z,-⟩,⟨A,-⟩,-⟩:=i.A1 d;obtain⟨⟨y0,-⟩,⟨B,-⟩⟩:=m;clear i o d;go_enter Tryz.func130,Tryz.ntmps130;go_wp2_with fail;clear z A y0 B;generalize (w.alloc (.cells #[.slice f W.pool.n c0,v1,.int .i64 W.time,.int .i64 W.next,b,c] 30)).alloc (.cells #[.int .i64 xs,.int .i64 xb] 40)=W0 at a ⊢;refine(Vh W.pool r.out _ lo hi xs xb W0 (t.out.pool.1.A1 a) s.out).mono ?_;rintro e D ⟨v,rfl,p,g⟩;have u:=A3 p;have i:=A8 a g;have j:=a.size;clear p g;go_wp2;go_ret;exact⟨v,rfl,B6.mono u.out j,i⟩
end Go.Proofs.YtnfjcaoclahfjaaGreatDoor
