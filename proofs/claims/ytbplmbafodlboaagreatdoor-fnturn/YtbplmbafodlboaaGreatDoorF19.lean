/- A part of the proof. -/
import Derived.Test.YtbplmbafodlboaaGreatDoorF18
import Derived.Test.YtbplmbafodlboaaGreatDoorF17
set_option linter.unusedVariables false
set_option maxRecDepth 20000
set_option maxHeartbeats 4000000
namespace Go.Proofs.YtbplmbafodlboaaGreatDoor
open Go.RowKit Go.Maps
def zG7(f:Nat->zu):Nat->zu
 | 0=>zBE
 | k+1=>f k
def zLS(W:zC)(i:Nat):Prop:=zBo W (W.zb9 i).set/\zDT (W.zb9 i).name/\(W.zb9 i).zcD<(W.zb9 i).id/\Mid (zG7 W.zb9 i).id (W.zb9 i).id W.next/\Mid (zG7 W.zb9 i).time (W.zb9 i).time W.time
def zV0(W:zC):Prop:=W.pn<=20/\(∀i,i<W.pn->zLS W i)/\zEj W.pn W.zb9
theorem zRj(w:World):(zeroValue 72).run Tryz.prog w = .ok (.agg #[.string ⟨#[]⟩,.int .i64 0,.int .i64 0,.int .i64 0,.int .i64 0,.slice none 0 0]) w:=by kernel_rfl
theorem zVd{W:zC}{vd:Nat->Value}(hd:∀i,i<W.sn->∃a n c,vd i = .slice a n c)(x:ByteArray):∃(s0:ByteArray) (i1 i2 i3 i4:Int) (a:Option Addr) (n c:Nat),(putD (fun i=>zGl (W.zcC i).name) (fun i=>zPn (vd i) (W.zcC i)) W.sn).atKey (zGl x) (.held (.agg #[.string ⟨#[]⟩,.int .i64 0,.int .i64 0,.int .i64 0,.int .i64 0,.slice none 0 0])) = .held (.agg #[.string s0,.int .i64 i1,.int .i64 i2,.int .i64 i3,.int .i64 i4,.slice a n c]):=by
 have hk:zGA (fun i=>zGl (W.zcC i).name):=fun i=>zQk _
 have:∀k,k<=W.sn->∃(s0:ByteArray) (i1 i2 i3 i4:Int) (a:Option Addr) (n c:Nat),(putD (fun i=>zGl (W.zcC i).name) (fun i=>zPn (vd i) (W.zcC i)) k).atKey (zGl x) (.held (.agg #[.string ⟨#[]⟩,.int .i64 0,.int .i64 0,.int .i64 0,.int .i64 0,.slice none 0 0])) = .held (.agg #[.string s0,.int .i64 i1,.int .i64 i2,.int .i64 i3,.int .i64 i4,.slice a n c]):=by
  intro k
  induction k with
  | zero=>exact fun _=>⟨⟨#[]⟩,0,0,0,0,none,0,0,zKA hk _ (fun i hi=>absurd hi (Nat.not_lt_zero _)) _⟩
  | succ k ih=>
   intro aA;by_cases e:zGl (W.zcC k).name=zGl x
   ·obtain⟨a,n,c,hv⟩:=hd k (by omega);refine⟨(W.zcC k).name,(W.zcC k).origin,(W.zcC k).zcD,(W.zcC k).rs,(W.zcC k).rb,a,n,c,?_⟩;rw[<-e];refine(atKey_put_same (zEh hk _ k).isMap (hk k) _ _).trans ?_;show DataW.held (zPn (vd k) (W.zcC k))=_;rw[hv];rfl
   ·obtain⟨s0,i1,i2,i3,i4,a,n,c,h⟩:=ih (by omega);exact⟨s0,i1,i2,i3,i4,a,n,c,(atKey_put_other (Ne.symm e) _ _).trans h⟩
 exact this W.sn (Nat.le_refl _)
theorem zX4{W:zC}{vd:Nat->Value}(x:ByteArray):Maps.has (putD (fun i=>zGl (W.zcC i).name) (fun i=>zPn (vd i) (W.zcC i)) W.sn) (zGl x)=true↔zBo W x:=by
 rw[zHI (fun i=>zQk _)];constructor
 ·rintro⟨i,hi,e⟩;exact⟨i,hi,zWl e⟩
 ·rintro⟨i,hi,e⟩;exact⟨i,hi,by rw[e]⟩
abbrev put8(w:World)(b:Nat)(u0 u1 u2 u3 u4 u5 u6 u7:Value):World:=(((((((w.setCell ⟨b,0,none⟩ u0).setCell ⟨b,1,none⟩ u1).setCell ⟨b,2,none⟩ u2).setCell ⟨b,3,none⟩ u3).setCell ⟨b,4,none⟩ u4).setCell ⟨b,5,none⟩ u5).setCell ⟨b,6,none⟩ u6).setCell ⟨b,7,none⟩ u7
theorem zF7.put{w:World}{b:Nat}{v0 v1 v2 v3 v4 v5 v6 v7:Value}(h:zF7 w b v0 v1 v2 v3 v4 v5 v6 v7)(u0 u1 u2 u3 u4 u5 u6 u7:Value):zF7 (put8 w b u0 u1 u2 u3 u4 u5 u6 u7) b u0 u1 u2 u3 u4 u5 u6 u7:=by
 obtain⟨⟨h0,h1,h2,h3⟩,h4,h5,h6,h7⟩:=h;refine⟨⟨?_,?_,?_,?_⟩,?_,?_,?_,?_⟩
 ·exact(((((((h0.set _).other _ (Or.inr (by omega))).other _ (Or.inr (by omega))).other _ (Or.inr (by omega))).other _ (Or.inr (by omega))).other _ (Or.inr (by omega))).other _ (Or.inr (by omega))).other _ (Or.inr (by omega))
 ·exact(((((((h1.other _ (Or.inr (by omega))).set _).other _ (Or.inr (by omega))).other _ (Or.inr (by omega))).other _ (Or.inr (by omega))).other _ (Or.inr (by omega))).other _ (Or.inr (by omega))).other _ (Or.inr (by omega))
 ·exact(((((((h2.other _ (Or.inr (by omega))).other _ (Or.inr (by omega))).set _).other _ (Or.inr (by omega))).other _ (Or.inr (by omega))).other _ (Or.inr (by omega))).other _ (Or.inr (by omega))).other _ (Or.inr (by omega))
 ·exact(((((((h3.other _ (Or.inr (by omega))).other _ (Or.inr (by omega))).other _ (Or.inr (by omega))).set _).other _ (Or.inr (by omega))).other _ (Or.inr (by omega))).other _ (Or.inr (by omega))).other _ (Or.inr (by omega))
 ·exact(((((((h4.other _ (Or.inr (by omega))).other _ (Or.inr (by omega))).other _ (Or.inr (by omega))).other _ (Or.inr (by omega))).set _).other _ (Or.inr (by omega))).other _ (Or.inr (by omega))).other _ (Or.inr (by omega))
 ·exact(((((((h5.other _ (Or.inr (by omega))).other _ (Or.inr (by omega))).other _ (Or.inr (by omega))).other _ (Or.inr (by omega))).other _ (Or.inr (by omega))).set _).other _ (Or.inr (by omega))).other _ (Or.inr (by omega))
 ·exact(((((((h6.other _ (Or.inr (by omega))).other _ (Or.inr (by omega))).other _ (Or.inr (by omega))).other _ (Or.inr (by omega))).other _ (Or.inr (by omega))).other _ (Or.inr (by omega))).set _).other _ (Or.inr (by omega))
 ·exact(((((((h7.other _ (Or.inr (by omega))).other _ (Or.inr (by omega))).other _ (Or.inr (by omega))).other _ (Or.inr (by omega))).other _ (Or.inr (by omega))).other _ (Or.inr (by omega))).other _ (Or.inr (by omega))).set _
theorem zJ.put8(w:World)(b:Nat)(u0 u1 u2 u3 u4 u5 u6 u7:Value):zJ (fun k=>k=b) w (put8 w b u0 u1 u2 u3 u4 u5 u6 u7):=
 (((((((zJ.put w b 0 u0).trans (zJ.put _ b 1 u1)).trans (zJ.put _ b 2 u2)).trans (zJ.put _ b 3 u3)).trans (zJ.put _ b 4 u4)).trans (zJ.put _ b 5 u5)).trans (zJ.put _ b 6 u6)).trans (zJ.put _ b 7 u7)
theorem zD3.put8{w:World}{W:zC}{M n b:Nat}{vd:Nat->Value}(h:zD3 w W M n vd)(hb:M≠b)(u0 u1 u2 u3 u4 u5 u6 u7:Value):zD3 (Go.Proofs.YtbplmbafodlboaaGreatDoor.put8 w b u0 u1 u2 u3 u4 u5 u6 u7) W M n vd:=
 (((((((World.ownsMap.setCell h hb u0).setCell hb u1).setCell hb u2).setCell hb u3).setCell hb u4).setCell hb u5).setCell hb u6).setCell hb u7
theorem zRy{B:Nat}{w w':World}(h:Below B w w'){b:Nat}(hb:B<=b)(u0 u1 u2 u3 u4 u5 u6 u7:Value):Below B w (put8 w' b u0 u1 u2 u3 u4 u5 u6 u7):=
 (((((((h.setCell hb u0).setCell hb u1).setCell hb u2).setCell hb u3).setCell hb u4).setCell hb u5).setCell hb u6).setCell hb u7
theorem zM8(v0 v1 v2 v3:Value)(lo hi:Nat)(W:zC)(w:World)(h:yQ w lo hi v0 v1 v2 v3 W)(hs:W.sn<=8) :
  Calls Tryz.prog 115 #[zBb v0 v1 v2 v3 W] w fun e w'=>zK (zV0 W) e/\Below w.heap.size w w':=by
 have Hp:=zB h;obtain⟨m1,a,c,rfl,mc,-⟩:=id h.zb9;unfold maxLen at m1;clear h;have ha:=zD w (.cells #[v0,v1,.int .i64 W.time,.int .i64 W.next,v2,.slice a W.pn c] 30);have HB:=zB (zAC.new w v0 v1 (.int .i64 W.time) (.int .i64 W.next) v2 (.slice a W.pn c) 30);obtain⟨x0,x2,x4,x6,x8,iA⟩:=HB.out.c;by_cases hn:W.pn<=20;rotate_left
 ·have dC:(20:Int)<(W.pn:Int):=(by omega);go_enter Tryz.func115,Tryz.ntmps115;go_wp2;go_ret;exact⟨zK.no fun h=>hn h.1,ha⟩
 have dC:¬(20:Int)<(W.pn:Int):=by omega
 go_enter Tryz.func115,Tryz.ntmps115;go_wp2_with fail;clear x0 x2 x4 x6 x8 iA;generalize w.alloc (.cells #[v0,v1,.int .i64 W.time,.int .i64 W.next,v2,.slice a W.pn c] 30)=W0 at ha HB ⊢;refine(zM3 v0 v1 v2 _ lo hi W W0 (Hp.out.zb7 ha) hs).mono ?_;rintro e w1 ⟨vd,rfl,gA,sB,iB⟩;have pB:∀i,i<W.sn->∃a n c,vd i = .slice a n c:=fun i bC=>by
  obtain⟨_,aa,cc,hv,_⟩:=sB i bC;exact⟨aa,_,cc,hv⟩
 have nA:=zB (zVd pB);have mA:=zB (zX4 (W:=W) (vd:=vd));have rA:=zD w1 (.cells #[.int .i64 0,.string ⟨#[]⟩,.string ⟨#[]⟩,.int .i64 0,.int .i64 0,.int .i64 0,.int .i64 0,.slice none 0 0] 75);have cB:=zB ((HB.out.zb7 iB).zb7 rA);have sA:=zB (zF7.new w1 (.int .i64 0) (.string ⟨#[]⟩) (.string ⟨#[]⟩) (.int .i64 0) (.int .i64 0) (.int .i64 0) (.int .i64 0) (.slice none 0 0) 75);have tA:=zB (gA.zb7 rA);have lB:=zB (zA (zA ha iB) rA);have nB:W0.heap.size+1<w1.heap.size:=gA.lt;have mB:=zB (show w.heap.size<W0.heap.size+1 by have:=HB.out.1.lt;omega);clear gA sB pB iB rA ha HB;obtain⟨x0,x2,x4,x6,x8,iA⟩:=cB.out.c;go_wp2;clear x0 x2 x4 x6 x8 iA;obtain⟨L,hL⟩:∃L,L=w1.heap.size:=⟨_,rfl⟩;rw[<-hL]at sA nB ⊢;obtain⟨M,hM⟩:∃M,M=W0.heap.size+1:=⟨_,rfl⟩;rw[<-hM]at tA nB mB ⊢;have fC:w.heap.size<L:=by have:=mB.out;omega
 go_loopw [18] (fun i wr=>∃(k:Nat) (al:Option Addr) (nl cl:Nat),k<=W.pn/\i = .int .i64 k/\(∀j,j<k->zLS W j)/\zF7 wr L (.int .i64 (zG7 W.zb9 k).id) (.string (zG7 W.zb9 k).name) (.string (zG7 W.zb9 k).set) (.int .i64 (zG7 W.zb9 k).zcD) (.int .i64 (zG7 W.zb9 k).time) (.int .i64 (zG7 W.zb9 k).rs) (.int .i64 (zG7 W.zb9 k).rb) (.slice al nl cl)/\zAC wr w.heap.size v0 v1 (.int .i64 W.time) (.int .i64 W.next) v2 (.slice a W.pn c)/\zD3 wr W M W.sn vd/\Below w.heap.size w wr) (fun i _=>W.pn - (intOf i).toNat)
 case atStart=>exact⟨0,none,0,0,Nat.zero_le _,rfl,fun j hj=>absurd hj (Nat.not_lt_zero _),sA.out,cB.out,tA.out,lB.out⟩
 case round=>
  clear sA cB tA lB hL hM;obtain⟨k,al,nl,cl,hk,rfl,oA,hV,hX,hM,hb⟩:=hrel;have lA:=zB oA;have HV:=zB hV;have HX:=zB hX;have HM:=zB hM;clear oA hV hX hM;obtain⟨x0,x2,x4,x6,x8,iA⟩:=HX.out.c;by_cases fA:k<W.pn
  ·have cC:(k:Int)<(W.pn:Int):=(by omega);obtain⟨b,off,iC,rfl,cA⟩:=(Hp.out.zb9.zb7 hb).cells fA;obtain⟨-,ad,cd,rfl,-,-⟩:=id cA.dead;obtain⟨s0,i1,i2,i3,i4,sa,sn,sc,oB⟩:=nA.out (W.zb9 k).set;have fB:=zB oB;have dA:=zB (zTY cA.zcG.2);have eC:=cA.zcG.1;clear oB;have vB:wr.heap.size≠L:=(by have:=HV.out.1.1.lt;omega);have jA:=zD wr (.cells #[.int .i64 (W.zb9 k).id,.string (W.zb9 k).name,.string (W.zb9 k).set,.int .i64 (W.zb9 k).zcD,.int .i64 (W.zb9 k).time,.int .i64 (W.zb9 k).rs,.int .i64 (W.zb9 k).rb,.slice ad (W.zb9 k).dn cd] 75);have kA:=zD (wr.alloc (.cells #[.int .i64 (W.zb9 k).id,.string (W.zb9 k).name,.string (W.zb9 k).set,.int .i64 (W.zb9 k).zcD,.int .i64 (W.zb9 k).time,.int .i64 (W.zb9 k).rs,.int .i64 (W.zb9 k).rb,.slice ad (W.zb9 k).dn cd] 75)) (.cells #[.string s0,.int .i64 i1,.int .i64 i2,.int .i64 i3,.int .i64 i4,.slice sa sn sc] 72);have aB:=zB (zF7.new wr (.int .i64 (W.zb9 k).id) (.string (W.zb9 k).name) (.string (W.zb9 k).set) (.int .i64 (W.zb9 k).zcD) (.int .i64 (W.zb9 k).time) (.int .i64 (W.zb9 k).rs) (.int .i64 (W.zb9 k).rb) (.slice ad (W.zb9 k).dn cd) 75);have vA:=zB (HM.out.zb7 jA);have pA:=zB (aB.out.zb7 kA);have bB:=zB ((HV.out.zb7 jA).zb7 kA);have eB:=zB ((HX.out.zb7 jA).zb7 kA);have kB:=zB ((HM.out.zb7 jA).zb7 kA);have eA:=zA (zA hb jA) kA;have jB:((wr.alloc (.cells #[.int .i64 (W.zb9 k).id,.string (W.zb9 k).name,.string (W.zb9 k).set,.int .i64 (W.zb9 k).zcD,.int .i64 (W.zb9 k).time,.int .i64 (W.zb9 k).rs,.int .i64 (W.zb9 k).rb,.slice ad (W.zb9 k).dn cd] 75)).alloc (.cells #[.string s0,.int .i64 i1,.int .i64 i2,.int .i64 i3,.int .i64 i4,.slice sa sn sc] 72)).heap.size=wr.heap.size+2:=(by rw[World.size_alloc,World.size_alloc]);have q0:=cA.c0;have q1:=cA.c1;have q2:=cA.c2;have q3:=cA.c3;have q4:=cA.c4;have q5:=cA.c5;have q6:=cA.c6;have q7:=cA.c7;obtain⟨⟨⟨y0,-⟩,⟨y1,-⟩,⟨y2,-⟩,⟨y3,-⟩⟩,⟨y4,-⟩,⟨y5,-⟩,⟨y6,-⟩,⟨y7,-⟩⟩:=aB.out;obtain⟨⟨⟨z0,-⟩,⟨z1,-⟩,⟨z2,-⟩,⟨z3,-⟩⟩,⟨z4,-⟩,⟨z5,-⟩,⟨z6,-⟩,⟨z7,-⟩⟩:=pA.out;clear cA;by_cases bA:zBo W (W.zb9 k).set;rotate_left
   ·have Hc:=zB (show Maps.has (putD (fun i=>zGl (W.zcC i).name) (fun i=>zPn (vd i) (W.zcC i)) W.sn) (zGl (W.zb9 k).set)=false by rw[Bool.eq_false_iff];exact fun h=>bA ((mA.out _).1 h));have Hn:=zB (show ¬zLS W k from fun h=>bA h.1);clear bA;go_wp2_with (first
     | (at_lookup;refine zEL _ rfl _ _ 183 rfl 9 72 zaq zX3 (zRj _) M W.sn _ rfl vA.out _ _ rfl dA.out _ fB.out false Hc.out ?_)
     | go_in)
    go_ret;exact⟨zK.no fun h=>Hn.out (h.2.1 k fA),eA⟩
   have gB:=zB bA;have Hc:=zB ((mA.out _).2 bA);clear bA;go_wp2_with (first
    | (at_lookup;refine zEL _ rfl _ _ 183 rfl 9 72 zaq zX3 (zRj _) M W.sn _ rfl vA.out _ _ rfl dA.out _ fB.out true Hc.out ?_)
    | fail)
   clear x0 x2 x4 x6 x8 iA y0 y1 y2 y3 y4 y5 y6 y7 z0 z1 z2 z3 z4 z5 z6 z7 q0 q1 q2 q3 q4 q5 q6 q7 aB vA HV HX HM hb jA kA dA fB Hc;generalize (wr.alloc (.cells #[.int .i64 (W.zb9 k).id,.string (W.zb9 k).name,.string (W.zb9 k).set,.int .i64 (W.zb9 k).zcD,.int .i64 (W.zb9 k).time,.int .i64 (W.zb9 k).rs,.int .i64 (W.zb9 k).rb,.slice ad (W.zb9 k).dn cd] 75)).alloc (.cells #[.string s0,.int .i64 i1,.int .i64 i2,.int .i64 i3,.int .i64 i4,.slice sa sn sc] 72)=W2 at pA bB eB kB eA jB ⊢;generalize wr.heap.size=V8 at pA vB ⊢;obtain⟨x0,x2,x4,x6,x8,iA⟩:=eB.out.c;obtain⟨⟨⟨z0,-⟩,⟨z1,-⟩,⟨z2,-⟩,⟨z3,-⟩⟩,⟨z4,-⟩,⟨z5,-⟩,⟨z6,-⟩,⟨z7,-⟩⟩:=pA.out;obtain⟨⟨⟨l0,m0⟩,⟨l1,n1⟩,⟨l2,n2⟩,⟨l3,n3⟩⟩,⟨l4,n4⟩,⟨l5,n5⟩,⟨l6,n6⟩,⟨l7,n7⟩⟩:=bB.out;refine(zJE (W.zb9 k).name _ eC).mono ?_;rintro e wn ⟨⟨tn,rfl,aA⟩,rfl⟩;by_cases hA:zDT (W.zb9 k).name;rotate_left
   ·have Hn:=zB (show ¬zLS W k from fun h=>hA h.2.1);obtain rfl:tn=false:=zAG aA hA;clear aA hA;go_wp2;go_ret;exact⟨zK.no fun h=>Hn.out (h.2.1 k fA),eA⟩
   have HA:=zB hA;obtain rfl:tn=true:=aA.2 hA;clear aA hA;by_cases hg:(W.zb9 k).id<=(W.zb9 k).zcD
   ·have Hn:=zB (show ¬zLS W k from fun h=>by have:=h.2.2.1;omega);go_wp2;go_ret;exact⟨zK.no fun h=>Hn.out (h.2.1 k fA),eA⟩
   have Hg:=zB (show(W.zb9 k).zcD<(W.zb9 k).id by omega);go_wp2_with fail;clear hg;refine(zKR _ _ _ _).mono ?_;rintro e wn ⟨⟨tn,rfl,aA⟩,rfl⟩;by_cases hB:Mid (zG7 W.zb9 k).id (W.zb9 k).id W.next;rotate_left
   ·have Hn:=zB (show ¬zLS W k from fun h=>hB h.2.2.2.1);obtain rfl:tn=false:=zAG aA hB;clear aA hB;go_wp2;go_ret;exact⟨zK.no fun h=>Hn.out (h.2.1 k fA),eA⟩
   have HB:=zB hB;obtain rfl:tn=true:=aA.2 hB;clear aA hB;go_wp2_with fail;refine(zKR _ _ _ _).mono ?_;rintro e wn ⟨⟨tn,rfl,aA⟩,rfl⟩;by_cases hB:Mid (zG7 W.zb9 k).time (W.zb9 k).time W.time;rotate_left
   ·have Hn:=zB (show ¬zLS W k from fun h=>hB h.2.2.2.2);obtain rfl:tn=false:=zAG aA hB;clear aA hB;go_wp2;go_ret;exact⟨zK.no fun h=>Hn.out (h.2.1 k fA),eA⟩
   have tB:=zB hB;obtain rfl:tn=true:=aA.2 hB;clear aA hB;go_wp2;go_roundw
   case rel=>exact⟨k+1,_,_,_,by omega,by go_num,qz fA lA.out ⟨gB.out,HA.out,Hg.out,HB.out,tB.out⟩,bB.out.put _ _ _ _ _ _ _ _,eB.out.zb8 (zJ.put8 _ L _ _ _ _ _ _ _ _) (by omega),kB.out.put8 (by omega) _ _ _ _ _ _ _ _,zRy eA (by omega) _ _ _ _ _ _ _ _⟩
   case measure=>simp[intOf];omega
  ·obtain rfl:k=W.pn:=(by omega);go_wp2_with fail;clear x0 x2 x4 x6 x8 iA;refine(zMh _ W.pn lo hi W.zb9 _ (Hp.out.zb9.zb7 hb) hn).mono ?_;rintro e w6 ⟨⟨t6,rfl,rB⟩,aC⟩;have Ht:=zB rB;clear rB;go_wp2;go_ret;exact⟨⟨t6,rfl,Ht.out.trans ⟨fun hA=>⟨hn,lA.out,hA⟩,fun hA=>hA.2.2⟩⟩,zA hb aC⟩
def zFC(W:zC):Prop:=∀i,i<W.pn->∀j,j<i->(W.zb9 j).id≠(W.zb9 i).id
def zDQ(w:World)(lo hi:Nat)(W:zC)(A:Nat):Prop:=∃M vd,zg w A 0 (.map (some M))/\zEo w W M W.pn vd/\zHT w lo hi W.pn W.zb9 vd
abbrev zJr(A:Nat):Value:=.func (.func 144) #[] #[.pointer (some ⟨A,0,none⟩)]
theorem zDQ.zb7{w w':World}{lo hi:Nat}{W:zC}{A:Nat}(h:zDQ w lo hi W A)(t:Below w.heap.size w w'):zDQ w' lo hi W A:=by
 obtain⟨M,vd,h1,h2,h3⟩:=h;exact⟨M,vd,h1.zb7 t,h2.zb7 t,fun i aA=>(h3 i aA).zb7 t⟩
theorem zVm(w:World):(zeroValue 75).run Tryz.prog w = .ok (.agg #[.int .i64 0,.string ⟨#[]⟩,.string ⟨#[]⟩,.int .i64 0,.int .i64 0,.int .i64 0,.int .i64 0,.slice none 0 0]) w:=by kernel_rfl
theorem zSz{W:zC}{w:World}{lo hi:Nat}{vd:Nat->Value}(hD:zFC W)(hd:zHT w lo hi W.pn W.zb9 vd)(x:Int):∃a c,(putD (fun i=>zPK (W.zb9 i).id) (fun i=>zDk (vd i) (W.zb9 i)) W.pn).atKey (zPK x) (.held (.agg #[.int .i64 0,.string ⟨#[]⟩,.string ⟨#[]⟩,.int .i64 0,.int .i64 0,.int .i64 0,.int .i64 0,.slice none 0 0])) = .held (zDk (.slice a (zI W x).dn c) (zI W x))/\qi w lo hi (.slice a (zI W x).dn c) (zI W x).dn (zI W x).ds (zI W x).db:=by
 have hk:zGA (fun i=>zPK (W.zb9 i).id):=fun i=>zWk _
 by_cases hx:∃k,zBQ W x k
 ·obtain⟨k,aA⟩:=hx;rw[zBr aA];have hp:=hd k aA.1;obtain⟨_,a,c,hv,_⟩:=id hp;refine⟨a,c,?_,by rw[<-hv];exact hp⟩;have:=zPi hk (fun i=>zDk (vd i) (W.zb9 i)) (.held (.agg #[.int .i64 0,.string ⟨#[]⟩,.string ⟨#[]⟩,.int .i64 0,.int .i64 0,.int .i64 0,.int .i64 0,.slice none 0 0])) W.pn k aA.1 (fun j h1 h2 e=>hD j h2 k h1 (zQj e).symm);rw[aA.2.1]at this;rw[this,hv]
 ·have e:zI W x=zBE:=(by unfold zI;rw[dif_neg hx]);rw[e];refine⟨none,0,?_,⟨Nat.zero_le _,none,0,rfl,Nat.le_refl _,fun h=>absurd h (by simp[zBE])⟩⟩;refine zKA hk _ (fun i bA e2=>?_) _;exact hx (zKG (Nat.le_refl _) ⟨i,bA,zQj e2⟩)
theorem zEd(lo hi:Nat)(W:zC)(A:Nat)(x:Int)(w:World)(h:zDQ w lo hi W A)(hD:zFC W)(hx:(Lit.int .i64 x).wf=true)(hn:W.pn<=20) :
  Calls Tryz.prog 144 #[.int .i64 x,.pointer (some ⟨A,0,none⟩)] w fun e w'=>∃a c,e = .returned (zDk (.slice a (zI W x).dn c) (zI W x))/\qi w lo hi (.slice a (zI W x).dn c) (zI W x).dn (zI W x).ds (zI W x).db/\Below w.heap.size w w':=by
 obtain⟨M,vd,hc,hm,hd⟩:=h;obtain⟨a,c,eA,hp⟩:=zSz hD hd x;have dA:=zB eA;have fA:=zB hp;have aA:=zB (zTX hx);clear eA hp hd hx;unfold zDk at dA ⊢;generalize zI W x=S at *;have bA:=zD w (.cells #[.int .i64 0,.string ⟨#[]⟩,.string ⟨#[]⟩,.int .i64 0,.int .i64 0,.int .i64 0,.int .i64 0,.slice none 0 0] 75);have HM:=zB (hm.zb7 bA);obtain⟨x0,-⟩:=hc.zb7 bA;have cA:=zD w (.cells #[.int .i64 S.id,.string S.name,.string S.set,.int .i64 S.zcD,.int .i64 S.time,.int .i64 S.rs,.int .i64 S.rb,.slice a S.dn c] 75);obtain⟨⟨⟨y0,-⟩,⟨y1,-⟩,⟨y2,-⟩,⟨y3,-⟩⟩,⟨y4,-⟩,⟨y5,-⟩,⟨y6,-⟩,⟨y7,-⟩⟩:=zF7.new w (.int .i64 S.id) (.string S.name) (.string S.set) (.int .i64 S.zcD) (.int .i64 S.time) (.int .i64 S.rs) (.int .i64 S.rb) (.slice a S.dn c) 75;clear hm hc bA;go_enter Tryz.func144,Tryz.ntmps144;go_wp2_with (first
  | (at_lookup;refine zJg _ rfl _ _ 188 rfl 2 75 zbO zX6 (zVm _) M W.pn _ rfl HM.out _ _ rfl aA.out _ dA.out ?_)
  | go_in)
 refine bodyPost_ret (v:=.agg #[.int .i64 S.id,.string S.name,.string S.set,.int .i64 S.zcD,.int .i64 S.time,.int .i64 S.rs,.int .i64 S.rb,.slice a S.dn c]) (by simp[results,Tryz.results144,go_sem,y0,y1,y2,y3,y4,y5,y6,y7]) rfl ⟨a,c,rfl,fA.out,cA⟩
theorem zP7(v0 v1 v2 v3:Value)(lo hi:Nat)(W:zC)(w:World)(h:yQ w lo hi v0 v1 v2 v3 W)(hn:W.pn<=20)(eA:zVt W.pn W.zb9) :
  Calls Tryz.prog 117 #[zBb v0 v1 v2 v3 W] w fun e w'=>∃A,e = .returned (zJr A)/\zDQ w' lo hi W A/\Below w.heap.size w w':=by
 have Hp:=zB h;clear h;have gA:∀(fn:Fn) (first cap:Array Value) (w:World),(Instr.makeFunc fn first cap).run Tryz.prog w = .ok (.func fn first cap) w:=fun _ _ _ _=>rfl
 have ha:=zD w (.cells #[v0,v1,.int .i64 W.time,.int .i64 W.next,v2,v3] 30);obtain⟨x0,x2,x4,x6,x8,fA⟩:=(zAC.new w v0 v1 (.int .i64 W.time) (.int .i64 W.next) v2 v3 30).c;go_enter Tryz.func117,Tryz.ntmps117;go_wp2_with fail;clear x0 x2 x4 x6 x8 fA;generalize w.alloc (.cells #[v0,v1,.int .i64 W.time,.int .i64 W.next,v2,v3] 30)=W0 at ha ⊢;refine(zNm v0 v1 v2 v3 lo hi W W0 (Hp.out.zb7 ha) hn eA).mono ?_;rintro e w1 ⟨vd,rfl,hm,hd,bA⟩;have aA:=zD w1 (.cells #[.map (some (W0.heap.size+1))] 188);have hc:zg (w1.alloc (.cells #[.map (some (W0.heap.size+1))] 188)) w1.heap.size 0 (.map (some (W0.heap.size+1))):=zG (heap_alloc_new _ _) rfl;have HA:=zB (show zDQ (w1.alloc (.cells #[.map (some (W0.heap.size+1))] 188)) lo hi W w1.heap.size from⟨_,vd,hc,hm.zb7 aA,fun i dA=>((hd i dA).zb7 bA).zb7 aA⟩);have cA:=zA (zA ha bA) aA;clear hm hd bA aA hc;go_wp2;go_ret;exact⟨_,rfl,HA.out,cA⟩
def zTv(vd:Value)(m:zHp):List Value:=[.int .i64 m.zcD,.int .i64 m.time,.int .i64 m.rs,.int .i64 m.rb,vd]
def mrow(W:zC)(vd:Nat->Value):Nat->List Value
 | 0=>[]
 | k+1=>mrow W vd k ++ zTv (vd k) (zL W k)
theorem zJR(W:zC)(vd:Nat->Value):∀n,(mrow W vd n).length=n*5
 | 0=>rfl
 | n+1=>by simp[mrow,zJR W vd n,zTv];omega
theorem zFt{W:zC}{vd:Nat->Value}:∀{n i j:Nat},i<n->j<5->(mrow W vd n)[i*5+j]?=(zTv (vd i) (zL W i))[j]?
 | 0,i,j,hi,_=>absurd hi (Nat.not_lt_zero _)
 | n+1,i,j,hi,hj=>by
  unfold mrow;by_cases e:i=n
  ·subst e;rw[List.getElem?_append_right (by rw[zJR];omega),zJR,show i*5+j - i*5=j by omega]
  ·rw[List.getElem?_append_left (by rw[zJR];omega),zFt (by omega) hj]
def zLJ(w:World)(lo hi:Nat)(W:zC)(vd:Nat->Value):Prop:=∀i,i<zt W->qi w lo hi (vd i) (zL W i).dn (zL W i).ds (zL W i).db
def zIF(w:World)(base:Nat)(v:Value)(W:zC)(vd:Nat->Value)(n:Nat):Prop:=w.ownsRow base 193 5 v n (mrow W vd n)
theorem zIF.zb7{w w1:World}{base:Nat}{v:Value}{W:zC}{vd:Nat->Value}{n:Nat}(h:zIF w base v W vd n)(hb:Below w.heap.size w w1):zIF w1 base v W vd n:=
 h.kept (zCo hb none) (by cases v.ownBlock<;>simp)
theorem zIF.lt{w:World}{base:Nat}{v:Value}{W:zC}{vd:Nat->Value}{n:Nat}(h:zIF w base v W vd n){q:Nat}(hq:v.ownBlock=some q):base<=q/\q<w.heap.size:=by
 rcases h.2 with⟨rfl,_⟩ | ⟨g,cap,aA,rfl,hb,hg,_⟩
 ·simp[Value.ownBlock]at hq
 ·simp only[Value.ownBlock,Option.some.injEq]at hq;subst hq;exact⟨hb,(Array.getElem?_eq_some_iff.1 hg).1⟩
theorem zIF.next{w2:World}{base g cap:Nat}{W:zC}{vd:Nat->Value}{n:Nat}(h:w2.ownsRow base 193 5 (.slice (some ⟨g,0,none⟩) (n+1) cap) (n+1) (mrow W vd n ++ zTv (vd n) (zL W n))):zIF w2 base (.slice (some ⟨g,0,none⟩) (n+1) cap) W vd (n+1):=h
structure zID (w:World) (lo hi:Nat) (v:Value) (W:zC) (vd:Nat->Value):Prop where
 zcF:∃a c,v = .slice a (zt W) c/\zt W<=c
 cells:∀i,i<zt W->∃g c,v = .slice (some ⟨g,0,none⟩) (zt W) c/\w.cell? ⟨g,i*5,none⟩=some (.int .i64 (zL W i).zcD)/\w.cell? ⟨g,i*5+1,none⟩=some (.int .i64 (zL W i).time)/\w.cell? ⟨g,i*5+2,none⟩=some (.int .i64 (zL W i).rs)/\w.cell? ⟨g,i*5+3,none⟩=some (.int .i64 (zL W i).rb)/\w.cell? ⟨g,i*5+4,none⟩=some (vd i)
 dead:zLJ w lo hi W vd
theorem zID.zb7{w w1:World}{lo hi:Nat}{v:Value}{W:zC}{vd:Nat->Value}(h:zID w lo hi v W vd)(t:Below w.heap.size w w1):zID w1 lo hi v W vd where
 zcF:=h.zcF
 cells:=fun i aA=>by
  obtain⟨g,c,e,h0,h1,h2,h3,h4⟩:=h.cells i aA;exact⟨g,c,e,(t.cell (zH h0)).trans h0,(t.cell (zH h1)).trans h1,(t.cell (zH h2)).trans h2,(t.cell (zH h3)).trans h3,(t.cell (zH h4)).trans h4⟩
 dead:=fun i aA=>(h.dead i aA).zb7 t
theorem zIF.at{w:World}{base lo hi:Nat}{v:Value}{W:zC}{vd:Nat->Value}(h:zIF w base v W vd (zt W))(hd:zLJ w lo hi W vd):zID w lo hi v W vd where
 zcF:=qf h
 cells:=fun i bA=>by
  obtain⟨g,cap,e,cA,hb,dA,aA⟩:=zC4 h (by omega);refine⟨g,cap,e,?_,?_,?_,?_,?_⟩
  ·exact(aA (i*5) _ (by have:=zFt (W:=W) (vd:=vd) bA (show 0<5 by omega);rw[Nat.add_zero]at this;rw[this];rfl)).1
  ·exact(aA (i*5+1) _ (by rw[zFt bA (by omega)];rfl)).1
  ·exact(aA (i*5+2) _ (by rw[zFt bA (by omega)];rfl)).1
  ·exact(aA (i*5+3) _ (by rw[zFt bA (by omega)];rfl)).1
  ·exact(aA (i*5+4) _ (by rw[zFt bA (by omega)];rfl)).1
 dead:=hd
theorem zYu:(Tryz.prog.info? 193).map (fun i=>(i.zero,i.size,i.bytes))=some (some (.agg #[.int .i64 0,.int .i64 0,.int .i64 0,.int .i64 0,.slice none 0 0]),5,56):=by kernel_rfl
theorem zFZ(v0 v1 v2 v3:Value)(lo hi:Nat)(W:zC)(w:World)(h:yQ w lo hi v0 v1 v2 v3 W)(hs:W.sn<=8)(hp:W.pn<=20) :
  Calls Tryz.prog 145 #[zBb v0 v1 v2 v3 W] w fun e w'=>∃v vd,e = .returned v/\zID w' lo hi v W vd/\Below w.heap.size w w':=by
 have Hp:=zB h;obtain⟨m1,a,c,rfl,mc,-⟩:=id h.zb9;obtain⟨m2,a',c',rfl,fC,-⟩:=id h.zcC;unfold maxLen at m1 m2;obtain⟨vs,oB,iB⟩:=h.zb9.vals;obtain⟨vt,pB,jB⟩:=h.zcC.vals;have cC:∃vd:Nat->Value,(∀i,i<W.pn->vd i=vs i)/\(∀i,i<W.sn->vd (W.pn+i)=vt i)/\zLJ w lo hi W vd:=by
  refine⟨fun i=>if i<W.pn then vs i else vt (i - W.pn),fun i lA=>if_pos lA,fun i lA=>?_,fun i lA=>?_⟩
  ·show(if W.pn+i<W.pn then vs (W.pn+i)else vt (W.pn+i - W.pn))=vt i;rw[if_neg (by omega),show W.pn+i - W.pn=i by omega]
  ·show qi w lo hi (if i<W.pn then vs i else vt (i - W.pn)) _ _ _;by_cases pA:i<W.pn
   ·rw[if_pos pA,yW pA];exact oB i pA
   ·have e:=zBF W (i - W.pn);rw[show W.pn+(i - W.pn)=i by omega]at e;rw[if_neg pA,e];unfold zt at lA;exact pB _ (by omega)
 obtain⟨vd,kB,lB,mB⟩:=cC;have sB:=zB iB;have tB:=zB jB;have vB:=zB kB;have aC:=zB lB;have bC:=zB mB;clear h oB iB pB jB kB lB mB;obtain⟨i0,nB,fB⟩:=Option.map_eq_some_iff.1 zYu;simp only[Prod.mk.injEq]at fB;have HI:=zB (And.intro nB fB);clear nB fB;have ha:=zD w (.cells #[v0,v1,.int .i64 W.time,.int .i64 W.next,.slice a' W.sn c',.slice a W.pn c] 30);have HB:=zB (zAC.new w v0 v1 (.int .i64 W.time) (.int .i64 W.next) (.slice a' W.sn c') (.slice a W.pn c) 30);obtain⟨x0,x2,x4,x6,x8,gB⟩:=HB.out.c;go_enter Tryz.func145,Tryz.ntmps145;go_wp2;clear x0 x2 x4 x6 x8 gB
 go_loopw [3,11] (fun v i wr=>∃k:Nat,k<=W.pn/\i = .int .i64 k/\zIF wr (w.heap.size+1) v W vd k/\zAC wr w.heap.size v0 v1 (.int .i64 W.time) (.int .i64 W.next) (.slice a' W.sn c') (.slice a W.pn c)/\Below w.heap.size w wr) (fun _ i _=>W.pn - (intOf i).toNat)
 case atStart=>exact⟨0,Nat.zero_le _,rfl,World.ownsRow_nil _ _ _ _,HB.out,ha⟩
 case round=>
  clear HB ha;obtain⟨k,hk,rfl,gA,hX,hb⟩:=hrel;have cA:=zB gA;have HX:=zB hX;clear gA hX;by_cases jA:k<W.pn
  ·have bB:(k:Int)<(W.pn:Int):=(by omega);obtain⟨b,off,rfl,oA⟩:=sB.out k jA;have bA:=oA.zb7 hb;rw[<-vB.out k jA]at bA;obtain⟨-,ad,cd,kA,-,-⟩:=id bA.dead;have tA:=zB kA;rw[kA]at bA;clear kA oA;have iA:=zD wr (.cells #[.int .i64 (W.zb9 k).id,.string (W.zb9 k).name,.string (W.zb9 k).set,.int .i64 (W.zb9 k).zcD,.int .i64 (W.zb9 k).time,.int .i64 (W.zb9 k).rs,.int .i64 (W.zb9 k).rb,.slice ad (W.zb9 k).dn cd] 75);have rA:=zB (zF7.new wr (.int .i64 (W.zb9 k).id) (.string (W.zb9 k).name) (.string (W.zb9 k).set) (.int .i64 (W.zb9 k).zcD) (.int .i64 (W.zb9 k).time) (.int .i64 (W.zb9 k).rs) (.int .i64 (W.zb9 k).rb) (.slice ad (W.zb9 k).dn cd) 75);have eA:=zD (wr.alloc (.cells #[.int .i64 (W.zb9 k).id,.string (W.zb9 k).name,.string (W.zb9 k).set,.int .i64 (W.zb9 k).zcD,.int .i64 (W.zb9 k).time,.int .i64 (W.zb9 k).rs,.int .i64 (W.zb9 k).rb,.slice ad (W.zb9 k).dn cd] 75)) (.cells #[.int .i64 (W.zb9 k).zcD,.int .i64 (W.zb9 k).time,.int .i64 (W.zb9 k).rs,.int .i64 (W.zb9 k).rb,.slice ad (W.zb9 k).dn cd] 193);have HN:=zB (World.news_of_block (heap_alloc_last (wr.alloc (.cells #[.int .i64 (W.zb9 k).id,.string (W.zb9 k).name,.string (W.zb9 k).set,.int .i64 (W.zb9 k).zcD,.int .i64 (W.zb9 k).time,.int .i64 (W.zb9 k).rs,.int .i64 (W.zb9 k).rb,.slice ad (W.zb9 k).dn cd] 75)) (.cells #[.int .i64 (W.zb9 k).zcD,.int .i64 (W.zb9 k).time,.int .i64 (W.zb9 k).rs,.int .i64 (W.zb9 k).rb,.slice ad (W.zb9 k).dn cd] 193)));have dA:=zB ((cA.out.zb7 iA).zb7 eA);have sA:=zB ((HX.out.zb7 iA).zb7 eA);have mA:=zA (zA hb iA) eA;have dC:=HX.out.1.lt;have eB:(wr.alloc (.cells #[.int .i64 (W.zb9 k).id,.string (W.zb9 k).name,.string (W.zb9 k).set,.int .i64 (W.zb9 k).zcD,.int .i64 (W.zb9 k).time,.int .i64 (W.zb9 k).rs,.int .i64 (W.zb9 k).rb,.slice ad (W.zb9 k).dn cd] 75)).heap.size=wr.heap.size+1:=World.size_alloc _ _;have eC:=eA.size;rw[eB]at HN;have q0:=bA.c0;have q1:=bA.c1;have q2:=bA.c2;have q3:=bA.c3;have q4:=bA.c4;have q5:=bA.c5;have q6:=bA.c6;have q7:=bA.c7;obtain⟨⟨⟨y0,-⟩,⟨y1,-⟩,⟨y2,-⟩,⟨y3,-⟩⟩,⟨y4,-⟩,⟨y5,-⟩,⟨y6,-⟩,⟨y7,-⟩⟩:=rA.out;clear bA iA eA cA HX;go_wp2_with (first
    | (at_builtin;refine wpList_append_lies _ rfl _ _ 190 rfl (w.heap.size+1) 193 i0 (.agg #[.int .i64 0,.int .i64 0,.int .i64 0,.int .i64 0,.slice none 0 0]) 5 56 (by kernel_rfl) HI.out.1 HI.out.2.1 HI.out.2.2.1 HI.out.2.2.2 rfl (by decide) _ _ _ rfl dA.out ⟨wr.heap.size+1,0,none⟩ 1 1 [.int .i64 (W.zb9 k).zcD,.int .i64 (W.zb9 k).time,.int .i64 (W.zb9 k).rs,.int .i64 (W.zb9 k).rb,.slice ad (W.zb9 k).dn cd] rfl rfl HN.out (by simp[Value.oneCell']) (by decide) (by unfold maxLen;omega) (by omega) (by omega) _ rfl ?_;intro g' vA w8 fA aA aB cB)
    | go_in)
   go_roundw
   case rel=>
    have nA:∀q,Value.ownBlock _=some q->w.heap.size+1<=q:=fun q hq=>(dA.out.lt hq).1
    refine⟨k+1,by omega,by go_num,?_,sA.out.grown aA (fun q hq=>by have:=nA q hq;omega),mA.grown aA mA.size (fun q hq=>by have:=nA q hq;omega)⟩;refine zIF.next ?_;rw[yW jA,tA.out];exact fA
   case measure=>simp[intOf];omega
  ·obtain rfl:k=W.pn:=(by omega);obtain⟨x0,x2,x4,x6,x8,gB⟩:=HX.out.c;go_wp2;clear x0 x2 x4 x6 x8 gB
   go_loopw [3,31] (fun v i wr=>∃k:Nat,k<=W.sn/\i = .int .i64 k/\zIF wr (w.heap.size+1) v W vd (W.pn+k)/\zAC wr w.heap.size v0 v1 (.int .i64 W.time) (.int .i64 W.next) (.slice a' W.sn c') (.slice a W.pn c)/\Below w.heap.size w wr) (fun _ i _=>W.sn - (intOf i).toNat)
   case atStart=>exact⟨0,Nat.zero_le _,rfl,cA.out,HX.out,hb⟩
   case round=>
    clear HX hb cA hk jA;obtain⟨k,hk,rfl,gA,hX,hb⟩:=hrel;have cA:=zB gA;have HX:=zB hX;clear gA hX;by_cases jA:k<W.sn
    ·have bB:(k:Int)<(W.sn:Int):=(by omega);obtain⟨b,off,rfl,oA⟩:=tB.out k jA;have bA:=oA.zb7 hb;rw[<-aC.out k jA]at bA;obtain⟨-,ad,cd,kA,-,-⟩:=id bA.dead;have tA:=zB kA;rw[kA]at bA;clear kA oA;have iA:=zD wr (.cells #[.string (W.zcC k).name,.int .i64 (W.zcC k).origin,.int .i64 (W.zcC k).zcD,.int .i64 (W.zcC k).rs,.int .i64 (W.zcC k).rb,.slice ad (W.zcC k).dn cd] 72);have rA:=zB (zAC.new wr (.string (W.zcC k).name) (.int .i64 (W.zcC k).origin) (.int .i64 (W.zcC k).zcD) (.int .i64 (W.zcC k).rs) (.int .i64 (W.zcC k).rb) (.slice ad (W.zcC k).dn cd) 72);have rB:=zB (HX.out.zb7 iA);have eA:=zD (wr.alloc (.cells #[.string (W.zcC k).name,.int .i64 (W.zcC k).origin,.int .i64 (W.zcC k).zcD,.int .i64 (W.zcC k).rs,.int .i64 (W.zcC k).rb,.slice ad (W.zcC k).dn cd] 72)) (.cells #[.int .i64 (W.zcC k).zcD,.int .i64 W.time,.int .i64 (W.zcC k).rs,.int .i64 (W.zcC k).rb,.slice ad (W.zcC k).dn cd] 193);have HN:=zB (World.news_of_block (heap_alloc_last (wr.alloc (.cells #[.string (W.zcC k).name,.int .i64 (W.zcC k).origin,.int .i64 (W.zcC k).zcD,.int .i64 (W.zcC k).rs,.int .i64 (W.zcC k).rb,.slice ad (W.zcC k).dn cd] 72)) (.cells #[.int .i64 (W.zcC k).zcD,.int .i64 W.time,.int .i64 (W.zcC k).rs,.int .i64 (W.zcC k).rb,.slice ad (W.zcC k).dn cd] 193)));have dA:=zB ((cA.out.zb7 iA).zb7 eA);have sA:=zB ((HX.out.zb7 iA).zb7 eA);have mA:=zA (zA hb iA) eA;have dC:=HX.out.1.lt;have eB:(wr.alloc (.cells #[.string (W.zcC k).name,.int .i64 (W.zcC k).origin,.int .i64 (W.zcC k).zcD,.int .i64 (W.zcC k).rs,.int .i64 (W.zcC k).rb,.slice ad (W.zcC k).dn cd] 72)).heap.size=wr.heap.size+1:=World.size_alloc _ _;have eC:=eA.size;rw[eB]at HN;have q0:=bA.c0;have q1:=bA.c1;have q2:=bA.c2;have q3:=bA.c3;have q4:=bA.c4;have q5:=bA.c5;obtain⟨y0,y1,y2,y3,y4,y5⟩:=rA.out.c;obtain⟨z0,z2,z4,z6,z8,iC⟩:=rB.out.c;clear bA iA eA cA HX;go_wp2_with (first
      | (at_builtin;refine wpList_append_lies _ rfl _ _ 190 rfl (w.heap.size+1) 193 i0 (.agg #[.int .i64 0,.int .i64 0,.int .i64 0,.int .i64 0,.slice none 0 0]) 5 56 (by kernel_rfl) HI.out.1 HI.out.2.1 HI.out.2.2.1 HI.out.2.2.2 rfl (by decide) _ _ _ rfl dA.out ⟨wr.heap.size+1,0,none⟩ 1 1 [.int .i64 (W.zcC k).zcD,.int .i64 W.time,.int .i64 (W.zcC k).rs,.int .i64 (W.zcC k).rb,.slice ad (W.zcC k).dn cd] rfl rfl HN.out (by simp[Value.oneCell']) (by decide) (by unfold maxLen;omega) (by omega) (by omega) _ rfl ?_;intro g' vA w8 fA aA aB cB)
      | go_in)
     go_roundw
     case rel=>
      have nA:∀q,Value.ownBlock _=some q->w.heap.size+1<=q:=fun q hq=>(dA.out.lt hq).1
      refine⟨k+1,by omega,by go_num,?_,sA.out.grown aA (fun q hq=>by have:=nA q hq;omega),mA.grown aA mA.size (fun q hq=>by have:=nA q hq;omega)⟩;show zIF w8 (w.heap.size+1) _ W vd (W.pn+k+1);refine zIF.next ?_;rw[zBF,tA.out];exact fA
     case measure=>simp[intOf];omega
    ·obtain rfl:k=W.sn:=(by omega);go_wp2;go_ret;exact⟨_,vd,rfl,zIF.at cA.out (fun i lA=>(bC.out i lA).zb7 hb),hb⟩
def zGm(w:World)(b:Nat)(v0 v1 v2 v3 v4:Value):Prop:=zg w b 0 v0/\zg w b 1 v1/\zg w b 2 v2/\zg w b 3 v3/\zg w b 4 v4
theorem zGm.zb7{w w':World}{b:Nat}{v0 v1 v2 v3 v4:Value}(h:zGm w b v0 v1 v2 v3 v4)(t:Below w.heap.size w w'):zGm w' b v0 v1 v2 v3 v4:=⟨h.1.zb7 t,h.2.1.zb7 t,h.2.2.1.zb7 t,h.2.2.2.1.zb7 t,h.2.2.2.2.zb7 t⟩
theorem zGm.new(w:World)(v0 v1 v2 v3 v4:Value)(t:TypeId):zGm (w.alloc (.cells #[v0,v1,v2,v3,v4] t)) w.heap.size v0 v1 v2 v3 v4:=by
 have hb:(w.alloc (.cells #[v0,v1,v2,v3,v4] t)).heap[w.heap.size]?=some (.cells #[v0,v1,v2,v3,v4] t):=heap_alloc_new _ _;exact⟨zG hb rfl,zG hb rfl,zG hb rfl,zG hb rfl,zG hb rfl⟩
def zB1(W:zC):Prop:=∀i,i<zt W->(Lit.int .i64 (zL W i).zcD).wf=true
def zLM(W:zC)(i:Nat):Prop:=(zI W (zL W i).zcD).id=(zL W i).zcD
theorem zGK(v:Value)(s:zu)(w:World):(Instr.field 75 (zDk v s) 0).run Tryz.prog w = .ok (.int .i64 s.id) w/\(Instr.field 75 (zDk v s) 2).run Tryz.prog w = .ok (.string s.set) w/\(Instr.field 75 (zDk v s) 3).run Tryz.prog w = .ok (.int .i64 s.zcD) w/\(Instr.field 75 (zDk v s) 4).run Tryz.prog w = .ok (.int .i64 s.time) w:=by
 refine⟨?_,?_,?_,?_⟩<;>kernel_rfl
theorem zMv(v0 v1 v2 v3:Value)(lo hi:Nat)(W:zC)(A:Nat)(w:World)(h:yQ w lo hi v0 v1 v2 v3 W)(hs:W.sn<=8)(hp:W.pn<=20)(hA:zDQ w lo hi W A)(hD:zFC W)(nA:zB1 W) :
  Calls Tryz.prog 118 #[zBb v0 v1 v2 v3 W,zJr A] w fun e w'=>zK (∀i,i<zt W->zLM W i) e/\Below w.heap.size w w':=by
 have Hp:=zB h;have HA:=zB hA;have HD:=zB hD;have oA:=zB nA;clear h hA hD nA;have ha:=zD w (.cells #[v0,v1,.int .i64 W.time,.int .i64 W.next,v2,v3] 30);obtain⟨x0,x2,x4,x6,x8,vA⟩:=(zAC.new w v0 v1 (.int .i64 W.time) (.int .i64 W.next) v2 v3 30).c;go_enter Tryz.func118,Tryz.ntmps118;go_wp2_with fail;clear x0 x2 x4 x6 x8 vA;generalize w.alloc (.cells #[v0,v1,.int .i64 W.time,.int .i64 W.next,v2,v3] 30)=W0 at ha ⊢;refine(zFZ v0 v1 v2 v3 lo hi W W0 (Hp.out.zb7 ha) hs hp).mono ?_;rintro e w1 ⟨vm,vd,rfl,hm,jA⟩;have HM:=zB hm;have eA:=zA ha jA;obtain⟨am,cm,rfl,aB⟩:=id hm.zcF;have bB:zt W<=28:=by unfold zt;omega
 clear ha jA hm;go_wp2
 go_loopw [10] (fun i wr=>∃k:Nat,k<=zt W/\i = .int .i64 k/\(∀j,j<k->zLM W j)/\Below w1.heap.size w1 wr) (fun i _=>zt W - (intOf i).toNat)
 case atStart=>exact⟨0,Nat.zero_le _,rfl,fun j hj=>absurd hj (Nat.not_lt_zero _),Below.refl _ _⟩
 case round=>
  obtain⟨k,hk,rfl,bA,hb⟩:=hrel;have aA:=zB bA;clear bA;by_cases cA:k<zt W;rotate_left
  ·obtain rfl:k=zt W:=(by omega);go_wp2;go_ret;exact⟨zK.yes aA.out,zA eA hb⟩
  have sA:(k:Int)<(zt W:Int):=(by omega);obtain⟨g,cg,e,q0,q1,q2,q3,q4⟩:=(HM.out.zb7 hb).cells k cA;obtain⟨-,ad,cd,mA,-,-⟩:=id ((HM.out.zb7 hb).dead k cA);rw[mA]at q4;cases e;have gA:=zD wr (.cells #[.int .i64 (zL W k).zcD,.int .i64 (zL W k).time,.int .i64 (zL W k).rs,.int .i64 (zL W k).rb,.slice ad (zL W k).dn cd] 193);have HV:=zB (zGm.new wr (.int .i64 (zL W k).zcD) (.int .i64 (zL W k).time) (.int .i64 (zL W k).rs) (.int .i64 (zL W k).rb) (.slice ad (zL W k).dn cd) 193);have dA:=zB (HA.out.zb7 (zA eA (zA hb gA)));have kA:=zA hb gA;have pA:=zB (oA.out k cA);have iA:=zB (show zLM W k↔(zI W (zL W k).zcD).id=(zL W k).zcD from Iff.rfl);clear mA gA;generalize zL W k=m at *;go_wp2_with fail;clear q0 q1 q2 q3 q4;generalize wr.alloc (.cells #[.int .i64 m.zcD,.int .i64 m.time,.int .i64 m.rs,.int .i64 m.rb,.slice ad m.dn cd] 193)=W2 at HV dA kA ⊢;generalize wr.heap.size=V at HV ⊢;obtain⟨⟨y0,-⟩,-⟩:=HV.out;go_region_held3 (fun w'=>w'.cell? ⟨V,0,none⟩=some (.int .i64 m.zcD)) (go_keep)
   (first | (go_at_call 144;refine(zEd lo hi W A m.zcD _ ?_ HD.out pA.out hp).mono ?_;(exact dA.out.zb7 (Below.refl _ _).drew);rintro e w6 ⟨aa,ca,rfl,tA,fA⟩;have rA:=fun w=>(zGK (.slice aa (zI W m.zcD).dn ca) (zI W m.zcD) w).1;obtain⟨⟨z0,_⟩,_⟩:=HV.out.zb7 (qY fA)))
  have lA:=zIM kA fA;clear fA tA rA z0 y0 dA;by_cases he:(zI W m.zcD).id=m.zcD
  ·have hd:((zI W m.zcD).id != m.zcD)=false:=(by simp[he]);have He:=zB (iA.out.2 he);clear he;go_wp2;go_roundw
   case rel=>exact⟨k+1,by omega,by go_num,qz cA aA.out He.out,lA⟩
   case measure=>simp[intOf];omega
  ·have hd:((zI W m.zcD).id != m.zcD)=true:=(by simp[he]);have He:=zB (fun h=>he (iA.out.1 h));clear he;go_wp2;go_ret;exact⟨zK.no fun h=>He.out (h k cA),zA eA lA⟩
theorem zSM(v:Value)(n lo hi:Nat)(f g:Nat->Int)(x y:Int)(w:World)(h1:qi w lo hi v n f g) :
  Calls Tryz.prog 181 #[v,.agg #[.int .i64 x,.int .i64 y]] w fun e w'=>∃r:Int,e = .returned (.int .i64 r)/\(0<=r↔PIn n f g x y)/\Below w.heap.size w w':=by
 have Hp:=zB h1;obtain⟨m1,a,c,rfl,mc,-⟩:=id h1;unfold maxLen at m1;clear h1;have ha:=zD w (.cells #[.int .i64 x,.int .i64 y] 70);have HB:=zB (zA9.new w (.int .i64 x) (.int .i64 y) 70);go_enter Tryz.func181,Tryz.ntmps181;go_wp2
 go_loopw [8] (fun i wr=>∃k:Nat,k<=n/\i = .int .i64 k/\¬PIn k f g x y/\zA9 wr w.heap.size (.int .i64 x) (.int .i64 y)/\Below w.heap.size w wr) (fun i _=>n - (intOf i).toNat)
 case atStart=>exact⟨0,Nat.zero_le _,rfl,fun ⟨j,hj,_⟩=>absurd hj (Nat.not_lt_zero _),HB.out,ha⟩
 case round=>
  obtain⟨k,hk,rfl,dA,hX,hb⟩:=hrel;have bA:=zB dA;have HX:=zB hX;clear dA hX;obtain⟨⟨x0,x1⟩,⟨x2,x3⟩⟩:=HX.out;by_cases cA:k<n
  ·have eA:(k:Int)<(n:Int):=(by omega);obtain⟨b,off,rfl,q0,q1⟩:=(Hp.out.zb7 hb).cellsD cA;by_cases he:f k=x/\g k=y
   ·have H:=zB (show PIn n f g x y from⟨k,cA,he.1,he.2⟩);rw[he.1]at q0;rw[he.2]at q1;clear he;go_wp2
    go_quiet (fail)
    go_wp2;go_ret;exact⟨k,rfl,⟨fun _=>H.out,fun _=>by omega⟩,zBG hb _⟩
   ·have H:=zB he;have e0:(x == f k)=false\/(x == f k)=true/\(y == g k)=false:=by
     by_cases h:f k=x
     ·right;refine⟨by simp[h],?_⟩;have:¬y=g k:=fun h'=>he ⟨h,h'.symm⟩
      simp[this]
     ·left;have:¬x=f k:=fun h'=>h h'.symm
      simp[this]
    clear he;rcases e0 with e0 | ⟨e0,e1⟩
    all_goals
     go_wp2
     go_quiet (fail)
     go_wp2;go_roundw
     case rel=>
      refine⟨k+1,by omega,by go_num,?_,HX.out.zb7 (zBG (Below.refl _ _) _),zBG hb _⟩;rintro⟨j,hj,aA⟩;by_cases e:j=k
      ·subst e;exact H.out ⟨aA.1,aA.2⟩
      ·exact bA.out ⟨j,by omega,aA⟩
     case measure=>simp[intOf];omega
  ·obtain rfl:k=n:=(by omega);go_wp2;go_ret;exact⟨-1,rfl,⟨fun h=>absurd h (by decide),fun h=>absurd h bA.out⟩,hb⟩
theorem zHw(v:Value)(n lo hi:Nat)(f g:Nat->Int)(x y:Int)(w:World)(h1:qi w lo hi v n f g) :
  Calls Tryz.prog 169 #[v,.agg #[.int .i64 x,.int .i64 y]] w fun e w'=>zK (PIn n f g x y) e/\Below w.heap.size w w':=by
 have Hp:=zB h1;clear h1;have ha:=zD w (.cells #[.int .i64 x,.int .i64 y] 70);obtain⟨⟨x0,-⟩,⟨x2,-⟩⟩:=zA9.new w (.int .i64 x) (.int .i64 y) 70;go_enter Tryz.func169,Tryz.ntmps169;go_wp2_with fail;refine(zSM v n lo hi f g x y _ (Hp.out.zb7 ha)).mono ?_;rintro e w1 ⟨r,rfl,hr,aA⟩;have Hr:=zB hr;have hB:=zA ha aA;clear hr aA x0 x2 ha;go_wp2;go_ret;refine⟨⟨_,rfl,?_⟩,hB⟩;have:=Hr.out;simp only[decide_eq_true_eq];exact this
theorem zQf(v:Value)(n lo hi:Nat)(f g:Nat->Int)(x y:Int)(T:Nat)(w:World)(h1:qi w lo hi v n f g)(hT:w.cell? ⟨T,0,none⟩=some v) :
  Calls Tryz.prog 168 #[.agg #[.int .i64 x,.int .i64 y],.pointer (some ⟨T,0,none⟩)] w fun e w'=>zK (PIn n f g x y) e/\Below w.heap.size w w':=by
 have Hp:=zB h1;obtain⟨m1,a,c,rfl,mc,-⟩:=id h1;clear h1;have ha:=zD w (.cells #[.int .i64 x,.int .i64 y] 70);obtain⟨⟨x0,-⟩,⟨x2,-⟩⟩:=zA9.new w (.int .i64 x) (.int .i64 y) 70;have cA:=(ha.cell (p:=⟨T,0,none⟩) (zH hT)).trans hT;clear hT;go_enter Tryz.func168,Tryz.ntmps168;go_wp2_with fail;refine(zHw _ n lo hi f g x y _ (Hp.out.zb7 ha)).mono ?_;rintro e w1 ⟨⟨t1,rfl,bA⟩,aA⟩;have Ht:=zB bA;have hB:=zA ha aA;clear bA aA x0 x2 ha cA;go_wp2;go_ret;exact⟨⟨_,rfl,Ht.out⟩,hB⟩
theorem zSK(v:Value)(n lo hi:Nat)(f g:Nat->Int)(x y:Int)(T:Nat)(w:World)(h1:qi w lo hi v n f g)(hT:w.cell? ⟨T,0,none⟩=some v) :
  Calls Tryz.prog 170 #[.agg #[.int .i64 x,.int .i64 y],.pointer (some ⟨T,0,none⟩)] w fun e w'=>zK (PIn n f g x y) e/\Below w.heap.size w w':=by
 have Hp:=zB h1;obtain⟨m1,a,c,rfl,mc,-⟩:=id h1;clear h1;have ha:=zD w (.cells #[.int .i64 x,.int .i64 y] 70);obtain⟨⟨x0,-⟩,⟨x2,-⟩⟩:=zA9.new w (.int .i64 x) (.int .i64 y) 70;have cA:=(ha.cell (p:=⟨T,0,none⟩) (zH hT)).trans hT;clear hT;go_enter Tryz.func170,Tryz.ntmps170;go_wp2_with fail;refine(zHw _ n lo hi f g x y _ (Hp.out.zb7 ha)).mono ?_;rintro e w1 ⟨⟨t1,rfl,bA⟩,aA⟩;have Ht:=zB bA;have hB:=zA ha aA;clear bA aA x0 x2 ha cA;go_wp2;go_ret;exact⟨⟨_,rfl,Ht.out⟩,hB⟩
theorem zDy(v0 v1 v2 v3:Value)(lo hi:Nat)(W:zC)(xs xb:Int)(w:World)(h:yQ w lo hi v0 v1 v2 v3 W)(hR:zz W.pool)(hT:qd W.pool xs xb) :
  Calls Tryz.prog 150 #[zBb v0 v1 v2 v3 W,.agg #[.int .i64 xs,.int .i64 xb]] w fun e w'=>∃v,e = .returned v/\zB5 w' w.heap.size v (zN W.pool xs xb)/\Below w.heap.size w w':=by
 have Hp:=zB h;have HR:=zB hR;have HT:=zB (show Nil xs xb\/yT W.pool xs xb from hT.imp id (fun h=>h.1.1));obtain⟨m0,a0,c0,rfl,eA,-⟩:=id h.pool.1;clear h hR hT;have ha:=zD w (.cells #[.slice a0 W.pool.n c0,v1,.int .i64 W.time,.int .i64 W.next,v2,v3] 30);have hB:=zAC.new w (.slice a0 W.pool.n c0) v1 (.int .i64 W.time) (.int .i64 W.next) v2 v3 30;have hz:(w.alloc (.cells #[.slice a0 W.pool.n c0,v1,.int .i64 W.time,.int .i64 W.next,v2,v3] 30)).heap.size=w.heap.size+1:=World.size_alloc _ _;have bA:=zD (w.alloc (.cells #[.slice a0 W.pool.n c0,v1,.int .i64 W.time,.int .i64 W.next,v2,v3] 30)) (.cells #[.int .i64 xs,.int .i64 xb] 70);have hX:=zA9.new (w.alloc (.cells #[.slice a0 W.pool.n c0,v1,.int .i64 W.time,.int .i64 W.next,v2,v3] 30)) (.int .i64 xs) (.int .i64 xb) 70;rw[hz]at hX;have aA:=zA ha bA;obtain⟨⟨x0,-⟩,⟨x2,-⟩,-⟩:=hB.zb7 bA;obtain⟨⟨y0,-⟩,⟨y2,-⟩⟩:=hX;clear hB ha bA;go_enter Tryz.func150,Tryz.ntmps150;go_wp2_with fail;clear x0 x2 y0 y2;generalize (w.alloc (.cells #[.slice a0 W.pool.n c0,v1,.int .i64 W.time,.int .i64 W.next,v2,v3] 30)).alloc (.cells #[.int .i64 xs,.int .i64 xb] 70)=W0 at aA ⊢;refine(zOY W.pool HR.out _ lo hi xs xb W0 (Hp.out.pool.1.zb7 aA) HT.out).mono ?_;rintro e w1 ⟨v,rfl,hr,cA⟩;have Hr:=zB hr;have hB:=zA aA cA;have dA:=aA.size;clear hr cA;go_wp2;go_ret;exact⟨v,rfl,zB5.mono Hr.out dA,hB⟩
end Go.Proofs.YtbplmbafodlboaaGreatDoor
