/- A part of the proof. -/
import Derived.Test.YtgabgheflgjgiaaGreatDoorV28
set_option linter.unusedVariables false
set_option maxRecDepth 20000
set_option maxHeartbeats 4000000
namespace Go.Proofs.YtgabgheflgjgiaaGreatDoor
open Go.RowKit
theorem zK9{w:World}{lo hi:Nat}{a:Option Addr}{n c:Nat}{f:Nat->Int}(h:zAa w lo hi (.slice a n c) n f){k:Nat}(hk:k<n):∃b off,a=some ⟨b,off,none⟩/\w.cell? ⟨b,off+k,none⟩=some (.int .i64 (f k)):=by
 obtain⟨_,a2,c2,hv,_,hx⟩:=h;simp only[Value.slice.injEq,true_and]at hv;obtain⟨rfl,rfl⟩:=hv;obtain⟨b,off,ha,_,_,h3⟩:=hx (by omega);exact⟨b,off,ha,h3 k hk⟩
theorem zFS(v0 v1:Value)(lo hi:Nat)(p:zI)(w:World)(h1:qm w lo hi v0 v1 p)(hn:qA p<=1048576):Calls Tryz.prog 64 #[.agg #[v0,v1]] w (zIE (yI p) w):=by
 have Hp:=zQ h1;obtain⟨a,c,a',c',rfl,rfl⟩:=h1.form;have Hn:=zQ hn;have rC:p.n<=2 ^ 63 - 1:=h1.1.1;have sC:p.hn<=2 ^ 63 - 1:=h1.2.1;have mc:p.n<=c:=by obtain⟨⟨_,_,_,e,h,_⟩,_⟩:=h1;simp only[Value.slice.injEq,true_and]at e;omega
 have vC:p.hn<=c':=by obtain⟨_,⟨_,_,_,e,h,_⟩⟩:=h1;simp only[Value.slice.injEq,true_and]at e;omega
 clear h1 hn;have eB:=zA (zC w (.cells #[.slice a p.n c,.slice a' p.hn c'] 36)) (zC _ (.cells #[.slice none 0 0,.slice none 0 0] 36));have HB:=zQ ((zk.zOY w (.slice a p.n c) (.slice a' p.hn c') 36).zOU (zC _ (.cells #[.slice none 0 0,.slice none 0 0] 36)));have jB:=zk.zOY (w.alloc (.cells #[.slice a p.n c,.slice a' p.hn c'] 36)) (.slice none 0 0) (.slice none 0 0) 36;rw[World.size_alloc]at jB;have HR:=zQ jB;clear jB;go_enter Tryz.func64,Tryz.ntmps64;go_wp2_with fail;refine(zAz _ _ lo hi p _ (Hp.out.zOU eB) Hn.out).mono ?_;rintro e w1 ⟨s0,s1,rfl,pA,kA⟩;rw[World.size_alloc,World.size_alloc]at pA;have rA:=zQ (HB.out.zOU kA);have mA:=zQ (HR.out.zOU kA);have gA:=zA eB kA;have hz1:w.heap.size+2<=w1.heap.size:=by have:=kA.size;rw[World.size_alloc,World.size_alloc]at this;omega
 obtain⟨a0,c0,a1,c1,rfl,rfl⟩:=pA.form;have pB:=zQ pA;clear pA kA eB HB HR;have oA:=zC w1 (.cells #[.slice a0 p.n c0,.slice a1 p.hn c1] 36);obtain⟨⟨x0,x1⟩,⟨x2,x3⟩⟩:=rA.out.zOU oA;go_wp2_with fail;refine(yt _ _ lo hi p _ (Hp.out.zOU (zA gA oA))).mono ?_;rintro e w2 ⟨⟨t,rfl,ht⟩,cB⟩;have iA:=zA oA cB;have cC:=zQ (rA.out.zOU iA);have sA:=zQ (mA.out.zOU iA);have eA:=zQ ((zk.zOY w1 (.slice a0 p.n c0) (.slice a1 p.hn c1) 36).zOU cB);have vA:=zQ (pB.out.zOU iA);have sB:=zA gA iA;generalize w1.heap.size=OUT at hz1 eA vA ⊢;clear oA cB iA rA mA pB gA x0 x1 x2 x3;by_cases hR:zt p
 ·have nA:=zQ hR;obtain rfl:t=true:=ht.2 hR;clear ht hR;have bC:OUT<w2.heap.size:=eA.out.1.lt;go_wp2
  go_loopw [4] (fun i wr=>∃k:Nat,k<=p.hn/\i = .int .i64 k/\zk wr w.heap.size (.slice a p.n c) (.slice a' p.hn c')/\zk wr (w.heap.size+1) (.slice none 0 0) (.slice none 0 0)/\zk wr OUT (.slice a0 p.n c0) (.slice a1 p.hn c1)/\
    zh wr (w.heap.size+1+1) OUT (.slice a0 p.n c0) (.slice a1 p.hn c1) (zCU p k)/\Below w.heap.size w wr/\OUT<wr.heap.size) (fun i _=>p.hn - (intOf i).toNat)
  case atStart=>exact⟨0,Nat.zero_le _,rfl,cC.out,sA.out,eA.out,by rw[zJz];exact vA.out,sB,bC⟩
  case round=>
   obtain⟨k,hk,rfl,hx,hr,ho,aC,hb,tC⟩:=hrel;have Hx:=zQ hx;have Hr:=zQ hr;have Ho:=zQ ho;have rB:=zQ aC;clear hx hr ho aC;obtain⟨⟨x0,x1⟩,⟨x2,x3⟩⟩:=Hx.out;obtain⟨⟨y0,y1⟩,⟨y2,y3⟩⟩:=Ho.out;by_cases hlt:k<p.hn
   ·have nC:(k:Int)<(p.hn:Int):=(by omega);obtain⟨vB,mC,_⟩:=nA.out.2.2 k hlt;obtain⟨m,hm⟩:=Int.eq_ofNat_of_zero_le vB;rw[hm]at vB mC;have oC:m<p.n:=(by omega);obtain⟨jA,gB,rfl,aA⟩:=zK9 Hp.out.2 hlt;rw[hm]at aA;have lC:jA<w.heap.size:=zD aA;have fB:=(hb.cell (p:=⟨jA,gB+k,none⟩) lC).trans aA;obtain⟨bs,off,rfl,pC,⟨q0,q1,q2,⟨r0,r1⟩,⟨r2,r3⟩,⟨r4,r5⟩⟩,lA⟩:=rB.out.set (i:=m) oC;have fA:=zQ (lA zDJ 0 (.slice none 0 0) (w.heap.size+1+1) OUT ⟨Nat.zero_le _,none,0,rfl,Nat.le_refl _,fun h=>absurd h (Nat.lt_irrefl _)⟩ (Nat.zero_le _) (fun h=>absurd h (Nat.lt_irrefl _)) (Nat.le_refl _) (Nat.le_refl _));have Hm:=zQ hm;have n0:bs≠w.heap.size:=(by omega);have n1:bs≠OUT:=(by omega);have n2:bs≠jA:=(by omega);clear lA aA hm;go_wp2_with fail;go_region_held3 (fun w'=>w'.cell? ⟨w.heap.size,1,none⟩=some (.slice (some ⟨jA,gB,none⟩) p.hn c')/\w'.cell? ⟨OUT,0,none⟩=some (.slice (some ⟨bs,off,none⟩) p.n c0)/\w'.cell? ⟨jA,gB+k,none⟩=some (.int .i64 (m:Int))) (go_keep) (fail);have tX:=((zE.put wr bs (off+m*3) (.int .i64 0)).trans (zE.put _ bs (off+m*3+1) (.slice none 0 0))).trans (zE.put _ bs (off+m*3+2) (.string ⟨#[]⟩));have fC:=zQ ((Hx.out.zOW tX (by omega)).zOU (Below.refl _ _).drew);have mA:=zQ ((Hr.out.zOW tX (by omega)).zOU (Below.refl _ _).drew);have dC:=zQ ((Ho.out.zOW tX (by omega)).zOU (Below.refl _ _).drew);have gA:=(hb.trans (tX.zOU (by omega) (fun k hk=>by omega))).drew;have hz:=tX.size;have eC:=zQ (fA.out.zOU (Below.refl _ _).drew);clear tX fA;go_wp2;go_roundw
    case rel=>
     refine⟨k+1,by omega,by go_num,fC.out,mA.out,dC.out,?_,gA,by simp only[World.size_setCell,World.size_drew]at *;omega⟩;rw[zJy Hm.out];exact eC.out
    case measure=>simp[intOf];omega
   ·obtain rfl:k=p.hn:=(by omega);have aB:=zQ ((rB.out.zOW (zE.put wr OUT 1 (.slice none 0 0)) (fun k hk=>by omega)).noHeld);have oB:=zQ (Hx.out.zOV (b':=OUT) (o':=1) (.slice none 0 0) (by omega));have nB:=zQ (Hr.out.zOV (b':=OUT) (o':=1) (.slice none 0 0) (by omega));have lB:Hid (zk (wr.setCell ⟨OUT,1,none⟩ (.slice none 0 0)) OUT (.slice a0 p.n c0) (.slice none 0 0)):=⟨Ho.out.1.zOV _ (Or.inr (by omega)),Ho.out.2.set _⟩;have tB:=hb.setCell (p:=⟨OUT,1,none⟩) (by show _<=OUT;omega) (.slice none 0 0);go_wp2_with fail;refine(yt _ _ (w.heap.size+1+1) OUT (zEG p) _ aB.out.at).mono ?_;rintro e w3 ⟨⟨t,rfl,ht⟩,dA⟩;have gC:=zQ (oB.out.zOU dA);have tA:=zQ (nB.out.zOU dA);have kB:=zQ (lB.out.zOU dA);have iC:=zQ (aB.out.zOU dA);have bB:=zA tB dA;have hz3:OUT<w3.heap.size:=kB.out.1.lt;clear dA aB oB nB lB tB x0 x1 x2 x3 y0 y1 y2 y3;by_cases hS:zt (zEG p)
    ·have HS:=zQ hS;obtain rfl:t=true:=ht.2 hS;clear ht hS;obtain⟨⟨y0,y1⟩,⟨y2,y3⟩⟩:=kB.out;obtain⟨⟨u0,u1⟩,⟨u2,u3⟩⟩:=tA.out;go_wp2;have bA:=tA.out.put (.slice a0 p.n c0) (.slice none 0 0);have cA:=zGp (R:=w.heap.size+1) iC.out (by omega) (by omega) (by omega) bB;refine bodyPost_ret (v:=.agg #[.slice a0 p.n c0,.slice none 0 0]) (by simp[results,Tryz.results64,go_sem,bA.1.1,bA.2.1]) rfl ⟨_,_,rfl,?_,cA.2⟩;rw[zJd nA.out HS.out];exact cA.1
    ·have HS:=zQ hS;obtain rfl:t=false:=zP ht hS;clear ht hS;obtain⟨⟨y0,y1⟩,⟨y2,y3⟩⟩:=gC.out;go_wp2_with fail;refine(zAz _ _ lo hi p _ (Hp.out.zOU bB) Hn.out).mono ?_;rintro e w4 ⟨s0,s1,rfl,iB,dB⟩;obtain⟨a4,c4,a5,c5,rfl,rfl⟩:=iB.form;have mB:=zQ (tA.out.zOU dB);have jC:=zQ iB;have kC:=zA bB dB;clear iB dB;obtain⟨⟨u0,u1⟩,⟨u2,u3⟩⟩:=mB.out;go_wp2;have bA:=mB.out.put (.slice a4 p.n c4) (.slice a5 p.hn c5);have cA:=zGp (R:=w.heap.size+1) jC.out (by omega) (by omega) (Nat.le_refl _) kC;refine bodyPost_ret (v:=.agg #[.slice a4 p.n c4,.slice a5 p.hn c5]) (by simp[results,Tryz.results64,go_sem,bA.1.1,bA.2.1]) rfl ⟨_,_,rfl,?_,cA.2⟩;rw[zIr (fun h=>HS.out h.2)];exact cA.1
 ·have nA:=zQ hR;obtain rfl:t=false:=zP ht hR;clear ht hR;obtain⟨⟨y0,y1⟩,⟨y2,y3⟩⟩:=eA.out;obtain⟨⟨u0,u1⟩,⟨u2,u3⟩⟩:=sA.out;have bC:OUT<w2.heap.size:=eA.out.1.lt;go_wp2;have bA:=sA.out.put (.slice a0 p.n c0) (.slice a1 p.hn c1);have cA:=zGp (R:=w.heap.size+1) vA.out (by omega) (by omega) (by omega) sB;refine bodyPost_ret (v:=.agg #[.slice a0 p.n c0,.slice a1 p.hn c1]) (by simp[results,Tryz.results64,go_sem,bA.1.1,bA.2.1]) rfl ⟨_,_,rfl,?_,cA.2⟩;rw[zIr (fun h=>nA.out h.1)];exact cA.1
noncomputable def qF(W:zH):zH:={W with zOa:=yI W.zOa,time:=W.time+1}
open Go.Maps
theorem zNX{a b c d:Int}(h:¬(a=c/\b=d)):(a == c)=false\/(a == c)=true/\(b == d)=false:=by
 by_cases e:a=c
 ·right;refine⟨by simp[e],?_⟩;have:¬b=d:=fun e'=>h ⟨e,e'⟩
  simp[this]
 ·left;simp[e]
theorem zFG{a b:Int}(h:a=b):(a == b)=true/\(a != b)=false/\decide (a=b)=true:=by subst h;simp
theorem zFH{a b:Int}(h:¬a=b):(a == b)=false/\(a != b)=true/\decide (a=b)=false:=by simp[h]
theorem zFn(lo hi lA fA:Nat)(s t:zO)(pa qa:Option Addr)(pc qc:Nat)(w:World)(h1:zBP w lo hi (.int .i64 s.zOh) (.slice pa s.kn pc) (.string s.data) s)(h2:zBP w lA fA (.int .i64 t.zOh) (.slice qa t.kn qc) (.string t.data) t) :
  Calls Tryz.prog 118 #[.agg #[.int .i64 s.zOh,.slice pa s.kn pc,.string s.data],.agg #[.int .i64 t.zOh,.slice qa t.kn qc,.string t.data]] w fun e w'=>zK (zEL s t) e/\Below w.heap.size w w':=by
 have H1:=zB h1.2.1;have H2:=zB h2.2.1;have jA:=h1.2.1.1;have kA:=h2.2.1.1;unfold maxLen at jA kA;clear h1 h2;have ha:=zC w (.cells #[.int .i64 s.zOh,.slice pa s.kn pc,.string s.data] 128);have bA:=zC (w.alloc (.cells #[.int .i64 s.zOh,.slice pa s.kn pc,.string s.data] 128)) (.cells #[.int .i64 t.zOh,.slice qa t.kn qc,.string t.data] 128);have hA:=zA ha bA;have HX:=zB ((qP.zOY w (.int .i64 s.zOh) (.slice pa s.kn pc) (.string s.data) 128).zOU bA);have hy:=qP.zOY (w.alloc (.cells #[.int .i64 s.zOh,.slice pa s.kn pc,.string s.data] 128)) (.int .i64 t.zOh) (.slice qa t.kn qc) (.string t.data) 128;rw[World.size_alloc]at hy;have HY:=zB hy;clear hy ha bA;obtain⟨⟨x0,-⟩,⟨x1,-⟩,⟨x2,-⟩⟩:=HX.out;obtain⟨⟨y0,-⟩,⟨y1,-⟩,⟨y2,-⟩⟩:=HY.out;by_cases e1:s.zOh=t.zOh;rotate_left
 ·have H:=zB e1;obtain⟨i1,i2,i3⟩:=zFH e1;go_enter Tryz.func118,Tryz.ntmps118;go_wp2;go_ret;exact⟨zK.no fun h=>H.out h.1,hA⟩
 have E1:=zB e1;obtain⟨i1,i2,i3⟩:=zFG e1;clear e1;by_cases e2:s.data=t.data;rotate_left
 ·have H:=zB e2;have i4:=zBJ e2;clear e2;go_enter Tryz.func118,Tryz.ntmps118;go_wp2;go_ret;exact⟨zK.no fun h=>H.out h.2.2,hA⟩
 have E2:=zB e2;have i4:=zDF e2;clear e2;by_cases e3:s.kn=t.kn;rotate_left
 ·have H:=zB e3;obtain⟨i5,i6,i7⟩:=zFH (show ¬(s.kn:Int)=(t.kn:Int)by omega);clear e3;go_enter Tryz.func118,Tryz.ntmps118;go_wp2;go_ret;exact⟨zK.no fun h=>H.out h.2.1.1,hA⟩
 have E3:=zB e3;obtain⟨i5,i6,i7⟩:=zFG (show(s.kn:Int)=(t.kn:Int)by omega);clear e3;go_enter Tryz.func118,Tryz.ntmps118;go_wp2;clear x0 x1 x2 y0 y1 y2 i1 i2 i3 i4 i5 i6 i7
 go_loopw [5] (fun i wr=>∃k:Nat,k<=s.kn/\i = .int .i64 k/\(∀j,j<k->s.ks j=t.ks j/\s.kb j=t.kb j)/\qP wr w.heap.size (.int .i64 s.zOh) (.slice pa s.kn pc) (.string s.data)/\qP wr (w.heap.size+1) (.int .i64 t.zOh) (.slice qa t.kn qc) (.string t.data)/\Below w.heap.size w wr) (fun i _=>s.kn - (intOf i).toNat)
 case atStart=>exact⟨0,Nat.zero_le _,rfl,fun j h=>absurd h (Nat.not_lt_zero _),HX.out,HY.out,hA⟩
 case round=>
  obtain⟨k,hk,rfl,hall,hX,hY,hb⟩:=hrel;have aA:=zB hall;have dA:=zB hX;have eA:=zB hY;clear hall hX hY;obtain⟨⟨x0,-⟩,⟨x1,-⟩,⟨x2,-⟩⟩:=dA.out;obtain⟨⟨y0,-⟩,⟨y1,-⟩,⟨y2,-⟩⟩:=eA.out;by_cases hlt:k<s.kn
  ·have gA:(k:Int)<(s.kn:Int):=(by omega);have cA:k<t.kn:=(by have:=E3.out;omega);have iA:(k:Int)<(t.kn:Int):=(by omega);obtain⟨b,off,rfl,q0,q1⟩:=(H1.out.zOU hb).cellsD hlt;obtain⟨b',mA,rfl,r0,r1⟩:=(H2.out.zOU hb).cellsD cA;by_cases he:s.ks k=t.ks k/\s.kb k=t.kb k
   ·have H:=zB he;rw[he.1]at q0;rw[he.2]at q1;clear he;go_wp2
    go_quiet (fail)
    go_wp2;go_roundw
    case rel=>
     refine⟨k+1,by omega,by go_num,?_,dA.out.zOU (zV (Below.refl _ _) _),eA.out.zOU (zV (Below.refl _ _) _),zV hb _⟩;intro j hj;by_cases e:j=k
     ·subst e;exact H.out
     ·exact aA.out j (by omega)
    case measure=>simp[intOf];omega
   ·have H:=zB he;have e0:=zNX he;clear he;rcases e0 with e0 | ⟨e0,e1⟩
    all_goals
     go_wp2
     go_quiet (fail)
     go_wp2;go_ret;exact⟨zK.no fun h=>H.out (h.2.1.2 k hlt),zV hb _⟩
  ·obtain rfl:k=s.kn:=(by omega);go_wp2;go_ret;exact⟨zK.yes ⟨E1.out,⟨E3.out,aA.out⟩,E2.out⟩,hb⟩
structure zBd (S:zA9):Prop where
 zOc:zBp S.zOc
 zOe:zBp S.zOe
 many:S.zOc.zOa.n=S.zOe.zOa.n
 held:S.zOe.zOa.hn=0
 time:S.zOe.time<=S.zOc.time
 next:S.zOe.next<=S.zOc.next
 slots:∀i,i<S.zOe.zOa.n->¬qJ (S.zOe.zOa.s i)->zEL (S.zOe.zOa.s i) (S.zOc.zOa.s i)
theorem zCM(v0 v1 v2 v3 oB pB iA jA:Value)(lo hi:Nat)(S:zA9)(w:World)(h:zBt w lo hi v0 v1 v2 v3 oB pB iA jA S) :
  Calls Tryz.prog 63 #[zIq v0 v1 v2 v3 oB pB iA jA S] w fun e w'=>zK (zBd S) e/\Below w.heap.size w w':=by
 have Hp:=zB h;obtain⟨m1,la,lc,rfl,ml,-⟩:=id h.zOc.zOa.1;obtain⟨m2,sa,sc,rfl,ms,-⟩:=id h.zOe.zOa.1;obtain⟨m3,ha,hc,rfl,mh,-⟩:=id h.zOe.zOa.2;unfold maxLen at m1 m2 m3;clear h;have dA:=zC w (.cells #[.slice la S.zOc.zOa.n lc,v1,.int .i64 S.zOc.time,.int .i64 S.zOc.next,v2,v3,.slice sa S.zOe.zOa.n sc,.slice ha S.zOe.zOa.hn hc,.int .i64 S.zOe.time,.int .i64 S.zOe.next,iA,jA] 42);have HB:=zB (zAl.zOY w (.slice la S.zOc.zOa.n lc) v1 (.int .i64 S.zOc.time) (.int .i64 S.zOc.next) v2 v3 (.slice sa S.zOe.zOa.n sc) (.slice ha S.zOe.zOa.hn hc) (.int .i64 S.zOe.time) (.int .i64 S.zOe.next) iA jA 42);obtain⟨⟨x0,-⟩,⟨x1,-⟩,⟨x2,-⟩,⟨x3,-⟩,⟨x4,-⟩,⟨x5,-⟩,⟨x6,-⟩,⟨x7,-⟩,⟨x8,-⟩,⟨x9,-⟩,⟨eA,-⟩,⟨fA,-⟩⟩:=HB.out;go_enter Tryz.func63,Tryz.ntmps63;go_wp2_with fail;generalize w.alloc (.cells #[.slice la S.zOc.zOa.n lc,v1,.int .i64 S.zOc.time,.int .i64 S.zOc.next,v2,v3,.slice sa S.zOe.zOa.n sc,.slice ha S.zOe.zOa.hn hc,.int .i64 S.zOe.time,.int .i64 S.zOe.next,iA,jA] 42)=W0 at dA HB x0 x1 x2 x3 x4 x5 x6 x7 x8 x9 eA fA ⊢;refine(zv _ _ _ _ lo hi S.zOc W0 (Hp.out.zOc.zOU dA)).mono ?_;rintro e w1 ⟨⟨t,rfl,ht⟩,cB⟩;have Ht:=zB ht;have tA:=zA dA cB;have bB:=zB (HB.out.zOU cB);clear ht x0 x1 x2 x3 x4 x5 x6 x7 x8 x9 eA fA cB dA HB;obtain⟨⟨x0,-⟩,⟨x1,-⟩,⟨x2,-⟩,⟨x3,-⟩,⟨x4,-⟩,⟨x5,-⟩,⟨x6,-⟩,⟨x7,-⟩,⟨x8,-⟩,⟨x9,-⟩,⟨eA,-⟩,⟨fA,-⟩⟩:=bB.out;cases t
 ·go_wp2;go_ret;exact⟨zK.no fun h=>absurd (Ht.out.2 h.zOc) (by simp),tA⟩
 have HL:=zB (Ht.out.1 rfl);clear Ht;go_wp2_with fail;refine(zv _ _ _ _ lo hi S.zOe w1 (Hp.out.zOe.zOU tA)).mono ?_;rintro e w2 ⟨⟨t,rfl,ht⟩,dB⟩;have Ht:=zB ht;have pA:=zA tA dB;have gB:=zB (bB.out.zOU dB);clear ht x0 x1 x2 x3 x4 x5 x6 x7 x8 x9 eA fA dB tA bB;obtain⟨⟨x0,-⟩,⟨x1,-⟩,⟨x2,-⟩,⟨x3,-⟩,⟨x4,-⟩,⟨x5,-⟩,⟨x6,-⟩,⟨x7,-⟩,⟨x8,-⟩,⟨x9,-⟩,⟨eA,-⟩,⟨fA,-⟩⟩:=gB.out;cases t
 ·go_wp2;go_ret;exact⟨zK.no fun h=>absurd (Ht.out.2 h.zOe) (by simp),pA⟩
 have HF:=zB (Ht.out.1 rfl);clear Ht;by_cases e1:S.zOc.zOa.n=S.zOe.zOa.n;rotate_left
 ·obtain⟨i1,i2,i3⟩:=zFH (show ¬(S.zOc.zOa.n:Int)=(S.zOe.zOa.n:Int)by omega);have H:=zB e1;clear e1;go_wp2;go_ret;exact⟨zK.no fun h=>H.out h.many,pA⟩
 obtain⟨i1,i2,i3⟩:=zFG (show(S.zOc.zOa.n:Int)=(S.zOe.zOa.n:Int)by omega);have E1:=zB e1;clear e1;by_cases e2:S.zOe.zOa.hn=0;rotate_left
 ·have i4:(0:Int)<(S.zOe.zOa.hn:Int):=(by omega);have H:=zB e2;clear e2;go_wp2;go_ret;exact⟨zK.no fun h=>H.out h.held,pA⟩
 have i4:¬(0:Int)<(S.zOe.zOa.hn:Int):=by omega
 have E2:=zB e2;clear e2;by_cases e3:S.zOc.time<S.zOe.time
 ·have H:=zB e3;go_wp2;go_ret;exact⟨zK.no fun h=>by have:=h.time;have:=H.out;omega,pA⟩
 have E3:=zB (show S.zOe.time<=S.zOc.time by omega);by_cases e4:S.zOc.next<S.zOe.next
 ·have H:=zB e4;go_wp2;go_ret;exact⟨zK.no fun h=>by have:=h.next;have:=H.out;omega,pA⟩
 have E4:=zB (show S.zOe.next<=S.zOc.next by omega);go_wp2;clear x0 x1 x2 x3 x4 x5 x6 x7 x8 x9 eA fA i1 i2 i3 i4 e3 e4
 go_loopw [3] (fun i wr=>∃k:Nat,k<=S.zOe.zOa.n/\i = .int .i64 k/\(∀j,j<k->¬qJ (S.zOe.zOa.s j)->zEL (S.zOe.zOa.s j) (S.zOc.zOa.s j))/\zAl wr w.heap.size (.slice la S.zOc.zOa.n lc) v1 (.int .i64 S.zOc.time) (.int .i64 S.zOc.next) v2 v3 (.slice sa S.zOe.zOa.n sc) (.slice ha S.zOe.zOa.hn hc) (.int .i64 S.zOe.time) (.int .i64 S.zOe.next) iA jA/\Below w.heap.size w wr) (fun i _=>S.zOe.zOa.n - (intOf i).toNat)
 case atStart=>exact⟨0,Nat.zero_le _,rfl,fun j h=>absurd h (Nat.not_lt_zero _),gB.out,pA⟩
 case round=>
  obtain⟨k,hk,rfl,hall,hX,hb⟩:=hrel;have mA:=zB hall;have HX:=zB hX;clear hall hX;by_cases hlt:k<S.zOe.zOa.n
  ·have rB:(k:Int)<(S.zOe.zOa.n:Int):=(by omega);have fB:k<S.zOc.zOa.n:=(by have:=E1.out;omega);have sB:(k:Int)<(S.zOc.zOa.n:Int):=(by omega);obtain⟨b,off,ka,kc,rfl,hs⟩:=(Hp.out.zOe.zOa.1.zOU hb).cells hlt;obtain⟨b',bA,pa,pc,rfl,tB⟩:=(Hp.out.zOc.zOa.1.zOU hb).cells fB;obtain⟨q0,q1,q2,lB⟩:=hs;obtain⟨r0,r1,r2,rA⟩:=tB;have dA:=zC wr (.cells #[.int .i64 (S.zOe.zOa.s k).zOh,.slice ka (S.zOe.zOa.s k).kn kc,.string (S.zOe.zOa.s k).data] 128);have HV:=zB (qP.zOY wr (.int .i64 (S.zOe.zOa.s k).zOh) (.slice ka (S.zOe.zOa.s k).kn kc) (.string (S.zOe.zOa.s k).data) 128);have gA:=zB (HX.out.zOU dA);have nA:=zB (lB.zOU dA);have lA:=zB (rA.zOU dA);have vA:=zA hb dA;have R0:=(dA.cell (zD r0)).trans r0;have R1:=(dA.cell (zD r1)).trans r1;have R2:=(dA.cell (zD r2)).trans r2;clear lB rA r0 r1 r2;obtain⟨⟨x0,-⟩,⟨x1,-⟩,⟨x2,-⟩,⟨x3,-⟩,⟨x4,-⟩,⟨x5,-⟩,⟨x6,-⟩,⟨x7,-⟩,⟨x8,-⟩,⟨x9,-⟩,⟨eA,-⟩,⟨fA,-⟩⟩:=HX.out;obtain⟨⟨z0,-⟩,⟨z1,-⟩,⟨z2,-⟩⟩:=HV.out;go_wp2_with fail;clear x0 x1 x2 x3 x4 x5 x6 x7 x8 x9 eA fA q0 q1 q2 dA;generalize wr.alloc (.cells #[.int .i64 (S.zOe.zOa.s k).zOh,.slice ka (S.zOe.zOa.s k).kn kc,.string (S.zOe.zOa.s k).data] 128)=W5 at HV gA nA lA vA R0 R1 R2 z0 z1 z2 ⊢;generalize wr.heap.size=V at HV z0 z1 z2 ⊢;obtain⟨⟨x0,-⟩,⟨x1,-⟩,⟨x2,-⟩,⟨x3,-⟩,⟨x4,-⟩,⟨x5,-⟩,⟨x6,-⟩,⟨x7,-⟩,⟨x8,-⟩,⟨x9,-⟩,⟨eA,-⟩,⟨fA,-⟩⟩:=gA.out;by_cases aB:qJ (S.zOe.zOa.s k)
   ·have oA:=zB aB;clear aB;refine wp_region_held_drew (S:=(fun w'=>w'.cell? ⟨w.heap.size,0,none⟩=some (.slice (some ⟨b',bA,none⟩) S.zOc.zOa.n lc)/\w'.cell? ⟨w.heap.size,1,none⟩=some (v1)/\w'.cell? ⟨w.heap.size,2,none⟩=some (.int .i64 S.zOc.time)/\w'.cell? ⟨w.heap.size,3,none⟩=some (.int .i64 S.zOc.next)/\w'.cell? ⟨w.heap.size,4,none⟩=some (v2)/\w'.cell? ⟨w.heap.size,5,none⟩=some (v3)/\w'.cell? ⟨w.heap.size,6,none⟩=some (.slice (some ⟨b,off,none⟩) S.zOe.zOa.n sc)/\w'.cell? ⟨w.heap.size,7,none⟩=some (.slice ha S.zOe.zOa.hn hc)/\w'.cell? ⟨w.heap.size,8,none⟩=some (.int .i64 S.zOe.time)/\w'.cell? ⟨w.heap.size,9,none⟩=some (.int .i64 S.zOe.next)/\w'.cell? ⟨w.heap.size,10,none⟩=some (iA)/\w'.cell? ⟨w.heap.size,11,none⟩=some (jA)/\w'.cell? ⟨V,0,none⟩=some (.int .i64 (S.zOe.zOa.s k).zOh)/\w'.cell? ⟨V,1,none⟩=some (.slice ka (S.zOe.zOa.s k).kn kc)/\w'.cell? ⟨V,2,none⟩=some (.string (S.zOe.zOa.s k).data)/\w'.cell? ⟨b',bA+k*3,none⟩=some (.int .i64 (S.zOc.zOa.s k).zOh)/\w'.cell? ⟨b',bA+k*3+1,none⟩=some (.slice pa (S.zOc.zOa.s k).kn pc)/\w'.cell? ⟨b',bA+k*3+2,none⟩=some (.string (S.zOc.zOa.s k).data))) (by kernel_rfl) ?_ (fun hHeld=>?_)
    ·(try dsimp only)
     go_keep
    refine tk 0 (h:=?_);refine rd [1] (rc (fun K hK=>?_) .nil);go_simp;go_at_call 65;refine(qb _ _ _ lo hi (S.zOe.zOa.s k) _ ?_).mono ?_
    ·exact nA.out.zOU (zV (Below.refl _ _) 1)
    rintro e w6 ⟨⟨t6,rfl,ht6⟩,kA⟩;obtain rfl:t6=true:=ht6.2 oA.out;clear ht6;have aA:Below W5.heap.size W5 w6:=(by first | exact kA | exact zJ kA);obtain⟨⟨m0,-⟩,⟨m1,-⟩,⟨m2,-⟩,⟨m3,-⟩,⟨m4,-⟩,⟨m5,-⟩,⟨m6,-⟩,⟨m7,-⟩,⟨m8,-⟩,⟨m9,-⟩,⟨mB,-⟩,⟨nB,-⟩⟩:=gA.out.zOU aA;obtain⟨⟨Z0,-⟩,⟨Z1,-⟩,⟨Z2,-⟩⟩:=HV.out.zOU aA;have iB:=(aA.cell (zD R0)).trans R0;have jB:=(aA.cell (zD R1)).trans R1;have kB:=(aA.cell (zD R2)).trans R2
    (try go_wp2_with fail)
    refine hK.out _ _ (by(try dsimp only);go_keep) ?_;clear hK K hHeld;intro hHeld
    try simp only[Act.put,s1,s2,s3]
    refine tk 2 (h:=tk 3 (h:=ts 4 (h:=ts 5 (h:=ts 6 (h:=ts 7 (h:=ts 8 (h:=ts 9 (h:=ts 10 (h:=ts 11 (h:=?_))))))))));refine rd [12] (rc (fun K hK=>?_) .nil);split
    ·rename_i vB
     exact absurd (show false=true from vB) Bool.false_ne_true
    refine hK.out _ _ (by assumption) (fun hHeld=>?_);clear hK K
    try simp only[Act.put,s1,s2,s3]
    refine ts 13 (h:=tk 14 (h:=?_));refine wpAnyH_done (by kernel_rfl) ?_ _;go_wp2;go_roundw
    case rel=>
     refine⟨k+1,by omega,by go_num,?_,gA.out.zOU aA,zA vA aA⟩;intro j hj hn;by_cases e:j=k
     ·subst e;exact absurd oA.out hn
     ·exact mA.out j (by omega) hn
    case measure=>simp[intOf];omega
   ·have oA:=zB aB;clear aB;by_cases hq:zEL (S.zOe.zOa.s k) (S.zOc.zOa.s k)
    ·have Hq:=zB hq;clear hq;refine wp_region_held_drew (S:=(fun w'=>w'.cell? ⟨w.heap.size,0,none⟩=some (.slice (some ⟨b',bA,none⟩) S.zOc.zOa.n lc)/\w'.cell? ⟨w.heap.size,1,none⟩=some (v1)/\w'.cell? ⟨w.heap.size,2,none⟩=some (.int .i64 S.zOc.time)/\w'.cell? ⟨w.heap.size,3,none⟩=some (.int .i64 S.zOc.next)/\w'.cell? ⟨w.heap.size,4,none⟩=some (v2)/\w'.cell? ⟨w.heap.size,5,none⟩=some (v3)/\w'.cell? ⟨w.heap.size,6,none⟩=some (.slice (some ⟨b,off,none⟩) S.zOe.zOa.n sc)/\w'.cell? ⟨w.heap.size,7,none⟩=some (.slice ha S.zOe.zOa.hn hc)/\w'.cell? ⟨w.heap.size,8,none⟩=some (.int .i64 S.zOe.time)/\w'.cell? ⟨w.heap.size,9,none⟩=some (.int .i64 S.zOe.next)/\w'.cell? ⟨w.heap.size,10,none⟩=some (iA)/\w'.cell? ⟨w.heap.size,11,none⟩=some (jA)/\w'.cell? ⟨V,0,none⟩=some (.int .i64 (S.zOe.zOa.s k).zOh)/\w'.cell? ⟨V,1,none⟩=some (.slice ka (S.zOe.zOa.s k).kn kc)/\w'.cell? ⟨V,2,none⟩=some (.string (S.zOe.zOa.s k).data)/\w'.cell? ⟨b',bA+k*3,none⟩=some (.int .i64 (S.zOc.zOa.s k).zOh)/\w'.cell? ⟨b',bA+k*3+1,none⟩=some (.slice pa (S.zOc.zOa.s k).kn pc)/\w'.cell? ⟨b',bA+k*3+2,none⟩=some (.string (S.zOc.zOa.s k).data))) (by kernel_rfl) ?_ (fun hHeld=>?_)
     ·(try dsimp only)
      go_keep
     refine tk 0 (h:=?_);refine rd [1] (rc (fun K hK=>?_) .nil);go_simp;go_at_call 65;refine(qb _ _ _ lo hi (S.zOe.zOa.s k) _ ?_).mono ?_
     ·exact nA.out.zOU (zV (Below.refl _ _) 1)
     rintro e w6 ⟨⟨t6,rfl,ht6⟩,kA⟩;obtain rfl:t6=false:=zP ht6 oA.out;clear ht6;have aA:Below W5.heap.size W5 w6:=(by first | exact kA | exact zJ kA);obtain⟨⟨m0,-⟩,⟨m1,-⟩,⟨m2,-⟩,⟨m3,-⟩,⟨m4,-⟩,⟨m5,-⟩,⟨m6,-⟩,⟨m7,-⟩,⟨m8,-⟩,⟨m9,-⟩,⟨mB,-⟩,⟨nB,-⟩⟩:=gA.out.zOU aA;obtain⟨⟨Z0,-⟩,⟨Z1,-⟩,⟨Z2,-⟩⟩:=HV.out.zOU aA;have iB:=(aA.cell (zD R0)).trans R0;have jB:=(aA.cell (zD R1)).trans R1;have kB:=(aA.cell (zD R2)).trans R2
     (try go_wp2_with fail)
     refine hK.out _ _ (by(try dsimp only);go_keep) ?_;clear hK K hHeld;intro hHeld
     try simp only[Act.put,s1,s2,s3]
     refine tk 2 (h:=tk 3 (h:=tk 4 (h:=tk 5 (h:=tk 6 (h:=tk 7 (h:=tk 8 (h:=tk 9 (h:=tk 10 (h:=tk 11 (h:=?_))))))))));refine rd [12] (rc (fun K hK=>?_) .nil);go_simp;go_at_call 118;refine(zFn lo hi lo hi (S.zOe.zOa.s k) (S.zOc.zOa.s k) ka pa kc pc _ ?_ ?_).mono ?_
     ·exact nA.out.zOU aA
     ·exact lA.out.zOU aA
     rintro e w7 ⟨⟨t7,rfl,sA⟩,eB⟩;obtain rfl:t7=true:=sA.2 Hq.out;clear sA;have cA:=zA aA eB;obtain⟨⟨n0,-⟩,⟨n1,-⟩,⟨n2,-⟩,⟨n3,-⟩,⟨n4,-⟩,⟨n5,-⟩,⟨n6,-⟩,⟨n7,-⟩,⟨n8,-⟩,⟨n9,-⟩,⟨aC,-⟩,⟨bC,-⟩⟩:=gA.out.zOU cA;obtain⟨⟨y0,-⟩,⟨y1,-⟩,⟨y2,-⟩⟩:=HV.out.zOU cA;have cC:=(cA.cell (zD R0)).trans R0;have dC:=(cA.cell (zD R1)).trans R1;have eC:=(cA.cell (zD R2)).trans R2
     (try go_wp2_with fail)
     refine hK.out _ _ (by(try dsimp only);go_keep) ?_;clear hK K hHeld;intro hHeld
     try simp only[Act.put,s1,s2,s3]
     refine tk 13 (h:=tk 14 (h:=?_));refine wpAnyH_done (by kernel_rfl) ?_ _;go_wp2;go_roundw
     case rel=>
      refine⟨k+1,by omega,by go_num,?_,gA.out.zOU cA,zA vA cA⟩;intro j hj hn;by_cases e:j=k
      ·subst e;exact Hq.out
      ·exact mA.out j (by omega) hn
     case measure=>simp[intOf];omega
    ·have Hq:=zB hq;clear hq;refine wp_region_held_drew (S:=(fun w'=>w'.cell? ⟨w.heap.size,0,none⟩=some (.slice (some ⟨b',bA,none⟩) S.zOc.zOa.n lc)/\w'.cell? ⟨w.heap.size,1,none⟩=some (v1)/\w'.cell? ⟨w.heap.size,2,none⟩=some (.int .i64 S.zOc.time)/\w'.cell? ⟨w.heap.size,3,none⟩=some (.int .i64 S.zOc.next)/\w'.cell? ⟨w.heap.size,4,none⟩=some (v2)/\w'.cell? ⟨w.heap.size,5,none⟩=some (v3)/\w'.cell? ⟨w.heap.size,6,none⟩=some (.slice (some ⟨b,off,none⟩) S.zOe.zOa.n sc)/\w'.cell? ⟨w.heap.size,7,none⟩=some (.slice ha S.zOe.zOa.hn hc)/\w'.cell? ⟨w.heap.size,8,none⟩=some (.int .i64 S.zOe.time)/\w'.cell? ⟨w.heap.size,9,none⟩=some (.int .i64 S.zOe.next)/\w'.cell? ⟨w.heap.size,10,none⟩=some (iA)/\w'.cell? ⟨w.heap.size,11,none⟩=some (jA)/\w'.cell? ⟨V,0,none⟩=some (.int .i64 (S.zOe.zOa.s k).zOh)/\w'.cell? ⟨V,1,none⟩=some (.slice ka (S.zOe.zOa.s k).kn kc)/\w'.cell? ⟨V,2,none⟩=some (.string (S.zOe.zOa.s k).data)/\w'.cell? ⟨b',bA+k*3,none⟩=some (.int .i64 (S.zOc.zOa.s k).zOh)/\w'.cell? ⟨b',bA+k*3+1,none⟩=some (.slice pa (S.zOc.zOa.s k).kn pc)/\w'.cell? ⟨b',bA+k*3+2,none⟩=some (.string (S.zOc.zOa.s k).data))) (by kernel_rfl) ?_ (fun hHeld=>?_)
     ·(try dsimp only)
      go_keep
     refine tk 0 (h:=?_);refine rd [1] (rc (fun K hK=>?_) .nil);go_simp;go_at_call 65;refine(qb _ _ _ lo hi (S.zOe.zOa.s k) _ ?_).mono ?_
     ·exact nA.out.zOU (zV (Below.refl _ _) 1)
     rintro e w6 ⟨⟨t6,rfl,ht6⟩,kA⟩;obtain rfl:t6=false:=zP ht6 oA.out;clear ht6;have aA:Below W5.heap.size W5 w6:=(by first | exact kA | exact zJ kA);obtain⟨⟨m0,-⟩,⟨m1,-⟩,⟨m2,-⟩,⟨m3,-⟩,⟨m4,-⟩,⟨m5,-⟩,⟨m6,-⟩,⟨m7,-⟩,⟨m8,-⟩,⟨m9,-⟩,⟨mB,-⟩,⟨nB,-⟩⟩:=gA.out.zOU aA;obtain⟨⟨Z0,-⟩,⟨Z1,-⟩,⟨Z2,-⟩⟩:=HV.out.zOU aA;have iB:=(aA.cell (zD R0)).trans R0;have jB:=(aA.cell (zD R1)).trans R1;have kB:=(aA.cell (zD R2)).trans R2
     (try go_wp2_with fail)
     refine hK.out _ _ (by(try dsimp only);go_keep) ?_;clear hK K hHeld;intro hHeld
     try simp only[Act.put,s1,s2,s3]
     refine tk 2 (h:=tk 3 (h:=tk 4 (h:=tk 5 (h:=tk 6 (h:=tk 7 (h:=tk 8 (h:=tk 9 (h:=tk 10 (h:=tk 11 (h:=?_))))))))));refine rd [12] (rc (fun K hK=>?_) .nil);go_simp;go_at_call 118;refine(zFn lo hi lo hi (S.zOe.zOa.s k) (S.zOc.zOa.s k) ka pa kc pc _ ?_ ?_).mono ?_
     ·exact nA.out.zOU aA
     ·exact lA.out.zOU aA
     rintro e w7 ⟨⟨t7,rfl,sA⟩,eB⟩;obtain rfl:t7=false:=zP sA Hq.out;clear sA;have cA:=zA aA eB;obtain⟨⟨n0,-⟩,⟨n1,-⟩,⟨n2,-⟩,⟨n3,-⟩,⟨n4,-⟩,⟨n5,-⟩,⟨n6,-⟩,⟨n7,-⟩,⟨n8,-⟩,⟨n9,-⟩,⟨aC,-⟩,⟨bC,-⟩⟩:=gA.out.zOU cA;obtain⟨⟨y0,-⟩,⟨y1,-⟩,⟨y2,-⟩⟩:=HV.out.zOU cA;have cC:=(cA.cell (zD R0)).trans R0;have dC:=(cA.cell (zD R1)).trans R1;have eC:=(cA.cell (zD R2)).trans R2
     (try go_wp2_with fail)
     refine hK.out _ _ (by(try dsimp only);go_keep) ?_;clear hK K hHeld;intro hHeld
     try simp only[Act.put,s1,s2,s3]
     refine tk 13 (h:=tk 14 (h:=?_));refine wpAnyH_done (by kernel_rfl) ?_ _;go_wp2;go_ret;exact⟨zK.no fun h=>Hq.out (h.slots k hlt oA.out),zA vA cA⟩
  ·obtain rfl:k=S.zOe.zOa.n:=(by omega);obtain⟨⟨x0,-⟩,⟨x1,-⟩,⟨x2,-⟩,⟨x3,-⟩,⟨x4,-⟩,⟨x5,-⟩,⟨x6,-⟩,⟨x7,-⟩,⟨x8,-⟩,⟨x9,-⟩,⟨eA,-⟩,⟨fA,-⟩⟩:=HX.out;go_wp2;go_ret;exact⟨zK.yes ⟨HL.out,HF.out,E1.out,E2.out,E3.out,E4.out,mA.out⟩,hb⟩
end Go.Proofs.YtgabgheflgjgiaaGreatDoor
