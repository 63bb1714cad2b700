/- A part of the proof. -/
import Derived.Test.YtgabgheflgjgiaaGreatDoorU28
set_option linter.unusedVariables false
set_option maxRecDepth 20000
set_option maxHeartbeats 4000000
namespace Go.Proofs.YtgabgheflgjgiaaGreatDoor
open Go.RowKit
theorem zLP{w:World}{lo hi:Nat}{a:Option Addr}{n c:Nat}{f:Nat->Int}(h:zAb w lo hi (.slice a n c) n f){k:Nat}(hk:k<n):∃b off,a=some ⟨b,off,none⟩/\w.cell? ⟨b,off+k,none⟩=some (.int .i64 (f k)):=by
 obtain⟨_,a2,c2,hv,_,hx⟩:=h;simp only[Value.slice.injEq,true_and]at hv;obtain⟨rfl,rfl⟩:=hv;obtain⟨b,off,ha,_,_,h3⟩:=hx (by omega);exact⟨b,off,ha,h3 k hk⟩
theorem zFb(v0 v1:Value)(lo hi:Nat)(p:zI)(w:World)(h1:qm w lo hi v0 v1 p)(hn:qA p<=1048576):Calls Tryz.prog 64 #[.agg #[v0,v1]] w (zIQ (yI p) w):=by
 have Hp:=zQ h1;obtain⟨a,c,a',c',rfl,rfl⟩:=h1.form;have Hn:=zQ hn;have tC:p.n<=2 ^ 63 - 1:=h1.1.1;have vC:p.hn<=2 ^ 63 - 1:=h1.2.1;have mc:p.n<=c:=by obtain⟨⟨_,_,_,e,h,_⟩,_⟩:=h1;simp only[Value.slice.injEq,true_and]at e;omega
 have cD:p.hn<=c':=by obtain⟨_,⟨_,_,_,e,h,_⟩⟩:=h1;simp only[Value.slice.injEq,true_and]at e;omega
 clear h1 hn;have eB:=zA (zC w (.cells #[.slice a p.n c,.slice a' p.hn c'] 36)) (zC _ (.cells #[.slice none 0 0,.slice none 0 0] 36));have HB:=zQ ((zk.zOt w (.slice a p.n c) (.slice a' p.hn c') 36).zOp (zC _ (.cells #[.slice none 0 0,.slice none 0 0] 36)));have jB:=zk.zOt (w.alloc (.cells #[.slice a p.n c,.slice a' p.hn c'] 36)) (.slice none 0 0) (.slice none 0 0) 36;rw[World.size_alloc]at jB;have HR:=zQ jB;clear jB;go_enter Tryz.func64,Tryz.ntmps64;go_wp2_with fail;refine(zA0 _ _ lo hi p _ (Hp.out.zOp eB) Hn.out).mono ?_;rintro e w1 ⟨s0,s1,rfl,pA,kA⟩;rw[World.size_alloc,World.size_alloc]at pA;have rA:=zQ (HB.out.zOp kA);have mA:=zQ (HR.out.zOp kA);have gA:=zA eB kA;have rC:w.heap.size+2<=w1.heap.size:=by have:=kA.size;rw[World.size_alloc,World.size_alloc]at this;omega
 obtain⟨a0,c0,a1,c1,rfl,rfl⟩:=pA.form;have pB:=zQ pA;clear pA kA eB HB HR;have oA:=zC w1 (.cells #[.slice a0 p.n c0,.slice a1 p.hn c1] 36);obtain⟨⟨x0,x1⟩,⟨x2,x3⟩⟩:=rA.out.zOp oA;go_wp2_with fail;refine(yt _ _ lo hi p _ (Hp.out.zOp (zA gA oA))).mono ?_;rintro e w2 ⟨⟨t,rfl,ht⟩,cB⟩;have iA:=zA oA cB;have dC:=zQ (rA.out.zOp iA);have sA:=zQ (mA.out.zOp iA);have eA:=zQ ((zk.zOt w1 (.slice a0 p.n c0) (.slice a1 p.hn c1) 36).zOp cB);have vA:=zQ (pB.out.zOp iA);have sB:=zA gA iA;generalize w1.heap.size=OUT at rC eA vA ⊢;clear oA cB iA rA mA pB gA x0 x1 x2 x3;by_cases hR:zt p
 ·have nA:=zQ hR;obtain rfl:t=true:=ht.2 hR;clear ht hR;have cC:OUT<w2.heap.size:=eA.out.1.lt;go_wp2
  go_loopw [4] (fun i wr=>∃k:Nat,k<=p.hn/\i = .int .i64 k/\zk wr w.heap.size (.slice a p.n c) (.slice a' p.hn c')/\zk wr (w.heap.size+1) (.slice none 0 0) (.slice none 0 0)/\zk wr OUT (.slice a0 p.n c0) (.slice a1 p.hn c1)/\
    zh wr (w.heap.size+1+1) OUT (.slice a0 p.n c0) (.slice a1 p.hn c1) (zCX p k)/\Below w.heap.size w wr/\OUT<wr.heap.size) (fun i _=>p.hn - (intOf i).toNat)
  case atStart=>exact⟨0,Nat.zero_le _,rfl,dC.out,sA.out,eA.out,by rw[zKC];exact vA.out,sB,cC⟩
  case round=>
   obtain⟨k,hk,rfl,hx,hr,ho,bC,hb,bD⟩:=hrel;have Hx:=zQ hx;have Hr:=zQ hr;have Ho:=zQ ho;have rB:=zQ bC;clear hx hr ho bC;obtain⟨⟨x0,x1⟩,⟨x2,x3⟩⟩:=Hx.out;obtain⟨⟨y0,y1⟩,⟨y2,y3⟩⟩:=Ho.out;by_cases aC:k<p.hn
   ·have oC:(k:Int)<(p.hn:Int):=(by omega);obtain⟨vB,nC,_⟩:=nA.out.2.2 k aC;obtain⟨m,hm⟩:=Int.eq_ofNat_of_zero_le vB;rw[hm]at vB nC;have pC:m<p.n:=(by omega);obtain⟨jA,gB,rfl,aA⟩:=zLP Hp.out.2 aC;rw[hm]at aA;have mC:jA<w.heap.size:=zD aA;have fB:=(hb.cell (p:=⟨jA,gB+k,none⟩) mC).trans aA;obtain⟨bs,off,rfl,sC,⟨q0,q1,q2,⟨r0,r1⟩,⟨r2,r3⟩,⟨r4,r5⟩⟩,lA⟩:=rB.out.set (i:=m) pC;have fA:=zQ (lA zDN 0 (.slice none 0 0) (w.heap.size+1+1) OUT ⟨Nat.zero_le _,none,0,rfl,Nat.le_refl _,fun h=>absurd h (Nat.lt_irrefl _)⟩ (Nat.zero_le _) (fun h=>absurd h (Nat.lt_irrefl _)) (Nat.le_refl _) (Nat.le_refl _));have Hm:=zQ hm;have n0:bs≠w.heap.size:=(by omega);have n1:bs≠OUT:=(by omega);have n2:bs≠jA:=(by omega);clear lA aA hm;go_wp2_with fail;go_region_held3 (fun w'=>w'.cell? ⟨w.heap.size,1,none⟩=some (.slice (some ⟨jA,gB,none⟩) p.hn c')/\w'.cell? ⟨OUT,0,none⟩=some (.slice (some ⟨bs,off,none⟩) p.n c0)/\w'.cell? ⟨jA,gB+k,none⟩=some (.int .i64 (m:Int))) (go_keep) (fail);have tX:=((zE.put wr bs (off+m*3) (.int .i64 0)).trans (zE.put _ bs (off+m*3+1) (.slice none 0 0))).trans (zE.put _ bs (off+m*3+2) (.string ⟨#[]⟩));have gC:=zQ ((Hx.out.zOr tX (by omega)).zOp (Below.refl _ _).drew);have mA:=zQ ((Hr.out.zOr tX (by omega)).zOp (Below.refl _ _).drew);have eC:=zQ ((Ho.out.zOr tX (by omega)).zOp (Below.refl _ _).drew);have gA:=(hb.trans (tX.zOp (by omega) (fun k hk=>by omega))).drew;have hz:=tX.size;have fC:=zQ (fA.out.zOp (Below.refl _ _).drew);clear tX fA;go_wp2;go_roundw
    case rel=>
     refine⟨k+1,by omega,by go_num,gC.out,mA.out,eC.out,?_,gA,by simp only[World.size_setCell,World.size_drew]at *;omega⟩;rw[zKB Hm.out];exact fC.out
    case measure=>simp[intOf];omega
   ·obtain rfl:k=p.hn:=(by omega);have aB:=zQ ((rB.out.zOr (zE.put wr OUT 1 (.slice none 0 0)) (fun k hk=>by omega)).noHeld);have oB:=zQ (Hx.out.zOq (b':=OUT) (o':=1) (.slice none 0 0) (by omega));have nB:=zQ (Hr.out.zOq (b':=OUT) (o':=1) (.slice none 0 0) (by omega));have lB:Hid (zk (wr.setCell ⟨OUT,1,none⟩ (.slice none 0 0)) OUT (.slice a0 p.n c0) (.slice none 0 0)):=⟨Ho.out.1.zOq _ (Or.inr (by omega)),Ho.out.2.set _⟩;have tB:=hb.setCell (p:=⟨OUT,1,none⟩) (by show _<=OUT;omega) (.slice none 0 0);go_wp2_with fail;refine(yt _ _ (w.heap.size+1+1) OUT (zEM p) _ aB.out.at).mono ?_;rintro e w3 ⟨⟨t,rfl,ht⟩,dA⟩;have iC:=zQ (oB.out.zOp dA);have tA:=zQ (nB.out.zOp dA);have kB:=zQ (lB.out.zOp dA);have jC:=zQ (aB.out.zOp dA);have bB:=zA tB dA;have aD:OUT<w3.heap.size:=kB.out.1.lt;clear dA aB oB nB lB tB x0 x1 x2 x3 y0 y1 y2 y3;by_cases hS:zt (zEM p)
    ·have HS:=zQ hS;obtain rfl:t=true:=ht.2 hS;clear ht hS;obtain⟨⟨y0,y1⟩,⟨y2,y3⟩⟩:=kB.out;obtain⟨⟨u0,u1⟩,⟨u2,u3⟩⟩:=tA.out;go_wp2;have bA:=tA.out.put (.slice a0 p.n c0) (.slice none 0 0);have cA:=zG1 (R:=w.heap.size+1) jC.out (by omega) (by omega) (by omega) bB;refine bodyPost_ret (v:=.agg #[.slice a0 p.n c0,.slice none 0 0]) (by simp[results,Tryz.results64,go_sem,bA.1.1,bA.2.1]) rfl ⟨_,_,rfl,?_,cA.2⟩;rw[zJq nA.out HS.out];exact cA.1
    ·have HS:=zQ hS;obtain rfl:t=false:=zP ht hS;clear ht hS;obtain⟨⟨y0,y1⟩,⟨y2,y3⟩⟩:=iC.out;go_wp2_with fail;refine(zA0 _ _ lo hi p _ (Hp.out.zOp bB) Hn.out).mono ?_;rintro e w4 ⟨s0,s1,rfl,iB,dB⟩;obtain⟨a4,c4,a5,c5,rfl,rfl⟩:=iB.form;have mB:=zQ (tA.out.zOp dB);have kC:=zQ iB;have lC:=zA bB dB;clear iB dB;obtain⟨⟨u0,u1⟩,⟨u2,u3⟩⟩:=mB.out;go_wp2;have bA:=mB.out.put (.slice a4 p.n c4) (.slice a5 p.hn c5);have cA:=zG1 (R:=w.heap.size+1) kC.out (by omega) (by omega) (Nat.le_refl _) lC;refine bodyPost_ret (v:=.agg #[.slice a4 p.n c4,.slice a5 p.hn c5]) (by simp[results,Tryz.results64,go_sem,bA.1.1,bA.2.1]) rfl ⟨_,_,rfl,?_,cA.2⟩;rw[zI4 (fun h=>HS.out h.2)];exact cA.1
 ·have nA:=zQ hR;obtain rfl:t=false:=zP ht hR;clear ht hR;obtain⟨⟨y0,y1⟩,⟨y2,y3⟩⟩:=eA.out;obtain⟨⟨u0,u1⟩,⟨u2,u3⟩⟩:=sA.out;have cC:OUT<w2.heap.size:=eA.out.1.lt;go_wp2;have bA:=sA.out.put (.slice a0 p.n c0) (.slice a1 p.hn c1);have cA:=zG1 (R:=w.heap.size+1) vA.out (by omega) (by omega) (by omega) sB;refine bodyPost_ret (v:=.agg #[.slice a0 p.n c0,.slice a1 p.hn c1]) (by simp[results,Tryz.results64,go_sem,bA.1.1,bA.2.1]) rfl ⟨_,_,rfl,?_,cA.2⟩;rw[zI4 (fun h=>nA.out h.1)];exact cA.1
noncomputable def qF(W:zH):zH:={W with zOv:=yI W.zOv,time:=W.time+1}
open Go.Maps
theorem zNq{a b c d:Int}(h:¬(a=c/\b=d)):(a == c)=false\/(a == c)=true/\(b == d)=false:=by
 by_cases e:a=c
 ·right;refine⟨by simp[e],?_⟩;have:¬b=d:=fun e'=>h ⟨e,e'⟩
  simp[this]
 ·left;simp[e]
theorem zFP{a b:Int}(h:a=b):(a == b)=true/\(a != b)=false/\decide (a=b)=true:=by subst h;simp
theorem zFQ{a b:Int}(h:¬a=b):(a == b)=false/\(a != b)=true/\decide (a=b)=false:=by simp[h]
theorem zFw(lo hi nA iA:Nat)(s t:zO)(pa qa:Option Addr)(pc qc:Nat)(w:World)(h1:zBQ w lo hi (.int .i64 s.zO1) (.slice pa s.kn pc) (.string s.data) s)(h2:zBQ w nA iA (.int .i64 t.zO1) (.slice qa t.kn qc) (.string t.data) t) :
  Calls Tryz.prog 118 #[.agg #[.int .i64 s.zO1,.slice pa s.kn pc,.string s.data],.agg #[.int .i64 t.zO1,.slice qa t.kn qc,.string t.data]] w fun e w'=>zK (zER s t) e/\Below w.heap.size w w':=by
 have H1:=zB h1.2.1;have H2:=zB h2.2.1;have lA:=h1.2.1.1;have mA:=h2.2.1.1;unfold maxLen at lA mA;clear h1 h2;have ha:=zC w (.cells #[.int .i64 s.zO1,.slice pa s.kn pc,.string s.data] 128);have cA:=zC (w.alloc (.cells #[.int .i64 s.zO1,.slice pa s.kn pc,.string s.data] 128)) (.cells #[.int .i64 t.zO1,.slice qa t.kn qc,.string t.data] 128);have hA:=zA ha cA;have HX:=zB ((qP.zOt w (.int .i64 s.zO1) (.slice pa s.kn pc) (.string s.data) 128).zOp cA);have hy:=qP.zOt (w.alloc (.cells #[.int .i64 s.zO1,.slice pa s.kn pc,.string s.data] 128)) (.int .i64 t.zO1) (.slice qa t.kn qc) (.string t.data) 128;rw[World.size_alloc]at hy;have HY:=zB hy;clear hy ha cA;obtain⟨⟨x0,-⟩,⟨x1,-⟩,⟨x2,-⟩⟩:=HX.out;obtain⟨⟨y0,-⟩,⟨y1,-⟩,⟨y2,-⟩⟩:=HY.out;by_cases e1:s.zO1=t.zO1;rotate_left
 ·have H:=zB e1;obtain⟨i1,i2,i3⟩:=zFQ e1;go_enter Tryz.func118,Tryz.ntmps118;go_wp2;go_ret;exact⟨zK.no fun h=>H.out h.1,hA⟩
 have E1:=zB e1;obtain⟨i1,i2,i3⟩:=zFP e1;clear e1;by_cases e2:s.data=t.data;rotate_left
 ·have H:=zB e2;have i4:=zBK e2;clear e2;go_enter Tryz.func118,Tryz.ntmps118;go_wp2;go_ret;exact⟨zK.no fun h=>H.out h.2.2,hA⟩
 have E2:=zB e2;have i4:=zDJ e2;clear e2;by_cases e3:s.kn=t.kn;rotate_left
 ·have H:=zB e3;obtain⟨i5,i6,i7⟩:=zFQ (show ¬(s.kn:Int)=(t.kn:Int)by omega);clear e3;go_enter Tryz.func118,Tryz.ntmps118;go_wp2;go_ret;exact⟨zK.no fun h=>H.out h.2.1.1,hA⟩
 have E3:=zB e3;obtain⟨i5,i6,i7⟩:=zFP (show(s.kn:Int)=(t.kn:Int)by omega);clear e3;go_enter Tryz.func118,Tryz.ntmps118;go_wp2;clear x0 x1 x2 y0 y1 y2 i1 i2 i3 i4 i5 i6 i7
 go_loopw [5] (fun i wr=>∃k:Nat,k<=s.kn/\i = .int .i64 k/\(∀j,j<k->s.ks j=t.ks j/\s.kb j=t.kb j)/\qP wr w.heap.size (.int .i64 s.zO1) (.slice pa s.kn pc) (.string s.data)/\qP wr (w.heap.size+1) (.int .i64 t.zO1) (.slice qa t.kn qc) (.string t.data)/\Below w.heap.size w wr) (fun i _=>s.kn - (intOf i).toNat)
 case atStart=>exact⟨0,Nat.zero_le _,rfl,fun j h=>absurd h (Nat.not_lt_zero _),HX.out,HY.out,hA⟩
 case round=>
  obtain⟨k,hk,rfl,bA,hX,hY,hb⟩:=hrel;have aA:=zB bA;have eA:=zB hX;have fA:=zB hY;clear bA hX hY;obtain⟨⟨x0,-⟩,⟨x1,-⟩,⟨x2,-⟩⟩:=eA.out;obtain⟨⟨y0,-⟩,⟨y1,-⟩,⟨y2,-⟩⟩:=fA.out;by_cases gA:k<s.kn
  ·have jA:(k:Int)<(s.kn:Int):=(by omega);have dA:k<t.kn:=(by have:=E3.out;omega);have kA:(k:Int)<(t.kn:Int):=(by omega);obtain⟨b,off,rfl,q0,q1⟩:=(H1.out.zOp hb).cellsD gA;obtain⟨b',oA,rfl,r0,r1⟩:=(H2.out.zOp hb).cellsD dA;by_cases he:s.ks k=t.ks k/\s.kb k=t.kb k
   ·have H:=zB he;rw[he.1]at q0;rw[he.2]at q1;clear he;go_wp2
    go_quiet (fail)
    go_wp2;go_roundw
    case rel=>
     refine⟨k+1,by omega,by go_num,?_,eA.out.zOp (zV (Below.refl _ _) _),fA.out.zOp (zV (Below.refl _ _) _),zV hb _⟩;intro j hj;by_cases e:j=k
     ·subst e;exact H.out
     ·exact aA.out j (by omega)
    case measure=>simp[intOf];omega
   ·have H:=zB he;have e0:=zNq he;clear he;rcases e0 with e0 | ⟨e0,e1⟩
    all_goals
     go_wp2
     go_quiet (fail)
     go_wp2;go_ret;exact⟨zK.no fun h=>H.out (h.2.1.2 k gA),zV hb _⟩
  ·obtain rfl:k=s.kn:=(by omega);go_wp2;go_ret;exact⟨zK.yes ⟨E1.out,⟨E3.out,aA.out⟩,E2.out⟩,hb⟩
structure zBf (S:zBA):Prop where
 zOx:zBr S.zOx
 zOz:zBr S.zOz
 many:S.zOx.zOv.n=S.zOz.zOv.n
 held:S.zOz.zOv.hn=0
 time:S.zOz.time<=S.zOx.time
 next:S.zOz.next<=S.zOx.next
 slots:∀i,i<S.zOz.zOv.n->¬qJ (S.zOz.zOv.s i)->zER (S.zOz.zOv.s i) (S.zOx.zOv.s i)
theorem zCP(v0 v1 v2 v3 sB tB iA jA:Value)(lo hi:Nat)(S:zBA)(w:World)(h:zBv w lo hi v0 v1 v2 v3 sB tB iA jA S) :
  Calls Tryz.prog 63 #[zI3 v0 v1 v2 v3 sB tB iA jA S] w fun e w'=>zK (zBf S) e/\Below w.heap.size w w':=by
 have Hp:=zB h;obtain⟨m1,la,lc,rfl,ml,-⟩:=id h.zOx.zOv.1;obtain⟨m2,sa,sc,rfl,ms,-⟩:=id h.zOz.zOv.1;obtain⟨m3,ha,hc,rfl,mh,-⟩:=id h.zOz.zOv.2;unfold maxLen at m1 m2 m3;clear h;have dA:=zC w (.cells #[.slice la S.zOx.zOv.n lc,v1,.int .i64 S.zOx.time,.int .i64 S.zOx.next,v2,v3,.slice sa S.zOz.zOv.n sc,.slice ha S.zOz.zOv.hn hc,.int .i64 S.zOz.time,.int .i64 S.zOz.next,iA,jA] 42);have HB:=zB (zAm.zOt w (.slice la S.zOx.zOv.n lc) v1 (.int .i64 S.zOx.time) (.int .i64 S.zOx.next) v2 v3 (.slice sa S.zOz.zOv.n sc) (.slice ha S.zOz.zOv.hn hc) (.int .i64 S.zOz.time) (.int .i64 S.zOz.next) iA jA 42);obtain⟨⟨x0,-⟩,⟨x1,-⟩,⟨x2,-⟩,⟨x3,-⟩,⟨x4,-⟩,⟨x5,-⟩,⟨x6,-⟩,⟨x7,-⟩,⟨x8,-⟩,⟨x9,-⟩,⟨eA,-⟩,⟨fA,-⟩⟩:=HB.out;go_enter Tryz.func63,Tryz.ntmps63;go_wp2_with fail;generalize w.alloc (.cells #[.slice la S.zOx.zOv.n lc,v1,.int .i64 S.zOx.time,.int .i64 S.zOx.next,v2,v3,.slice sa S.zOz.zOv.n sc,.slice ha S.zOz.zOv.hn hc,.int .i64 S.zOz.time,.int .i64 S.zOz.next,iA,jA] 42)=W0 at dA HB x0 x1 x2 x3 x4 x5 x6 x7 x8 x9 eA fA ⊢;refine(zv _ _ _ _ lo hi S.zOx W0 (Hp.out.zOx.zOp dA)).mono ?_;rintro e w1 ⟨⟨t,rfl,ht⟩,eB⟩;have Ht:=zB ht;have aB:=zA dA eB;have dB:=zB (HB.out.zOp eB);clear ht x0 x1 x2 x3 x4 x5 x6 x7 x8 x9 eA fA eB dA HB;obtain⟨⟨x0,-⟩,⟨x1,-⟩,⟨x2,-⟩,⟨x3,-⟩,⟨x4,-⟩,⟨x5,-⟩,⟨x6,-⟩,⟨x7,-⟩,⟨x8,-⟩,⟨x9,-⟩,⟨eA,-⟩,⟨fA,-⟩⟩:=dB.out;cases t
 ·go_wp2;go_ret;exact⟨zK.no fun h=>absurd (Ht.out.2 h.zOx) (by simp),aB⟩
 have HL:=zB (Ht.out.1 rfl);clear Ht;go_wp2_with fail;refine(zv _ _ _ _ lo hi S.zOz w1 (Hp.out.zOz.zOp aB)).mono ?_;rintro e w2 ⟨⟨t,rfl,ht⟩,fB⟩;have Ht:=zB ht;have rA:=zA aB fB;have jB:=zB (dB.out.zOp fB);clear ht x0 x1 x2 x3 x4 x5 x6 x7 x8 x9 eA fA fB aB dB;obtain⟨⟨x0,-⟩,⟨x1,-⟩,⟨x2,-⟩,⟨x3,-⟩,⟨x4,-⟩,⟨x5,-⟩,⟨x6,-⟩,⟨x7,-⟩,⟨x8,-⟩,⟨x9,-⟩,⟨eA,-⟩,⟨fA,-⟩⟩:=jB.out;cases t
 ·go_wp2;go_ret;exact⟨zK.no fun h=>absurd (Ht.out.2 h.zOz) (by simp),rA⟩
 have HF:=zB (Ht.out.1 rfl);clear Ht;by_cases e1:S.zOx.zOv.n=S.zOz.zOv.n;rotate_left
 ·obtain⟨i1,i2,i3⟩:=zFQ (show ¬(S.zOx.zOv.n:Int)=(S.zOz.zOv.n:Int)by omega);have H:=zB e1;clear e1;go_wp2;go_ret;exact⟨zK.no fun h=>H.out h.many,rA⟩
 obtain⟨i1,i2,i3⟩:=zFP (show(S.zOx.zOv.n:Int)=(S.zOz.zOv.n:Int)by omega);have E1:=zB e1;clear e1;by_cases e2:S.zOz.zOv.hn=0;rotate_left
 ·have i4:(0:Int)<(S.zOz.zOv.hn:Int):=(by omega);have H:=zB e2;clear e2;go_wp2;go_ret;exact⟨zK.no fun h=>H.out h.held,rA⟩
 have i4:¬(0:Int)<(S.zOz.zOv.hn:Int):=by omega
 have E2:=zB e2;clear e2;by_cases e3:S.zOx.time<S.zOz.time
 ·have H:=zB e3;go_wp2;go_ret;exact⟨zK.no fun h=>by have:=h.time;have:=H.out;omega,rA⟩
 have E3:=zB (show S.zOz.time<=S.zOx.time by omega);by_cases e4:S.zOx.next<S.zOz.next
 ·have H:=zB e4;go_wp2;go_ret;exact⟨zK.no fun h=>by have:=h.next;have:=H.out;omega,rA⟩
 have E4:=zB (show S.zOz.next<=S.zOx.next by omega);go_wp2;clear x0 x1 x2 x3 x4 x5 x6 x7 x8 x9 eA fA i1 i2 i3 i4 e3 e4
 go_loopw [3] (fun i wr=>∃k:Nat,k<=S.zOz.zOv.n/\i = .int .i64 k/\(∀j,j<k->¬qJ (S.zOz.zOv.s j)->zER (S.zOz.zOv.s j) (S.zOx.zOv.s j))/\zAm wr w.heap.size (.slice la S.zOx.zOv.n lc) v1 (.int .i64 S.zOx.time) (.int .i64 S.zOx.next) v2 v3 (.slice sa S.zOz.zOv.n sc) (.slice ha S.zOz.zOv.hn hc) (.int .i64 S.zOz.time) (.int .i64 S.zOz.next) iA jA/\Below w.heap.size w wr) (fun i _=>S.zOz.zOv.n - (intOf i).toNat)
 case atStart=>exact⟨0,Nat.zero_le _,rfl,fun j h=>absurd h (Nat.not_lt_zero _),jB.out,rA⟩
 case round=>
  obtain⟨k,hk,rfl,sA,hX,hb⟩:=hrel;have nA:=zB sA;have HX:=zB hX;clear sA hX;by_cases nB:k<S.zOz.zOv.n
  ·have vB:(k:Int)<(S.zOz.zOv.n:Int):=(by omega);have iB:k<S.zOx.zOv.n:=(by have:=E1.out;omega);have aC:(k:Int)<(S.zOx.zOv.n:Int):=(by omega);obtain⟨b,off,ka,kc,rfl,hs⟩:=(Hp.out.zOz.zOv.1.zOp hb).cells nB;obtain⟨b',bA,pa,pc,rfl,bC⟩:=(Hp.out.zOx.zOv.1.zOp hb).cells iB;obtain⟨q0,q1,q2,oB⟩:=hs;obtain⟨r0,r1,r2,tA⟩:=bC;have dA:=zC wr (.cells #[.int .i64 (S.zOz.zOv.s k).zO1,.slice ka (S.zOz.zOv.s k).kn kc,.string (S.zOz.zOv.s k).data] 128);have HV:=zB (qP.zOt wr (.int .i64 (S.zOz.zOv.s k).zO1) (.slice ka (S.zOz.zOv.s k).kn kc) (.string (S.zOz.zOv.s k).data) 128);have gA:=zB (HX.out.zOp dA);have oA:=zB (oB.zOp dA);have mA:=zB (tA.zOp dA);have bB:=zA hb dA;have R0:=(dA.cell (zD r0)).trans r0;have R1:=(dA.cell (zD r1)).trans r1;have R2:=(dA.cell (zD r2)).trans r2;clear oB tA r0 r1 r2;obtain⟨⟨x0,-⟩,⟨x1,-⟩,⟨x2,-⟩,⟨x3,-⟩,⟨x4,-⟩,⟨x5,-⟩,⟨x6,-⟩,⟨x7,-⟩,⟨x8,-⟩,⟨x9,-⟩,⟨eA,-⟩,⟨fA,-⟩⟩:=HX.out;obtain⟨⟨z0,-⟩,⟨z1,-⟩,⟨z2,-⟩⟩:=HV.out;go_wp2_with fail;clear x0 x1 x2 x3 x4 x5 x6 x7 x8 x9 eA fA q0 q1 q2 dA;generalize wr.alloc (.cells #[.int .i64 (S.zOz.zOv.s k).zO1,.slice ka (S.zOz.zOv.s k).kn kc,.string (S.zOz.zOv.s k).data] 128)=W5 at HV gA oA mA bB R0 R1 R2 z0 z1 z2 ⊢;generalize wr.heap.size=V at HV z0 z1 z2 ⊢;obtain⟨⟨x0,-⟩,⟨x1,-⟩,⟨x2,-⟩,⟨x3,-⟩,⟨x4,-⟩,⟨x5,-⟩,⟨x6,-⟩,⟨x7,-⟩,⟨x8,-⟩,⟨x9,-⟩,⟨eA,-⟩,⟨fA,-⟩⟩:=gA.out;by_cases cB:qJ (S.zOz.zOv.s k)
   ·have pA:=zB cB;clear cB;refine wp_region_held_drew (S:=(fun w'=>w'.cell? ⟨w.heap.size,0,none⟩=some (.slice (some ⟨b',bA,none⟩) S.zOx.zOv.n lc)/\w'.cell? ⟨w.heap.size,1,none⟩=some (v1)/\w'.cell? ⟨w.heap.size,2,none⟩=some (.int .i64 S.zOx.time)/\w'.cell? ⟨w.heap.size,3,none⟩=some (.int .i64 S.zOx.next)/\w'.cell? ⟨w.heap.size,4,none⟩=some (v2)/\w'.cell? ⟨w.heap.size,5,none⟩=some (v3)/\w'.cell? ⟨w.heap.size,6,none⟩=some (.slice (some ⟨b,off,none⟩) S.zOz.zOv.n sc)/\w'.cell? ⟨w.heap.size,7,none⟩=some (.slice ha S.zOz.zOv.hn hc)/\w'.cell? ⟨w.heap.size,8,none⟩=some (.int .i64 S.zOz.time)/\w'.cell? ⟨w.heap.size,9,none⟩=some (.int .i64 S.zOz.next)/\w'.cell? ⟨w.heap.size,10,none⟩=some (iA)/\w'.cell? ⟨w.heap.size,11,none⟩=some (jA)/\w'.cell? ⟨V,0,none⟩=some (.int .i64 (S.zOz.zOv.s k).zO1)/\w'.cell? ⟨V,1,none⟩=some (.slice ka (S.zOz.zOv.s k).kn kc)/\w'.cell? ⟨V,2,none⟩=some (.string (S.zOz.zOv.s k).data)/\w'.cell? ⟨b',bA+k*3,none⟩=some (.int .i64 (S.zOx.zOv.s k).zO1)/\w'.cell? ⟨b',bA+k*3+1,none⟩=some (.slice pa (S.zOx.zOv.s k).kn pc)/\w'.cell? ⟨b',bA+k*3+2,none⟩=some (.string (S.zOx.zOv.s k).data))) (by kernel_rfl) ?_ (fun hHeld=>?_)
    ·(try dsimp only)
     go_keep
    refine tk 0 (h:=?_);refine rd [1] (rc (fun K hK=>?_) .nil);go_simp;go_at_call 65;refine(qb _ _ _ lo hi (S.zOz.zOv.s k) _ ?_).mono ?_
    ·exact oA.out.zOp (zV (Below.refl _ _) 1)
    rintro e w6 ⟨⟨t6,rfl,lA⟩,kA⟩;obtain rfl:t6=true:=lA.2 pA.out;clear lA;have aA:Below W5.heap.size W5 w6:=(by first | exact kA | exact zJ kA);obtain⟨⟨m0,-⟩,⟨m1,-⟩,⟨m2,-⟩,⟨m3,-⟩,⟨m4,-⟩,⟨m5,-⟩,⟨m6,-⟩,⟨m7,-⟩,⟨m8,-⟩,⟨m9,-⟩,⟨pB,-⟩,⟨rB,-⟩⟩:=gA.out.zOp aA;obtain⟨⟨Z0,-⟩,⟨Z1,-⟩,⟨Z2,-⟩⟩:=HV.out.zOp aA;have kB:=(aA.cell (zD R0)).trans R0;have lB:=(aA.cell (zD R1)).trans R1;have mB:=(aA.cell (zD R2)).trans R2
    (try go_wp2_with fail)
    refine hK.out _ _ (by(try dsimp only);go_keep) ?_;clear hK K hHeld;intro hHeld
    try simp only[Act.put,s1,s2,s3]
    refine tk 2 (h:=tk 3 (h:=ts 4 (h:=ts 5 (h:=ts 6 (h:=ts 7 (h:=ts 8 (h:=ts 9 (h:=ts 10 (h:=ts 11 (h:=?_))))))))));refine rd [12] (rc (fun K hK=>?_) .nil);split
    ·rename_i cC
     exact absurd (show false=true from cC) Bool.false_ne_true
    refine hK.out _ _ (by assumption) (fun hHeld=>?_);clear hK K
    try simp only[Act.put,s1,s2,s3]
    refine ts 13 (h:=tk 14 (h:=?_));refine wpAnyH_done (by kernel_rfl) ?_ _;go_wp2;go_roundw
    case rel=>
     refine⟨k+1,by omega,by go_num,?_,gA.out.zOp aA,zA bB aA⟩;intro j hj hn;by_cases e:j=k
     ·subst e;exact absurd pA.out hn
     ·exact nA.out j (by omega) hn
    case measure=>simp[intOf];omega
   ·have pA:=zB cB;clear cB;by_cases hq:zER (S.zOz.zOv.s k) (S.zOx.zOv.s k)
    ·have Hq:=zB hq;clear hq;refine wp_region_held_drew (S:=(fun w'=>w'.cell? ⟨w.heap.size,0,none⟩=some (.slice (some ⟨b',bA,none⟩) S.zOx.zOv.n lc)/\w'.cell? ⟨w.heap.size,1,none⟩=some (v1)/\w'.cell? ⟨w.heap.size,2,none⟩=some (.int .i64 S.zOx.time)/\w'.cell? ⟨w.heap.size,3,none⟩=some (.int .i64 S.zOx.next)/\w'.cell? ⟨w.heap.size,4,none⟩=some (v2)/\w'.cell? ⟨w.heap.size,5,none⟩=some (v3)/\w'.cell? ⟨w.heap.size,6,none⟩=some (.slice (some ⟨b,off,none⟩) S.zOz.zOv.n sc)/\w'.cell? ⟨w.heap.size,7,none⟩=some (.slice ha S.zOz.zOv.hn hc)/\w'.cell? ⟨w.heap.size,8,none⟩=some (.int .i64 S.zOz.time)/\w'.cell? ⟨w.heap.size,9,none⟩=some (.int .i64 S.zOz.next)/\w'.cell? ⟨w.heap.size,10,none⟩=some (iA)/\w'.cell? ⟨w.heap.size,11,none⟩=some (jA)/\w'.cell? ⟨V,0,none⟩=some (.int .i64 (S.zOz.zOv.s k).zO1)/\w'.cell? ⟨V,1,none⟩=some (.slice ka (S.zOz.zOv.s k).kn kc)/\w'.cell? ⟨V,2,none⟩=some (.string (S.zOz.zOv.s k).data)/\w'.cell? ⟨b',bA+k*3,none⟩=some (.int .i64 (S.zOx.zOv.s k).zO1)/\w'.cell? ⟨b',bA+k*3+1,none⟩=some (.slice pa (S.zOx.zOv.s k).kn pc)/\w'.cell? ⟨b',bA+k*3+2,none⟩=some (.string (S.zOx.zOv.s k).data))) (by kernel_rfl) ?_ (fun hHeld=>?_)
     ·(try dsimp only)
      go_keep
     refine tk 0 (h:=?_);refine rd [1] (rc (fun K hK=>?_) .nil);go_simp;go_at_call 65;refine(qb _ _ _ lo hi (S.zOz.zOv.s k) _ ?_).mono ?_
     ·exact oA.out.zOp (zV (Below.refl _ _) 1)
     rintro e w6 ⟨⟨t6,rfl,lA⟩,kA⟩;obtain rfl:t6=false:=zP lA pA.out;clear lA;have aA:Below W5.heap.size W5 w6:=(by first | exact kA | exact zJ kA);obtain⟨⟨m0,-⟩,⟨m1,-⟩,⟨m2,-⟩,⟨m3,-⟩,⟨m4,-⟩,⟨m5,-⟩,⟨m6,-⟩,⟨m7,-⟩,⟨m8,-⟩,⟨m9,-⟩,⟨pB,-⟩,⟨rB,-⟩⟩:=gA.out.zOp aA;obtain⟨⟨Z0,-⟩,⟨Z1,-⟩,⟨Z2,-⟩⟩:=HV.out.zOp aA;have kB:=(aA.cell (zD R0)).trans R0;have lB:=(aA.cell (zD R1)).trans R1;have mB:=(aA.cell (zD R2)).trans R2
     (try go_wp2_with fail)
     refine hK.out _ _ (by(try dsimp only);go_keep) ?_;clear hK K hHeld;intro hHeld
     try simp only[Act.put,s1,s2,s3]
     refine tk 2 (h:=tk 3 (h:=tk 4 (h:=tk 5 (h:=tk 6 (h:=tk 7 (h:=tk 8 (h:=tk 9 (h:=tk 10 (h:=tk 11 (h:=?_))))))))));refine rd [12] (rc (fun K hK=>?_) .nil);go_simp;go_at_call 118;refine(zFw lo hi lo hi (S.zOz.zOv.s k) (S.zOx.zOv.s k) ka pa kc pc _ ?_ ?_).mono ?_
     ·exact oA.out.zOp aA
     ·exact mA.out.zOp aA
     rintro e w7 ⟨⟨t7,rfl,vA⟩,gB⟩;obtain rfl:t7=true:=vA.2 Hq.out;clear vA;have cA:=zA aA gB;obtain⟨⟨n0,-⟩,⟨n1,-⟩,⟨n2,-⟩,⟨n3,-⟩,⟨n4,-⟩,⟨n5,-⟩,⟨n6,-⟩,⟨n7,-⟩,⟨n8,-⟩,⟨n9,-⟩,⟨dC,-⟩,⟨eC,-⟩⟩:=gA.out.zOp cA;obtain⟨⟨y0,-⟩,⟨y1,-⟩,⟨y2,-⟩⟩:=HV.out.zOp cA;have fC:=(cA.cell (zD R0)).trans R0;have gC:=(cA.cell (zD R1)).trans R1;have iC:=(cA.cell (zD R2)).trans R2
     (try go_wp2_with fail)
     refine hK.out _ _ (by(try dsimp only);go_keep) ?_;clear hK K hHeld;intro hHeld
     try simp only[Act.put,s1,s2,s3]
     refine tk 13 (h:=tk 14 (h:=?_));refine wpAnyH_done (by kernel_rfl) ?_ _;go_wp2;go_roundw
     case rel=>
      refine⟨k+1,by omega,by go_num,?_,gA.out.zOp cA,zA bB cA⟩;intro j hj hn;by_cases e:j=k
      ·subst e;exact Hq.out
      ·exact nA.out j (by omega) hn
     case measure=>simp[intOf];omega
    ·have Hq:=zB hq;clear hq;refine wp_region_held_drew (S:=(fun w'=>w'.cell? ⟨w.heap.size,0,none⟩=some (.slice (some ⟨b',bA,none⟩) S.zOx.zOv.n lc)/\w'.cell? ⟨w.heap.size,1,none⟩=some (v1)/\w'.cell? ⟨w.heap.size,2,none⟩=some (.int .i64 S.zOx.time)/\w'.cell? ⟨w.heap.size,3,none⟩=some (.int .i64 S.zOx.next)/\w'.cell? ⟨w.heap.size,4,none⟩=some (v2)/\w'.cell? ⟨w.heap.size,5,none⟩=some (v3)/\w'.cell? ⟨w.heap.size,6,none⟩=some (.slice (some ⟨b,off,none⟩) S.zOz.zOv.n sc)/\w'.cell? ⟨w.heap.size,7,none⟩=some (.slice ha S.zOz.zOv.hn hc)/\w'.cell? ⟨w.heap.size,8,none⟩=some (.int .i64 S.zOz.time)/\w'.cell? ⟨w.heap.size,9,none⟩=some (.int .i64 S.zOz.next)/\w'.cell? ⟨w.heap.size,10,none⟩=some (iA)/\w'.cell? ⟨w.heap.size,11,none⟩=some (jA)/\w'.cell? ⟨V,0,none⟩=some (.int .i64 (S.zOz.zOv.s k).zO1)/\w'.cell? ⟨V,1,none⟩=some (.slice ka (S.zOz.zOv.s k).kn kc)/\w'.cell? ⟨V,2,none⟩=some (.string (S.zOz.zOv.s k).data)/\w'.cell? ⟨b',bA+k*3,none⟩=some (.int .i64 (S.zOx.zOv.s k).zO1)/\w'.cell? ⟨b',bA+k*3+1,none⟩=some (.slice pa (S.zOx.zOv.s k).kn pc)/\w'.cell? ⟨b',bA+k*3+2,none⟩=some (.string (S.zOx.zOv.s k).data))) (by kernel_rfl) ?_ (fun hHeld=>?_)
     ·(try dsimp only)
      go_keep
     refine tk 0 (h:=?_);refine rd [1] (rc (fun K hK=>?_) .nil);go_simp;go_at_call 65;refine(qb _ _ _ lo hi (S.zOz.zOv.s k) _ ?_).mono ?_
     ·exact oA.out.zOp (zV (Below.refl _ _) 1)
     rintro e w6 ⟨⟨t6,rfl,lA⟩,kA⟩;obtain rfl:t6=false:=zP lA pA.out;clear lA;have aA:Below W5.heap.size W5 w6:=(by first | exact kA | exact zJ kA);obtain⟨⟨m0,-⟩,⟨m1,-⟩,⟨m2,-⟩,⟨m3,-⟩,⟨m4,-⟩,⟨m5,-⟩,⟨m6,-⟩,⟨m7,-⟩,⟨m8,-⟩,⟨m9,-⟩,⟨pB,-⟩,⟨rB,-⟩⟩:=gA.out.zOp aA;obtain⟨⟨Z0,-⟩,⟨Z1,-⟩,⟨Z2,-⟩⟩:=HV.out.zOp aA;have kB:=(aA.cell (zD R0)).trans R0;have lB:=(aA.cell (zD R1)).trans R1;have mB:=(aA.cell (zD R2)).trans R2
     (try go_wp2_with fail)
     refine hK.out _ _ (by(try dsimp only);go_keep) ?_;clear hK K hHeld;intro hHeld
     try simp only[Act.put,s1,s2,s3]
     refine tk 2 (h:=tk 3 (h:=tk 4 (h:=tk 5 (h:=tk 6 (h:=tk 7 (h:=tk 8 (h:=tk 9 (h:=tk 10 (h:=tk 11 (h:=?_))))))))));refine rd [12] (rc (fun K hK=>?_) .nil);go_simp;go_at_call 118;refine(zFw lo hi lo hi (S.zOz.zOv.s k) (S.zOx.zOv.s k) ka pa kc pc _ ?_ ?_).mono ?_
     ·exact oA.out.zOp aA
     ·exact mA.out.zOp aA
     rintro e w7 ⟨⟨t7,rfl,vA⟩,gB⟩;obtain rfl:t7=false:=zP vA Hq.out;clear vA;have cA:=zA aA gB;obtain⟨⟨n0,-⟩,⟨n1,-⟩,⟨n2,-⟩,⟨n3,-⟩,⟨n4,-⟩,⟨n5,-⟩,⟨n6,-⟩,⟨n7,-⟩,⟨n8,-⟩,⟨n9,-⟩,⟨dC,-⟩,⟨eC,-⟩⟩:=gA.out.zOp cA;obtain⟨⟨y0,-⟩,⟨y1,-⟩,⟨y2,-⟩⟩:=HV.out.zOp cA;have fC:=(cA.cell (zD R0)).trans R0;have gC:=(cA.cell (zD R1)).trans R1;have iC:=(cA.cell (zD R2)).trans R2
     (try go_wp2_with fail)
     refine hK.out _ _ (by(try dsimp only);go_keep) ?_;clear hK K hHeld;intro hHeld
     try simp only[Act.put,s1,s2,s3]
     refine tk 13 (h:=tk 14 (h:=?_));refine wpAnyH_done (by kernel_rfl) ?_ _;go_wp2;go_ret;exact⟨zK.no fun h=>Hq.out (h.slots k nB pA.out),zA bB cA⟩
  ·obtain rfl:k=S.zOz.zOv.n:=(by omega);obtain⟨⟨x0,-⟩,⟨x1,-⟩,⟨x2,-⟩,⟨x3,-⟩,⟨x4,-⟩,⟨x5,-⟩,⟨x6,-⟩,⟨x7,-⟩,⟨x8,-⟩,⟨x9,-⟩,⟨eA,-⟩,⟨fA,-⟩⟩:=HX.out;go_wp2;go_ret;exact⟨zK.yes ⟨HL.out,HF.out,E1.out,E2.out,E3.out,E4.out,nA.out⟩,hb⟩
end Go.Proofs.YtgabgheflgjgiaaGreatDoor
