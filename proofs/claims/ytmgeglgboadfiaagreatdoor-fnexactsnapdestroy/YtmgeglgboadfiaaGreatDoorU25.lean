/- A part of the proof. -/
import Derived.Test.YtmgeglgboadfiaaGreatDoorU24
set_option linter.unusedVariables false
set_option maxRecDepth 20000
set_option maxHeartbeats 4000000
namespace Go.Proofs.YtmgeglgboadfiaaGreatDoor
open Go.RowKit Go.Maps
theorem zg.put4{w:World}{b:Nat}{v0 v1 v2 v3 v4 v5:Value}(h:zg w b v0 v1 v2 v3 v4 v5)(u0 u1 u2 u3:Value):zg ((((w.setCell ⟨b,0,none⟩ u0).setCell ⟨b,1,none⟩ u1).setCell ⟨b,2,none⟩ u2).setCell ⟨b,3,none⟩ u3) b u0 u1 u2 u3 v4 v5:=by
 obtain⟨h0,h1,h2,h3,h4,h5⟩:=h;refine⟨?_,?_,?_,?_,?_,?_⟩
 ·exact(((h0.set _).zPA _ (Or.inr (by omega))).zPA _ (Or.inr (by omega))).zPA _ (Or.inr (by omega))
 ·exact(((h1.zPA _ (Or.inr (by omega))).set _).zPA _ (Or.inr (by omega))).zPA _ (Or.inr (by omega))
 ·exact(((h2.zPA _ (Or.inr (by omega))).zPA _ (Or.inr (by omega))).set _).zPA _ (Or.inr (by omega))
 ·exact(((h3.zPA _ (Or.inr (by omega))).zPA _ (Or.inr (by omega))).zPA _ (Or.inr (by omega))).set _
 ·exact(((h4.zPA _ (Or.inr (by omega))).zPA _ (Or.inr (by omega))).zPA _ (Or.inr (by omega))).zPA _ (Or.inr (by omega))
 ·exact(((h5.zPA _ (Or.inr (by omega))).zPA _ (Or.inr (by omega))).zPA _ (Or.inr (by omega))).zPA _ (Or.inr (by omega))
theorem zF.put4w(w:World)(b:Nat)(u0 u1 u2 u3:Value):zF (fun k=>k=b) w ((((w.setCell ⟨b,0,none⟩ u0).setCell ⟨b,1,none⟩ u1).setCell ⟨b,2,none⟩ u2).setCell ⟨b,3,none⟩ u3):=
 (((zF.put w b 0 u0).trans (zF.put _ b 1 u1)).trans (zF.put _ b 2 u2)).trans (zF.put _ b 3 u3)
theorem zCG(v0 v1 v2 v3:Value)(lo hi:Nat)(W:zE)(w:World)(h:zd w lo hi v0 v1 v2 v3 W)(hn:yD W<=1048576):Calls Tryz.prog 9 #[zt v0 v1 v2 v3 W] w (zMv W w):=by
 obtain⟨a0,c0,a1,c1,a2,c2,a3,c3,rfl,rfl,rfl,rfl⟩:=h.zPO;have H:=zB h;clear h;unfold yD at hn;have cC:∀Wa Wb Wc:World,Wa=w.alloc (.cells #[.slice a0 W.zPE.n c0,.slice a1 W.zPE.hn c1,.int .i64 W.time,.int .i64 W.next,.slice a2 W.sn c2,.slice a3 W.pn c3] 29)->Wb=Wa.alloc (.cells #[.slice none 0 0,.slice none 0 0,.int .i64 0,.int .i64 0,.slice none 0 0,.slice none 0 0] 37)->Wc=Wb.alloc (.cells #[.slice none 0 0,.slice none 0 0,.int .i64 0,.int .i64 0,.slice none 0 0,.slice none 0 0] 37)->zg Wc w.heap.size (.slice a0 W.zPE.n c0) (.slice a1 W.zPE.hn c1) (.int .i64 W.time) (.int .i64 W.next) (.slice a2 W.sn c2) (.slice a3 W.pn c3)/\zg Wc (w.heap.size+1) (.slice none 0 0) (.slice none 0 0) (.int .i64 0) (.int .i64 0) (.slice none 0 0) (.slice none 0 0)/\zg Wc (w.heap.size+1+1) (.slice none 0 0) (.slice none 0 0) (.int .i64 0) (.int .i64 0) (.slice none 0 0) (.slice none 0 0)/\Below w.heap.size w Wc/\Wc.heap.size=w.heap.size+3:=by
  rintro Wa Wb Wc ea eb ec;have ha:=zC w (.cells #[.slice a0 W.zPE.n c0,.slice a1 W.zPE.hn c1,.int .i64 W.time,.int .i64 W.next,.slice a2 W.sn c2,.slice a3 W.pn c3] 29);have h1:=zg.new w (.slice a0 W.zPE.n c0) (.slice a1 W.zPE.hn c1) (.int .i64 W.time) (.int .i64 W.next) (.slice a2 W.sn c2) (.slice a3 W.pn c3) 29;have z1:Wa.heap.size=w.heap.size+1:=(by rw[ea];exact World.size_alloc _ _);rw[<-ea]at ha h1;have hb:=zC Wa (.cells #[.slice none 0 0,.slice none 0 0,.int .i64 0,.int .i64 0,.slice none 0 0,.slice none 0 0] 37);have h2:=zg.new Wa (.slice none 0 0) (.slice none 0 0) (.int .i64 0) (.int .i64 0) (.slice none 0 0) (.slice none 0 0) 37;have z2:Wb.heap.size=w.heap.size+1+1:=(by rw[eb,World.size_alloc,z1]);rw[<-eb,z1]at h2;rw[<-eb]at hb;have hc:=zC Wb (.cells #[.slice none 0 0,.slice none 0 0,.int .i64 0,.int .i64 0,.slice none 0 0,.slice none 0 0] 37);have h3:=zg.new Wb (.slice none 0 0) (.slice none 0 0) (.int .i64 0) (.int .i64 0) (.slice none 0 0) (.slice none 0 0) 37;have z3:Wc.heap.size=w.heap.size+3:=(by rw[ec,World.size_alloc,z2]);rw[<-ec,z2]at h3;rw[<-ec]at hc;exact⟨(h1.zO9 hb).zO9 hc,h2.zO9 hc,h3,zA (zA ha hb) hc,z3⟩
 obtain⟨hx,hy,hz,kA,dC⟩:=cC _ _ _ rfl rfl rfl;have HX:=zB hx;have HY:=zB hy;have HZ:=zB hz;have HS:=zB dC;clear hx hy hz cC dC;go_enter Tryz.func9,Tryz.ntmps9;go_wp2_with fail;generalize ((w.alloc (.cells #[.slice a0 W.zPE.n c0,.slice a1 W.zPE.hn c1,.int .i64 W.time,.int .i64 W.next,.slice a2 W.sn c2,.slice a3 W.pn c3] 29)).alloc (.cells #[.slice none 0 0,.slice none 0 0,.int .i64 0,.int .i64 0,.slice none 0 0,.slice none 0 0] 37)).alloc (.cells #[.slice none 0 0,.slice none 0 0,.int .i64 0,.int .i64 0,.slice none 0 0,.slice none 0 0] 37)=W0 at HX HY HZ HS kA ⊢;refine(zLV _ _ lo hi W.zPE W0 (H.out.zPE.zO9 kA) (by omega)).mono ?_;rintro e w1 ⟨u0,u1,rfl,hP,aA⟩;obtain⟨p0,q0,p1,q1,rfl,rfl⟩:=hP.zPO;have lC:=aA.size;have lA:=HS.out;have T1:=zF.put4w w1 (w.heap.size+1+1) (.slice p0 W.zPE.n q0) (.slice p1 W.zPE.hn q1) (.int .i64 W.time) (.int .i64 W.next);have gB:=zB (hP.zPF T1 (fun k e=>Or.inl (by show k<W0.heap.size;omega)));have fA:=zB ((HX.out.zO9 aA).zPF T1 (fun e=>absurd e (by omega)));have mB:=zB ((HY.out.zO9 aA).zPF T1 (fun e=>absurd e (by omega)));have gA:=zB ((HZ.out.zO9 aA).put4 (.slice p0 W.zPE.n q0) (.slice p1 W.zPE.hn q1) (.int .i64 W.time) (.int .i64 W.next));have iA:Below w.heap.size w ((((w1.setCell ⟨w.heap.size+1+1,0,none⟩ (.slice p0 W.zPE.n q0)).setCell ⟨w.heap.size+1+1,1,none⟩ (.slice p1 W.zPE.hn q1)).setCell ⟨w.heap.size+1+1,2,none⟩ (.int .i64 W.time)).setCell ⟨w.heap.size+1+1,3,none⟩ (.int .i64 W.next)):=(((((zA kA aA)).setCell (by show _<=w.heap.size+1+1;omega) _).setCell (by show _<=w.heap.size+1+1;omega) _).setCell (by show _<=w.heap.size+1+1;omega) _).setCell (by show _<=w.heap.size+1+1;omega) _;have kB:=zB (show((((w1.setCell ⟨w.heap.size+1+1,0,none⟩ (.slice p0 W.zPE.n q0)).setCell ⟨w.heap.size+1+1,1,none⟩ (.slice p1 W.zPE.hn q1)).setCell ⟨w.heap.size+1+1,2,none⟩ (.int .i64 W.time)).setCell ⟨w.heap.size+1+1,3,none⟩ (.int .i64 W.next)).heap.size=w1.heap.size by simp only[World.size_setCell]);have aC:=zB (show w.heap.size+3<=W0.heap.size/\W0.heap.size<=w1.heap.size by omega);obtain⟨⟨x0,oA⟩,⟨x1,pA⟩,⟨x2,rA⟩,⟨x3,sA⟩,⟨x4,tA⟩,⟨x5,vA⟩⟩:=HX.out.zO9 aA;obtain⟨⟨z0,aB⟩,⟨z1,bB⟩,⟨z2,cB⟩,⟨z3,dB⟩,⟨z4,eB⟩,⟨z5,fB⟩⟩:=HZ.out.zO9 aA;clear aA kA HX HY HZ HS lA lC hP T1;go_wp2_with fail;clear x0 x1 x2 x3 x4 x5 z0 z1 z2 z3 z4 z5 oA pA rA sA tA vA aB bB cB dB eB fB;generalize (((w1.setCell ⟨w.heap.size+1+1,0,none⟩ (.slice p0 W.zPE.n q0)).setCell ⟨w.heap.size+1+1,1,none⟩ (.slice p1 W.zPE.hn q1)).setCell ⟨w.heap.size+1+1,2,none⟩ (.int .i64 W.time)).setCell ⟨w.heap.size+1+1,3,none⟩ (.int .i64 W.next)=W1 at gB fA mB gA kB iA ⊢;refine(zLW _ W.sn lo hi W.zPG W1 (H.out.zPG.zO9 iA) (by omega)).mono ?_;rintro e w2 ⟨⟨v',kb,kv,rfl,ho,dA,eA⟩,bA,mA⟩;obtain⟨-,av,cv,rfl,-,-⟩:=id ho;have hQ:yo w2 (fun k=>W1.heap.size<=k/\k<w2.heap.size) (.slice av W.sn cv) W.sn W.zPG:=⟨W1.heap.size,kb,kv,ho,dA,fun k hk=>by
  rcases hk with⟨_,rfl⟩ | ⟨i,hi,h0,rfl⟩
  ·exact⟨Nat.le_refl _,mA⟩
  ·have:=eA i hi h0;omega⟩
 have bC:=kB.out;have lA:=aC.out;have T2:=zF.put w2 (w.heap.size+1+1) 4 (.slice av W.sn cv);have jB:=zB (hQ.zPF T2 (fun k hk e=>by omega));have iB:=zB ((gB.out.zO9 bA).zPF T2 (fun k e=>Or.inl (by show k<W0.heap.size;omega)));have lB:=zB ((fA.out.zO9 bA).zPF T2 (fun e=>absurd e (by omega)));have nB:=zB ((mB.out.zO9 bA).zPF T2 (fun e=>absurd e (by omega)));have rB:=zB (show zg (w2.setCell ⟨w.heap.size+1+1,4,none⟩ (.slice av W.sn cv)) (w.heap.size+1+1) (.slice p0 W.zPE.n q0) (.slice p1 W.zPE.hn q1) (.int .i64 W.time) (.int .i64 W.next) (.slice av W.sn cv) (.slice none 0 0)from(by
  obtain⟨h0,h1,h2,h3,h4,h5⟩:=gA.out.zO9 bA;exact⟨h0.zPA _ (Or.inr (by omega)),h1.zPA _ (Or.inr (by omega)),h2.zPA _ (Or.inr (by omega)),h3.zPA _ (Or.inr (by omega)),h4.set _,h5.zPA _ (Or.inr (by omega))⟩))
 have jA:Below w.heap.size w (w2.setCell ⟨w.heap.size+1+1,4,none⟩ (.slice av W.sn cv)):=(zA iA bA).setCell (by show _<=w.heap.size+1+1;omega) _;have tB:=zB (show(w2.setCell ⟨w.heap.size+1+1,4,none⟩ (.slice av W.sn cv)).heap.size=w2.heap.size by simp only[World.size_setCell]);have oB:=zB mA;obtain⟨⟨x0,oA⟩,⟨x1,pA⟩,⟨x2,rA⟩,⟨x3,sA⟩,⟨x4,tA⟩,⟨x5,vA⟩⟩:=fA.out.zO9 bA;obtain⟨⟨z0,aB⟩,⟨z1,bB⟩,⟨z2,cB⟩,⟨z3,dB⟩,⟨z4,eB⟩,⟨z5,fB⟩⟩:=gA.out.zO9 bA;clear bA iA fA mB gA gB ho dA eA hQ bC lA T2 mA;go_wp2_with fail;clear x0 x1 x2 x3 x4 x5 z0 z1 z2 z3 z4 z5 oA pA rA sA tA vA aB bB cB dB eB fB;generalize w2.setCell ⟨w.heap.size+1+1,4,none⟩ (.slice av W.sn cv)=W2 at jB iB lB nB rB tB jA ⊢;refine(zKb _ W.pn lo hi W.zPD W2 (H.out.zPD.zO9 jA) (by omega)).mono ?_;rintro e w3 ⟨⟨v',kp,kw,rfl,ho,dA,eA⟩,cA,nA⟩;obtain⟨-,ap,cp,rfl,-,-⟩:=id ho;have gC:=zB (show ym w3 (fun k=>W2.heap.size<=k/\k<w3.heap.size) (.slice ap W.pn cp) W.pn W.zPD from⟨W2.heap.size,kp,kw,ho,dA,fun k hk=>by
  rcases hk with⟨_,rfl⟩ | ⟨i,hi,h0,rfl⟩
  ·exact⟨Nat.le_refl _,nA⟩
  ·have:=eA i hi h0;omega⟩)
 have eC:=zB (iB.out.zO9 cA);have fC:=zB (jB.out.zO9 cA);have iC:=zB (lB.out.zO9 cA);have vB:=zB (nB.out.zO9 cA);have jC:=zB (rB.out.zO9 cA);have kC:=zA jA cA;have pB:=zB nA;clear cA jA lB nB rB iB jB ho dA eA nA;obtain⟨⟨x0,oA⟩,⟨x1,pA⟩,⟨x2,rA⟩,⟨x3,sA⟩,⟨x4,tA⟩,⟨x5,vA⟩⟩:=iC.out;obtain⟨⟨y0,nC⟩,⟨y1,oC⟩,⟨y2,pC⟩,⟨y3,rC⟩,⟨y4,sC⟩,⟨y5,tC⟩⟩:=vB.out;obtain⟨⟨z0,aB⟩,⟨z1,bB⟩,⟨z2,cB⟩,⟨z3,dB⟩,⟨z4,eB⟩,⟨z5,fB⟩⟩:=jC.out;go_wp2;have T3:=zF.put w3 (w.heap.size+1+1) 5 (.slice ap W.pn cp);have T4:=zF.put6 (w3.setCell ⟨w.heap.size+1+1,5,none⟩ (.slice ap W.pn cp)) (w.heap.size+1) (.slice p0 W.zPE.n q0) (.slice p1 W.zPE.hn q1) (.int .i64 W.time) (.int .i64 W.next) (.slice av W.sn cv) (.slice ap W.pn cp);have HR:=(vB.out.zPF T3 (fun e=>absurd e (by omega))).put (.slice p0 W.zPE.n q0) (.slice p1 W.zPE.hn q1) (.int .i64 W.time) (.int .i64 W.next) (.slice av W.sn cv) (.slice ap W.pn cp);have bC:=kB.out;have mC:=tB.out;have lA:=aC.out;have mA:=oB.out;have nA:=pB.out;have TT:zF (fun k=>k=w.heap.size+1\/k=w.heap.size+1+1) w3 (put6 (w3.setCell ⟨w.heap.size+1+1,5,none⟩ (.slice ap W.pn cp)) (w.heap.size+1) (.slice p0 W.zPE.n q0) (.slice p1 W.zPE.hn q1) (.int .i64 W.time) (.int .i64 W.next) (.slice av W.sn cv) (.slice ap W.pn cp)):=(T3.mono (fun k e=>Or.inr e)).trans (T4.mono (fun k e=>Or.inl e));have sB:(put6 (w3.setCell ⟨w.heap.size+1+1,5,none⟩ (.slice ap W.pn cp)) (w.heap.size+1) (.slice p0 W.zPE.n q0) (.slice p1 W.zPE.hn q1) (.int .i64 W.time) (.int .i64 W.next) (.slice av W.sn cv) (.slice ap W.pn cp)).heap.size=w3.heap.size:=by simp only[World.size_setCell]
 refine bodyPost_ret (v:=.agg #[.slice p0 W.zPE.n q0,.slice p1 W.zPE.hn q1,.int .i64 W.time,.int .i64 W.next,.slice av W.sn cv,.slice ap W.pn cp]) (by simp[results,Tryz.results9,go_sem,HR.1.1,HR.2.1.1,HR.2.2.1.1,HR.2.2.2.1.1,HR.2.2.2.2.1.1,HR.2.2.2.2.2.1]) rfl ⟨_,_,_,_,rfl,?_,?_⟩
 ·refine⟨fun k=>W0.heap.size<=k/\k<w1.heap.size,fun k=>W1.heap.size<=k/\k<w2.heap.size,fun k=>W2.heap.size<=k/\k<w3.heap.size,⟨?_,?_,?_,?_,?_,?_⟩,?_⟩
  ·exact(eC.out.isIn (S:=fun k=>W0.heap.size<=k/\k<w1.heap.size) (fun k h1 h2=>⟨h1,h2⟩)).zPF TT (fun k hk e=>by omega)
  ·exact fC.out.zPF TT (fun k hk e=>by omega)
  ·exact gC.out.zPF TT (fun k hk e=>by omega)
  ·exact fun k hk e=>by omega
  ·exact fun k hk e=>by omega
  ·exact fun k hk e=>by omega
  ·intro k hk;show w.heap.size<=k/\k<(put6 _ _ _ _ _ _ _ _).heap.size;rw[sB];omega
 ·exact((kC.trans (TT.zO9 (B:=w.heap.size) (by omega) (fun k e=>by omega))))
theorem zLS(v:Value)(n lo hi:Nat)(f:Nat->zv)(left:Int)(w:World)(h1:yY w lo hi v n f)(jA:0<=left)(kA:left<=1048576) :
  Calls Tryz.prog 23 #[v,.int .i64 left] w fun e w'=>zCI (n+zAY f n) left e/\Below w.heap.size w w':=by
 have H1:=zB h1;obtain⟨m1,a,c,rfl,mc,-⟩:=id h1;unfold maxLen at m1;clear h1;by_cases h:left - (n:Int)<0
 ·go_enter Tryz.func23,Tryz.ntmps23;go_wp2;go_ret;exact⟨⟨-1,rfl,by omega,by omega,by omega⟩,Below.refl _ _⟩
 ·go_enter Tryz.func23,Tryz.ntmps23;go_wp2
  go_loopw [1,5] (fun m i wr=>∃(k:Nat) (r:Int),k<=n/\i = .int .i64 k/\m = .int .i64 r/\0<=r/\r+n+zAY f k=left/\Below w.heap.size w wr) (fun _ i _=>n - (intOf i).toNat)
  case atStart=>exact⟨0,_,Nat.zero_le _,rfl,rfl,by omega,by simp[zAY],Below.refl _ _⟩
  case round=>
   obtain⟨k,r,hk,rfl,rfl,gA,hr,hb⟩:=hrel;have iA:r<=left:=(by omega);have Hr:=zB hr;clear hr;by_cases eA:k<n
   ·have fA:(k:Int)<(n:Int):=(by omega);obtain⟨b,off,vd,rfl,aA⟩:=(H1.out.zO9 hb).cells eA;obtain⟨-,ad,cd,rfl,-,-⟩:=id aA.zPK;have q0:=aA.c0;have q1:=aA.c1;have q2:=aA.c2;have q3:=aA.c3;have q4:=aA.c4;have q5:=aA.c5;have Hs:=zB aA;clear aA;go_wp2_with fail;refine(zMo _ lo hi (f k) _ _ Hs.out.zPK Hs.out.zPN gA (by omega)).mono ?_;rintro e w1 ⟨⟨r',rfl,dA,lA,mA⟩,bA⟩;have cA:=zA hb bA;have Hq:=zB dA;clear dA bA q0 q1 q2 q3 q4 q5;by_cases h3:r'<0
    ·go_wp2;go_ret;exact⟨⟨-1,rfl,by omega,by omega,by omega⟩,cA⟩
    ·go_wp2;go_roundw
     case rel=>
      refine⟨k+1,r',by omega,by go_num,rfl,by omega,?_,cA⟩;have e1:=Hq.out (by omega);have e2:=Hr.out;show r'+(n:Int)+((zAY f k+zDh (f k):Nat):Int)=left;omega
     case measure=>simp[intOf];omega
   ·obtain rfl:k=n:=(by omega);go_wp2;go_ret;exact⟨⟨r,rfl,fun _=>by have:=Hr.out;omega,iA,by omega⟩,hb⟩
theorem zKX(v:Value)(n lo hi:Nat)(f:Nat->zY)(left:Int)(w:World)(h1:qf w lo hi v n f)(jA:0<=left)(kA:left<=1048576) :
  Calls Tryz.prog 24 #[v,.int .i64 left] w fun e w'=>zCI (n+qk f n) left e/\Below w.heap.size w w':=by
 have H1:=zB h1;obtain⟨m1,a,c,rfl,mc,-⟩:=id h1;unfold maxLen at m1;clear h1;by_cases h:left - (n:Int)<0
 ·go_enter Tryz.func24,Tryz.ntmps24;go_wp2;go_ret;exact⟨⟨-1,rfl,by omega,by omega,by omega⟩,Below.refl _ _⟩
 ·go_enter Tryz.func24,Tryz.ntmps24;go_wp2
  go_loopw [1,5] (fun m i wr=>∃(k:Nat) (r:Int),k<=n/\i = .int .i64 k/\m = .int .i64 r/\0<=r/\r+n+qk f k=left/\Below w.heap.size w wr) (fun _ i _=>n - (intOf i).toNat)
  case atStart=>exact⟨0,_,Nat.zero_le _,rfl,rfl,by omega,by simp[qk],Below.refl _ _⟩
  case round=>
   obtain⟨k,r,hk,rfl,rfl,gA,hr,hb⟩:=hrel;have iA:r<=left:=(by omega);have Hr:=zB hr;clear hr;by_cases eA:k<n
   ·have fA:(k:Int)<(n:Int):=(by omega);obtain⟨b,off,vd,rfl,aA⟩:=(H1.out.zO9 hb).cells eA;obtain⟨-,ad,cd,rfl,-,-⟩:=id aA.zPK;have q0:=aA.c0;have q1:=aA.c1;have q2:=aA.c2;have q3:=aA.c3;have q4:=aA.c4;have q5:=aA.c5;have q6:=aA.c6;have q7:=aA.c7;have Hs:=zB aA;clear aA;go_wp2_with fail;refine(zLU _ lo hi (f k) _ _ Hs.out.zPK Hs.out.zPN.1 Hs.out.zPN.2 gA (by omega)).mono ?_;rintro e w1 ⟨⟨r',rfl,dA,lA,mA⟩,bA⟩;have cA:=zA hb bA;have Hq:=zB dA;clear dA bA q0 q1 q2 q3 q4 q5 q6 q7;by_cases h3:r'<0
    ·go_wp2;go_ret;exact⟨⟨-1,rfl,by omega,by omega,by omega⟩,cA⟩
    ·go_wp2;go_roundw
     case rel=>
      refine⟨k+1,r',by omega,by go_num,rfl,by omega,?_,cA⟩;have e1:=Hq.out (by omega);have e2:=Hr.out;show r'+(n:Int)+((qk f k+zAd (f k):Nat):Int)=left;omega
     case measure=>simp[intOf];omega
   ·obtain rfl:k=n:=(by omega);go_wp2;go_ret;exact⟨⟨r,rfl,fun _=>by have:=Hr.out;omega,iA,by omega⟩,hb⟩
theorem zKY(v0 v1 v2 v3:Value)(lo hi:Nat)(W:zE)(left:Int)(w:World)(h1:zd w lo hi v0 v1 v2 v3 W)(mA:0<=left)(nA:left<=1048576) :
  Calls Tryz.prog 7 #[zt v0 v1 v2 v3 W,.int .i64 left] w fun e w'=>zCI (yD W) left e/\Below w.heap.size w w':=by
 have H1:=zB h1;clear h1;have ha:=zC w (.cells #[v0,v1,.int .i64 W.time,.int .i64 W.next,v2,v3] 29);have HX:=zB (zg.new w v0 v1 (.int .i64 W.time) (.int .i64 W.next) v2 v3 29);go_enter Tryz.func7,Tryz.ntmps7;go_wp2_with fail;refine(zLR _ _ lo hi W.zPE _ _ (H1.out.zO9 ha).zPE mA nA).mono ?_;rintro e w1 ⟨⟨r,rfl,jA,rA,sA⟩,cA⟩;have aA:=zA ha cA;have eA:=zB (HX.out.zO9 cA);have Hr:=zB jA;clear jA cA ha HX;obtain⟨⟨x0,-⟩,⟨x1,-⟩,⟨x2,-⟩,⟨x3,-⟩,⟨x4,-⟩,⟨x5,-⟩⟩:=eA.out;by_cases h:r<0
 ·go_wp2;go_ret;exact⟨⟨-1,rfl,by omega,by omega,by omega⟩,aA⟩
 ·go_wp2_with fail;refine(zLS _ W.sn lo hi _ _ _ (H1.out.zO9 aA).zPG (by omega) (by omega)).mono ?_;rintro e w2 ⟨⟨r',rfl,iA,oA,pA⟩,dA⟩;have bA:=zA aA dA;have lA:=zB (eA.out.zO9 dA);have Hq:=zB iA;clear iA dA x0 x1 x2 x3 x4 x5;obtain⟨⟨x0,-⟩,⟨x1,-⟩,⟨x2,-⟩,⟨x3,-⟩,⟨x4,-⟩,⟨x5,-⟩⟩:=lA.out;by_cases h3:r'<0
  ·go_wp2;go_ret;exact⟨⟨-1,rfl,by omega,by omega,by omega⟩,bA⟩
  ·go_wp2_with fail;refine(zKX _ W.pn lo hi _ _ _ (H1.out.zO9 bA).zPD (by omega) (by omega)).mono ?_;rintro e w3 ⟨⟨r2,rfl,kA,tA,vA⟩,gA⟩;have fA:=zA bA gA;have Hs:=zB kA;clear kA gA;by_cases h4:r2<0
   ·go_wp2;go_ret;exact⟨⟨-1,rfl,by omega,by omega,by omega⟩,fA⟩
   ·go_wp2;go_ret;refine⟨⟨r2,rfl,fun _=>?_,by omega,by omega⟩,fA⟩;have e1:=Hq.out (by omega);have e2:=Hr.out (by omega);have e3:=Hs.out (by omega);unfold yD;omega
end Go.Proofs.YtmgeglgboadfiaaGreatDoor
