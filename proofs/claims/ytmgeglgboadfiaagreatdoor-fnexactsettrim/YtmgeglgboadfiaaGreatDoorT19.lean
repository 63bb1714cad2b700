/- What impl.PoolHold answers. -/
import Derived.Test.YtmgeglgboadfiaaGreatDoorT18
set_option linter.unusedVariables false
set_option maxRecDepth 20000
set_option maxHeartbeats 4000000
namespace Go.Proofs.YtmgeglgboadfiaaGreatDoor
open Go.RowKit
theorem zGZ(v0 v1:Value)(lo hi:Nat)(p:zJ)(xs xb:Int)(w:World)(h1:zy w lo hi v0 v1 p)(hn:qD p<=1048576) :
    Calls Tryz.prog 153 #[.agg #[v0,v1],.agg #[.int .i64 xs,.int .i64 xb]] w (zM1 (zH6 p xs xb) w):=by
  have Hp:=zT h1;obtain⟨a,c,a',c',rfl,rfl⟩:=h1.form;have Hn:=zT hn;have mC:p.hn<=1048576:=(by unfold qD at hn;omega);have eC:p.n<=1048576:=(by unfold qD at hn;omega);have cC:Hid (∀j,j<p.n->(p.s j).kn<=1048576):=fun j hj=>by have h2:=zFf p.s hj;unfold zAU at h2;unfold qD at hn;omega
  have lC:p.hn<=c':=(by obtain⟨_,⟨_,_,_,e,h,_⟩⟩:=h1;simp only[Value.slice.injEq,true_and]at e;omega);have kB:=zQd w (.slice a p.n c) (.slice a' p.hn c') (.int .i64 xs) (.int .i64 xb) 33 61 151;obtain⟨i0,mB,iB⟩:=Option.map_eq_some_iff.1 zDH;simp only[Prod.mk.injEq]at iB;have HI:=zT (And.intro mB iB);clear h1 hn mB iB;go_enter Tryz.func153,Tryz.ntmps153;go_wp2_with fail;generalize ((w.alloc (.cells #[.slice a p.n c,.slice a' p.hn c'] 33)).alloc (.cells #[.int .i64 xs,.int .i64 xb] 61)).alloc (.cells #[.slice none 0 0,.slice none 0 0,.int .i64 0,.int .i64 0,.int .i64 0] 151)=W at kB ⊢;obtain⟨hB,hX,hR,eB,hz⟩:=kB;refine(zAC _ _ lo hi p _ (Hp.out.zRJ eB)).mono ?_;rintro e w1 ⟨⟨t,rfl,ht⟩,oA⟩;have jB:=zT (hB.zRJ oA);have fB:=zT (hX.zRJ oA);have aB:=zT (hR.zRJ oA);have bB:=zA eB oA;have rB:w.heap.size+3<=w1.heap.size:=(by have:=oA.size;omega);clear hB hX hR eB oA hz;by_cases rA:zv p
  · have nA:=zT rA
    obtain rfl:t=true:=ht.2 rA;clear ht rA;obtain⟨⟨x0,x1⟩,⟨x2,x3⟩⟩:=jB.out;obtain⟨⟨y0,y1⟩,⟨y2,y3⟩⟩:=fB.out;go_wp2_with fail;refine(zEi _ p.n lo hi p.s _ _ _ (Hp.out.1.zRJ bB)).mono ?_;rintro e w2 ⟨⟨t,rfl,ht⟩,pA⟩;rw[zEk nA.out]at ht;have tA:=zT (jB.out.zRJ pA);have dB:=zT (fB.out.zRJ pA);have kA:=zT (aB.out.zRJ pA);have jA:=zA bB pA;have nC:w.heap.size+3<=w2.heap.size:=(by have:=pA.size;omega);clear pA bB jB fB aB rB x0 x1 x2 x3 y0 y1 y2 y3;by_cases hP:zr p xs xb
    · have HP:=zT hP
      obtain rfl:t=true:=ht.2 hP;clear ht hP;obtain⟨⟨x0,x1⟩,⟨x2,x3⟩⟩:=tA.out;obtain⟨⟨y0,y1⟩,⟨y2,y3⟩⟩:=dB.out;go_wp2_with fail;refine(zCF _ p.hn lo hi p.h _ _ (Hp.out.2.zRJ jA)).mono ?_;rintro e w3 ⟨⟨t,rfl,ht⟩,oB⟩;subst oB;by_cases hH:Has p.hn p.h xs
      · have HH:=zT hH
        obtain rfl:t=true:=ht.2 hH;clear ht hH;obtain⟨⟨u0,u1⟩,⟨u2,u3⟩,⟨u4,u5⟩,⟨u6,u7⟩,⟨u8,u9⟩⟩:=kA.out;go_wp2;have fA:=kA.out.put (.slice none 0 0) (.slice none 0 0) (.int .i64 0) (.int .i64 0) (.int .i64 4);have iA:=zCk (R:=w.heap.size+1+1) (u2:=.int .i64 0) (u3:=.int .i64 0) (u4:=.int .i64 4) (by omega) jA;rw[zJI nA.out (fun h=>h.2 HH.out)];exact bodyPost_ret (v:=.agg #[.slice none 0 0,.slice none 0 0,.int .i64 0,.int .i64 0,.int .i64 4]) (by simp[results,Tryz.results153,go_sem,fA.1.1,fA.2.1.1,fA.2.2.1.1,fA.2.2.2.1.1,fA.2.2.2.2.1]) rfl ⟨_,_,rfl,iA.1,iA.2⟩
      · have HH:=zT hH
        obtain rfl:t=false:=zQ ht hH;clear ht hH;obtain⟨⟨u0,u1⟩,⟨u2,u3⟩,⟨u4,u5⟩,⟨u6,u7⟩,⟨u8,u9⟩⟩:=kA.out;have pB:(p.hn:Int)<=(c':Int):=(by omega);have n0:w.heap.size+1+1≠w.heap.size:=(by omega);have n1:w.heap.size+1+1≠w.heap.size+1:=(by omega);go_wp2_with fail;go_region_held3 (fun w'=>w'.cell? ⟨w.heap.size,0,none⟩=some (.slice a p.n c)/\w'.cell? ⟨w.heap.size,1,none⟩=some (.slice a' p.hn c')/\w'.cell? ⟨w.heap.size+1,0,none⟩=some (.int .i64 xs)) (go_keep)
          (first
            | (go_at_call 193;refine(zEB _ p.n lo hi p.s _ ?_ eC cC.out).mono ?_;(first | exact Hp.out.1.zRJ jA.drew | exact Hp.out.1.zRJ (zA jA (zC _ _)).drew);rintro e w5 ⟨v5,bs,kb,kv,rfl,gB,sA,lA,cB⟩;obtain⟨_,sa,lB,rfl,_⟩:=id gB;(first | (have nB:w5.cell? ⟨w3.heap.size,0,none⟩=some (.int .i64 xs):=((zI (i:=0) (v:=.int .i64 xs) (heap_alloc_new w3 (.cells #[.int .i64 xs] 2)) rfl).zRJ (zK cB)).1) | skip);have dA:Below w3.heap.size w3 w5:=(by first | exact zK cB | exact zA (zC _ _) (zK cB));have gA:∀k,yr bs kb p.n p.s k->w3.heap.size<=k/\k<w5.heap.size:=(by first | exact lA | exact fun k hk=>(by have:=lA k hk;simp at this;omega));have z0:=(tA.out.zRJ dA).1.1;have z1:=(tA.out.zRJ dA).2.1;have z2:=(dB.out.zRJ dA).1.1)
            | (refine step_append_grows rfl (.tmp 33) (.tmp 36) 23 rfl 2 i0 (.int .i64 0) 1 8 (by kernel_rfl) HI.out.1 HI.out.2.1 HI.out.2.2.1 HI.out.2.2.2 rfl (by decide) a' p.hn p.hn (ic p.h p.hn) (by simp[Act.eval]) (zMF Hp.out.2) (zBo _ _) (zNM Hp.out.2 (zA jA (zA dA (zC w5 _)))) ⟨w5.heap.size,0,none⟩ 1 1 [.int .i64 xs] (by simp[Act.eval]) rfl (zQ8 _ _ _) (zQA _) (by omega) (by unfold maxLen;omega) (by omega) ?_
               intro v6 w6 bA aA;obtain⟨a6,c6,rfl,_⟩:=zW bA;have mA:Below w5.heap.size w5 w6:=zA (zC w5 _) (zCU aA);have eA:w6.ownsRow w5.heap.size 2 1 (.slice a6 (p.hn+1) c6) (p.hn+1) (ic p.h p.hn ++ [.int .i64 xs]):=zEF bA (by simp);have cA:=zA dA mA;obtain⟨⟨p0,p1⟩,⟨p2,p3⟩⟩:=tA.out.zRJ cA;obtain⟨⟨p4,p5⟩,⟨p6,p7⟩⟩:=dB.out.zRJ cA;obtain⟨⟨p8,p9⟩,⟨tB,gC⟩,⟨dC,bC⟩,⟨fC,iC⟩,⟨jC,kC⟩⟩:=kA.out.zRJ cA;clear bA aA)
            | (refine step_append_grows rfl (.tmp 33) (.tmp 36) 23 rfl 2 i0 (.int .i64 0) 1 8 (by kernel_rfl) HI.out.1 HI.out.2.1 HI.out.2.2.1 HI.out.2.2.2 rfl (by decide) a' p.hn p.hn (ic p.h p.hn) (by simp[Act.eval]) (zMF Hp.out.2) (zBo _ _) (zNM Hp.out.2 (zA jA dA)) ⟨w3.heap.size,0,none⟩ 1 1 [.int .i64 xs] (by simp[Act.eval]) rfl (zF4 nB) (zQA _) (by omega) (by unfold maxLen;omega) (by omega) ?_
               intro v6 w6 bA aA;obtain⟨a6,c6,rfl,_⟩:=zW bA;have mA:Below w5.heap.size w5 w6:=zCU aA;have eA:w6.ownsRow w5.heap.size 2 1 (.slice a6 (p.hn+1) c6) (p.hn+1) (ic p.h p.hn ++ [.int .i64 xs]):=zEF bA (by simp);have cA:=zA dA mA;obtain⟨⟨p0,p1⟩,⟨p2,p3⟩⟩:=tA.out.zRJ cA;obtain⟨⟨p4,p5⟩,⟨p6,p7⟩⟩:=dB.out.zRJ cA;obtain⟨⟨p8,p9⟩,⟨tB,gC⟩,⟨dC,bC⟩,⟨fC,iC⟩,⟨jC,kC⟩⟩:=kA.out.zRJ cA;clear bA aA))
        all_goals
          have vB:=zT (zJW (p:=zAL p xs) (B:=w3.heap.size) (M:=w3.heap.size) (gB.zRJ mA) sA (fun k hk=>by have:=gA k hk;have:=mA.size;omega) (by show p.hn+1<=maxLen;unfold maxLen;omega) (by rw[<-zNI]at eA;exact eA) (fun k e=>by
            have h1:=eA.lt k e;refine⟨by have:=dA.size;omega,Or.inr (Or.inr ⟨h1.2,fun hx=>?_⟩)⟩;have:=gA k hx;omega) (Nat.le_refl _) (fun e=>absurd e (Nat.succ_ne_zero _)))
          have aC:=zT (kA.out.zRJ cA);have sB:=zA jA cA;clear gB sA lA gA cB dA mA cA eA;go_wp2;have vA:=aC.out.put (.slice sa p.n lB) (.slice a6 (p.hn+1) c6) (.int .i64 0) (.int .i64 0) (.int .i64 0);have iA:=zHP (R:=w.heap.size+1+1) (u2:=.int .i64 0) (u3:=.int .i64 0) (u4:=.int .i64 0) vB.out (by omega) (by omega) (Nat.le_refl _) sB;rw[zNd nA.out HP.out HH.out];exact bodyPost_ret (v:=.agg #[.slice sa p.n lB,.slice a6 (p.hn+1) c6,.int .i64 0,.int .i64 0,.int .i64 0]) (by simp[results,Tryz.results153,go_sem,vA.1.1,vA.2.1.1,vA.2.2.1.1,vA.2.2.2.1.1,vA.2.2.2.2.1]) rfl ⟨_,_,rfl,iA.1,iA.2⟩
    · have HP:=zT hP
      obtain rfl:t=false:=zQ ht hP;clear ht hP;obtain⟨⟨u0,u1⟩,⟨u2,u3⟩,⟨u4,u5⟩,⟨u6,u7⟩,⟨u8,u9⟩⟩:=kA.out;go_wp2;have fA:=kA.out.put (.slice none 0 0) (.slice none 0 0) (.int .i64 0) (.int .i64 0) (.int .i64 4);have iA:=zCk (R:=w.heap.size+1+1) (u2:=.int .i64 0) (u3:=.int .i64 0) (u4:=.int .i64 4) (by omega) jA;rw[zJI nA.out (fun h=>HP.out h.1)];exact bodyPost_ret (v:=.agg #[.slice none 0 0,.slice none 0 0,.int .i64 0,.int .i64 0,.int .i64 4]) (by simp[results,Tryz.results153,go_sem,fA.1.1,fA.2.1.1,fA.2.2.1.1,fA.2.2.2.1.1,fA.2.2.2.2.1]) rfl ⟨_,_,rfl,iA.1,iA.2⟩
  · have nA:=zT rA
    obtain rfl:t=false:=zQ ht rA;clear ht rA;obtain⟨⟨u0,u1⟩,⟨u2,u3⟩,⟨u4,u5⟩,⟨u6,u7⟩,⟨u8,u9⟩⟩:=aB.out;go_wp2;have fA:=aB.out.put (.slice none 0 0) (.slice none 0 0) (.int .i64 0) (.int .i64 0) (.int .i64 1);have iA:=zCk (R:=w.heap.size+1+1) (u2:=.int .i64 0) (u3:=.int .i64 0) (u4:=.int .i64 1) (by omega) bB;rw[zNl nA.out];exact bodyPost_ret (v:=.agg #[.slice none 0 0,.slice none 0 0,.int .i64 0,.int .i64 0,.int .i64 1]) (by simp[results,Tryz.results153,go_sem,fA.1.1,fA.2.1.1,fA.2.2.1.1,fA.2.2.2.1.1,fA.2.2.2.2.1]) rfl ⟨_,_,rfl,iA.1,iA.2⟩
theorem zNx(v0 v1:Value)(a b c:Int)(w:World):(Instr.field 151 (.agg #[v0,v1,.int .i64 a,.int .i64 b,.int .i64 c]) 0).run Tryz.prog w = .ok (.agg #[v0,v1]) w:=by kernel_rfl
theorem zM7(C lo hi:Nat)(z0 z1 z2 z3 u8:Value)(tm nx id m:Int)(p q:zJ)(x:Int×Int)(w:World)(hC:yj w C z0 z1 (.int .i64 tm) (.int .i64 nx) z2 z3 (.int .i64 id) (.int .i64 m) u8)(hP:zy w lo hi z0 z1 p)(hn:qD p<=1048576)(hh:zH6 p x.1 x.2=⟨q,0,0,0⟩)(hm:0<=m)(fB:m<=1000000) :
  Calls Tryz.prog 96 #[.pointer (some ⟨C,0,none⟩),.agg #[.int .i64 x.1,.int .i64 x.2]] w fun e w'=>(∃v,e = .returned v)/\∃y0 y1,yj w' C y0 y1 (.int .i64 tm) (.int .i64 nx) z2 z3 (.int .i64 id) (.int .i64 (m+1)) u8/\zt w' w.heap.size w'.heap.size y0 y1 q/\zF (fun j=>j=C) w w':=by
 obtain⟨a0,c0,a1,c1,rfl,rfl⟩:=hP.form;have jB:=hC.1.lt;have iA:=zC w (.cells #[.int .i64 x.1,.int .i64 x.2] 61);have HX:=zB (zc.zRL w (.int .i64 x.1) (.int .i64 x.2) 61);have HC:=zB (hC.zRJ iA);have iB:IntKind.i64.wrap (m+1)=m+1:=by first | exact wrap_small (by omega) (by omega) | exact wrap_small _ (by omega) (by omega)
 have vA:(w.alloc (.cells #[.int .i64 x.1,.int .i64 x.2] 61)).heap.size=w.heap.size+1:=World.size_alloc _ _;have cA:=zB (show ∀w',Below (w.alloc (.cells #[.int .i64 x.1,.int .i64 x.2] 61)).heap.size (w.alloc (.cells #[.int .i64 x.1,.int .i64 x.2] 61)) w'->Calls Tryz.prog 153 #[.agg #[.slice a0 p.n c0,.slice a1 p.hn c1],.agg #[.int .i64 x.1,.int .i64 x.2]] w' fun e lA=>∃b0 d0 b1 d1,e = .returned (.agg #[.slice b0 q.n d0,.slice b1 q.hn d1,.int .i64 0,.int .i64 0,.int .i64 0])/\zt lA w'.heap.size lA.heap.size (.slice b0 q.n d0) (.slice b1 q.hn d1) q/\Below w'.heap.size w' lA from fun w' tA=>by
  refine(zGZ _ _ lo hi p x.1 x.2 w' ((hP.zRJ iA).zRJ tA) hn).mono ?_;rw[hh];rintro e w2 ⟨y0,y1,rfl,ho,cB⟩;obtain⟨b0,d0,b1,d1,rfl,rfl⟩:=ho.at.form;exact⟨b0,d0,b1,d1,rfl,ho,cB⟩)
 clear hP hh hC hn;go_enter Tryz.func96,Tryz.ntmps96;go_wp2_with fail;generalize w.alloc (.cells #[.int .i64 x.1,.int .i64 x.2] 61)=w1 at iA HX HC vA cA ⊢;have gA:Below w1.heap.size w1 w1.drew:=(Below.refl _ _).drew;have kA:=zB (show ∀w',Below w1.drew.heap.size w1.drew w'->(fun w':World=>w'.cell? ⟨w.heap.size,0,none⟩=some (.int .i64 x.1)/\w'.cell? ⟨w.heap.size,1,none⟩=some (.int .i64 x.2)) w' from fun w' hb=>by
  have h:=(HX.out.zRJ gA).zRJ hb;exact⟨h.1.1,h.2.1⟩)
 obtain⟨⟨x0,-⟩,⟨x1,-⟩,-⟩:=HC.out.zRJ gA;refine wp_region_held_drew (S:=(fun w':World=>w'.cell? ⟨w.heap.size,0,none⟩=some (.int .i64 x.1)/\w'.cell? ⟨w.heap.size,1,none⟩=some (.int .i64 x.2))) (by kernel_rfl) (kA.out _ (Below.refl _ _)) (fun hHeld=>?_);have eA:=gA;generalize w1.drew=q0 at hHeld kA x0 x1 gA eA ⊢;refine tk 0 (h:=tk 1 (h:=tk 2 (h:=tk 3 (h:=tk 4 (h:=tk 6 (h:=?_))))));refine rd [5] (rc (fun K hK=>?_) .nil);go_simp
 (try go_wp2_with fail)
 refine hK.out _ _ (kA.out _ (Below.refl _ _)) ?_;clear hK K;intro hHeld
 try simp only[Act.put,s1,s2,s3]
 refine rd [7] (rc (fun K hK=>?_) .nil);go_simp;go_at_call 153;refine(cA.out q0 eA).mono ?_;rintro e w3 ⟨b0,d0,b1,d1,rfl,rA,pA⟩;have sA:=zB rA;have dA:Below w1.heap.size w1 w3:=zA eA pA;have bA:=zB (HC.out.zRJ dA);have fA:=zB (HX.out.zRJ dA);clear rA
 (try go_wp2_with fail)
 refine hK.out _ _ ⟨fA.out.1.1,fA.out.2.1⟩ ?_;clear hK K hHeld;intro hHeld
 try simp only[Act.put,s1,s2,s3]
 have bB:=zNx (.slice b0 q.n d0) (.slice b1 q.hn d1) 0 0 0;refine tk 8 (h:=tk 9 (h:=tk 10 (h:=tk 11 (h:=?_))));refine rd [12] (rc (fun K hK=>?_) .nil);obtain⟨⟨t0,dB⟩,⟨t1,aB⟩,-⟩:=bA.out;go_simp
 (try go_wp2_with fail)
 have hT:=(zF.put w3 C 0 (.slice b0 q.n d0)).trans (zF.put (w3.setCell ⟨C,0,none⟩ (.slice b0 q.n d0)) C 1 (.slice b1 q.hn d1));have mA:=fA.out.zRR hT (fun h=>by omega);refine hK.out _ _ ⟨mA.1.1,mA.2.1⟩ ?_;clear hK K hHeld t0 dB t1 aB;intro hHeld
 try simp only[Act.put,s1,s2,s3]
 refine wpAnyH_done (by kernel_rfl) ?_ _;have aA:=zB (show yj ((w3.setCell ⟨C,0,none⟩ (.slice b0 q.n d0)).setCell ⟨C,1,none⟩ (.slice b1 q.hn d1)) C (.slice b0 q.n d0) (.slice b1 q.hn d1) (.int .i64 tm) (.int .i64 nx) z2 z3 (.int .i64 id) (.int .i64 m) u8 from⟨(bA.out.1.set _).zRK _ (Or.inr (by decide)),(bA.out.2.1.zRK _ (Or.inr (by decide))).set _,(bA.out.2.2.1.zRK _ (Or.inr (by decide))).zRK _ (Or.inr (by decide)),(bA.out.2.2.2.1.zRK _ (Or.inr (by decide))).zRK _ (Or.inr (by decide)),(bA.out.2.2.2.2.1.zRK _ (Or.inr (by decide))).zRK _ (Or.inr (by decide)),(bA.out.2.2.2.2.2.1.zRK _ (Or.inr (by decide))).zRK _ (Or.inr (by decide)),(bA.out.2.2.2.2.2.2.1.zRK _ (Or.inr (by decide))).zRK _ (Or.inr (by decide)),(bA.out.2.2.2.2.2.2.2.1.zRK _ (Or.inr (by decide))).zRK _ (Or.inr (by decide)),(bA.out.2.2.2.2.2.2.2.2.zRK _ (Or.inr (by decide))).zRK _ (Or.inr (by decide))⟩);have eB:Below w.heap.size w w3:=zA iA dA;have oA:=zB (show zF (fun j=>j=C) w ((w3.setCell ⟨C,0,none⟩ (.slice b0 q.n d0)).setCell ⟨C,1,none⟩ (.slice b1 q.hn d1))from(zF.zRM eB).trans hT);have lB:=pA.size;have kB:=eA.size;have nA:=zB ((sA.out.zRR hT (fun k e=>by omega)).zRO (show w.heap.size<=q0.heap.size by omega) hT.size);clear mA hT bB bA fA sA;generalize ((w3.setCell ⟨C,0,none⟩ (.slice b0 q.n d0)).setCell ⟨C,1,none⟩ (.slice b1 q.hn d1))=w4 at aA oA nA ⊢;obtain⟨y7,gB⟩:=aA.out.2.2.2.2.2.2.2.1;go_wp2_with fail;have jA:=zF.put w4 C 7 (.int .i64 (m+1));go_end0;refine⟨⟨_,rfl⟩,_,_,⟨aA.out.1.zRK _ (Or.inr (by decide)),aA.out.2.1.zRK _ (Or.inr (by decide)),aA.out.2.2.1.zRK _ (Or.inr (by decide)),aA.out.2.2.2.1.zRK _ (Or.inr (by decide)),aA.out.2.2.2.2.1.zRK _ (Or.inr (by decide)),aA.out.2.2.2.2.2.1.zRK _ (Or.inr (by decide)),aA.out.2.2.2.2.2.2.1.zRK _ (Or.inr (by decide)),aA.out.2.2.2.2.2.2.2.1.set _,aA.out.2.2.2.2.2.2.2.2.zRK _ (Or.inr (by decide))⟩,?_,oA.out.trans jA⟩;exact(nA.out.zRR jA (fun k e=>by omega)).zRO (Nat.le_refl _) jA.size
theorem zNj(C lo hi n:Nat)(P:Nat->Prop)(z0 z1 z2 z3 u8 v:Value)(tm nx id m t:Int)(p:zJ)(f g:Nat->Int)(w:World)(hv:zU w lo hi v n f g)(iA:qx n f g)(ht:zB3 t)(hH:yW p (qd f g t n))(hC:yj w C z0 z1 (.int .i64 tm) (.int .i64 nx) z2 z3 (.int .i64 id) (.int .i64 m) u8)(hP:qZ w P z0 z1 p)(mB:∀k,P k->C<k/\k<w.heap.size)(hm:0<=m)(rB:m<=900000) :
  Calls Tryz.prog 94 #[v,.int .i64 t,.func (.func 96) #[.pointer (some ⟨C,0,none⟩)] #[]] w fun e w'=>∃vo y0 y1,e = .returned vo/\zw w' w.heap.size vo (zBf f g t n)/\yj w' C y0 y1 (.int .i64 tm) (.int .i64 nx) z2 z3 (.int .i64 id) (.int .i64 (m+((qd f g t n).length:Int))) u8/\qZ w' (fun j=>P j\/(w.heap.size<=j/\j<w'.heap.size)) y0 y1 (zx p (qd f g t n))/\zF (fun j=>j=C) w w':=by
 have tB:=hC.1.lt;have oA:(qd f g t n).length<=200:=by have:=zCL f g t n;have:=iA.1;omega
 have HS:=zB (show Calls Tryz.prog 151 #[v,.int .i64 t] w fun e w'=>∃vy vo,e = .returned (.agg #[vy,vo])/\zDB (qd f g t n) (zBf f g t n) w w' vy vo by
  refine(zA1 v n lo hi f g t w hv).mono ?_;rintro e w1 ⟨vy,vo,l,l',rfl,hy,ho,hr⟩;rw[hy.1 ⟨iA,ht⟩,ho.1 ⟨iA,ht⟩]at hr;exact⟨vy,vo,rfl,hr⟩)
 have HC:=zB hC;have HP:=zB hP;have HH:=zB hH;obtain⟨-,av,cv,rfl,-,-⟩:=(show zU w lo hi v n f g from hv);clear hv iA ht hC hP hH;generalize qd f g t n=l at HS HH oA ⊢;generalize zBf f g t n=l' at HS ⊢;go_enter Tryz.func94,Tryz.ntmps94;go_wp2_with fail;refine HS.out.mono ?_;clear HS;rintro e w1 ⟨vy,vo,rfl,nA,kA,-,vA⟩;obtain⟨ay,cy,rfl,-⟩:=zW nA;obtain⟨ao,co,rfl,-⟩:=zW kA;obtain⟨bo,aA,rA⟩:=nA.own (by unfold maxLen;omega);have jA:=zC w1 (.cells #[.slice ay l.length cy,.slice ao l'.length co] 201);have HX:=zB (zc.zRL w1 (.slice ay l.length cy) (.slice ao l'.length co) 201);have gA:=zA vA jA;have cB:=zB (HC.out.zRJ gA);have fB:=zB (HP.out.zRJ gA);have mA:=zB (zw.zRJ kA jA);have dB:=zB (aA.zRJ jA);have jB:=zB rA;have pB:=vA.size;have nB:(w1.alloc (.cells #[.slice ay l.length cy,.slice ao l'.length co] 201)).heap.size=w1.heap.size+1:=World.size_alloc _ _;obtain⟨⟨x0,-⟩,⟨x1,-⟩⟩:=HX.out;clear nA kA aA rA HC HP;go_wp2_with fail;clear x0 x1;generalize w1.alloc (.cells #[.slice ay l.length cy,.slice ao l'.length co] 201)=w2 at jA HX gA cB fB mA dB nB ⊢
 go_loopw [16] (fun i wr=>∃(k:Nat) (y0 y1:Value),k<=l.length/\i = .int .i64 k/\yj wr C y0 y1 (.int .i64 tm) (.int .i64 nx) z2 z3 (.int .i64 id) (.int .i64 (m+(k:Int))) u8/\qZ wr (fun j=>P j\/(w.heap.size<=j/\j<wr.heap.size)) y0 y1 (zx p (l.take k))/\zF (fun j=>j=C) w2 wr) (fun i _=>l.length - (intOf i).toNat)
 case atStart=>exact⟨0,_,_,Nat.zero_le _,rfl,by simpa using cB.out,fB.out.mono (fun j h=>Or.inl h),zF.refl _ _⟩
 case round=>
  obtain⟨k,y0,y1,hk,rfl,aB,eB,fA⟩:=hrel;have sA:=zB aB;have lA:=zB eB;have dA:=zB fA;have sB:=fA.size;have hX:=HX.out.zRR fA (fun h=>by omega);obtain⟨⟨x0,-⟩,⟨x1,-⟩⟩:=hX;clear aB eB fA;by_cases eA:k<l.length
  ·have lB:(k:Int)<(l.length:Int):=(by omega);have aA:=dB.out.zRR dA.out (fun h0 e=>by
    obtain⟨_,h,_⟩:=jB.out h0;omega)
   obtain⟨_,a,c,e1,_,hx⟩:=aA;obtain⟨off,rfl,cA⟩:=hx (by omega);simp only[Value.slice.injEq,true_and]at e1;obtain⟨rfl,rfl⟩:=e1;obtain⟨⟨q0,-⟩,⟨q1,-⟩⟩:=cA k eA;have hn:=HH.out.next eA;have e0:l[k]=(zf l k,zh l k):=by
    unfold zf zh;rw[List.getD_eq_getElem?_getD,List.getElem?_eq_getElem eA];rfl
   rw[e0]at hn;have HN:=zB hn;clear hn e0 cA hx;have bA:=zC wr (.cells #[.int .i64 (zf l k),.int .i64 (zh l k)] 61);obtain⟨⟨r0,-⟩,⟨r1,-⟩⟩:=zc.zRL wr (.int .i64 (zf l k)) (.int .i64 (zh l k)) 61;go_wp2_with fail;have vB:=bA.size;refine(zM7 C 0 wr.heap.size y0 y1 z2 z3 u8 tm nx id (m+(k:Int)) (zx p (l.take k)) (zx p (l.take (k+1))) (zf l k,zh l k) _ (sA.out.zRJ bA) (((lA.out.at (lo:=0) (hi:=wr.heap.size) (fun j h=>⟨Nat.zero_le _,by
    rcases h with h | h
    ·have:=mB j h;omega
    ·omega⟩))).zRJ bA) (by have:=zD5 HN.out.2;omega) HN.out.1 (by omega) (by omega)).mono ?_
   rintro e w4 ⟨⟨ve,rfl⟩,t0,t1,bB,pA,gB⟩;have iB:=zB bB;have kB:=zB pA;have tA:=zB gB;clear r0 r1 q0 q1 x0 x1 bB pA gB;go_wp2_with fail;go_roundw
   case rel=>
    have oB:=tA.out.size;refine⟨k+1,t0,t1,by omega,by go_num,?_,kB.out.isIn (fun j h1 h2=>Or.inr ⟨by omega,h2⟩),dA.out.trans ((zF.zRM bA).trans tA.out)⟩;have e:m+((k+1:Nat):Int)=m+(k:Int)+1:=(by omega);rw[e];exact iB.out
   case measure=>simp[intOf];omega
  ·obtain rfl:k=l.length:=(by omega);go_wp2_with fail;rw[List.take_length]at lA;go_ret;refine⟨_,y0,y1,rfl,?_,sA.out,lA.out,((zF.zRM gA).trans dA.out)⟩;exact mA.out.zRR (row:=some C) ⟨dA.out.os,dA.out.tape,dA.out.output,dA.out.size,fun k hk hn=>dA.out.block k hk (fun e=>hn (by rw[e]))⟩ (fun q hq e=>by
    injection e with e;have:=zw.lt mA.out hq;omega)
open Go.Extern.Stop Go.Stop Go.Extern
theorem zGt(p:Nat->Addr)(c:Int)(n:Nat)(v:Value)(hn:(n=7/\c=0/\v = .nilIface)\/(n<7/\c=zBW n/\v=qO (p n)))(w:World)(h:zEr w p):Calls Tryz.prog 93 #[.int .i64 c] w fun e w'=>e = .returned v/\Below w.heap.size w w':=by
 have HE:=zd h;have HN:=zd hn;have iA:n<=7:=by omega
 have fA:=zd (show ∀k,k<n->zBW k≠c from fun k hk=>by
  rcases hn with⟨_,rfl,_⟩ | ⟨h7,rfl,_⟩
  ·exact zPG k
  ·exact zP2 (by omega) h7 (by omega))
 clear h hn;have ha:=zC w (.cells (zN5 p) 199);have HR:=zd (zFd.zRL p w);go_enter Tryz.func93,Tryz.ntmps93;go_wp2_with fail;refine(zFv p _ HE.out).mono ?_;rintro e wa ⟨rfl,rfl⟩;go_wp2
 go_loopw [7] (fun i' wr=>∃k:Nat,k<=n/\i' = .int .i64 k/\zFd wr w.heap.size p/\Below w.heap.size w wr) (fun i _=>7 - (intOf i).toNat)
 case atStart=>exact⟨0,Nat.zero_le _,rfl,HR.out,ha⟩
 case round=>
  obtain⟨k,hk,rfl,hR,hb⟩:=hrel;by_cases cA:k<7
  ·have eA:(k:Int)<7:=(by omega);obtain⟨q0,q1⟩:=hR k cA;have dA:=zd hR;clear hR;have hn:=zC wr (.cells #[qO (p k),.int .i64 (zBW k)] 199);have aA:=zA hb hn;have bA:=zd (dA.out.zRJ hn);have z0:(wr.alloc (.cells #[qO (p k),.int .i64 (zBW k)] 199)).cell? ⟨wr.heap.size,0,none⟩=some (qO (p k)):=(zI (heap_alloc_new _ _) rfl).1;have z1:(wr.alloc (.cells #[qO (p k),.int .i64 (zBW k)] 199)).cell? ⟨wr.heap.size,1,none⟩=some (.int .i64 (zBW k)):=(zI (heap_alloc_new _ _) rfl).1;by_cases he:k=n
   ·subst he;obtain⟨hc,hv⟩:=(HN.out.resolve_left (fun h=>by omega)).2;subst hc hv;go_wp2;go_ret;exact⟨rfl,aA⟩
   ·have gA:(zBW k == c)=false:=(by simpa using fA.out k (by omega));go_wp2;go_roundw
    case rel=>exact⟨k+1,by omega,by go_num,bA.out,aA⟩
    case measure=>simp[intOf];omega
  ·obtain rfl:k=7:=(by omega);obtain rfl:n=7:=(by omega);have hv:=(HN.out.resolve_right (fun h=>by omega)).2.2;subst hv;go_wp2;go_ret;exact⟨rfl,hb⟩
theorem zKa(g:Nat)(lb:Array Value)(eg:Enters Tryz.prog g)(P:Nat->Prop)(v:Value)(n lo hi:Nat)(f:Nat->qC)(w:World)(h:yY w lo hi v n f)(hn:n<=1000)
  (hP:∀i,i<n->∀a c w',Below w.heap.size w w'->zU w' lo hi (.slice a (f i).dn c) (f i).dn (f i).ds (f i).db->Calls Tryz.prog g (#[.agg #[.string (f i).name,.int .i64 (f i).origin,.int .i64 (f i).zRT,.int .i64 (f i).rs,.int .i64 (f i).rb,.slice a (f i).dn c]] ++ lb) w' fun e fA=>zG (P i) e/\Below w'.heap.size w' fA) :
  Calls Tryz.prog 103 #[v,.func (.func g) #[] lb] w fun e w'=>((∃i:Nat,i<n/\P i/\(∀j,j<i->¬P j)/\e = .returned (.int .i64 (i:Int)))\/((∀j,j<n->¬P j)/\e = .returned (.int .i64 (-1))))/\Below w.heap.size w w':=by
 have Hp:=zB h;obtain⟨-,a,c,rfl,-,-⟩:=h;have HP:=zB hP;clear hP;have e0:∀(args:Array Value) (w:World),(callFunc g args).run Tryz.prog w = .ok (.enter g args) w:=eg;clear eg;go_enter Tryz.func103,Tryz.ntmps103;go_wp2
 go_loopw [8] (fun i wr=>∃k:Nat,k<=n/\i = .int .i64 k/\(∀j,j<k->¬P j)/\Below w.heap.size w wr) (fun i _=>n - (intOf i).toNat)
 case atStart=>exact⟨0,Nat.zero_le _,rfl,fun j hj=>absurd hj (Nat.not_lt_zero _),Below.refl _ _⟩
 case round=>
  obtain⟨k,hk,rfl,bA,hb⟩:=hrel;have aA:=zB bA;clear bA;by_cases cA:k<n
  ·have gA:(k:Int)<(n:Int):=(by omega);obtain⟨b,off,vd,rfl,hs⟩:=(Hp.out.zRJ hb).cells cA;obtain⟨-,ad,cd,rfl,-,-⟩:=id hs.zRX;have Hs:=zB hs.zRX;obtain⟨q0,q1,q2,q3,q4,q5,-,-⟩:=hs;go_wp2_with fail;clear q0 q1 q2 q3 q4 q5;refine(HP.out k cA ad cd wr hb Hs.out).mono ?_;rintro e w1 ⟨⟨t,rfl,ht⟩,eA⟩;have dA:=zA hb eA;clear eA Hs;by_cases hf:P k
   ·obtain rfl:t=true:=ht.2 hf;have HF:=zB hf;clear ht hf;go_wp2;go_ret;exact⟨Or.inl ⟨k,cA,HF.out,aA.out,rfl⟩,dA⟩
   ·obtain rfl:t=false:=zQ ht hf;have HF:=zB hf;clear ht hf;go_wp2;go_roundw
    case rel=>
     refine⟨k+1,by omega,by go_num,fun j hj=>?_,dA⟩;by_cases e:j=k
     ·subst e;exact HF.out
     ·exact aA.out j (by omega)
    case measure=>simp[intOf];omega
  ·obtain rfl:k=n:=(by omega);go_wp2;go_ret;exact⟨Or.inr ⟨aA.out,rfl⟩,hb⟩
theorem zMK(s:qC)(a:Option Addr)(c B:Nat)(name:ByteArray)(w:World)(h0:w.cell? ⟨B,0,none⟩=some (.string name)) :
  Calls Tryz.prog 104 #[.agg #[.string s.name,.int .i64 s.origin,.int .i64 s.zRT,.int .i64 s.rs,.int .i64 s.rb,.slice a s.dn c],.pointer (some ⟨B,0,none⟩)] w fun e w'=>zG (s.name=name) e/\Below w.heap.size w w':=by
 have ha:=zC w (.cells #[.string s.name,.int .i64 s.origin,.int .i64 s.zRT,.int .i64 s.rs,.int .i64 s.rb,.slice a s.dn c] 67);have k0:=(ha.cell (zD h0)).trans h0;clear h0;obtain⟨⟨x0,-⟩,⟨x1,-⟩,⟨x2,-⟩,⟨x3,-⟩,⟨x4,-⟩,⟨x5,-⟩⟩:=zi.zRL w (.string s.name) (.int .i64 s.origin) (.int .i64 s.zRT) (.int .i64 s.rs) (.int .i64 s.rb) (.slice a s.dn c) 67;by_cases e1:s.name=name
 ·skip;have a1:=zCg e1;have H:=zB e1;clear e1;go_enter Tryz.func104,Tryz.ntmps104;go_wp2;go_ret;exact⟨zG.yes H.out,ha⟩
 ·skip;have a1:=zEO e1;have H:=zB e1;clear e1;go_enter Tryz.func104,Tryz.ntmps104;go_wp2;go_ret;exact⟨zG.no H.out,ha⟩
theorem zO1{n k:Nat}{f:Nat->qC}{name:ByteArray}{e:Ending}(hn:(f k).name=name)(hf:∀j,j<k->(f j).name≠name)(hk:k<n)
  (hr:(∃i:Nat,i<n/\(f i).name=name/\(∀j,j<i->¬(f j).name=name)/\e = .returned (.int .i64 (i:Int)))\/((∀j,j<n->¬(f j).name=name)/\e = .returned (.int .i64 (-1)))):e = .returned (.int .i64 (k:Int)):=by
 rcases hr with⟨i,hi,h1,h2,rfl⟩ | ⟨h1,_⟩
 ·obtain rfl:i=k:=by
   rcases Nat.lt_trichotomy i k with h | h | h
   ·exact absurd h1 (hf i h)
   ·exact h
   ·exact absurd hn (h2 k h)
  rfl
 ·exact absurd hn (h1 k hk)
theorem zJO(C lo hi n k c2:Nat)(a2:Option Addr)(f:Nat->qC)(name:ByteArray)(w:World)(hc:w.cell? ⟨C,4,none⟩=some (.slice a2 n c2))(hS:yY w lo hi (.slice a2 n c2) n f)(hn:n<=8)(hk:k<n)(bA:(f k).name=name)(aA:∀j,j<k->(f j).name≠name) :
  Calls Tryz.prog 37 #[.pointer (some ⟨C,0,none⟩),.string name] w fun e w'=>(∃b off,a2=some ⟨b,off,none⟩/\e = .returned (.pointer (some ⟨b,off+k*6,none⟩)))/\Below w.heap.size w w':=by
 have Hp:=zB hS;have Hn:=zB bA;have Hf:=zB aA;obtain⟨b,off,vd,rfl,-⟩:=hS.cells hk;clear hS bA aA;have ha:=zC w (.cells #[.string name] 9);have c0:(w.alloc (.cells #[.string name] 9)).cell? ⟨w.heap.size,0,none⟩=some (.string name):=World.cell?_alloc_at _ _ _ _ rfl;have fA:=(ha.cell (zD hc)).trans hc;have C0:=zB c0;have kA:(k:Int)<(n:Int):=by omega
 clear c0 hc;go_enter Tryz.func37,Tryz.ntmps37;go_wp2_with fail;generalize w.alloc (.cells #[.string name] 9)=W1 at ha fA C0 ⊢;have IX:=zB (show ∀w',Below W1.heap.size W1 w'->Calls Tryz.prog 103 #[.slice (some ⟨b,off,none⟩) n c2,.func (.func 104) #[] #[.pointer (some ⟨w.heap.size,0,none⟩)]] w' fun e dA=>e = .returned (.int .i64 (k:Int))/\Below w'.heap.size w' dA from fun w' gA=>by
  refine(zKa 104 #[.pointer (some ⟨w.heap.size,0,none⟩)] (enters_of Tryz.func104 (by kernel_rfl) rfl) (fun i=>(f i).name=name) _ n lo hi f w' ((Hp.out.zRJ ha).zRJ gA) (by omega) (fun i hi' a c dA iA hp=>zMK (f i) a c _ name dA (((zA gA iA).cell (zD C0.out)).trans C0.out))).mono ?_;rintro e w2 ⟨hr,eA⟩;exact⟨zO1 Hn.out Hf.out hk hr,eA⟩)
 go_region_held3 (fun w'=>w'.cell? ⟨C,4,none⟩=some (.slice (some ⟨b,off,none⟩) n c2)) (go_keep)
  (first | (go_at_call 103;refine(IX.out _ (Below.refl _ _).drew).mono ?_;rintro e w2 ⟨rfl,eA⟩;have cA:=zK eA;have jA:=(cA.cell (zD fA)).trans fA))
 go_wp2;go_ret;exact⟨⟨b,off,rfl,rfl⟩,zA ha cA⟩
theorem yv{P:Program}{w w1:World}{bA:Array Oper}{o:Oper}{a:Act}{K:Act->World->Prop}{Q:Exit->Act->World->Prop}{E:Prop}(cA:o.guard=none)(s x:Operand)(t:TypeId)
  (ho:o.op = .call {callee:=.builtin .append,args:=#[s,x],argTypes:=#[t,t]}) (vs vx v':Value) (hs:a.eval s=vs) (hx:a.eval x=vx) (aA:(Builtin.append_ #[t,t] o.type #[vs,vx]).run P w = .ok v' w1)
  (h:K (a.put o.dst v') w1):if Region.wanted o (yielded bA a.tmps)=true then Oper.wp P o a w K Q else E:=by
 have hw:Region.wanted o (yielded bA a.tmps)=true:=by simp[Region.wanted,cA]
 rw[if_pos hw];unfold Oper.wp;simp[execOp,ho,resolve,invoke,builtin,hs,hx,aA,Result.andThen];exact h
theorem yN.nth{w:World}{bs n:Nat}{kb:Nat->Nat}{kv:Nat->Value}{v:Value}{f:Nat->qC}(h:yN w bs kb kv v n f){k:Nat}(hk:k<n):∃off c,v = .slice (some ⟨bs,off,none⟩) n c/\zAE w bs (off+k*6) (kb k) (kv k) (f k):=by
 obtain⟨_,a,c,hv,_,hx⟩:=h;obtain⟨off,ha,h⟩:=hx (by omega);exact⟨off,c,by rw[hv,ha],h k hk⟩
theorem zK3(v:Value)(s:zm)(w:World):(Instr.field 99 (.agg #[.int .i64 s.id,.string s.name,.string s.set,.int .i64 s.zRT,.int .i64 s.time,.int .i64 s.rs,.int .i64 s.rb,v]) 4).run Tryz.prog w = .ok (.int .i64 s.time) w:=by kernel_rfl
theorem zLi(C lo hi:Nat)(z0 z1 z2 z3 u6 u7 u8:Value)(W:zH)(x:Int)(w:World)(h:zl w lo hi z0 z1 z2 z3 W)(hC:yj w C z0 z1 (.int .i64 W.time) (.int .i64 W.next) z2 z3 u6 u7 u8)(hn:W.pn<=20)(eA:zNG W.pn W.zRP)(hD:zCE W)(hx:(Lit.int .i64 x).wf=true) :
  Calls Tryz.prog 95 #[.pointer (some ⟨C,0,none⟩),.int .i64 x] w fun e w'=>∃a c,e = .returned (ye (.slice a (zN W x).dn c) (zN W x))/\Below w.heap.size w w':=by
 have Hp:=zB h;obtain⟨l0,kA,l1,jA,l2,lA,l3,iA,rfl,rfl,rfl,rfl⟩:=h.form;have HD:=zB hD;have fA:=zB eA;have Hx:=zB hx;have ha:=zC w (.cells #[.int .i64 0,.string ⟨#[]⟩,.string ⟨#[]⟩,.int .i64 0,.int .i64 0,.int .i64 0,.int .i64 0,.slice none 0 0] 99);obtain⟨⟨x0,-⟩,⟨x1,-⟩,⟨x2,-⟩,⟨x3,-⟩,⟨x4,-⟩,⟨x5,-⟩,-⟩:=hC.zRJ ha;have HR:=zB (zCH.zRL w (.int .i64 0) (.string ⟨#[]⟩) (.string ⟨#[]⟩) (.int .i64 0) (.int .i64 0) (.int .i64 0) (.int .i64 0) (.slice none 0 0) 99);clear h hD eA hx hC;obtain⟨S,hS⟩:∃S,S=zN W x:=⟨_,rfl⟩;rw[<-hS];unfold ye;have HS:=zB hS;clear hS;go_enter Tryz.func95,Tryz.ntmps95;go_wp2_with fail;clear x0 x1 x2 x3 x4 x5;generalize w.alloc (.cells #[.int .i64 0,.string ⟨#[]⟩,.string ⟨#[]⟩,.int .i64 0,.int .i64 0,.int .i64 0,.int .i64 0,.slice none 0 0] 99)=W1 at ha HR ⊢;refine(zGx _ _ _ _ lo hi W W1 (Hp.out.zRJ ha) hn fA.out).mono ?_;rintro e w2 ⟨A,rfl,hA,dA⟩;have HA:=zB hA;clear hA;go_wp2_with fail;refine(zBg lo hi W A x w2 HA.out HD.out Hx.out hn).mono ?_;rw[<-HS.out];unfold ye;rintro e w3 ⟨a,c,rfl,gA,bA⟩;have hb:=zA (zA ha dA) bA;have cA:=zB ((HR.out.zRJ dA).zRJ bA);clear gA;obtain⟨⟨⟨r0,g0⟩,⟨r1,g1⟩,⟨r2,g2⟩,⟨r3,g3⟩⟩,⟨r4,g4⟩,⟨r5,g5⟩,⟨r6,g6⟩,⟨r7,g7⟩⟩:=cA.out;go_wp2_with fail;have aA:=cA.out.put (.int .i64 S.id) (.string S.name) (.string S.set) (.int .i64 S.zRT) (.int .i64 S.time) (.int .i64 S.rs) (.int .i64 S.rb) (.slice a S.dn c);have hT:=zF.put8 w3 w.heap.size (.int .i64 S.id) (.string S.name) (.string S.set) (.int .i64 S.zRT) (.int .i64 S.time) (.int .i64 S.rs) (.int .i64 S.rb) (.slice a S.dn c);clear r0 g0 r1 g1 r2 g2 r3 g3 r4 g4 r5 g5 r6 g6 r7 g7;refine bodyPost_ret (v:=.agg #[.int .i64 S.id,.string S.name,.string S.set,.int .i64 S.zRT,.int .i64 S.time,.int .i64 S.rs,.int .i64 S.rb,.slice a S.dn c]) (by simp[results,Tryz.results95,go_sem,aA.1.1.1,aA.1.2.1.1,aA.1.2.2.1.1,aA.1.2.2.2.1,aA.2.1.1,aA.2.2.1.1,aA.2.2.2.1.1,aA.2.2.2.2.1]) rfl ⟨a,c,rfl,?_⟩
 ·exact hb.trans (hT.zRJ (B:=w.heap.size) hb.size (fun k e=>by omega))
theorem zMb{W:zH}(h:zBK W)(x:Int):zB3 (zN W x).time:=by
 by_cases hx:∃k,yC W x k
 ·obtain⟨k,hk⟩:=hx;rw[yA hk];have h1:=(h.2.2.2.2.2 k hk.1).1;have h2:=h.1;unfold zBt at h2;exact⟨by have:=h1.2.2.1;omega,by have:=h1.2.2.2.1;omega⟩
 ·have e:zN W x=yP:=(by unfold zN;rw[dif_neg hx]);rw[e];exact⟨by decide,by decide⟩
theorem zPy(p:Nat->Addr)(C k hw oB aC:Nat)(z0 z1 z2 z3 iE iF vo:Value)(W:zH)(y:zCA)(name:ByteArray)(w:World)(hE:zEr w p)(hI:zAu W)(hy:zG3 y)(ht:zB3 (zN W (W.zRS k).zRT).time)(hx:(Lit.int .i64 (W.zRS k).zRT).wf=true)(hk:zGA W name k)(hD:(W.zRS k).dn<=1048576)(vH:C<hw)(oH:hw<=w.heap.size)
  (ho:qR w (C+1) hw z0 z1 z2 z3 W) (hC:yj w C z0 z1 (.int .i64 W.time) (.int .i64 W.next) z2 z3 (.int .i64 0) (.int .i64 0) .nilIface) (rD:zt w oB aC iE iF y.zRQ) (gI:hw<=oB) (aI:aC<=w.heap.size) (pD:zU w hw w.heap.size vo y.old.length (zf y.old) (zh y.old)) :
  Calls Tryz.prog 35 #[.pointer (some ⟨C,0,none⟩),.string name,.agg #[iE,iF,.int .i64 y.rs,.int .i64 y.rb,vo,.int .i64 y.code]] w (zLh p (zA8 W k y) C w):=by
 have h8:=hI.zRa.zRS.1;have bG:=hI.zRa.zRP.1;have kA:=hk.1;have sH:=hy.2.1;have HE:=zB hE;have HC:=zB hC;have HI:=zB hI;have HY:=zB hy;have Ht:=zB ht;have Hx:=zB hx;have Hk:=zB hk;obtain⟨iA,gA,jA,fA,rfl,rfl⟩:=rD.at.form;obtain⟨-,oo,oc,rfl,-,-⟩:=id pD;obtain⟨P,Q,R,pA,lA⟩:=ho;obtain⟨jB,kb,kv,hS,lE,pC,-,cF⟩:=pA.zRS;obtain⟨off,c,rfl,mE⟩:=hS.nth kA;have jD:Q jB:=pC _ (Or.inl ⟨by omega,rfl⟩);have cI:=lA jB (Or.inr (Or.inl jD));obtain⟨bs,bF⟩:∃bs,bs=jB:=⟨_,rfl⟩;obtain⟨o2,sC⟩:∃o2,o2=off+k*6:=⟨_,rfl⟩;have sB:=zB (show ∀w',yN w' jB kb kv (.slice (some ⟨jB,off,none⟩) W.sn c) W.sn W.zRS->w'.cell? ⟨C,4,none⟩=some (.slice (some ⟨jB,off,none⟩) W.sn c)->Calls Tryz.prog 37 #[.pointer (some ⟨C,0,none⟩),.string name] w' fun e dE=>e = .returned (.pointer (some ⟨bs,o2,none⟩))/\Below w'.heap.size w' dE from fun w' iH hc=>by
  refine(zJO C (C+1) hw W.sn k c _ W.zRS name w' hc (iH.at (lo:=C+1) (hi:=hw) (fun j hj=>lA j (Or.inr (Or.inl (pC j hj))))) h8 kA hk.2.1 hk.2.2).mono ?_;rintro e w2 ⟨⟨b,aH,e1,rfl⟩,nA⟩;simp only[Option.some.injEq,Addr.mk.injEq,and_true]at e1;obtain⟨rfl,rfl⟩:=e1;exact⟨by rw[bF,sC],nA⟩)
 subst bF;have dA:=zB lA;have tF:=zB hS;have dG:=zB lE;have fB:=zB pC;have lB:=zB mE;have kH:=zB jD;have lG:=zB (cF k kA);have HZ:=zB pA.zRP.isIn;have kD:=zB pA.qr;have eG:=zB sC;have pG:=zB rD;have kG:=zB pD;clear pA lA hS lE pC mE hC hI hE hy ht hx hk jD cF rD pD;rw[<-sC]at lB;clear sC;have ha:=zC w (.cells #[.slice iA y.zRQ.n gA,.slice jA y.zRQ.hn fA,.int .i64 y.rs,.int .i64 y.rb,.slice oo y.old.length oc,.int .i64 y.code] 64);have HX:=zB (zi.zRL w (.slice iA y.zRQ.n gA) (.slice jA y.zRQ.hn fA) (.int .i64 y.rs) (.int .i64 y.rb) (.slice oo y.old.length oc) (.int .i64 y.code) 64);have oF:(w.alloc (.cells #[.slice iA y.zRQ.n gA,.slice jA y.zRQ.hn fA,.int .i64 y.rs,.int .i64 y.rb,.slice oo y.old.length oc,.int .i64 y.code] 64)).heap.size=w.heap.size+1:=World.size_alloc _ _;have jI:C<w.heap.size:=by omega
 obtain⟨⟨x0,-⟩,⟨x1,-⟩,⟨x2,-⟩,⟨x3,-⟩,⟨x4,-⟩,⟨x5,-⟩⟩:=HX.out;by_cases nC:y.code=0;rotate_left
 ·obtain⟨i,sF,gF⟩:=HY.out.1.resolve_left nC;have nE:=zB gF;clear gF;go_enter Tryz.func35,Tryz.ntmps35;go_wp2_with fail;generalize w.alloc (.cells #[.slice iA y.zRQ.n gA,.slice jA y.zRQ.hn fA,.int .i64 y.rs,.int .i64 y.rb,.slice oo y.old.length oc,.int .i64 y.code] 64)=w1 at ha HX oF x0 x1 x2 x3 x4 x5 ⊢;refine(zGt p y.code i (qO (p i)) (Or.inr ⟨sF,nE.out,rfl⟩) w1 (HE.out.zRJ ha)).mono ?_;rintro e w2 ⟨rfl,nA⟩;have kB:=zA ha nA;have iB:=zB (HC.out.zRJ kB);clear x0 x1 x2 x3 x4 x5;obtain⟨-,-,-,-,-,-,-,-,⟨x8,pF⟩⟩:=iB.out;go_wp2_with fail;go_end0;have hT:=zF.put w2 C 8 (qO (p i));have bH:=kB.size;have cG:=hT.size;have oA:=iB.out;refine⟨⟨_,rfl⟩,((zF.zRM kB).trans hT).zRJ (B:=C) (by omega) (fun j (h:j=C)=>by omega),Nat.lt_of_lt_of_le (show C<w2.heap.size by omega) cG,Or.inr ⟨i,sF,?_,_,_,_,_,_,_,_,_,⟨oA.1.zRK _ (Or.inr (by decide)),oA.2.1.zRK _ (Or.inr (by decide)),oA.2.2.1.zRK _ (Or.inr (by decide)),oA.2.2.2.1.zRK _ (Or.inr (by decide)),oA.2.2.2.2.1.zRK _ (Or.inr (by decide)),oA.2.2.2.2.2.1.zRK _ (Or.inr (by decide)),oA.2.2.2.2.2.2.1.zRK _ (Or.inr (by decide)),oA.2.2.2.2.2.2.2.1.zRK _ (Or.inr (by decide)),oA.2.2.2.2.2.2.2.2.set _⟩⟩⟩;unfold zA8;rw[if_neg nC,nE.out]
 have rC:=zB nC;obtain⟨yc,aG⟩:∃yc,yc=y.code:=⟨_,rfl⟩;go_enter Tryz.func35,Tryz.ntmps35;clear nC aG yc;go_wp2_with fail;generalize w.alloc (.cells #[.slice iA y.zRQ.n gA,.slice jA y.zRQ.hn fA,.int .i64 y.rs,.int .i64 y.rb,.slice oo y.old.length oc,.int .i64 y.code] 64)=w1 at ha HX oF x0 x1 x2 x3 x4 x5 ⊢;refine(zGt p y.code 7 .nilIface (Or.inl ⟨rfl,rC.out,rfl⟩) w1 (HE.out.zRJ ha)).mono ?_;rintro e w2 ⟨rfl,nA⟩;have kB:=zA ha nA;have iB:=zB (HC.out.zRJ kB);have eF:=zB (HX.out.zRJ nA);have bH:=nA.size;clear x0 x1 x2 x3 x4 x5;obtain⟨-,-,-,-,-,-,-,-,⟨x8,pF⟩⟩:=iB.out;go_upto_region 3 with fail;clear x8 pF;have kC:=zF.put w2 C 8 .nilIface;have aE:=zB (show zF (fun j=>j=C) w (w2.setCell ⟨C,8,none⟩ .nilIface)from(zF.zRM kB).trans kC);have lC:=zB (show yj (w2.setCell ⟨C,8,none⟩ .nilIface) C z0 z1 (.int .i64 W.time) (.int .i64 W.next) (.slice (some ⟨bs,off,none⟩) W.sn c) z3 (.int .i64 0) (.int .i64 0) .nilIface from by
  have h:=iB.out;exact⟨h.1.zRK _ (Or.inr (by decide)),h.2.1.zRK _ (Or.inr (by decide)),h.2.2.1.zRK _ (Or.inr (by decide)),h.2.2.2.1.zRK _ (Or.inr (by decide)),h.2.2.2.2.1.zRK _ (Or.inr (by decide)),h.2.2.2.2.2.1.zRK _ (Or.inr (by decide)),h.2.2.2.2.2.2.1.zRK _ (Or.inr (by decide)),h.2.2.2.2.2.2.2.1.zRK _ (Or.inr (by decide)),h.2.2.2.2.2.2.2.2.set _⟩)
 have tC:=zB (eF.out.zRR kC (by omega));have mH:=kC.size;clear kC iB eF;generalize w2.setCell ⟨C,8,none⟩ .nilIface=w3 at aE lC tC mH ⊢;obtain⟨⟨x0,-⟩,⟨x1,-⟩,⟨x2,-⟩,⟨x3,-⟩,⟨x4,-⟩,⟨x5,-⟩⟩:=tC.out;obtain⟨⟨c0,nG⟩,⟨c1,rG⟩,-⟩:=lC.out;have n1:w.heap.size≠C:=by omega
 have n2:C≠w.heap.size:=by omega
 go_upto_region 4 with fail;clear x0 x1 x2 x3 x4 x5 c0 nG c1 rG;have jC:zF (fun j=>j=C) w3 ((w3.setCell ⟨C,0,none⟩ (.slice iA y.zRQ.n gA)).setCell ⟨C,1,none⟩ (.slice jA y.zRQ.hn fA)):=(zF.put _ C _ _).trans (zF.put _ C _ _);have iD:=zB (aE.out.trans jC);have bE:=zB (show yj ((w3.setCell ⟨C,0,none⟩ (.slice iA y.zRQ.n gA)).setCell ⟨C,1,none⟩ (.slice jA y.zRQ.hn fA)) C (.slice iA y.zRQ.n gA) (.slice jA y.zRQ.hn fA) (.int .i64 W.time) (.int .i64 W.next) (.slice (some ⟨bs,off,none⟩) W.sn c) z3 (.int .i64 0) (.int .i64 0) .nilIface from by
  have h:=lC.out;exact⟨(h.1.set _).zRK _ (Or.inr (by decide)),(h.2.1.zRK _ (Or.inr (by decide))).set _,(h.2.2.1.zRK _ (Or.inr (by decide))).zRK _ (Or.inr (by decide)),(h.2.2.2.1.zRK _ (Or.inr (by decide))).zRK _ (Or.inr (by decide)),(h.2.2.2.2.1.zRK _ (Or.inr (by decide))).zRK _ (Or.inr (by decide)),(h.2.2.2.2.2.1.zRK _ (Or.inr (by decide))).zRK _ (Or.inr (by decide)),(h.2.2.2.2.2.2.1.zRK _ (Or.inr (by decide))).zRK _ (Or.inr (by decide)),(h.2.2.2.2.2.2.2.1.zRK _ (Or.inr (by decide))).zRK _ (Or.inr (by decide)),(h.2.2.2.2.2.2.2.2.zRK _ (Or.inr (by decide))).zRK _ (Or.inr (by decide))⟩)
 have sE:=zB (tC.out.zRR jC (by omega));have jG:=jC.size;clear jC lC tC aE;generalize ((w3.setCell ⟨C,0,none⟩ (.slice iA y.zRQ.n gA)).setCell ⟨C,1,none⟩ (.slice jA y.zRQ.hn fA))=w4 at iD bE sE jG ⊢;have vA:∀j,zCB bs kb W.sn W.zRS j->¬j=C:=fun j hj e=>by have:=dA.out j (Or.inr (Or.inl (fB.out j hj)));omega
 have oE:=zB (tF.out.zRR iD.out vA);have eA:=zB vA;clear vA;obtain⟨c4,-⟩:=bE.out.2.2.2.2.1;go_wp2_with fail;refine(sB.out w4 oE.out c4).mono ?_;clear sB c4;rintro e w5 ⟨rfl,cC⟩;have iI:=cC.size;have mB:=zB (iD.out.trans (zF.zRM cC));have fF:=zB (bE.out.zRJ cC);have pE:=zB (sE.out.zRJ cC);have aF:=zB (oE.out.zRJ cC);have bB:=lB.out.zRR mB.out (by omega) (fun h0=>eA.out _ (Or.inr ⟨k,kA,h0,rfl⟩));have cD:=zB bB;have mF:=zB ((pG.out.zRR mB.out (fun j e=>by omega)).isIn (S:=fun j=>oB<=j/\j<aC) (fun j h1 h2=>⟨h1,h2⟩));have mD:=zB (kG.out.same (fun j h1 h2=>mB.out.block j h2 (by omega)));have nD:=zB (lG.out.kept (zB5 mB.out) (fun h0=>by
  rw[(show(kv k).ownBlock=some (kb k)by
   obtain⟨_,a,c,hv,_,hx⟩:=lB.out.zRX;obtain⟨off,ha,_⟩:=hx h0;rw[hv,ha];rfl)]
  intro e;injection e with e;exact eA.out _ (Or.inr ⟨k,kA,h0,rfl⟩) e))
 have rE:=zB (HZ.out.zRR mB.out (fun j hj e=>by have:=dA.out j (Or.inr (Or.inr hj));omega));have eE:bs≠C:=by omega
 have pB:zl w5 0 w5.heap.size (.slice iA y.zRQ.n gA) (.slice jA y.zRQ.hn fA) (.slice (some ⟨bs,off,none⟩) W.sn c) z3 {W with zRQ:=y.zRQ}:=⟨mF.out.at (fun j hj=>⟨Nat.zero_le _,by omega⟩),aF.out.at (fun j hj=>⟨Nat.zero_le _,by have:=dA.out j (Or.inr (Or.inl (fB.out j hj)));omega⟩),rE.out.at (fun j hj=>⟨Nat.zero_le _,by have:=dA.out j (Or.inr (Or.inr hj));omega⟩)⟩;have aD:=zB (show ∀w',Below w5.heap.size w5 w'->Calls Tryz.prog 95 #[.pointer (some ⟨C,0,none⟩),.int .i64 (W.zRS k).zRT] w' fun e dE=>(∃a c,e = .returned (ye (.slice a (zN W (W.zRS k).zRT).dn c) (zN W (W.zRS k).zRT)))/\Below w'.heap.size w' dE from fun w' nF=>by
  refine(zLi C 0 w5.heap.size _ _ _ _ _ _ _ {W with zRQ:=y.zRQ} (W.zRS k).zRT w' (pB.zRJ nF) (fF.out.zRJ nF) bG HI.out.zRa.idsWf HI.out.zRa.dist Hx.out).mono ?_;rw[zIn];rintro e w2 ⟨a,c,rfl,nA⟩;exact⟨⟨a,c,rfl⟩,nA⟩)
 have dD:bs<w5.heap.size:=by omega
 obtain⟨x4,-⟩:=pE.out.2.2.2.2.1;obtain⟨q2,-⟩:=bB.c2;have mC:=zB (show ∀w',Below w5.heap.size w5 w'->(fun w':World=>w'.cell? ⟨w.heap.size,4,none⟩=some (.slice oo y.old.length oc)/\w'.cell? ⟨bs,o2+2,none⟩=some (.int .i64 (W.zRS k).zRT)) w' from fun w' hb=>⟨(hb.cell (p:=⟨w.heap.size,4,none⟩) (zD x4)).trans x4,(hb.cell (p:=⟨bs,o2+2,none⟩) dD).trans q2⟩);have fI:∀(fn:Fn) (first tE:Array Value) (w:World),(Instr.makeFunc fn first tE).run Tryz.prog w = .ok (.func fn first tE) w:=fun _ _ _ _=>rfl
 have oC:Below w5.heap.size w5 w5.drew:=(Below.refl _ _).drew;have fD:=zB (zO3 (W:=W) (k:=k) HY.out rC.out);have gG:=zB ((HY.out.2.2 rC.out).ptrs (by omega));obtain⟨A,hA⟩:∃A,A=zN W (W.zRS k).zRT:=⟨_,rfl⟩;have HA:=zB hA;unfold zEq at fD;rw[<-hA]at aD fD Ht;unfold ye at aD;have vG:=fun (a:Option Addr) (c:Nat) (w:World)=>zK3 (.slice a A.dn c) A w
 clear hA pB x4 q2 bB;go_upto_region 5 with fail;refine wp_region_held_drew (S:=(fun w':World=>w'.cell? ⟨w.heap.size,4,none⟩=some (.slice oo y.old.length oc)/\w'.cell? ⟨bs,o2+2,none⟩=some (.int .i64 (W.zRS k).zRT))) (by kernel_rfl) (mC.out _ oC) (fun hHeld=>?_);generalize w5.drew=q0 at hHeld oC ⊢;refine tk 0 (h:=tk 1 (h:=tk 2 (h:=tk 3 (h:=tk 4 (h:=tk 5 (h:=tk 6 (h:=tk 9 (h:=tk 10 (h:=?_)))))))));refine rd [7] (rc (fun K hK=>?_) .nil);go_simp;go_at_call 95;refine(aD.out _ oC).mono ?_;rintro e w6 ⟨⟨a6,c6,rfl⟩,fH⟩;have bA:=zA oC fH
 (try go_wp2_with fail)
 refine hK.out _ _ (mC.out _ bA) ?_;clear hK K;intro hHeld
 try simp only[Act.put,s1,s2,s3]
 refine tk 8 (h:=?_);refine rd [11] (rc (fun K hK=>?_) .nil);go_simp;go_at_call 94;have dI:=bA.size;refine(zNj C hw w.heap.size y.old.length (fun j=>oB<=j/\j<aC) _ _ _ _ .nilIface _ W.time W.next 0 0 A.time y.zRQ (zf y.old) (zh y.old) w6 (mD.out.zRJ bA) gG.out Ht.out fD.out (fF.out.zRJ bA) (mF.out.zRJ bA) (fun k hk=>by omega) (by omega) (by omega)).mono ?_;rintro e w7 ⟨v7,y0,y1,rfl,eB,kF,vE,gC⟩;obtain⟨a7,c7,rfl,-⟩:=zW eB;have kE:(fun w':World=>w'.cell? ⟨w.heap.size,4,none⟩=some (.slice oo y.old.length oc)/\w'.cell? ⟨bs,o2+2,none⟩=some (.int .i64 (W.zRS k).zRT)) w7:=by
  have h:=mC.out _ bA;exact⟨(gC.cell (o:=4) (show w.heap.size<w6.heap.size by omega) (by omega)).trans h.1,(gC.cell (o:=o2+2) (show bs<w6.heap.size by omega) eE).trans h.2⟩
 have jF:=zB eB;have tG:=zB kF;have sG:=zB vE;have sD:zF (fun j=>j=C) w5 w7:=(zF.zRM bA).trans gC;have nH:=gC.size;have gB:=zB sD;clear kF vE eB
 (try go_wp2_with fail)
 refine hK.out _ _ kE ?_;clear hK K hHeld kE gC;intro hHeld
 try simp only[Act.put,s1,s2,s3]
 refine tk 12 (h:=?_);refine wpAnyH_done (by kernel_rfl) ?_ _;clear hHeld vG aD mC;go_upto_region 6 with fail;have aA:=cD.out.zRR gB.out eE (fun h0=>eA.out _ (Or.inr ⟨k,kA,h0,rfl⟩));have jE:=pE.out.zRR gB.out (show ¬w.heap.size=C by omega);have nB:=nD.out.kept (zB5 gB.out) (fun h0=>by
  rw[(show(kv k).ownBlock=some (kb k)by
   obtain⟨_,a,c,hv,_,hx⟩:=lB.out.zRX;obtain⟨off,ha,_⟩:=hx h0;rw[hv,ha];rfl)]
  intro e;injection e with e;exact eA.out _ (Or.inr ⟨k,kA,h0,rfl⟩) e)
 have iG:=zB (aF.out.zRR gB.out eA.out);obtain⟨L,hL⟩:∃L,L=zBf (zf y.old) (zh y.old) A.time y.old.length:=⟨_,rfl⟩;rw[<-hL]at jF;simp only[<-hL];have bI:L.length<=3:=by
  rw[hL];have:=zLz (zf y.old) (zh y.old) A.time y.old.length;omega
 have dH:=zB hL;have cA:Below w7.heap.size w7 w7.drew:=(Below.refl _ _).drew;have eB:=zw.zRJ jF.out cA;obtain⟨-,ak,ck,bD,-,-⟩:=id aA.zRX;have vD:=aA.zRX.zRJ cA;have tD:=nB.zRJ cA;rw[bD]at vD tD;obtain⟨da,dc,wb,nb,dC,fC,vC,lF⟩:=zG6 (lo:=0) (hi:=w7.drew.heap.size) vD tD (by
  obtain⟨bb,ho,lH⟩:=zw.own eB (by unfold maxLen;omega);exact ho.at (fun h0=>⟨Nat.zero_le _,(lH h0).2.2⟩)) (by omega) 62
 have fE:=zB fC;have aB:=zB vC;have dF:=zB lF;have tA:∀j,(0<(W.zRS k).dn/\j=kb k)->j≠bs/\j≠C/\j≠w.heap.size:=fun j hj=>by
  have h1:=dA.out j (Or.inr (Or.inl (fB.out j (Or.inr ⟨k,kA,hj.1,hj.2⟩))));exact⟨fun e=>lB.out.zRW hj.1 (by rw[<-hj.2];exact e),by omega,by omega⟩
 have gE:bs<w7.drew.heap.size:=show bs<w7.heap.size by omega
 have tB:=jE.zRJ cA;have eH:=tB.zRR vC (fun h=>(tA _ h).2.2 rfl);have sA:=fun (r:Nat) (u:Value) (h:zX w7 bs (o2+r) u)=>(h.zRJ cA).zRR vC (fun h=>(tA _ h).1 rfl)
 have c5:=aA.c5;rw[bD]at c5;obtain⟨d5,rF⟩:=c5.zRJ cA;obtain⟨m3,mG⟩:=sA 3 _ aA.c3;obtain⟨m4,vF⟩:=sA 4 _ aA.c4;obtain⟨m5,gH⟩:=sA 5 _ c5;obtain⟨-,-,⟨x2,-⟩,⟨x3,-⟩,-⟩:=tB;obtain⟨-,-,⟨u2,-⟩,⟨u3,-⟩,-⟩:=eH;have lD:=zB aA;have rA:=zB tA;have rH:=zB bD;have n3:bs≠w.heap.size:=by omega
 have n4:w.heap.size≠bs:=by omega
 clear jE sA c5 vD tD fC vC lF aA nB eB hL tA bD;have E1:zF (fun j=>j=bs) wb ((wb.setCell ⟨bs,o2+3,none⟩ (.int .i64 y.rs)).setCell ⟨bs,o2+3+1,none⟩ (.int .i64 y.rb)):=(zF.put _ bs _ _).trans (zF.put _ bs _ _);have E2:zF (fun j=>j=bs) wb (((wb.setCell ⟨bs,o2+3,none⟩ (.int .i64 y.rs)).setCell ⟨bs,o2+3+1,none⟩ (.int .i64 y.rb)).setCell ⟨bs,o2+5,none⟩ (.slice da ((W.zRS k).dn+L.length) dc)):=E1.trans (zF.put _ bs _ _);have iC:w.heap.size<wb.heap.size:=zD u2;have oG:=zB (show(fun w':World=>w'.cell? ⟨w.heap.size,2,none⟩=some (.int .i64 y.rs)/\w'.cell? ⟨w.heap.size,3,none⟩=some (.int .i64 y.rb)) ((wb.setCell ⟨bs,o2+3,none⟩ (.int .i64 y.rs)).setCell ⟨bs,o2+3+1,none⟩ (.int .i64 y.rb))from⟨(E1.cell (o:=2) iC n4).trans u2,(E1.cell (o:=3) iC n4).trans u3⟩);have cH:=zB (show(fun w':World=>w'.cell? ⟨w.heap.size,2,none⟩=some (.int .i64 y.rs)/\w'.cell? ⟨w.heap.size,3,none⟩=some (.int .i64 y.rb)) (((wb.setCell ⟨bs,o2+3,none⟩ (.int .i64 y.rs)).setCell ⟨bs,o2+3+1,none⟩ (.int .i64 y.rb)).setCell ⟨bs,o2+5,none⟩ (.slice da ((W.zRS k).dn+L.length) dc))from⟨(E2.cell (o:=2) iC n4).trans u2,(E2.cell (o:=3) iC n4).trans u3⟩);have rB:=zB E2;have eC:=zB dC;have HU:=zB (show(fun w':World=>w'.cell? ⟨w.heap.size,2,none⟩=some (.int .i64 y.rs)/\w'.cell? ⟨w.heap.size,3,none⟩=some (.int .i64 y.rb)) wb from⟨u2,u3⟩);have oD:=zB (show(fun w':World=>w'.cell? ⟨w.heap.size,2,none⟩=some (.int .i64 y.rs)/\w'.cell? ⟨w.heap.size,3,none⟩=some (.int .i64 y.rb)) w7.drew from⟨x2,x3⟩);clear dC E1 E2 u2 u3;refine wp_region_held_drew (S:=(fun w':World=>w'.cell? ⟨w.heap.size,2,none⟩=some (.int .i64 y.rs)/\w'.cell? ⟨w.heap.size,3,none⟩=some (.int .i64 y.rb))) (by kernel_rfl) oD.out (fun hHeld=>?_);generalize w7.drew=q7 at hHeld oD eC aB dF d5 rF x2 x3 cA gE ⊢;refine tk 0 (h:=tk 1 (h:=tk 2 (h:=tk 3 (h:=tk 4 (h:=tk 5 (h:=tk 6 (h:=tk 8 (h:=?_))))))));refine rd [7] (rc (fun K hK=>?_) .nil);go_simp
 (try go_wp2_with fail)
 refine hK.out _ _ (oD.out) ?_;clear hK K;intro hHeld
 try simp only[Act.put,s1,s2,s3]
 refine rd [9] (rc (fun K hK=>?_) .nil);refine yv rfl (.tmp 47) (.tmp 48) 62 rfl _ _ _ rfl rfl eC.out ?_
 (try go_wp2_with fail)
 refine hK.out _ _ (HU.out) ?_;clear hK K;intro hHeld
 try simp only[Act.put,s1,s2,s3]
 clear d5 rF x2 x3;refine tk 10 (h:=tk 11 (h:=?_));refine rd [12] (rc (fun K hK=>?_) .nil);go_simp
 (try go_wp2_with fail)
 refine hK.out _ _ (oG.out) ?_;clear hK K;intro hHeld
 try simp only[Act.put,s1,s2,s3]
 refine tk 13 (h:=tk 14 (h:=?_));refine rd [15] (rc (fun K hK=>?_) .nil);go_simp
 (try go_wp2_with fail)
 refine hK.out _ _ (cH.out) ?_;clear hK K;intro hHeld
 try simp only[Act.put,s1,s2,s3]
 refine wpAnyH_done (by kernel_rfl) ?_ _;clear hHeld m3 mG m4 vF m5 gH;go_wp2_with fail;go_end0;have eO:zA8 W k y=⟨zL2 W k y,0,((zEq W k y).length:Int),0⟩:=if_pos rC.out;have eY:zEq W k y=qd (zf y.old) (zh y.old) A.time y.old.length:=by unfold zEq;rw[HA.out]
 have eD:zDj W k y=zBI (W.zRS k).dn (W.zRS k).ds (W.zRS k).db ++ L:=by unfold zDj zOl;rw[dH.out,HA.out]
 have fG:yj (((wb.setCell ⟨bs,o2+3,none⟩ (.int .i64 y.rs)).setCell ⟨bs,o2+3+1,none⟩ (.int .i64 y.rb)).setCell ⟨bs,o2+5,none⟩ (.slice da ((W.zRS k).dn+L.length) dc)) C y0 y1 (.int .i64 W.time) (.int .i64 W.next) (.slice (some ⟨bs,off,none⟩) W.sn c) z3 (.int .i64 0) (.int .i64 ((zEq W k y).length:Int)) .nilIface:=by
  have h:=tG.out;rw[Int.zero_add,<-eY]at h;exact((h.zRJ cA).zRR aB.out (fun e=>(rA.out _ e).2.1 rfl)).zRR rB.out (fun e=>eE e.symm)
 have tH:=cA.size;have eI:=aB.out.size;have pH:=rB.out.size;have bC:zF (fun j=>j=C\/j=bs\/(0<(W.zRS k).dn/\j=kb k)) w (((wb.setCell ⟨bs,o2+3,none⟩ (.int .i64 y.rs)).setCell ⟨bs,o2+3+1,none⟩ (.int .i64 y.rb)).setCell ⟨bs,o2+5,none⟩ (.slice da ((W.zRS k).dn+L.length) dc)):=((((mB.out.mono (fun j e=>Or.inl e)).trans (gB.out.mono (fun j e=>Or.inl e))).trans (zF.zRM cA)).trans (aB.out.mono (fun j e=>Or.inr (Or.inr e)))).trans (rB.out.mono (fun j e=>Or.inr (Or.inl e)));have mA:∀j,(0<(W.zRS k).dn/\j=kb k)->C+1<=j/\j<hw/\Q j:=fun j hj=>by
  have h1:=fB.out j (Or.inr ⟨k,kA,hj.1,hj.2⟩);have:=dA.out j (Or.inr (Or.inl h1));exact⟨this.1,this.2,h1⟩
 rw[eO];refine⟨⟨_,rfl⟩,bC.zRJ (B:=C) (by omega) (fun j h=>by
  rcases h with h | h | h
  ·omega
  ·omega
  ·have:=mA j h;omega),by omega,Or.inl ⟨rfl,_,_,_,_,fG,?_⟩⟩
 have cB:zF (fun j=>j=bs\/(0<(W.zRS k).dn/\j=kb k)) q7 (((wb.setCell ⟨bs,o2+3,none⟩ (.int .i64 y.rs)).setCell ⟨bs,o2+3+1,none⟩ (.int .i64 y.rb)).setCell ⟨bs,o2+5,none⟩ (.slice da ((W.zRS k).dn+L.length) dc)):=(aB.out.mono (fun j e=>Or.inr e)).trans (rB.out.mono (fun j e=>Or.inl e));have dB:∀o u,zX w7 bs o u->zX wb bs o u:=fun o u h=>(h.zRJ cA).zRR aB.out (fun h=>(rA.out _ h).1 rfl)
 have e2:=eG.out;have gD:0<(zBc W k y).dn->((0<(W.zRS k).dn/\nb=kb k)\/(q7.heap.size<=nb/\nb<wb.heap.size)):=fun h=>dF.out (by
  have:(zBc W k y).dn=(W.zRS k).dn+L.length:=(by show(zDj W k y).length=_;rw[eD,List.length_append,zAn]);omega)
 have vB:0<(zBc W k y).dn->nb≠bs:=fun h=>by
  rcases gD h with h | h
  ·exact(rA.out nb h).1
  ·omega
 have cE:zAE (((wb.setCell ⟨bs,o2+3,none⟩ (.int .i64 y.rs)).setCell ⟨bs,o2+3+1,none⟩ (.int .i64 y.rb)).setCell ⟨bs,o2+5,none⟩ (.slice da ((W.zRS k).dn+L.length) dc)) bs (off+k*6) nb (.slice da ((W.zRS k).dn+L.length) dc) (zBc W k y):=by
  rw[<-e2];have hs:=lD.out;refine⟨?_,?_,?_,?_,?_,?_,?_,lB.out.zRZ,vB⟩
  ·exact(((dB _ _ hs.c0).zRK _ (Or.inr (by omega))).zRK _ (Or.inr (by omega))).zRK _ (Or.inr (by omega))
  ·exact(((dB _ _ hs.c1).zRK _ (Or.inr (by omega))).zRK _ (Or.inr (by omega))).zRK _ (Or.inr (by omega))
  ·exact(((dB _ _ hs.c2).zRK _ (Or.inr (by omega))).zRK _ (Or.inr (by omega))).zRK _ (Or.inr (by omega))
  ·exact(((dB _ _ hs.c3).set _).zRK _ (Or.inr (by omega))).zRK _ (Or.inr (by omega))
  ·exact(((dB _ _ hs.c4).zRK _ (Or.inr (by omega))).set _).zRK _ (Or.inr (by omega))
  ·exact(((dB _ _ hs.c5).zRK _ (Or.inr (by omega))).zRK _ (Or.inr (by omega))).set _
  ·have h:=fE.out.zRR rB.out (fun h0=>vB (by show 0<(zDj W k y).length;rw[eD];exact h0));show zj _ nb _ (zDj W k y).length (zf (zDj W k y)) (zh (zDj W k y));rw[eD];exact h
 show qN _ (C+1) _ _ _ _ _ (zL2 W k y);refine⟨(fun j=>(oB<=j/\j<aC)\/(w6.heap.size<=j/\j<w7.heap.size)),(fun j=>Q j\/(q7.heap.size<=j/\j<wb.heap.size)),R,⟨?_,?_,?_,?_,?_,?_⟩,?_⟩
 ·have h:=(sG.out.zRJ cA).zRR cB (fun j hj e=>by
   rcases e with e | e
   ·omega
   ·have:=mA j e;omega)
  show qZ _ _ _ _ (zx y.zRQ (zEq W k y));rw[eY];exact h
 ·refine zIA (w:=q7) (iG.out.zRJ cA) dG.out (fun j hj=>Or.inl (fB.out j hj)) kA cB (fun j hj jH r hr u hc=>?_) cE (fun h=>⟨(gD h).imp id (fun h j hj e=>?_),?_⟩)
  ·exact(((hc.zRR aB.out (fun h=>(rA.out _ h).1 rfl)).zRK _ (Or.inr (by omega))).zRK _ (Or.inr (by omega))).zRK _ (Or.inr (by omega))
  ·have:=dA.out j (Or.inr (Or.inl (fB.out j hj)));omega
  ·rcases gD h with h | h
   ·exact Or.inl (mA nb h).2.2
   ·exact Or.inr h
 ·exact((rE.out.zRR gB.out (fun j hj e=>by have:=dA.out j (Or.inr (Or.inr hj));omega)).zRJ cA).zRR cB (fun j hj e=>by
   rcases e with e | e
   ·exact kD.out bs kH.out (by rw[<-e];exact hj)
   ·exact kD.out j (mA j e).2.2 hj)
 ·intro j hj hq;rcases hq with hq | hq
  ·have:=dA.out j (Or.inr (Or.inl hq));omega
  ·omega
 ·intro j hj hq;have:=dA.out j (Or.inr (Or.inr hq));omega
 ·intro j hj hq;rcases hj with hj | hj
  ·exact kD.out j hj hq
  ·have:=dA.out j (Or.inr (Or.inr hq));omega
 ·rintro j (h | h | h)
  ·omega
  ·rcases h with h | h
   ·have:=dA.out j (Or.inr (Or.inl h));omega
   ·omega
  ·have:=dA.out j (Or.inr (Or.inr h));omega
theorem zI6(p:Nat->Addr)(C k B0 B1:Nat)(z0 z1 z2 z3:Value)(W:zH)(name:ByteArray)(zRV:Int)(w:World)(hE:zEr w p)(hI:zAu W)(ht:zB3 (zN W (W.zRS k).zRT).time)(hx:(Lit.int .i64 (W.zRS k).zRT).wf=true)(hk:zGA W name k)(hD:(W.zRS k).dn<=1048576)(lB:C<w.heap.size)(k0:w.cell? ⟨B0,0,none⟩=some (.string name))(l0:B0<C)(k1:w.cell? ⟨B1,0,none⟩=some (.int .i64 zRV))(l1:B1<C)
  (ho:qR w (C+1) w.heap.size z0 z1 z2 z3 W) (hC:yj w C z0 z1 (.int .i64 W.time) (.int .i64 W.next) z2 z3 (.int .i64 0) (.int .i64 0) .nilIface) :
  Calls Tryz.prog 47 #[.pointer (some ⟨C,0,none⟩),.pointer (some ⟨B0,0,none⟩),.pointer (some ⟨B1,0,none⟩)] w (zLh p (zA8 W k (zAM W.zRQ (W.zRS k).rs (W.zRS k).rb zRV W.time)) C w):=by
 have h8:=hI.zRa.zRS.1;have bB:=hk.1;have HC:=zB hC;have HO:=zB ho;obtain⟨bs,o2,jA,pA⟩:∃bs o2,Hid (∃nb nv,zAE w bs o2 nb nv (W.zRS k))/\Hid (∀w',Below w.heap.size w w'->Calls Tryz.prog 37 #[.pointer (some ⟨C,0,none⟩),.string name] w' fun e bA=>e = .returned (.pointer (some ⟨bs,o2,none⟩))/\Below w'.heap.size w' bA):=by
  obtain⟨P,Q,R,mA,oA⟩:=ho;have jB:=mA.isIn;obtain⟨iB,kb,kv,hS,vB,kB⟩:=jB.zRS;obtain⟨off,c,rfl,lA⟩:=hS.nth bB;refine⟨iB,off+k*6,zB ⟨_,_,lA⟩,zB (fun w' iA=>?_)⟩;obtain⟨c4,-⟩:=(hC.zRJ iA).2.2.2.2.1;refine(zJO C (C+1) w.heap.size W.sn k c _ W.zRS name w' c4 ((hS.at (lo:=C+1) (hi:=w.heap.size) (fun j hj=>oA j (Or.inr (Or.inl (kB j hj))))).zRJ iA) h8 bB hk.2.1 hk.2.2).mono ?_;rintro e w2 ⟨⟨b,oB,e1,rfl⟩,gA⟩;simp only[Option.some.injEq,Addr.mk.injEq,and_true]at e1;obtain⟨rfl,rfl⟩:=e1;exact⟨rfl,gA⟩
 obtain⟨nb,nv,lA⟩:=jA.out;clear jA;have jA:=zB lA;have eA:zy w (C+1) w.heap.size z0 z1 W.zRQ:=ho.own.at.zRQ;obtain⟨a0,c0,a1,c1,rfl,rfl⟩:=eA.form;obtain⟨y,hy⟩:∃y,y=zAM W.zRQ (W.zRS k).rs (W.zRS k).rb zRV W.time:=⟨_,rfl⟩;have eB:=zB (show ∀w',Below w.heap.size w w'->Calls Tryz.prog 48 #[.agg #[.slice a0 W.zRQ.n c0,.slice a1 W.zRQ.hn c1],.agg #[.int .i64 (W.zRS k).rs,.int .i64 (W.zRS k).rb],.int .i64 zRV,.int .i64 W.time] w' (zHQ y w')from fun w' hb=>by
  rw[hy];exact zGa _ _ (C+1) w.heap.size W.zRQ (W.zRS k).rs (W.zRS k).rb zRV W.time w' (eA.zRJ hb))
 have HG:=zB (show zG3 y by rw[hy];exact zGd _ _ _ _ _);rw[<-hy];have fB:=zB (show ∀(w' bA:World) (v0 v1 vo:Value) (lo hi:Nat),Below w.heap.size w w'->Below w'.heap.size w' bA->zt bA lo hi v0 v1 y.zRQ->w'.heap.size<=lo->hi<=bA.heap.size->zw bA w'.heap.size vo y.old->Calls Tryz.prog 35 #[.pointer (some ⟨C,0,none⟩),.string name,.agg #[v0,v1,.int .i64 y.rs,.int .i64 y.rb,vo,.int .i64 y.code]] bA (zLh p (zA8 W k y) C bA)from fun w' bA v0 v1 vo lo hi hb iA hp h1 h2 hr=>by
  have gA:=zA hb iA;have hz:=hb.size;have tB:=iA.size;have pB:=gA.size;refine zPy p C k w.heap.size lo hi _ _ _ _ v0 v1 vo W y name bA (hE.zRJ gA) hI HG.out ht hx hk hD lB pB (ho.zRJ gA) (hC.zRJ gA) hp (by omega) h2 ?_;obtain⟨bb,h3,dB⟩:=zw.own hr (by have:=HG.out.2.1;unfold maxLen;omega);exact h3.at (fun h0=>⟨by have:=(dB h0).2.1;omega,(dB h0).2.2⟩))
 have rA:Below w.heap.size w w.drew:=(Below.refl _ _).drew;have aA:=zB (show ∀w',Below w.heap.size w w'->(fun w':World=>w'.cell? ⟨B0,0,none⟩=some (.string name)/\w'.cell? ⟨B1,0,none⟩=some (.int .i64 zRV)) w' from fun w' hb=>⟨(hb.cell (zD k0)).trans k0,(hb.cell (zD k1)).trans k1⟩);have fA:=zB (show ∀w',Below C w w'->(fun w':World=>w'.cell? ⟨B0,0,none⟩=some (.string name)/\w'.cell? ⟨B1,0,none⟩=some (.int .i64 zRV)) w' from fun w' hb=>⟨(hb.cell (p:=⟨B0,0,none⟩) l0).trans k0,(hb.cell (p:=⟨B1,0,none⟩) l1).trans k1⟩);clear hE hI ht hx hk hD ho hC eA lA hy;go_enter Tryz.func47,Tryz.ntmps47;go_upto_region 0 with fail;clear k0 k1;refine wp_region_held_drew (S:=(fun w':World=>w'.cell? ⟨B0,0,none⟩=some (.string name)/\w'.cell? ⟨B1,0,none⟩=some (.int .i64 zRV))) (by kernel_rfl) (aA.out _ rA) (fun hHeld=>?_);have aB:=rA;generalize w.drew=q0 at hHeld rA aB ⊢;refine tk 0 (h:=tk 1 (h:=tk 2 (h:=tk 3 (h:=tk 4 (h:=tk 5 (h:=tk 7 (h:=tk 8 (h:=tk 13 (h:=tk 14 (h:=tk 15 (h:=tk 16 (h:=tk 17 (h:=?_)))))))))))));refine zJL [6,9,10,11,12,18] (fun i=>if i=10 then [9] else if i=11 then [10] else if i=12 then [11] else []) (fun i=>i+4) (fun i v w'=>(i=6->v = .agg #[.slice a0 W.zRQ.n c0,.slice a1 W.zRQ.hn c1])/\(i=9->v = .pointer (some ⟨bs,o2,none⟩))/\(i=10->v = .pointer (some ⟨bs,o2,none⟩))/\(i=11->v = .pointer (some ⟨bs,o2+3,none⟩))/\(i=12->v = .agg #[.int .i64 (W.zRS k).rs,.int .i64 (W.zRS k).rb])/\(i=18->v = .int .i64 W.time)) 2 (G:=fun w'=>Below w.heap.size w w') (by kernel_rfl) (by decide) (by decide) (by decide) ?_ (fun _ _ h t=>zA h t) (by assumption) aB ?_ ?_
 ·intro i v w' bA hf t;exact hf
 ·intro i hi x w2 hS hG hD K hK;simp only[List.mem_cons,List.not_mem_nil,or_false]at hi;rcases hi with rfl | rfl | rfl | rfl | rfl | rfl
  ·refine wpOp_step (zAY rfl) (fun K' cA=>?_);simp only[qb,Act.put,Nat.reduceAdd,s1,s2,s3];obtain⟨⟨c0,-⟩,⟨c1,-⟩,⟨c2,-⟩,-⟩:=HC.out.zRJ hG;go_simp;refine cA _ _ (hK.out _ _ w2 ?_ (aA.out _ (zA hG (Below.refl _ _))) ⟨fun _=>rfl,fun e=>absurd e (by decide),fun e=>absurd e (by decide),fun e=>absurd e (by decide),fun e=>absurd e (by decide),fun e=>absurd e (by decide)⟩ (Below.refl _ _));simp only[qb,Act.put,Nat.reduceAdd,s1,s2,s3]
  ·refine wpOp_step (zAY rfl) (fun K' cA=>?_);simp only[qb,Act.put,Nat.reduceAdd,s1,s2,s3];go_simp;go_at_call 37;refine(pA.out _ hG).mono ?_;rintro e w3 ⟨rfl,kA⟩;refine cA _ _ (hK.out _ _ w3 ?_ (aA.out _ (zA hG kA)) ⟨fun e=>absurd e (by decide),fun _=>rfl,fun e=>absurd e (by decide),fun e=>absurd e (by decide),fun e=>absurd e (by decide),fun e=>absurd e (by decide)⟩ kA);simp only[qb,Act.put,Nat.reduceAdd,s1,s2,s3]
  ·refine wpOp_step (zAY rfl) (fun K' cA=>?_);simp only[qb,Act.put,Nat.reduceAdd,s1,s2,s3];have e9:=(hD 9 (by decide)).2.1 rfl;simp only[e9];go_simp;refine cA _ _ (hK.out _ _ w2 ?_ (aA.out _ (zA hG (Below.refl _ _))) ⟨fun e=>absurd e (by decide),fun e=>absurd e (by decide),fun _=>rfl,fun e=>absurd e (by decide),fun e=>absurd e (by decide),fun e=>absurd e (by decide)⟩ (Below.refl _ _));simp only[qb,Act.put,Nat.reduceAdd,s1,s2,s3,e9]
  ·refine wpOp_step (zAY rfl) (fun K' cA=>?_);simp only[qb,Act.put,Nat.reduceAdd,s1,s2,s3];have e9:=(hD 10 (by decide)).2.2.1 rfl;simp only[e9];go_simp;refine cA _ _ (hK.out _ _ w2 ?_ (aA.out _ (zA hG (Below.refl _ _))) ⟨fun e=>absurd e (by decide),fun e=>absurd e (by decide),fun e=>absurd e (by decide),fun _=>rfl,fun e=>absurd e (by decide),fun e=>absurd e (by decide)⟩ (Below.refl _ _));simp only[qb,Act.put,Nat.reduceAdd,s1,s2,s3,e9]
  ·refine wpOp_step (zAY rfl) (fun K' cA=>?_);simp only[qb,Act.put,Nat.reduceAdd,s1,s2,s3];have e9:=(hD 11 (by decide)).2.2.2.1 rfl;simp only[e9];obtain⟨q3,-⟩:=(jA.out.zRJ hG).c3;obtain⟨q4,-⟩:=(jA.out.zRJ hG).c4;go_simp;refine cA _ _ (hK.out _ _ w2 ?_ (aA.out _ (zA hG (Below.refl _ _))) ⟨fun e=>absurd e (by decide),fun e=>absurd e (by decide),fun e=>absurd e (by decide),fun e=>absurd e (by decide),fun _=>rfl,fun e=>absurd e (by decide)⟩ (Below.refl _ _));simp only[qb,Act.put,Nat.reduceAdd,s1,s2,s3,e9]
  ·refine wpOp_step (zAY rfl) (fun K' cA=>?_);simp only[qb,Act.put,Nat.reduceAdd,s1,s2,s3];obtain⟨⟨c0,-⟩,⟨c1,-⟩,⟨c2,-⟩,-⟩:=HC.out.zRJ hG;go_simp;refine cA _ _ (hK.out _ _ w2 ?_ (aA.out _ (zA hG (Below.refl _ _))) ⟨fun e=>absurd e (by decide),fun e=>absurd e (by decide),fun e=>absurd e (by decide),fun e=>absurd e (by decide),fun e=>absurd e (by decide),fun _=>rfl⟩ (Below.refl _ _));simp only[qb,Act.put,Nat.reduceAdd,s1,s2,s3]
 ·intro x w2 hS hG hF;have f6:=(hF 6 (by decide)).1 rfl;have f12:=(hF 12 (by decide)).2.2.2.2.1 rfl;have ft:=(hF 18 (by decide)).2.2.2.2.2 rfl;simp only[qb,zAt,if_true,Act.put,Nat.reduceAdd,s1,s2,s3,f6,f12,ft];clear hF f6 f12 ft hHeld;refine rd [19] (rc (fun K hK=>?_) .nil);go_simp;go_at_call 48;refine(eB.out w2 hG).mono ?_;rintro e w3 ⟨v0,v1,vo,lo,hi,rfl,nB,mB,nA,sA,-,kA⟩;obtain⟨b0,d0,b1,d1,rfl,rfl⟩:=nA.at.form;obtain⟨b2,d2,rfl,-⟩:=zW sA;have sB:=zB nA;have gB:=zB sA;have vA:=zA hG kA;clear nA sA
  (try go_wp2_with fail)
  refine hK.out _ _ (aA.out _ vA) ?_;clear hK K;intro hHeld
  try simp only[Act.put,s1,s2,s3]
  refine rd [20] (rc (fun K hK=>?_) .nil);go_simp;go_at_call 35;refine(fB.out w2 w3 _ _ _ lo hi hG kA sB.out nB mB gB.out).mono ?_;rintro e w4 ⟨⟨ve,rfl⟩,rB,dA⟩;have tA:=zB dA;have cB:Below C w w4:=(vA.mono (by omega)).trans rB;clear dA
  (try go_wp2_with fail)
  refine hK.out _ _ (fA.out _ cB) ?_;clear hK K;intro hHeld
  try simp only[Act.put,s1,s2,s3]
  refine wpAnyH_done (by kernel_rfl) ?_ _;clear hHeld;go_wp2_with fail;go_end0;refine⟨⟨_,rfl⟩,cB,tA.out.1,?_⟩;rcases tA.out.2 with h | h
  ·exact Or.inl h
  ·exact Or.inr h
end Go.Proofs.YtmgeglgboadfiaaGreatDoor
