/- What impl.wayTo answers. -/
import Derived.Test.YtmgeglgboadfiaaGreatDoorT15
set_option linter.unusedVariables false
set_option maxRecDepth 20000
set_option maxHeartbeats 4000000
namespace Go.Proofs.YtmgeglgboadfiaaGreatDoor
open Go.RowKit
theorem zNo(v:Value)(lo hi:Nat)(p:zJ)(xs xb:Int)(n:Nat)(w:World)(h1:qA w lo hi v p.n p.s)(hT:yr p xs xb)(hn:n<64) :
  Calls Tryz.prog 102 #[v,.agg #[.int .i64 xs,.int .i64 xb],.int .i64 (n:Int)] w fun e w'=>∃o,e = .returned (.agg (zAP (yJ p xs xb n 2 3 o)))/\zw w' w.heap.size o (qd p xs xb n 3)/\Below w.heap.size w w':=by
 have Hp:=zE h1;have HT:=zE hT;obtain⟨_,a,c,rfl,_⟩:=id h1;clear h1 hT;have tD:(n:Int)<64:=by omega
 have pD:0<=(n:Int) % 8:=by omega
 have sD:(n:Int) % 8<8:=by omega
 have lC:=zC w (.cells #[.int .i64 xs,.int .i64 xb] 61);have oB:=zC (w.alloc (.cells #[.int .i64 xs,.int .i64 xb] 61)) (.cells #[.int .i64 0,.int .i64 0,.int .i64 0,.int .i64 0,.int .i64 0,.int .i64 0,.int .i64 0,.int .i64 0,.int .i64 0,.int .i64 0,.int .i64 0,.int .i64 0,.int .i64 0,.int .i64 0,.int .i64 0,.int .i64 0,.int .i64 0,.int .i64 0,.int .i64 0,.int .i64 0,.int .i64 0,.int .i64 0,.int .i64 0,.int .i64 0,.int .i64 0,.int .i64 0,.int .i64 0,.int .i64 0,.int .i64 0,.int .i64 0,.int .i64 0,.int .i64 0,.int .i64 0,.int .i64 0,.int .i64 0,.int .i64 0,.int .i64 0,.int .i64 0,.int .i64 0,.int .i64 0,.slice none 0 0] 159);have lB:=zE ((zc.zRL w (.int .i64 xs) (.int .i64 xb) 61).zRJ oB);have dB:Hid (((w.alloc (.cells #[.int .i64 xs,.int .i64 xb] 61)).alloc (.cells #[.int .i64 0,.int .i64 0,.int .i64 0,.int .i64 0,.int .i64 0,.int .i64 0,.int .i64 0,.int .i64 0,.int .i64 0,.int .i64 0,.int .i64 0,.int .i64 0,.int .i64 0,.int .i64 0,.int .i64 0,.int .i64 0,.int .i64 0,.int .i64 0,.int .i64 0,.int .i64 0,.int .i64 0,.int .i64 0,.int .i64 0,.int .i64 0,.int .i64 0,.int .i64 0,.int .i64 0,.int .i64 0,.int .i64 0,.int .i64 0,.int .i64 0,.int .i64 0,.int .i64 0,.int .i64 0,.int .i64 0,.int .i64 0,.int .i64 0,.int .i64 0,.int .i64 0,.int .i64 0,.slice none 0 0] 159)).heap[w.heap.size+1]?=some (.cells zOW 159 (0,0))):=by
  have:=heap_alloc_new (w.alloc (.cells #[.int .i64 xs,.int .i64 xb] 61)) (.cells #[.int .i64 0,.int .i64 0,.int .i64 0,.int .i64 0,.int .i64 0,.int .i64 0,.int .i64 0,.int .i64 0,.int .i64 0,.int .i64 0,.int .i64 0,.int .i64 0,.int .i64 0,.int .i64 0,.int .i64 0,.int .i64 0,.int .i64 0,.int .i64 0,.int .i64 0,.int .i64 0,.int .i64 0,.int .i64 0,.int .i64 0,.int .i64 0,.int .i64 0,.int .i64 0,.int .i64 0,.int .i64 0,.int .i64 0,.int .i64 0,.int .i64 0,.int .i64 0,.int .i64 0,.int .i64 0,.int .i64 0,.int .i64 0,.int .i64 0,.int .i64 0,.int .i64 0,.int .i64 0,.slice none 0 0] 159);rw[World.size_alloc]at this;exact this
 have jB:=zA lC oB;have oA:((w.alloc (.cells #[.int .i64 xs,.int .i64 xb] 61)).alloc (.cells #[.int .i64 0,.int .i64 0,.int .i64 0,.int .i64 0,.int .i64 0,.int .i64 0,.int .i64 0,.int .i64 0,.int .i64 0,.int .i64 0,.int .i64 0,.int .i64 0,.int .i64 0,.int .i64 0,.int .i64 0,.int .i64 0,.int .i64 0,.int .i64 0,.int .i64 0,.int .i64 0,.int .i64 0,.int .i64 0,.int .i64 0,.int .i64 0,.int .i64 0,.int .i64 0,.int .i64 0,.int .i64 0,.int .i64 0,.int .i64 0,.int .i64 0,.int .i64 0,.int .i64 0,.int .i64 0,.int .i64 0,.int .i64 0,.int .i64 0,.int .i64 0,.int .i64 0,.int .i64 0,.slice none 0 0] 159)).heap.size=w.heap.size+2:=by rw[World.size_alloc,World.size_alloc]
 clear lC oB;go_enter Tryz.func102,Tryz.ntmps102;go_wp2;refine zKi (zRG p (.slice a p.n c) xs xb n w w.heap.size) 6 ?_ ?_ ?_
 ·rintro l a w ⟨B,X,L,_,hL,_,_,_,_,_,h | h⟩
  ·have:=h.2.1;omega
  ·have:=h.2.1;omega
 ·clear lB dB jB oA;rintro k l a' w1 ⟨B,X,L,⟨j,rfl⟩,hL,hB,hX,lA,hb,hO,⟨rfl,hk,hW,hx⟩ | ⟨rfl,hk,o,hW,hr⟩⟩
  ·refine⟨_,rfl,?_⟩;have HW:=zE hW;have HX:=zE hx;have HO:=zE hO;have Hb:=zE hb;have Hk:=zE hk;have gD:(L:Int)<3:=(by omega);have fD:B≠X:=(by omega);obtain⟨⟨x0,x1⟩,⟨x2,x3⟩⟩:=hx;obtain⟨y0,y1⟩:=HW.out (34+L*2) (by omega);obtain⟨y2,y3⟩:=HW.out (34+L*2+1) (by omega);clear hW hO hb hk;go_upto_region 4 with fail;have nB:zF (fun k=>k=B) w1 ((w1.setCell ⟨B,34+L*2,none⟩ (.int .i64 (qq p xs xb n L))).setCell ⟨B,34+L*2+1,none⟩ (.int .i64 (yR p xs xb n L))):=((zF.refl (fun k=>k=B) w1).setCell (p:=⟨B,34+L*2,none⟩) rfl _).setCell (p:=⟨B,34+L*2+1,none⟩) rfl _;have rA:=zE (zQI hL HW.out);have mB:=zE (HX.out.zRR nB (by omega));have sA:=zE ((nB.block _ (by omega) (by omega)).trans HO.out);have iA:=zE ((Hb.out.setCell (p:=⟨B,34+L*2,none⟩) (by show _<=B;omega) (.int .i64 (qq p xs xb n L))).setCell (p:=⟨B,34+L*2+1,none⟩) (by show _<=B;omega) (.int .i64 (yR p xs xb n L)));have bA:=Nat.lt_of_lt_of_le lA nB.size;clear nB x0 x1 x2 x3 y0 y1 y2 y3;generalize (w1.setCell ⟨B,34+L*2,none⟩ (.int .i64 (qq p xs xb n L))).setCell ⟨B,34+L*2+1,none⟩ (.int .i64 (yR p xs xb n L))=w2 at rA mB sA iA bA ⊢;clear HW HX HO Hb lA;obtain⟨⟨x0,x1⟩,⟨x2,x3⟩⟩:=mB.out;by_cases hN:Nil (qq p xs xb n L) (yR p xs xb n L)
   ·have HN:=zE hN;rw[hN.1]at x0;rw[hN.2]at x2;clear hN;go_wp2;go_step3;have hk:=Hk.out;exact⟨B,X,L,zDP _ rfl,hL,hB,hX,bA,iA.out,sA.out,Or.inr ⟨rfl,by omega,.slice none 0 0,zNa hL rA.out (fun _=>HN.out),by rw[zPj (fun _=>HN.out) hL];exact zw.nil _ _⟩⟩
   ·have HN:=zE hN;by_cases aD:L=2
    ·subst aD;rcases zAO hN with e0 | ⟨e0,e1⟩
     all_goals
      clear hN;go_wp2;go_step3;have hk:=Hk.out;exact⟨B,X,2,zDP _ rfl,hL,hB,hX,bA,iA.out,sA.out,Or.inr ⟨rfl,by omega,.slice none 0 0,zNa hL rA.out (fun h=>absurd h (by omega)),zw.nil _ _⟩⟩
    ·have gA:L<2:=(by omega);have rD:((L:Int) == 2)=false:=(by simp;omega);have hK:=(zQi HT.out hn gA).resolve_left hN;obtain⟨m,hm⟩:=Int.eq_ofNat_of_zero_le hK.1.2.1;have cD:m<p.n:=(by have:=hK.1.2.2.1;omega);have lD:(m:Int)<(p.n:Int):=(by omega);have iD:Hid ((p.s m).kn=8):=by
      have:=hK.2;rw[hm]at this;exact this
     obtain⟨b,off,ka,kc,rfl,pC⟩:=(Hp.out.zRJ iA.out).cells cD;have HC:=zE pC;obtain⟨q0,q1,q2,_⟩:=pC;have Hm:=zE hm;have iC:=zAO hN;rw[hm]at x0 iC;clear hm hK hN;have vB:Hid ((Tryz.prog.info? 155).map (·.size)=some (qE (p.s m)).size):=by
      show _=_;rw[qE,qB];exact zBp
     rcases iC with e0 | ⟨e0,e1⟩
     all_goals
      go_wp2_with fail;refine(zDa _ _ _ lo hi (p.s m) _ HC.out.slot (Or.inr iD.out)).mono ?_;rintro e w3 ⟨rfl,mA⟩;have tB:=zE (rA.out.zRJ mA);have sC:=zE (mB.out.zRJ mA);have mC:=zE ((mA.block _ (by omega)).trans sA.out);have aC:=zE (iA.out.trans (mA.mono iA.out.size));have pA:=Nat.lt_of_lt_of_le bA mA.size;have tC:Hid (w3.there B (2+L*16) (qE (p.s m)).size):=by
       have:=tB.out.there (o:=2+L*16) (n:=16) (by omega);rw[<-qB (zk (p.s m))]at this;exact this
      clear mA x0 x1 x2 x3 q0 q1 q2 HC rA mB sA iA bA;go_upto_region 6 with(refine wpList_store_mid rfl 155 (.tmp 36) (.tmp 34) rfl B (2+L*16) (qE (p.s m)) rfl rfl tC.out vB.out (zAo _) ?_);have vA:=zDs B (qE (p.s m)).toList (2+L*16) w3;have aB:Hid (yQ (w3.setCells B (2+L*16) (qE (p.s m)).toList) B (yJ p xs xb n (L+1) (L+1) (.slice none 0 0))):=by
       have:=zOx gA tB.out HN.out;rw[Hm.out]at this;exact this
      have pB:=zE (sC.out.zRR vA (by omega));have oC:=zE ((vA.block _ (by omega) (by omega)).trans mC.out);have dC:=zE (aC.out.trans (vA.zRJ (B:=w.heap.size) (aC.out.size) (by intro k hk;omega)));have bB:=Nat.lt_of_lt_of_le pA vA.size;clear vA tB sC mC aC pA tC;generalize w3.setCells B (2+L*16) (qE (p.s m)).toList=w4 at aB pB oC dC bB ⊢;have vD:=zHp (n:=n) (L:=L) hn;have nD:((plc n L:Nat):Int)<8:=(by omega);obtain⟨⟨x0,x1⟩,⟨x2,x3⟩⟩:=pB.out;obtain⟨z0,_⟩:=aB.out L (by omega);rw[zIY p xs xb n _ _ _ gA]at z0;obtain⟨y0,_⟩:=aB.out (2+L*16+plc n L*2) (by omega);rw[zK8 p xs xb n _ _ gA (by omega),<-(zDM p xs xb n gA).1]at y0;obtain⟨y1,_⟩:=aB.out (2+L*16+plc n L*2+1) (by omega);rw[Nat.add_assoc,zK8 p xs xb n _ _ gA (by omega),<-(zDM p xs xb n gA).2,<-Nat.add_assoc]at y1;have tA:Hid (∀(u v:Value) (w5:World),w5=((w4.drew.setCell ⟨X,0,none⟩ u).setCell ⟨X,1,none⟩ v)->(w5.cell? ⟨B,L,none⟩=some (.int .i64 ((plc n L:Nat):Int))/\w5.cell? ⟨B,2+L*16+plc n L*2,none⟩=some (.int .i64 (qq p xs xb n (L+1)))/\w5.cell? ⟨B,2+L*16+plc n L*2+1,none⟩=some (.int .i64 (yR p xs xb n (L+1))))):=by
       intro u v w5 e5;have h:=fun o=>(qm w4.drew X u v).cell (b:=B) (o:=o) (by show B<w4.heap.size;omega) (by omega)
       rw[e5,h,h,h];exact⟨z0,y0,y1⟩
      have bD:(L:Int)<2:=(by omega);simp only[Act.put];refine wp_region_held_drew (S:=(fun w'=>w'.cell? ⟨B,L,none⟩=some (.int .i64 ((plc n L:Nat):Int))/\w'.cell? ⟨B,2+L*16+plc n L*2,none⟩=some (.int .i64 (qq p xs xb n (L+1)))/\w'.cell? ⟨B,2+L*16+plc n L*2+1,none⟩=some (.int .i64 (yR p xs xb n (L+1))))) (by kernel_rfl) ?_ (fun hHeld=>?_)
      ·(try dsimp only)
       go_keep
      refine wpAnyH_take (i:=0) (oi:=({dst:=some 37,op:=Op.move (Operand.tmp 9),type:=3,pos:= "l02_tree.go:165",after:=#[],guard:=none}:Oper)) (v:=?_) rfl (by kernel_rfl) (by kernel_rfl) (by kernel_rfl) (fun _ _ _ h=>h) (Or.inl ⟨by rfl,?_⟩) (by assumption) ?_;rotate_left
      ·(intro w aA;(try dsimp only at aA);go_simp;try with_reducible rfl)
      try simp only[Act.put,List.setIfInBounds_toArray,List.set_cons_zero,List.set_cons_succ]
      refine wpAnyH_take (i:=1) (oi:=({dst:=some 38,op:=Op.move (Operand.tmp 9),type:=3,pos:= "l02_tree.go:165",after:=#[],guard:=none}:Oper)) (v:=?_) rfl (by kernel_rfl) (by kernel_rfl) (by kernel_rfl) (fun _ _ _ h=>h) (Or.inl ⟨by rfl,?_⟩) (by assumption) ?_;rotate_left
      ·(intro w aA;(try dsimp only at aA);go_simp;try with_reducible rfl)
      try simp only[Act.put,List.setIfInBounds_toArray,List.set_cons_zero,List.set_cons_succ]
      refine wpAnyH_take (i:=2) (oi:=({dst:=some 39,op:=Op.fieldAddr 159 (Operand.tmp 7) 0,type:=0,pos:= "l02_tree.go:165",after:=#[],guard:=none}:Oper)) (v:=?_) rfl (by kernel_rfl) (by kernel_rfl) (by kernel_rfl) (fun _ _ _ h=>h) (Or.inl ⟨by rfl,?_⟩) (by assumption) ?_;rotate_left
      ·(intro w aA;(try dsimp only at aA);go_simp;try with_reducible rfl)
      try simp only[Act.put,List.setIfInBounds_toArray,List.set_cons_zero,List.set_cons_succ]
      refine wpAnyH_take (i:=3) (oi:=({dst:=some 40,op:=Op.indexAddr 154 (Operand.tmp 39) (Operand.tmp 38),type:=0,pos:= "l02_tree.go:165",after:=#[{on:=2,ground:=Ground.data},{on:=1,ground:=Ground.data}],guard:=none}:Oper)) (v:=?_) rfl (by kernel_rfl) (by kernel_rfl) (by kernel_rfl) (fun _ _ _ h=>h) (Or.inl ⟨by rfl,?_⟩) (by assumption) ?_;rotate_left
      ·(intro w aA;(try dsimp only at aA);go_simp;try with_reducible rfl)
      try simp only[Act.put,List.setIfInBounds_toArray,List.set_cons_zero,List.set_cons_succ]
      refine wpAnyH_take (i:=4) (oi:=({dst:=some 41,op:=Op.load 2 (Operand.tmp 40),type:=2,pos:= "l02_tree.go:165",after:=#[{on:=3,ground:=Ground.data}],guard:=none}:Oper)) (v:=?_) rfl (by kernel_rfl) (by kernel_rfl) (by kernel_rfl) (fun _ _ _ h=>h) (Or.inl ⟨by rfl,?_⟩) (by assumption) ?_;rotate_left
      ·(intro w aA;(try dsimp only at aA);go_simp;try with_reducible rfl)
      try simp only[Act.put,List.setIfInBounds_toArray,List.set_cons_zero,List.set_cons_succ]
      refine wpAnyH_take (i:=5) (oi:=({dst:=some 42,op:=Op.fieldAddr 159 (Operand.tmp 7) 1,type:=0,pos:= "l02_tree.go:165",after:=#[],guard:=none}:Oper)) (v:=?_) rfl (by kernel_rfl) (by kernel_rfl) (by kernel_rfl) (fun _ _ _ h=>h) (Or.inl ⟨by rfl,?_⟩) (by assumption) ?_;rotate_left
      ·(intro w aA;(try dsimp only at aA);go_simp;try with_reducible rfl)
      try simp only[Act.put,List.setIfInBounds_toArray,List.set_cons_zero,List.set_cons_succ]
      refine wpAnyH_take (i:=6) (oi:=({dst:=some 43,op:=Op.indexAddr 156 (Operand.tmp 42) (Operand.tmp 37),type:=0,pos:= "l02_tree.go:165",after:=#[{on:=5,ground:=Ground.data},{on:=0,ground:=Ground.data}],guard:=none}:Oper)) (v:=?_) rfl (by kernel_rfl) (by kernel_rfl) (by kernel_rfl) (fun _ _ _ h=>h) (Or.inl ⟨by rfl,?_⟩) (by assumption) ?_;rotate_left
      ·(intro w aA;(try dsimp only at aA);go_simp;try with_reducible rfl)
      try simp only[Act.put,List.setIfInBounds_toArray,List.set_cons_zero,List.set_cons_succ]
      refine wpAnyH_take (i:=7) (oi:=({dst:=some 44,op:=Op.indexAddr 155 (Operand.tmp 43) (Operand.tmp 41),type:=0,pos:= "l02_tree.go:165",after:=#[{on:=6,ground:=Ground.data},{on:=4,ground:=Ground.data}],guard:=none}:Oper)) (v:=?_) rfl (by kernel_rfl) (by kernel_rfl) (by kernel_rfl) (fun _ _ _ h=>h) (Or.inl ⟨by rfl,?_⟩) (by assumption) ?_;rotate_left
      ·(intro w aA;(try dsimp only at aA);go_simp;try with_reducible rfl)
      try simp only[Act.put,List.setIfInBounds_toArray,List.set_cons_zero,List.set_cons_succ]
      refine wpAnyH_take (i:=8) (oi:=({dst:=some 45,op:=Op.load 61 (Operand.tmp 44),type:=61,pos:= "l02_tree.go:165",after:=#[{on:=7,ground:=Ground.data}],guard:=none}:Oper)) (v:=?_) rfl (by kernel_rfl) (by kernel_rfl) (by kernel_rfl) (fun _ _ _ h=>h) (Or.inl ⟨by rfl,?_⟩) (by assumption) ?_;rotate_left
      ·(intro w aA;(try dsimp only at aA);go_simp;try with_reducible rfl)
      try simp only[Act.put,List.setIfInBounds_toArray,List.set_cons_zero,List.set_cons_succ]
      refine wpAnyH_ready (rs:=[9]) (by kernel_rfl) (by simp) ?_;refine AllReadyH.cons (o:=({dst:=none,op:=Op.store 61 (Operand.tmp 8) (Operand.tmp 45),type:=0,pos:= "l02_tree.go:165",after:=#[{on:=8,ground:=Ground.data},{on:=0,ground:=Ground.phase},{on:=1,ground:=Ground.phase},{on:=2,ground:=Ground.phase},{on:=3,ground:=Ground.phase},{on:=4,ground:=Ground.phase},{on:=5,ground:=Ground.phase},{on:=6,ground:=Ground.phase},{on:=7,ground:=Ground.phase},{on:=8,ground:=Ground.phase}],guard:=none}:Oper)) rfl (fun K hK=>?_) AllReadyH.nil;go_simp
      (try go_wp2_with fail)
      refine hK.out _ _ ?_ (fun cA=>?_)
      ·(try dsimp only)
       exact tA.out _ _ _ rfl
      clear hK K hHeld;have hHeld:=cA;clear cA
      try simp only[Act.put,List.setIfInBounds_toArray,List.set_cons_zero,List.set_cons_succ]
      refine wpAnyH_done (by kernel_rfl) ?_ _;go_wp2;go_step3;have hk:=Hk.out;have eB:zF (fun k=>k=X) w4 ((w4.setCell ⟨X,0,none⟩ (.int .i64 (qq p xs xb n (L+1)))).setCell ⟨X,1,none⟩ (.int .i64 (yR p xs xb n (L+1)))).drew:=by
       have h:=qm w4 X (.int .i64 (qq p xs xb n (L+1))) (.int .i64 (yR p xs xb n (L+1)));exact⟨h.os,h.tape,h.output,h.size,h.block⟩
      exact⟨B,X,L+1,zDP _ rfl,by omega,hB,hX,Nat.lt_of_lt_of_le bB eB.size,dC.out.trans (eB.zRJ (B:=w.heap.size) dC.out.size (by intro k hk;omega)),(eB.block _ (by omega) (by omega)).trans oC.out,Or.inl ⟨rfl,by omega,aB.out.zRR eB (by omega),pB.out.put _ _⟩⟩
  ·refine⟨_,rfl,?_⟩;have HW:=zE hW;have HO:=zE hO;have Hb:=zE hb;have Hk:=zE hk;have HR:=zE hr;have gD:(L:Int)<3:=(by omega);have fD:B≠X:=(by omega);obtain⟨y0,_⟩:=HW.out (34+L*2) (by omega);rw[(zL6 p xs xb n 2 o hL).1]at y0;obtain⟨y1,_⟩:=HW.out (34+L*2+1) (by omega);rw[(zL6 p xs xb n 2 o hL).2]at y1;clear hW hO hb hk hr;obtain⟨wd,kC⟩:=Option.map_eq_some_iff.1 zPA;have HU:=zE kC;clear kC;by_cases hN:Nil (qq p xs xb n L) (yR p xs xb n L)
   ·have HN:=zE hN;rw[hN.1]at y0;rw[hN.2]at y1;clear hN;have dA:Hid (zw w1 (X+1) o (qd p xs xb n (2 - L+1))):=by
     have:=HR.out;rw[zLD p xs xb n hL];unfold one;rw[if_pos HN.out,List.append_nil];exact this
    have fA:=HW;have eA:=HO;have kA:=Hb;have kB:=lA;clear HW HO Hb HR lA;by_cases gC:L=0
    ·subst gC;go_wp2_with (first
      |(refine wpList_load_mid rfl 159 (.tmp 7) rfl B 0 rfl ((List.range 41).map (yJ p xs xb n 2 3 o)) wd fA.out.range HU.out.1 HU.out.2 (zLY _) ?_)
      |(refine wpList_store_row rfl 159 (.tmp 6) (.tmp 67) rfl (w.heap.size+1) (zAP (yJ p xs xb n 2 3 o)) rfl rfl 159 zOW eA.out (zDQ _) (by rw[zEj];rfl) (zHZ _ _ _ _ _ _ dA.out.one) ?_)
      |fail)
     unfold hop;dsimp only;refine bodyPost_ret (v:=.agg (zAP (yJ p xs xb n 2 3 o))) (results_cell_row (P:=Tryz.prog) (ty:=159) Tryz.results102 _ _ (w.heap.size+1) 159 (zAP (yJ p xs xb n 2 3 o)) (0,0) _ rfl (setRow_heap _ _ _ _ _ _ eA.out) HU.out.1 (by have:=HU.out.2;cases wd<;>exact this) (zDQ _)) rfl ⟨o,rfl,?_,?_⟩
     ·exact(dA.out.setRow (by omega) _).mono (by omega)
     ·exact below_setRow kA.out (by omega) _
    ·obtain⟨M,rfl⟩:∃M,L=M+1:=⟨L - 1,by omega⟩;have hM:(0:Int)<(M:Int)+1:=(by omega);go_wp2;go_step3;have hk:=Hk.out;exact⟨B,X,M,zDP _ rfl,by omega,hB,hX,kB,kA.out,eA.out,Or.inr ⟨rfl,by omega,o,fA.out,by
      have:=dA.out;rw[show 2 - (M+1)+1=2 - M by omega]at this;exact this⟩⟩
   ·have HN:=zE hN;obtain⟨oa,oc,rfl,_⟩:=zW HR.out;have fC:w1.cell? ⟨B,40,none⟩=some (.slice oa (qd p xs xb n (2 - L)).length oc):=(HW.out 40 (by omega)).1;rcases zAO hN with e0 | ⟨e0,e1⟩
    all_goals
     clear hN;go_upto_region 9 with fail;have sB:Below w1.heap.size w1 (w1.alloc (.cells #[.int .i64 (qq p xs xb n L),.int .i64 (yR p xs xb n L)] 61)):=zC _ _;have cC:(w1.alloc (.cells #[.int .i64 (qq p xs xb n L),.int .i64 (yR p xs xb n L)] 61)).cell? ⟨B,40,none⟩=some (.slice oa (qd p xs xb n (2 - L)).length oc):=((HW.out.zRJ sB) 40 (by omega)).1;have fB:Hid (Below w1.heap.size w1 (w1.alloc (.cells #[.int .i64 (qq p xs xb n L),.int .i64 (yR p xs xb n L)] 61)).drew):=sB.drew;clear sB;have nC:Hid (zw (w1.alloc (.cells #[.int .i64 (qq p xs xb n L),.int .i64 (yR p xs xb n L)] 61)).drew w1.heap.size (.slice (some ⟨w1.heap.size,0,none⟩) 1 1) [(qq p xs xb n L,yR p xs xb n L)]):=World.ownsRow_lit (e:=61) (size:=2) w1 #[.int .i64 (qq p xs xb n L),.int .i64 (yR p xs xb n L)] 1 (Nat.le_refl _) (by unfold maxLen;omega) rfl
     go_region_law (refine zOJ rfl (.tmp 55) (.tmp 60) rfl (X+1) w1.heap.size (.slice oa (qd p xs xb n (2 - L)).length oc) (qd p xs xb n (2 - L)) (by simp[Act.eval]) (HR.out.zRJ fB.out) (some ⟨w1.heap.size,0,none⟩) 1 1 [(qq p xs xb n L,yR p xs xb n L)] (by simp[Act.eval]) rfl nC.out (by have:=zMQ p xs xb n (2 - L);simp;omega) (by have:=fB.out.size;omega) ?_;intro v3 w3 bC nA;obtain⟨va,vc,rfl,_⟩:=zW bC;have rB:zF (fun k=>X<k) w1 w3:=(zF.zRM fB.out).trans ⟨nA.os,nA.tape,nA.output,nA.size,fun k hk oD=>nA.block k hk (fun e=>oD (by have:=(HR.out.lt e.symm).1;omega))⟩;obtain⟨k0,jD⟩:=(HW.out.zRR rB (by omega)) 40 (by omega);have eC:=zE rB;have jC:=zE bC;clear rB bC nA)
     all_goals
      have cB:(qd p xs xb n (2 - L) ++ [(qq p xs xb n L,yR p xs xb n L)]).length=(qd p xs xb n (2 - L)).length+1:=(by simp);have gB:zF (fun k=>X<k\/k=B) w1 (w3.setCell ⟨B,40,none⟩ (.slice va ((qd p xs xb n (2 - L)).length+1) vc)):=zF.setCell (S:=fun k=>X<k\/k=B) (eC.out.mono (fun k hk=>Or.inl hk)) (p:=⟨B,40,none⟩) (Or.inr rfl) _;have fA:=zE (zQH (.slice va ((qd p xs xb n (2 - L)).length+1) vc) (HW.out.zRR eC.out (by omega)));have dA:Hid (zw (w3.setCell ⟨B,40,none⟩ (.slice va ((qd p xs xb n (2 - L)).length+1) vc)) (X+1) (.slice va ((qd p xs xb n (2 - L)).length+1) vc) (qd p xs xb n (2 - L+1))):=by
       have:=jC.out.put (b:=B) (o:=40) (by omega) (.slice va ((qd p xs xb n (2 - L)).length+1) vc);rw[cB]at this;rw[zLD p xs xb n hL];unfold one;rw[if_neg HN.out];exact this
      have eA:=zE ((gB.block _ (by omega) (by omega)).trans HO.out);have kA:=zE (Hb.out.trans (gB.zRJ (B:=w.heap.size) Hb.out.size (by intro k hk;omega)));have kB:=Nat.lt_of_lt_of_le lA gB.size;clear gB jC eC fB nC cC fC HW HO Hb HR lA k0 jD cB y0 y1;generalize w3.setCell ⟨B,40,none⟩ (.slice va ((qd p xs xb n (2 - L)).length+1) vc)=w4 at fA dA eA kA kB ⊢;generalize Value.slice va ((qd p xs xb n (2 - L)).length+1) vc=oq at fA dA ⊢;by_cases gC:L=0
      ·subst gC;go_wp2_with (first
        |(refine wpList_load_mid rfl 159 (.tmp 7) rfl B 0 rfl ((List.range 41).map (yJ p xs xb n 2 3 oq)) wd fA.out.range HU.out.1 HU.out.2 (zLY _) ?_)
        |(refine wpList_store_row rfl 159 (.tmp 6) (.tmp 67) rfl (w.heap.size+1) (zAP (yJ p xs xb n 2 3 oq)) rfl rfl 159 zOW eA.out (zDQ _) (by rw[zEj];rfl) (zHZ _ _ _ _ _ _ dA.out.one) ?_)
        |fail)
       unfold hop;dsimp only;refine bodyPost_ret (v:=.agg (zAP (yJ p xs xb n 2 3 oq))) (results_cell_row (P:=Tryz.prog) (ty:=159) Tryz.results102 _ _ (w.heap.size+1) 159 (zAP (yJ p xs xb n 2 3 oq)) (0,0) _ rfl (setRow_heap _ _ _ _ _ _ eA.out) HU.out.1 (by have:=HU.out.2;cases wd<;>exact this) (zDQ _)) rfl ⟨oq,rfl,?_,?_⟩
       ·exact(dA.out.setRow (by omega) _).mono (by omega)
       ·exact below_setRow kA.out (by omega) _
      ·obtain⟨M,rfl⟩:∃M,L=M+1:=⟨L - 1,by omega⟩;have hM:(0:Int)<(M:Int)+1:=(by omega);go_wp2;go_step3;have hk:=Hk.out;exact⟨B,X,M,zDP _ rfl,by omega,hB,hX,kB,kA.out,eA.out,Or.inr ⟨rfl,by omega,oq,fA.out,by
        have:=dA.out;rw[show 2 - (M+1)+1=2 - M by omega]at this;exact this⟩⟩
 ·intro enter;go_upto_region 1 with fail;generalize (w.alloc (.cells #[.int .i64 xs,.int .i64 xb] 61)).alloc (.cells #[.int .i64 0,.int .i64 0,.int .i64 0,.int .i64 0,.int .i64 0,.int .i64 0,.int .i64 0,.int .i64 0,.int .i64 0,.int .i64 0,.int .i64 0,.int .i64 0,.int .i64 0,.int .i64 0,.int .i64 0,.int .i64 0,.int .i64 0,.int .i64 0,.int .i64 0,.int .i64 0,.int .i64 0,.int .i64 0,.int .i64 0,.int .i64 0,.int .i64 0,.int .i64 0,.int .i64 0,.int .i64 0,.int .i64 0,.int .i64 0,.int .i64 0,.int .i64 0,.int .i64 0,.int .i64 0,.int .i64 0,.int .i64 0,.int .i64 0,.int .i64 0,.int .i64 0,.int .i64 0,.slice none 0 0] 159)=W at lB dB jB oA ⊢;have iB:=zC W (.cells (zH9 n) 159);have kD:=zE (lB.out.zRJ iB);have dD:=zE (zQM W n);have mD:=zE ((iB.block _ (by omega)).trans dB.out);have vC:=zA jB iB;have rC:(W.alloc (.cells (zH9 n) 159)).heap.size=w.heap.size+3:=(by rw[World.size_alloc,oA]);obtain⟨⟨x0,x1⟩,⟨x2,x3⟩⟩:=kD.out;have eD:=zE oA;clear iB lB dB jB oA;go_wp2_with (first
   |(refine wpList_store_row rfl 159 (.tmp 7) (.tmp 15) rfl W.heap.size (zH9 n) rfl rfl 159 zOW (heap_alloc_last _ _) (zPS n) rfl (zPc n) ?_;rw[World.setRow_alloc_new])
   |fail)
  go_step3
  rename_i K hK
  refine hK _ _ (enter 0 _ _ _ rfl ?_);clear hK;have oA:=eD.out;have jA:=zC (W.alloc (.cells (zH9 n) 159)) (.cells #[.int .i64 xs,.int .i64 xb] 61);refine⟨W.heap.size,w.heap.size+3,0,zDP _ rfl,by omega,by omega,by omega,by rw[World.size_alloc,rC];omega,zA vC jA,?_,Or.inl ⟨rfl,by omega,?_,?_⟩⟩
  ·exact(jA.block _ (by omega)).trans mD.out
  ·exact(dD.out.zRJ jA).congr fun i hi=>zOt p xs xb n hi
  ·have:=zc.zRL (W.alloc (.cells (zH9 n) 159)) (.int .i64 xs) (.int .i64 xb) 61;rw[rC]at this;exact this
theorem zES(p:zJ)(i:Nat)(s:zL):(ql p i s).s i=s:=if_pos rfl
theorem zEe(p:zJ){i j:Nat}(s:zL)(h:j≠i):(ql p i s).s j=p.s j:=if_neg h
theorem zFA{p:zJ}{i:Nat}{s:zL}{xs xb:Int}(hi:qG (p.s i))(h:zr p xs xb):zr (ql p i s) xs xb:=by
 obtain⟨h1,h2,h3,h4⟩:=h;refine⟨h1,h2,h3,?_⟩;have aA:xs.toNat≠i:=fun e=>by
  rw[e]at h4;have:=hi.1;omega
 rw[zEe p s aA];exact h4
theorem zK0{p:zJ}{i:Nat}{s t:zL}(hi:qG (p.s i))(h:zAN p t):zAN (ql p i s) t:=by
 refine⟨h.1,?_⟩;rcases h.2 with h2 | h2
 ·exact Or.inl h2
 ·refine Or.inr ⟨h2.1,h2.2.1,fun m hm=>?_⟩;rcases h2.2.2 m hm with h3 | h3
  ·exact Or.inl h3
  ·exact Or.inr ⟨zFA hi h3.1,h3.2⟩
theorem zEX{p:zJ}{i:Nat}{s:zL}(hR:zv p)(hi:zBP p.n p.s i)(hs:zAN p s):zv (ql p i s):=by
 refine⟨hR.1,fun j hj=>?_,fun j hj=>?_⟩
 ·by_cases e:j=i
  ·rw[e,zES];exact Or.inr (zK0 hi.2.1 hs)
  ·rw[zEe p s e];rcases hR.2.1 j hj with h | h
   ·exact Or.inl h
   ·exact Or.inr (zK0 hi.2.1 h)
 ·obtain⟨h1,h2,h3,h4⟩:=hR.2.2 j hj;refine⟨h1,h2,?_,h4⟩;have aA:(p.h j).toNat≠i:=fun e=>h3 (by rw[e];exact hi.2.1)
  show ¬qG ((ql p i s).s (p.h j).toNat);rw[zEe p s aA];exact h3
theorem zBr{p:zJ}{s:zL}(h:zAN p s):¬qG s:=fun hf=>by
 have:=hf.1;have:=h.1.1;omega
def qK(p:zJ)(xs xb:Int)(n L:Nat)(x:Int)(i:Nat):Int:=if i=plc n L then x else yq p (qq p xs xb n L) (yR p xs xb n L) i
def qL(p:zJ)(xs xb:Int)(n L:Nat)(y:Int)(i:Nat):Int:=if i=plc n L then y else zAF p (qq p xs xb n L) (yR p xs xb n L) i
noncomputable def zJG(p:zJ)(xs xb:Int)(n:Nat)(b:Int)(o:zDU)(L:Nat):zDU:=zEw o.zRQ (qK p xs xb n L o.ps) (qL p xs xb n L o.pb) b
noncomputable def layS(p:zJ)(xs xb:Int)(n:Nat)(b:Int)(o:zDU):Nat->zDU
 |0=>o
 |k+1=>zJG p xs xb n b (layS p xs xb n b o k) (1 - k)
theorem zIa:qD (zDj 0)=0:=rfl
theorem zMo(p:zJ)(s:zL):qD (zCu p s).zRQ<=qD p+zAV s:=by
 unfold zCu;split
 ·split
  ·exact zJZ _ _ _
  ·show qD (zDj 0)<=_;rw[zIa];omega
 ·show qD (zDj 0)<=_;rw[zIa];omega
theorem zMd(p:zJ)(f g:Nat->Int)(b:Int):qD (zEw p f g b).zRQ<=qD p+8:=by
 unfold zEw;split
 ·show qD p<=_;omega
 ·exact zMo p (qW f g b)
theorem zGV(p:zJ)(xs xb:Int)(n:Nat)(b:Int)(o:zDU):∀k,qD (layS p xs xb n b o k).zRQ<=qD o.zRQ+8*k
 |0=>Nat.le_refl _
 |k+1=>by
  have h1:=zGV p xs xb n b o k;have h2:=zMd (layS p xs xb n b o k).zRQ (qK p xs xb n (1 - k) (layS p xs xb n b o k).ps) (qL p xs xb n (1 - k) (layS p xs xb n b o k).pb) b;show qD (zEw _ _ _ _).zRQ<=_;omega
theorem zNu{p:zJ}{xs xb:Int}{n M L:Nat}{o:Value}{w:World}{B:Nat}(hL:L<2)(h:yQ w B (yJ p xs xb n 2 M o)):w.rangeAt B (2+L*16) (zp (zB9 p xs xb n L)).toList:=fun j v hv=>by
 have hj:j<16:=by
  have:=(List.getElem?_eq_some_iff.1 hv).1;simpa[qB]using this
 have e:(zp (zB9 p xs xb n L)).toList[j]?=some (.int .i64 (zB9 p xs xb n L j)):=by rw[Array.getElem?_toList];exact yO (zB9 p xs xb n L) hj
 rw[e]at hv;simp only[Option.some.injEq]at hv;rw[<-hv,(h (2+L*16+j) (by omega)).1];unfold yJ;rw[if_neg (by omega),if_pos (by omega),show(2+L*16+j - 2) / 16=L by omega,show(2+L*16+j - 2) % 16=j by omega,if_pos (by omega)]
theorem zPz(p:zJ)(xs xb:Int)(n L:Nat)(x y:Int)(hn:n<64):zp (fun j=>if j=plc n L*2 then x else if j=plc n L*2+1 then y else zB9 p xs xb n L j)=zp (mix (qK p xs xb n L x) (qL p xs xb n L y)):=by
 refine zJo fun j hj=>?_
 unfold mix qK qL;by_cases h1:j=plc n L*2
 ·rw[if_pos h1,if_pos (by omega),if_pos (by omega)]
 rw[if_neg h1];by_cases h2:j=plc n L*2+1
 ·rw[if_pos h2,if_neg (by omega),if_pos (by omega)]
 rw[if_neg h2];unfold zB9 yq zAF zb zu;by_cases h3:j % 2=0
 ·rw[if_pos h3,if_neg (show ¬j / 2=plc n L by omega),show j / 2*2=j by omega]
 ·rw[if_neg h3,if_neg (show ¬j / 2=plc n L by omega),show j / 2*2+1=j by omega]
structure zCB where
 zRQ:zJ
 rs:Int
 rb:Int
 old:List (Int×Int)
 code:Int
def zAb(c:Int):zCB:=⟨zDj 0,0,0,[],c⟩
def zHK(t:zCB)(w:World)(e:Ending)(w':World):Prop:=
 ∃v0 v1 vo lo hi,e = .returned (.agg #[v0,v1,.int .i64 t.rs,.int .i64 t.rb,vo,.int .i64 t.code])/\w.heap.size<=lo/\hi<=w'.heap.size/\zt w' lo hi v0 v1 t.zRQ/\zw w' w.heap.size vo t.old/\(∀k,vo.ownBlock=some k->k<lo\/hi<=k)/\Below w.heap.size w w'
open Classical in
noncomputable def zAy(p:zJ)(xs xb:Int)(n:Nat)(b:Int)(o:zDU):zCB:=
 if (layS p xs xb n b o 1).code≠0 then zAb (layS p xs xb n b o 1).code
 else if (layS p xs xb n b o 2).code≠0 then zAb (layS p xs xb n b o 2).code
 else⟨(layS p xs xb n b o 2).zRQ,(layS p xs xb n b o 2).ps,(layS p xs xb n b o 2).pb,qd p xs xb n 3,0⟩
theorem zKV{p:zJ}{xs xb:Int}{n:Nat}{b:Int}{o:zDU}{k:Nat}(hk:k<2)(h:∀j,j<=k->(layS p xs xb n b o j).code=0)(hc:(layS p xs xb n b o (k+1)).code≠0):zAy p xs xb n b o=zAb (layS p xs xb n b o (k+1)).code:=by
 unfold zAy;rcases k with _ | _ | k
 ·rw[if_pos hc]
 ·rw[if_neg (fun hh=>hh (h 1 (by omega))),if_pos hc]
 ·omega
theorem zHc{p:zJ}{xs xb:Int}{n:Nat}{b:Int}{o:zDU}(h:∀j,j<=2->(layS p xs xb n b o j).code=0):zAy p xs xb n b o=⟨(layS p xs xb n b o 2).zRQ,(layS p xs xb n b o 2).ps,(layS p xs xb n b o 2).pb,qd p xs xb n 3,0⟩:=by
 unfold zAy;rw[if_neg (fun hh=>hh (h 1 (by omega))),if_neg (fun hh=>hh (h 2 (by omega)))]
theorem zPG(w:World)(a0 a1 x0 x1:Value)(f:Nat->Value)(t1 t2 t3 t4:TypeId) :
  zc ((((w.alloc (.cells #[a0,a1] t1)).alloc (.cells (zAP f) t2)).alloc (.cells #[x0,x1] t3)).alloc (.cells #[.slice none 0 0,.slice none 0 0,.int .i64 0,.int .i64 0,.slice none 0 0,.int .i64 0] t4)) w.heap.size a0 a1/\
  yQ ((((w.alloc (.cells #[a0,a1] t1)).alloc (.cells (zAP f) t2)).alloc (.cells #[x0,x1] t3)).alloc (.cells #[.slice none 0 0,.slice none 0 0,.int .i64 0,.int .i64 0,.slice none 0 0,.int .i64 0] t4)) (w.heap.size+1) f/\
  zc ((((w.alloc (.cells #[a0,a1] t1)).alloc (.cells (zAP f) t2)).alloc (.cells #[x0,x1] t3)).alloc (.cells #[.slice none 0 0,.slice none 0 0,.int .i64 0,.int .i64 0,.slice none 0 0,.int .i64 0] t4)) (w.heap.size+1+1) x0 x1/\
  zi ((((w.alloc (.cells #[a0,a1] t1)).alloc (.cells (zAP f) t2)).alloc (.cells #[x0,x1] t3)).alloc (.cells #[.slice none 0 0,.slice none 0 0,.int .i64 0,.int .i64 0,.slice none 0 0,.int .i64 0] t4)) (w.heap.size+1+1+1) (.slice none 0 0) (.slice none 0 0) (.int .i64 0) (.int .i64 0) (.slice none 0 0) (.int .i64 0)/\
  Below w.heap.size w ((((w.alloc (.cells #[a0,a1] t1)).alloc (.cells (zAP f) t2)).alloc (.cells #[x0,x1] t3)).alloc (.cells #[.slice none 0 0,.slice none 0 0,.int .i64 0,.int .i64 0,.slice none 0 0,.int .i64 0] t4))/\
  ((((w.alloc (.cells #[a0,a1] t1)).alloc (.cells (zAP f) t2)).alloc (.cells #[x0,x1] t3)).alloc (.cells #[.slice none 0 0,.slice none 0 0,.int .i64 0,.int .i64 0,.slice none 0 0,.int .i64 0] t4)).heap.size=w.heap.size+4:=by
 have b1:=zC w (.cells #[a0,a1] t1);have b2:=zC (w.alloc (.cells #[a0,a1] t1)) (.cells (zAP f) t2);have b3:=zC ((w.alloc (.cells #[a0,a1] t1)).alloc (.cells (zAP f) t2)) (.cells #[x0,x1] t3);have b4:=zC (((w.alloc (.cells #[a0,a1] t1)).alloc (.cells (zAP f) t2)).alloc (.cells #[x0,x1] t3)) (.cells #[.slice none 0 0,.slice none 0 0,.int .i64 0,.int .i64 0,.slice none 0 0,.int .i64 0] t4);refine⟨(((zc.zRL w a0 a1 t1).zRJ b2).zRJ b3).zRJ b4,?_,?_,?_,zA (zA (zA b1 b2) b3) b4,by simp⟩
 ·have hw:yQ ((w.alloc (.cells #[a0,a1] t1)).alloc (.cells (zAP f) t2)) (w.heap.size+1) f:=fun i hi=>by
   have hb:=heap_alloc_new (w.alloc (.cells #[a0,a1] t1)) (.cells (zAP f) t2);rw[World.size_alloc]at hb;refine zI (i:=i) hb ?_;simp[zAP,hi]
  exact(hw.zRJ b3).zRJ b4
 ·have:=(zc.zRL ((w.alloc (.cells #[a0,a1] t1)).alloc (.cells (zAP f) t2)) x0 x1 t3).zRJ b4;rw[World.size_alloc,World.size_alloc]at this;exact this
 ·have:=zi.zRL (((w.alloc (.cells #[a0,a1] t1)).alloc (.cells (zAP f) t2)).alloc (.cells #[x0,x1] t3)) (.slice none 0 0) (.slice none 0 0) (.int .i64 0) (.int .i64 0) (.slice none 0 0) (.int .i64 0) t4;rw[World.size_alloc,World.size_alloc,World.size_alloc]at this;exact this
def zQ4(p:zJ)(xs xb:Int)(n:Nat)(S:Nat->zDU)(o:Value)(w:World)(k:Nat)(wr:World):Prop:=
 (∀j,j<=k->(S j).code=0)/\∃s0 s1,zc wr w.heap.size s0 s1/\zy wr 0 wr.heap.size s0 s1 (S k).zRQ/\(0<k->zt wr (w.heap.size+5) wr.heap.size s0 s1 (S k).zRQ)/\
  zc wr (w.heap.size+4) (.int .i64 (S k).ps) (.int .i64 (S k).pb)/\yQ wr (w.heap.size+1) (yJ p xs xb n 2 3 o)/\
  zi wr (w.heap.size+1+1+1) (.slice none 0 0) (.slice none 0 0) (.int .i64 0) (.int .i64 0) (.slice none 0 0) (.int .i64 0)/\w.heap.size+5<=wr.heap.size/\Below w.heap.size w wr
theorem qA.all{w:World}{lo hi:Nat}{v:Value}{n:Nat}{f:Nat->zL}(h:qA w lo hi v n f):qA w 0 w.heap.size v n f:=by
 obtain⟨h0,a,bA,hv,aA,hc⟩:=h;refine⟨h0,a,bA,hv,aA,fun hn=>?_⟩;obtain⟨b,off,ha,h1,h2,h3⟩:=hc hn;refine⟨b,off,ha,Nat.zero_le _,?_,fun i hi=>?_⟩
 ·obtain⟨v0,v1,v2,c0,_⟩:=h3 0 hn;exact zD c0
 ·obtain⟨v0,v1,v2,c0,c1,c2,hs⟩:=h3 i hi;exact⟨v0,v1,v2,c0,c1,c2,hs.all⟩
theorem zy.all{w:World}{lo hi:Nat}{v0 v1:Value}{p:zJ}(h:zy w lo hi v0 v1 p):zy w 0 w.heap.size v0 v1 p:=⟨h.1.all,h.2.all⟩
theorem zLe(v0 v1:Value)(lo hi:Nat)(p q:zJ)(xs xb x y b:Int)(n:Nat)(o:Value)(w:World)(h1:zy w lo hi v0 v1 q)(hn:n<64)(hq:qD q+16<=1048576)(hr:zw w 0 o (qd p xs xb n 3)) :
  Calls Tryz.prog 101 #[.agg #[v0,v1],.agg (zAP (yJ p xs xb n 2 3 o)),.agg #[.int .i64 x,.int .i64 y],.int .i64 b] w fun e w'=>
   ((zAy p xs xb n b ⟨q,x,y,0⟩).code≠0/\e = .returned (.agg #[.slice none 0 0,.slice none 0 0,.int .i64 0,.int .i64 0,.slice none 0 0,.int .i64 (zAy p xs xb n b ⟨q,x,y,0⟩).code])/\Below w.heap.size w w')\/
   ((zAy p xs xb n b ⟨q,x,y,0⟩).code=0/\∃s0 s1,e = .returned (.agg #[s0,s1,.int .i64 (layS p xs xb n b ⟨q,x,y,0⟩ 2).ps,.int .i64 (layS p xs xb n b ⟨q,x,y,0⟩ 2).pb,o,.int .i64 0])/\zt w' w.heap.size w'.heap.size s0 s1 (layS p xs xb n b ⟨q,x,y,0⟩ 2).zRQ/\Below w.heap.size w w'):=by
 have Hp:=zE h1;obtain⟨a,c,a',c',rfl,rfl⟩:=h1.form;have Hq:=zE hq;have Hr:=zE hr;clear h1 hq hr;have lD:=zPG w (.slice a q.n c) (.slice a' q.hn c') (.int .i64 x) (.int .i64 y) (yJ p xs xb n 2 3 o) 33 159 61 64;go_enter Tryz.func101,Tryz.ntmps101;go_upto_region 1 with fail;generalize (((w.alloc (.cells #[.slice a q.n c,.slice a' q.hn c'] 33)).alloc (.cells (zAP (yJ p xs xb n 2 3 o)) 159)).alloc (.cells #[.int .i64 x,.int .i64 y] 61)).alloc (.cells #[.slice none 0 0,.slice none 0 0,.int .i64 0,.int .i64 0,.slice none 0 0,.int .i64 0] 64)=W at lD ⊢;obtain⟨hB,hW,hX,hR,sC,hz⟩:=lD;have HB:=zE hB;have HW:=zE hW;have HR:=zE hR;obtain⟨⟨x0,x1⟩,⟨x2,x3⟩⟩:=hX;have fA:=zC W (.cells #[.int .i64 x,.int .i64 y] 61);have oD:=zE (show zc (W.alloc (.cells #[.int .i64 x,.int .i64 y] 61)) (w.heap.size+4) (.int .i64 x) (.int .i64 y)from hz▸zc.zRL W (.int .i64 x) (.int .i64 y) 61);clear hB hW hR;go_wp2_with fail;have mD:Hid (zQ4 p xs xb n (layS p xs xb n b ⟨q,x,y,0⟩) o w 0 (W.alloc (.cells #[.int .i64 x,.int .i64 y] 61))):=by
  refine⟨fun j hj=>?_,_,_,HB.out.zRJ fA,((Hp.out.zRJ sC).zRJ fA).all,fun h=>absurd h (Nat.lt_irrefl _),oD.out,HW.out.zRJ fA,HR.out.zRJ fA,by rw[World.size_alloc];omega,zA sC fA⟩;obtain rfl:j=0:=(by omega);rfl
 have fE:=zE (zGV p xs xb n b ⟨q,x,y,0⟩);clear fA oD HB HW HR x0 x1 x2 x3 sC hz
 go_loopw [15] (fun i wr=>∃k:Nat,k<=2/\i = .int .i64 k/\zQ4 p xs xb n (layS p xs xb n b ⟨q,x,y,0⟩) o w k wr) (fun i _=>2 - (intOf i).toNat)
 case atStart=>exact⟨0,by omega,rfl,mD.out⟩
 case round=>
  obtain⟨k,hk,rfl,tA,s0,s1,sD,aD,fD,iD,jD,nD,rE,eC⟩:=hrel;have lA:=zE tA;have gD:=zE aD;have kD:=zE fD;have eD:=zE sD;have vC:=zE iD;have kC:=zE jD;have nC:=zE nD;obtain⟨ra,rc,mC,jC,rfl,rfl⟩:=aD.form;clear tA aD fD sD iD jD nD mD;obtain⟨⟨x0,x1⟩,⟨x2,x3⟩⟩:=eD.out;obtain⟨⟨y0,y1⟩,⟨y2,y3⟩⟩:=vC.out;by_cases lE:k<2
  ·obtain⟨L,rD⟩:∃L,L=1 - k:=⟨_,rfl⟩;have hL:L<2:=(by omega);have sE:(L:Int)<2:=(by omega);have cE:(k:Int)<2:=(by omega);have kE:(1:Int) - (k:Int)=(L:Int):=(by omega);have bE:Hid (layS p xs xb n b ⟨q,x,y,0⟩ (k+1)=zJG p xs xb n b (layS p xs xb n b ⟨q,x,y,0⟩ k) L):=(by rw[rD];rfl);have eE:=zE (fE.out k);have dD:Hid ((Tryz.prog.info? 155).map (·.size)=some (zp (zB9 p xs xb n L)).size):=by
    show _=_;rw[qB];exact zBp
   have mE:Hid ((Tryz.prog.info? 155).map (·.size)=some (zp (zB9 p xs xb n L)).toList.length):=by
    show _=_;rw[zBp];simp[zp]
   clear rD;go_upto_region 7 with(first
    |(refine wpList_load_mid rfl 155 (.tmp 22) rfl (w.heap.size+1) (2+L*16) rfl (zp (zB9 p xs xb n L)).toList _ (zNu hL kC.out) zHH rfl mE.out ?_)
    |(refine wpList_store_row rfl 155 (.tmp 12) (.tmp 23) rfl wr.heap.size (zp (zB9 p xs xb n L)) rfl rfl 155 #[Value.int .i64 0,Value.int .i64 0,Value.int .i64 0,Value.int .i64 0,Value.int .i64 0,Value.int .i64 0,Value.int .i64 0,Value.int .i64 0,Value.int .i64 0,Value.int .i64 0,Value.int .i64 0,Value.int .i64 0,Value.int .i64 0,Value.int .i64 0,Value.int .i64 0,Value.int .i64 0] (heap_alloc_last _ _) dD.out (by rw[qB];rfl) (zAo _) ?_;rw[World.setRow_alloc_new]))
   have fA:=zC wr (.cells (zp (zB9 p xs xb n L)) 155);have vB:Hid ((wr.alloc (.cells (zp (zB9 p xs xb n L)) 155)).heap[wr.heap.size]?=some (.cells (zp (zB9 p xs xb n L)) 155)):=heap_alloc_last _ _;have iC:Hid (wr.heap.size<(wr.alloc (.cells (zp (zB9 p xs xb n L)) 155)).heap.size):=(by show _<_;rw[World.size_alloc];omega);have kB:=zE (gD.out.zRJ fA);have dB:=zE (eD.out.zRJ fA);have rA:=zE (vC.out.zRJ fA);have sA:=zE (kC.out.zRJ fA);have cB:=zE (nC.out.zRJ fA);have nA:=zA eC fA;clear x0 x1 x2 x3 y0 y1 y2 y3 fA eC gD kD eD vC kC nC;generalize wr.alloc (.cells (zp (zB9 p xs xb n L)) 155)=wA at vB iC kB dB rA sA cB nA ⊢;have dE:=zHp (n:=n) (L:=L) hn;have oE:((plc n L:Nat):Int)<8:=(by omega);obtain⟨⟨y0,y1⟩,⟨y2,y3⟩⟩:=rA.out;obtain⟨z0,_⟩:=sA.out L (by omega);rw[zIY p xs xb n _ _ _ hL]at z0;obtain⟨c0,c1⟩:=zI (i:=plc n L*2) vB.out (yO (zB9 p xs xb n L) (by omega));obtain⟨c2,c3⟩:=zI (i:=plc n L*2+1) vB.out (yO (zB9 p xs xb n L) (by omega));have vA:Hid (∀(u v:Value) (w5:World),w5=((wA.drew.setCell ⟨wr.heap.size,plc n L*2,none⟩ u).setCell ⟨wr.heap.size,plc n L*2+1,none⟩ v)->(w5.cell? ⟨w.heap.size+1,L,none⟩=some (.int .i64 ((plc n L:Nat):Int))/\w5.cell? ⟨w.heap.size+4,0,none⟩=some (.int .i64 (layS p xs xb n b ⟨q,x,y,0⟩ k).ps)/\w5.cell? ⟨w.heap.size+4,1,none⟩=some (.int .i64 (layS p xs xb n b ⟨q,x,y,0⟩ k).pb))):=by
    intro u v w5 e5;have hT:zF (fun k=>k=wr.heap.size) wA.drew ((wA.drew.setCell ⟨wr.heap.size,plc n L*2,none⟩ u).setCell ⟨wr.heap.size,plc n L*2+1,none⟩ v):=((zF.refl (fun k=>k=wr.heap.size) wA.drew).setCell (p:=⟨wr.heap.size,plc n L*2,none⟩) rfl _).setCell (p:=⟨wr.heap.size,plc n L*2+1,none⟩) rfl _;have cD:wr.heap.size<wA.drew.heap.size:=iC.out;rw[e5,hT.cell (by omega) (by omega),hT.cell (by omega) (by omega),hT.cell (by omega) (by omega)];exact⟨z0,y0,y2⟩
   simp only[Act.put];refine wp_region_held_drew (S:=(fun w'=>w'.cell? ⟨w.heap.size+1,L,none⟩=some (.int .i64 ((plc n L:Nat):Int))/\w'.cell? ⟨w.heap.size+4,0,none⟩=some (.int .i64 (layS p xs xb n b ⟨q,x,y,0⟩ k).ps)/\w'.cell? ⟨w.heap.size+4,1,none⟩=some (.int .i64 (layS p xs xb n b ⟨q,x,y,0⟩ k).pb))) (by kernel_rfl) ?_ (fun hHeld=>?_)
   ·(try dsimp only)
    go_keep
   refine wpAnyH_take (i:=0) (oi:=({dst:=some 24,op:=Op.move (Operand.tmp 11),type:=3,pos:= "l02_tree.go:185",after:=#[],guard:=none}:Oper)) (v:=?_) rfl (by kernel_rfl) (by kernel_rfl) (by kernel_rfl) (fun _ _ _ h=>h) (Or.inl ⟨by rfl,?_⟩) (by assumption) ?_;rotate_left
   ·(intro w bA;(try dsimp only at bA);go_simp;try with_reducible rfl)
   try simp only[Act.put,List.setIfInBounds_toArray,List.set_cons_zero,List.set_cons_succ]
   refine wpAnyH_take (i:=1) (oi:=({dst:=some 25,op:=Op.fieldAddr 159 (Operand.tmp 5) 0,type:=0,pos:= "l02_tree.go:185",after:=#[],guard:=none}:Oper)) (v:=?_) rfl (by kernel_rfl) (by kernel_rfl) (by kernel_rfl) (fun _ _ _ h=>h) (Or.inl ⟨by rfl,?_⟩) (by assumption) ?_;rotate_left
   ·(intro w bA;(try dsimp only at bA);go_simp;try with_reducible rfl)
   try simp only[Act.put,List.setIfInBounds_toArray,List.set_cons_zero,List.set_cons_succ]
   refine wpAnyH_take (i:=2) (oi:=({dst:=some 26,op:=Op.indexAddr 154 (Operand.tmp 25) (Operand.tmp 24),type:=0,pos:= "l02_tree.go:185",after:=#[{on:=1,ground:=Ground.data},{on:=0,ground:=Ground.data}],guard:=none}:Oper)) (v:=?_) rfl (by kernel_rfl) (by kernel_rfl) (by kernel_rfl) (fun _ _ _ h=>h) (Or.inl ⟨by rfl,?_⟩) (by assumption) ?_;rotate_left
   ·(intro w bA;(try dsimp only at bA);go_simp;try with_reducible rfl)
   try simp only[Act.put,List.setIfInBounds_toArray,List.set_cons_zero,List.set_cons_succ]
   refine wpAnyH_take (i:=3) (oi:=({dst:=some 27,op:=Op.load 2 (Operand.tmp 26),type:=2,pos:= "l02_tree.go:185",after:=#[{on:=2,ground:=Ground.data}],guard:=none}:Oper)) (v:=?_) rfl (by kernel_rfl) (by kernel_rfl) (by kernel_rfl) (fun _ _ _ h=>h) (Or.inl ⟨by rfl,?_⟩) (by assumption) ?_;rotate_left
   ·(intro w bA;(try dsimp only at bA);go_simp;try with_reducible rfl)
   try simp only[Act.put,List.setIfInBounds_toArray,List.set_cons_zero,List.set_cons_succ]
   refine wpAnyH_take (i:=4) (oi:=({dst:=some 28,op:=Op.load 61 (Operand.tmp 9),type:=61,pos:= "l02_tree.go:185",after:=#[],guard:=none}:Oper)) (v:=?_) rfl (by kernel_rfl) (by kernel_rfl) (by kernel_rfl) (fun _ _ _ h=>h) (Or.inl ⟨by rfl,?_⟩) (by assumption) ?_;rotate_left
   ·(intro w bA;(try dsimp only at bA);go_simp;try with_reducible rfl)
   try simp only[Act.put,List.setIfInBounds_toArray,List.set_cons_zero,List.set_cons_succ]
   refine wpAnyH_take (i:=5) (oi:=({dst:=some 29,op:=Op.indexAddr 155 (Operand.tmp 12) (Operand.tmp 27),type:=0,pos:= "l02_tree.go:185",after:=#[{on:=3,ground:=Ground.data},{on:=0,ground:=Ground.phase},{on:=1,ground:=Ground.phase},{on:=2,ground:=Ground.phase},{on:=3,ground:=Ground.phase},{on:=4,ground:=Ground.phase}],guard:=none}:Oper)) (v:=?_) rfl (by kernel_rfl) (by kernel_rfl) (by kernel_rfl) (fun _ _ _ h=>h) (Or.inl ⟨by rfl,?_⟩) (by assumption) ?_;rotate_left
   ·(intro w bA;(try dsimp only at bA);go_simp;try with_reducible rfl)
   try simp only[Act.put,List.setIfInBounds_toArray,List.set_cons_zero,List.set_cons_succ]
   refine wpAnyH_ready (rs:=[6]) (by kernel_rfl) (by simp) ?_;refine AllReadyH.cons (o:=({dst:=none,op:=Op.store 61 (Operand.tmp 29) (Operand.tmp 28),type:=0,pos:= "l02_tree.go:185",after:=#[{on:=5,ground:=Ground.data},{on:=4,ground:=Ground.data},{on:=0,ground:=Ground.phase},{on:=1,ground:=Ground.phase},{on:=2,ground:=Ground.phase},{on:=3,ground:=Ground.phase},{on:=4,ground:=Ground.phase}],guard:=none}:Oper)) rfl (fun K hK=>?_) AllReadyH.nil;go_simp
   (try go_wp2_with fail)
   refine hK.out _ _ ?_ (fun aA=>?_)
   ·(try dsimp only)
    exact vA.out _ _ _ rfl
   clear hK K hHeld;have hHeld:=aA;clear aA
   try simp only[Act.put,List.setIfInBounds_toArray,List.set_cons_zero,List.set_cons_succ]
   refine wpAnyH_done (by kernel_rfl) ?_ _;have hT:zF (fun k=>k=wr.heap.size) wA ((wA.setCell ⟨wr.heap.size,plc n L*2,none⟩ (.int .i64 (layS p xs xb n b ⟨q,x,y,0⟩ k).ps)).setCell ⟨wr.heap.size,plc n L*2+1,none⟩ (.int .i64 (layS p xs xb n b ⟨q,x,y,0⟩ k).pb)).drew:=by
    have h:zF (fun k=>k=wr.heap.size) wA ((wA.setCell ⟨wr.heap.size,plc n L*2,none⟩ (.int .i64 (layS p xs xb n b ⟨q,x,y,0⟩ k).ps)).setCell ⟨wr.heap.size,plc n L*2+1,none⟩ (.int .i64 (layS p xs xb n b ⟨q,x,y,0⟩ k).pb)):=((zF.refl (fun k=>k=wr.heap.size) wA).setCell (p:=⟨wr.heap.size,plc n L*2,none⟩) rfl _).setCell (p:=⟨wr.heap.size,plc n L*2+1,none⟩) rfl _;exact⟨h.os,h.tape,h.output,h.size,h.block⟩
   have aB:Hid (((wA.setCell ⟨wr.heap.size,plc n L*2,none⟩ (.int .i64 (layS p xs xb n b ⟨q,x,y,0⟩ k).ps)).setCell ⟨wr.heap.size,plc n L*2+1,none⟩ (.int .i64 (layS p xs xb n b ⟨q,x,y,0⟩ k).pb)).drew.heap[wr.heap.size]?=some (.cells (zp (mix (qK p xs xb n L (layS p xs xb n b ⟨q,x,y,0⟩ k).ps) (qL p xs xb n L (layS p xs xb n b ⟨q,x,y,0⟩ k).pb))) 155 (0,0))):=by
    have:=zAX (o:=plc n L*2+1) (.int .i64 (layS p xs xb n b ⟨q,x,y,0⟩ k).pb) (zAX (o:=plc n L*2) (.int .i64 (layS p xs xb n b ⟨q,x,y,0⟩ k).ps) vB.out);rw[zJF _ _ dE,zPz p xs xb n L _ _ hn]at this;exact this
   have cD:=iC.out;have mB:=zE (kB.out.same (hT.same (lo:=0) (hi:=wr.heap.size) (by omega) (by intro k hk;omega)));have oA:=zE (dB.out.zRR hT (by omega));have jB:=zE (rA.out.zRR hT (by omega));have lB:=zE (sA.out.zRR hT (by omega));have fB:=zE (cB.out.zRR hT (by omega));have iB:=nA.trans (hT.zRJ (B:=w.heap.size) nA.size (by intro k hk;omega));have aE:=Nat.lt_of_lt_of_le cD hT.size;clear hT cD kB dB rA sA cB nA vB iC vA y0 y1 y2 y3 z0 c0 c1 c2 c3;generalize ((wA.setCell ⟨wr.heap.size,plc n L*2,none⟩ (.int .i64 (layS p xs xb n b ⟨q,x,y,0⟩ k).ps)).setCell ⟨wr.heap.size,plc n L*2+1,none⟩ (.int .i64 (layS p xs xb n b ⟨q,x,y,0⟩ k).pb)).drew=wB at aB mB oA jB lB fB iB aE ⊢;have cC:Hid ((Tryz.prog.info? 155).map (·.size)=some (zp (mix (qK p xs xb n L (layS p xs xb n b ⟨q,x,y,0⟩ k).ps) (qL p xs xb n L (layS p xs xb n b ⟨q,x,y,0⟩ k).pb))).size):=by
    show _=_;rw[qB];exact zBp
   obtain⟨⟨x0,x1⟩,⟨x2,x3⟩⟩:=oA.out;go_wp2_with (first
    |(refine wpList_load_row rfl 155 (.tmp 12) rfl wr.heap.size rfl 155 (zp (mix (qK p xs xb n L (layS p xs xb n b ⟨q,x,y,0⟩ k).ps) (qL p xs xb n L (layS p xs xb n b ⟨q,x,y,0⟩ k).pb))) (0,0) _ aB.out zHH rfl cC.out ?_)
    |fail)
   refine(zJv _ _ 0 wr.heap.size (layS p xs xb n b ⟨q,x,y,0⟩ k).zRQ _ _ b wB mB.out (by have h1:=eE.out;have h2:=Hq.out;have h3:qD (zDU.mk q x y 0).zRQ=qD q:=rfl;omega)).mono ?_;rintro e wC ⟨t0,t1,rfl,gC,bD⟩;have gB:Hid (layS p xs xb n b ⟨q,x,y,0⟩ (k+1)=zEw (layS p xs xb n b ⟨q,x,y,0⟩ k).zRQ (qK p xs xb n L (layS p xs xb n b ⟨q,x,y,0⟩ k).ps) (qL p xs xb n L (layS p xs xb n b ⟨q,x,y,0⟩ k).pb) b):=bE.out;generalize zEw (layS p xs xb n b ⟨q,x,y,0⟩ k).zRQ (qK p xs xb n L (layS p xs xb n b ⟨q,x,y,0⟩ k).ps) (qL p xs xb n L (layS p xs xb n b ⟨q,x,y,0⟩ k).pb) b=od at gC gB ⊢;obtain⟨ta,tc,cA,dA,rfl,rfl⟩:=gC.form;have eB:=zC wC (.cells #[.slice ta od.zRQ.n tc,.slice cA od.zRQ.hn dA,.int .i64 od.ps,.int .i64 od.pb,.int .i64 od.code] 151);have oB:=zA bD eB;have fC:=zE (gC.zRJ eB);have lC:=zE (zFW.zRL wC (.slice ta od.zRQ.n tc) (.slice cA od.zRQ.hn dA) (.int .i64 od.ps) (.int .i64 od.pb) (.int .i64 od.code) 151);have pA:=zE (oA.out.zRJ oB);have mA:=zE (jB.out.zRJ oB);have bB:=zE (lB.out.zRJ oB);have jA:=zE (fB.out.zRJ oB);have gA:=zA iB oB;have iE:=bD.size;have nB:wC.heap.size<(wC.alloc (.cells #[.slice ta od.zRQ.n tc,.slice cA od.zRQ.hn dA,.int .i64 od.ps,.int .i64 od.pb,.int .i64 od.code] 151)).heap.size:=(by rw[World.size_alloc];omega);clear gC bD eB oB x0 x1 x2 x3 aB mB oA jB lB fB iB;go_upto_region 9 with fail;generalize wC.alloc (.cells #[.slice ta od.zRQ.n tc,.slice cA od.zRQ.hn dA,.int .i64 od.ps,.int .i64 od.pb,.int .i64 od.code] 151)=wD at fC lC pA mA bB jA gA nB ⊢;generalize wC.heap.size=T at fC lC iE nB ⊢;obtain⟨⟨t0,t1⟩,⟨t2,t3⟩,⟨t4,t5⟩,⟨t6,t7⟩,⟨t8,t9⟩⟩:=lC.out;by_cases hc:od.code=0
   ·have jE:(od.code != 0)=false:=(by simp[hc]);have Hc:=zE hc;clear hc;go_upto_region 11 with fail;obtain⟨⟨x0,x1⟩,⟨x2,x3⟩⟩:=pA.out;obtain⟨⟨y0,y1⟩,⟨y2,y3⟩⟩:=mA.out;have pE:w.heap.size≠w.heap.size+4:=(by omega);have eA:Hid (∀(u v:Value) (w5:World),w5=((wD.drew.setCell ⟨w.heap.size,0,none⟩ u).setCell ⟨w.heap.size,1,none⟩ v)->(w5.cell? ⟨T,0,none⟩=some (.slice ta od.zRQ.n tc)/\w5.cell? ⟨T,1,none⟩=some (.slice cA od.zRQ.hn dA)/\w5.cell? ⟨T,2,none⟩=some (.int .i64 od.ps)/\w5.cell? ⟨T,3,none⟩=some (.int .i64 od.pb))):=by
     intro u v w5 e5;have pD:T<wD.drew.heap.size:=nB;have h:=fun o=>(qm wD.drew w.heap.size u v).cell (b:=T) (o:=o) pD (by omega)
     rw[e5,h,h,h,h];exact⟨t0,t2,t4,t6⟩
    have kA:Hid (∀(u v u' v':Value) (w5:World),w5=((((wD.drew.setCell ⟨w.heap.size,0,none⟩ u).setCell ⟨w.heap.size,1,none⟩ v).setCell ⟨w.heap.size+4,0,none⟩ u').setCell ⟨w.heap.size+4,1,none⟩ v')->(w5.cell? ⟨T,0,none⟩=some (.slice ta od.zRQ.n tc)/\w5.cell? ⟨T,1,none⟩=some (.slice cA od.zRQ.hn dA)/\w5.cell? ⟨T,2,none⟩=some (.int .i64 od.ps)/\w5.cell? ⟨T,3,none⟩=some (.int .i64 od.pb))):=by
     intro u v u' v' w5 e5;have pD:T<wD.drew.heap.size:=nB;have h1:=fun o=>(qm ((wD.drew.setCell ⟨w.heap.size,0,none⟩ u).setCell ⟨w.heap.size,1,none⟩ v) (w.heap.size+4) u' v').cell (b:=T) (o:=o) (by simp;exact nB) (by omega)
     rw[e5,h1,h1,h1,h1];exact eA.out u v _ rfl
    refine wp_region_held_drew (S:=(fun w'=>w'.cell? ⟨T,0,none⟩=some (.slice ta od.zRQ.n tc)/\w'.cell? ⟨T,1,none⟩=some (.slice cA od.zRQ.hn dA)/\w'.cell? ⟨T,2,none⟩=some (.int .i64 od.ps)/\w'.cell? ⟨T,3,none⟩=some (.int .i64 od.pb))) (by kernel_rfl) ?_ (fun hHeld=>?_)
    ·(try dsimp only)
     go_keep
    refine wpAnyH_take (i:=0) (oi:=({dst:=some 40,op:=Op.fieldAddr 151 (Operand.tmp 13) 0,type:=0,pos:= "l02_tree.go:190",after:=#[],guard:=none}:Oper)) (v:=?_) rfl (by kernel_rfl) (by kernel_rfl) (by kernel_rfl) (fun _ _ _ h=>h) (Or.inl ⟨by rfl,?_⟩) (by assumption) ?_;rotate_left
    ·(intro w bA;(try dsimp only at bA);go_simp;try with_reducible rfl)
    try simp only[Act.put,List.setIfInBounds_toArray,List.set_cons_zero,List.set_cons_succ]
    refine wpAnyH_take (i:=2) (oi:=({dst:=some 42,op:=Op.fieldAddr 151 (Operand.tmp 13) 1,type:=0,pos:= "l02_tree.go:190",after:=#[{on:=4,ground:=Ground.gcOnly Departure.lateStores}],guard:=none}:Oper)) (v:=?_) rfl (by kernel_rfl) (by kernel_rfl) (by kernel_rfl) (fun _ _ _ h=>h) (Or.inl ⟨by rfl,?_⟩) (by assumption) ?_;rotate_left
    ·(intro w bA;(try dsimp only at bA);go_simp;try with_reducible rfl)
    try simp only[Act.put,List.setIfInBounds_toArray,List.set_cons_zero,List.set_cons_succ]
    refine wpAnyH_take (i:=1) (oi:=({dst:=some 41,op:=Op.load 33 (Operand.tmp 40),type:=33,pos:= "l02_tree.go:190",after:=#[{on:=0,ground:=Ground.data}],guard:=none}:Oper)) (v:=?_) rfl (by kernel_rfl) (by kernel_rfl) (by kernel_rfl) (fun _ _ _ h=>h) (Or.inl ⟨by rfl,?_⟩) (by assumption) ?_;rotate_left
    ·(intro w bA;(try dsimp only at bA);go_simp;try with_reducible rfl)
    try simp only[Act.put,List.setIfInBounds_toArray,List.set_cons_zero,List.set_cons_succ]
    refine wpAnyH_take (i:=3) (oi:=({dst:=some 43,op:=Op.load 61 (Operand.tmp 42),type:=61,pos:= "l02_tree.go:190",after:=#[{on:=2,ground:=Ground.data},{on:=4,ground:=Ground.gcOnly Departure.lateStores}],guard:=none}:Oper)) (v:=?_) rfl (by kernel_rfl) (by kernel_rfl) (by kernel_rfl) (fun _ _ _ h=>h) (Or.inl ⟨by rfl,?_⟩) (by assumption) ?_;rotate_left
    ·(intro w bA;(try dsimp only at bA);go_simp;try with_reducible rfl)
    try simp only[Act.put,List.setIfInBounds_toArray,List.set_cons_zero,List.set_cons_succ]
    refine wpAnyH_ready (rs:=[4]) (by kernel_rfl) (by simp) ?_;refine AllReadyH.cons (o:=({dst:=none,op:=Op.store 33 (Operand.tmp 4) (Operand.tmp 41),type:=0,pos:= "l02_tree.go:190",after:=#[{on:=1,ground:=Ground.data},{on:=0,ground:=Ground.phase},{on:=1,ground:=Ground.phase},{on:=2,ground:=Ground.textOnly Departure.lateStores},{on:=3,ground:=Ground.textOnly Departure.lateStores}],guard:=none}:Oper)) rfl (fun K hK=>?_) AllReadyH.nil;go_simp
    (try go_wp2_with fail)
    refine hK.out _ _ ?_ (fun aA=>?_)
    ·(try dsimp only)
     exact eA.out _ _ _ rfl
    clear hK K hHeld;have hHeld:=aA;clear aA
    try simp only[Act.put,List.setIfInBounds_toArray,List.set_cons_zero,List.set_cons_succ]
    refine wpAnyH_ready (rs:=[5]) (by kernel_rfl) (by simp) ?_;refine AllReadyH.cons (o:=({dst:=none,op:=Op.store 61 (Operand.tmp 9) (Operand.tmp 43),type:=0,pos:= "l02_tree.go:190",after:=#[{on:=3,ground:=Ground.data},{on:=4,ground:=Ground.chain},{on:=0,ground:=Ground.phase},{on:=1,ground:=Ground.phase},{on:=2,ground:=Ground.phase},{on:=3,ground:=Ground.phase},{on:=4,ground:=Ground.phase}],guard:=none}:Oper)) rfl (fun K hK=>?_) AllReadyH.nil;go_simp
    (try go_wp2_with fail)
    refine hK.out _ _ ?_ (fun aA=>?_)
    ·(try dsimp only)
     exact kA.out _ _ _ _ _ rfl
    clear hK K hHeld;have hHeld:=aA;clear aA
    try simp only[Act.put,List.setIfInBounds_toArray,List.set_cons_zero,List.set_cons_succ]
    refine wpAnyH_done (by kernel_rfl) ?_ _;have pB:zF (fun k=>k=w.heap.size\/k=w.heap.size+4) wD ((((wD.setCell ⟨w.heap.size,0,none⟩ (.slice ta od.zRQ.n tc)).setCell ⟨w.heap.size,1,none⟩ (.slice cA od.zRQ.hn dA)).setCell ⟨w.heap.size+4,0,none⟩ (.int .i64 od.ps)).setCell ⟨w.heap.size+4,1,none⟩ (.int .i64 od.pb)).drew:=by
     have h:=((qm wD w.heap.size (.slice ta od.zRQ.n tc) (.slice cA od.zRQ.hn dA)).mono (T:=fun k=>k=w.heap.size\/k=w.heap.size+4) (fun k hk=>Or.inl hk)).trans ((qm ((wD.setCell ⟨w.heap.size,0,none⟩ (.slice ta od.zRQ.n tc)).setCell ⟨w.heap.size,1,none⟩ (.slice cA od.zRQ.hn dA)) (w.heap.size+4) (.int .i64 od.ps) (.int .i64 od.pb)).mono (T:=fun k=>k=w.heap.size\/k=w.heap.size+4) (fun k hk=>Or.inr hk));exact⟨h.os,h.tape,h.output,h.size,h.block⟩
    have dC:Hid (zc ((((wD.setCell ⟨w.heap.size,0,none⟩ (.slice ta od.zRQ.n tc)).setCell ⟨w.heap.size,1,none⟩ (.slice cA od.zRQ.hn dA)).setCell ⟨w.heap.size+4,0,none⟩ (.int .i64 od.ps)).setCell ⟨w.heap.size+4,1,none⟩ (.int .i64 od.pb)).drew w.heap.size (.slice ta od.zRQ.n tc) (.slice cA od.zRQ.hn dA)):=by
     have tC:=qm ((wD.setCell ⟨w.heap.size,0,none⟩ (.slice ta od.zRQ.n tc)).setCell ⟨w.heap.size,1,none⟩ (.slice cA od.zRQ.hn dA)) (w.heap.size+4) (.int .i64 od.ps) (.int .i64 od.pb);have oC:=(pA.out.put (.slice ta od.zRQ.n tc) (.slice cA od.zRQ.hn dA)).zRR tC (by omega);exact oC
    have tB:Hid (zc ((((wD.setCell ⟨w.heap.size,0,none⟩ (.slice ta od.zRQ.n tc)).setCell ⟨w.heap.size,1,none⟩ (.slice cA od.zRQ.hn dA)).setCell ⟨w.heap.size+4,0,none⟩ (.int .i64 od.ps)).setCell ⟨w.heap.size+4,1,none⟩ (.int .i64 od.pb)).drew (w.heap.size+4) (.int .i64 od.ps) (.int .i64 od.pb)):=by
     have tC:=qm wD w.heap.size (.slice ta od.zRQ.n tc) (.slice cA od.zRQ.hn dA);have oC:=(mA.out.zRR tC (by omega)).put (.int .i64 od.ps) (.int .i64 od.pb);exact oC
    have rC:=zE ((fC.out.zRR pB (fun k hk=>by rcases hk with h | h<;>omega)).zRO (lo':=w.heap.size+5) (hi':=T) (by omega) (Nat.le_refl _));have rB:=zE (bB.out.zRR pB (by omega));have aC:=zE (jA.out.zRR pB (by omega));have sB:=gA.trans (pB.zRJ (B:=w.heap.size) gA.size (fun k hk=>by rcases hk with h | h<;>omega));have nE:=Nat.lt_of_lt_of_le nB pB.size;clear pB pA mA fC bB jA gA eA kA lC t0 t1 t2 t3 t4 t5 t6 t7 t8 t9 x0 x1 x2 x3 y0 y1 y2 y3;generalize ((((wD.setCell ⟨w.heap.size,0,none⟩ (.slice ta od.zRQ.n tc)).setCell ⟨w.heap.size,1,none⟩ (.slice cA od.zRQ.hn dA)).setCell ⟨w.heap.size+4,0,none⟩ (.int .i64 od.ps)).setCell ⟨w.heap.size+4,1,none⟩ (.int .i64 od.pb)).drew=wE at dC tB rC rB aC sB nE ⊢;go_wp2;go_roundw
    case rel=>
     refine⟨k+1,by omega,by go_num,fun j hj=>?_,.slice ta od.zRQ.n tc,.slice cA od.zRQ.hn dA,dC.out,?_,fun _=>?_,?_,rB.out,aC.out,by omega,sB⟩
     ·by_cases e:j=k+1
      ·rw[e,gB.out];exact Hc.out
      ·exact lA.out j (by omega)
     ·rw[gB.out];exact rC.out.at.all
     ·rw[gB.out];exact rC.out.zRO (Nat.le_refl _) (by omega)
     ·rw[gB.out];exact tB.out
    case measure=>simp[intOf];omega
   ·have jE:(od.code != 0)=true:=(by simp[hc]);have Hc:=zE hc;clear hc;obtain⟨⟨r0,r1⟩,⟨r2,r3⟩,⟨r4,r5⟩,⟨r6,r7⟩,⟨r8,r9⟩,⟨vD,tD⟩⟩:=jA.out;go_wp2;have iA:=jA.out.put (.slice none 0 0) (.slice none 0 0) (.int .i64 0) (.int .i64 0) (.slice none 0 0) (.int .i64 od.code);have bC:=zF.put6 wD (w.heap.size+1+1+1) (.slice none 0 0) (.slice none 0 0) (.int .i64 0) (.int .i64 0) (.slice none 0 0) (.int .i64 od.code);have pC:=zKV lE lA.out (by rw[gB.out];exact Hc.out);rw[gB.out]at pC;refine bodyPost_ret (v:=.agg #[.slice none 0 0,.slice none 0 0,.int .i64 0,.int .i64 0,.slice none 0 0,.int .i64 od.code]) (by simp[results,Tryz.results101,go_sem,iA.1.1,iA.2.1.1,iA.2.2.1.1,iA.2.2.2.1.1,iA.2.2.2.2.1.1,iA.2.2.2.2.2.1]) rfl (Or.inl ⟨?_,?_,?_⟩)
    ·rw[pC];exact Hc.out
    ·rw[pC];rfl
    ·exact gA.trans (bC.zRJ (B:=w.heap.size) gA.size (by intro k hk;omega))
  ·obtain rfl:k=2:=(by omega);obtain⟨oa,oc,ho,_⟩:=zW Hr.out;have Ho:=zE ho;obtain⟨gE,_⟩:=kC.out 40 (by omega);rw[zPJ,ho]at gE;clear ho;obtain⟨⟨r0,r1⟩,⟨r2,r3⟩,⟨r4,r5⟩,⟨r6,r7⟩,⟨r8,r9⟩,⟨vD,tD⟩⟩:=nC.out;go_wp2;have iA:=nC.out.put (.slice ra (layS p xs xb n b ⟨q,x,y,0⟩ 2).zRQ.n rc) (.slice mC (layS p xs xb n b ⟨q,x,y,0⟩ 2).zRQ.hn jC) (.int .i64 (layS p xs xb n b ⟨q,x,y,0⟩ 2).ps) (.int .i64 (layS p xs xb n b ⟨q,x,y,0⟩ 2).pb) (.slice oa (qd p xs xb n 3).length oc) (.int .i64 0);have bC:=zF.put6 wr (w.heap.size+1+1+1) (.slice ra (layS p xs xb n b ⟨q,x,y,0⟩ 2).zRQ.n rc) (.slice mC (layS p xs xb n b ⟨q,x,y,0⟩ 2).zRQ.hn jC) (.int .i64 (layS p xs xb n b ⟨q,x,y,0⟩ 2).ps) (.int .i64 (layS p xs xb n b ⟨q,x,y,0⟩ 2).pb) (.slice oa (qd p xs xb n 3).length oc) (.int .i64 0);refine bodyPost_ret (v:=.agg #[.slice ra (layS p xs xb n b ⟨q,x,y,0⟩ 2).zRQ.n rc,.slice mC (layS p xs xb n b ⟨q,x,y,0⟩ 2).zRQ.hn jC,.int .i64 (layS p xs xb n b ⟨q,x,y,0⟩ 2).ps,.int .i64 (layS p xs xb n b ⟨q,x,y,0⟩ 2).pb,.slice oa (qd p xs xb n 3).length oc,.int .i64 0]) (by simp[results,Tryz.results101,go_sem,iA.1.1,iA.2.1.1,iA.2.2.1.1,iA.2.2.2.1.1,iA.2.2.2.2.1.1,iA.2.2.2.2.2.1]) rfl (Or.inr ⟨?_,.slice ra (layS p xs xb n b ⟨q,x,y,0⟩ 2).zRQ.n rc,.slice mC (layS p xs xb n b ⟨q,x,y,0⟩ 2).zRQ.hn jC,?_,?_,?_⟩)
   ·rw[zHc lA.out]
   ·rw[<-Ho.out]
   ·exact((kD.out (by omega)).zRR bC (by intro k hk;omega)).zRO (by omega) (by exact bC.size)
   ·exact eC.trans (bC.zRJ (B:=w.heap.size) eC.size (by intro k hk;omega))
theorem zFt(v0 v1:Value)(lo hi:Nat)(p:zJ)(xs xb:Int)(w:World)(h1:zy w lo hi v0 v1 p) :
  Calls Tryz.prog 97 #[.agg #[v0,v1],.agg #[.int .i64 xs,.int .i64 xb]] w fun e w'=>zG (yr p xs xb) e/\Below w.heap.size w w':=by
 have Hp:=zE h1;obtain⟨a,c,a',c',rfl,rfl⟩:∃a c a' c',v0 = .slice a p.n c/\v1 = .slice a' p.hn c':=by
  obtain⟨⟨_,a,c,h1,_⟩,⟨_,a',c',h3,_⟩⟩:=h1;exact⟨a,c,a',c',h1,h3⟩
 clear h1;have fA:=zBq w (.slice a p.n c) (.slice a' p.hn c') (.int .i64 xs) (.int .i64 xb) 33 61;go_enter Tryz.func97,Tryz.ntmps97;go_wp2_with fail;generalize (w.alloc (.cells #[.slice a p.n c,.slice a' p.hn c'] 33)).alloc (.cells #[.int .i64 xs,.int .i64 xb] 61)=W at fA ⊢;obtain⟨hB,hX,cA,hz⟩:=fA;refine(yx _ _ lo hi p _ (Hp.out.zRJ cA)).mono ?_;rintro e w1 ⟨⟨t,rfl,ht⟩,aA⟩;have iA:=zE (hB.zRJ aA);have jA:=zE (hX.zRJ aA);have bA:=zA cA aA;clear hB hX cA aA;by_cases hR:zv p
 ·obtain rfl:t=true:=ht.2 hR;have HR:=zE hR;clear ht hR;obtain⟨⟨x0,x1⟩,⟨x2,x3⟩⟩:=iA.out;obtain⟨⟨y0,y1⟩,⟨y2,y3⟩⟩:=jA.out;go_wp2_with fail;refine(zE6 _ _ lo hi p xs xb _ (Hp.out.zRJ bA) HR.out).mono ?_;rintro e w2 ⟨⟨t2,rfl,dA⟩,eA⟩;have HT:=zE dA;have gA:=zA bA eA;clear dA eA x0 x1 x2 x3 y0 y1 y2 y3;go_wp2;go_ret;exact⟨⟨t2,rfl,HT.out.trans ((zFq HR.out).trans ⟨fun h=>⟨HR.out,h⟩,fun h=>h.2⟩)⟩,gA⟩
 ·obtain rfl:t=false:=zQ ht hR;have HR:=zE hR;clear ht hR;go_wp2;go_ret;exact⟨zG.no fun h=>HR.out h.1,bA⟩
def zDS(n:Int):Prop:=0<=n/\n<=63
theorem zEx(n:Int)(w:World):Calls Tryz.prog 80 #[.int .i64 n] w fun e w'=>zG (zDS n) e/\w'=w:=by
 by_cases h1:0<=n
 ·by_cases h2:n<=63
  ·go_enter Tryz.func80,Tryz.ntmps80;go_wp2;go_ret;exact⟨zG.yes ⟨h1,h2⟩,rfl⟩
  ·go_enter Tryz.func80,Tryz.ntmps80;go_wp2;go_ret;exact⟨zG.no fun h=>by have:=h.2;omega,rfl⟩
 ·go_enter Tryz.func80,Tryz.ntmps80;go_wp2;go_ret;exact⟨zG.no fun h=>by have:=h.1;omega,rfl⟩
theorem zD9(n:Int)(w:World):Calls Tryz.prog 99 #[.int .i64 n] w fun e w'=>zG (zDS n) e/\w'=w:=by
 by_cases h1:0<=n
 ·by_cases h2:n<64
  ·go_enter Tryz.func99,Tryz.ntmps99;go_wp2;go_ret;exact⟨zG.yes ⟨h1,by omega⟩,rfl⟩
  ·go_enter Tryz.func99,Tryz.ntmps99;go_wp2;go_ret;exact⟨zG.no fun h=>by have:=h.2;omega,rfl⟩
 ·go_enter Tryz.func99,Tryz.ntmps99;go_wp2;go_ret;exact⟨zG.no fun h=>by have:=h.1;omega,rfl⟩
end Go.Proofs.YtmgeglgboadfiaaGreatDoor
