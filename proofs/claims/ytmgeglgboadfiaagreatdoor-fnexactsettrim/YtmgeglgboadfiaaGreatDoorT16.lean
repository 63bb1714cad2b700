/- What impl.wayTo answers. -/
import Derived.Test.YtmgeglgboadfiaaGreatDoorT15
set_option linter.unusedVariables false
set_option maxRecDepth 20000
set_option maxHeartbeats 4000000
namespace Go.Proofs.YtmgeglgboadfiaaGreatDoor
open Go.RowKit
theorem zOa(v:Value)(lo hi:Nat)(p:zJ)(xs xb:Int)(n:Nat)(w:World)(h1:qA w lo hi v p.n p.s)(hT:yj p xs xb)(hn:n<64) :
  Calls Tryz.prog 102 #[v,.agg #[.int .i64 xs,.int .i64 xb],.int .i64 (n:Int)] w fun e w'=>∃o,e = .returned (.agg (zAS (yH p xs xb n 2 3 o)))/\zw w' w.heap.size o (qe p xs xb n 3)/\Below w.heap.size w w':=by
 have Hp:=zE h1;have HT:=zE hT;obtain⟨_,a,c,rfl,_⟩:=id h1;clear h1 hT;have pD:(n:Int)<64:=by omega
 have rD:0<=(n:Int) % 8:=by omega
 have sD:(n:Int) % 8<8:=by omega
 have pC:=zC w (.cells #[.int .i64 xs,.int .i64 xb] 61);have pB:=zC (w.alloc (.cells #[.int .i64 xs,.int .i64 xb] 61)) (.cells #[.int .i64 0,.int .i64 0,.int .i64 0,.int .i64 0,.int .i64 0,.int .i64 0,.int .i64 0,.int .i64 0,.int .i64 0,.int .i64 0,.int .i64 0,.int .i64 0,.int .i64 0,.int .i64 0,.int .i64 0,.int .i64 0,.int .i64 0,.int .i64 0,.int .i64 0,.int .i64 0,.int .i64 0,.int .i64 0,.int .i64 0,.int .i64 0,.int .i64 0,.int .i64 0,.int .i64 0,.int .i64 0,.int .i64 0,.int .i64 0,.int .i64 0,.int .i64 0,.int .i64 0,.int .i64 0,.int .i64 0,.int .i64 0,.int .i64 0,.int .i64 0,.int .i64 0,.int .i64 0,.slice none 0 0] 159);have fB:=zE ((zc.zRL w (.int .i64 xs) (.int .i64 xb) 61).zRJ pB);have kB:Hid (((w.alloc (.cells #[.int .i64 xs,.int .i64 xb] 61)).alloc (.cells #[.int .i64 0,.int .i64 0,.int .i64 0,.int .i64 0,.int .i64 0,.int .i64 0,.int .i64 0,.int .i64 0,.int .i64 0,.int .i64 0,.int .i64 0,.int .i64 0,.int .i64 0,.int .i64 0,.int .i64 0,.int .i64 0,.int .i64 0,.int .i64 0,.int .i64 0,.int .i64 0,.int .i64 0,.int .i64 0,.int .i64 0,.int .i64 0,.int .i64 0,.int .i64 0,.int .i64 0,.int .i64 0,.int .i64 0,.int .i64 0,.int .i64 0,.int .i64 0,.int .i64 0,.int .i64 0,.int .i64 0,.int .i64 0,.int .i64 0,.int .i64 0,.int .i64 0,.int .i64 0,.slice none 0 0] 159)).heap[w.heap.size+1]?=some (.cells zNt 159 (0,0))):=by
  have:=heap_alloc_new (w.alloc (.cells #[.int .i64 xs,.int .i64 xb] 61)) (.cells #[.int .i64 0,.int .i64 0,.int .i64 0,.int .i64 0,.int .i64 0,.int .i64 0,.int .i64 0,.int .i64 0,.int .i64 0,.int .i64 0,.int .i64 0,.int .i64 0,.int .i64 0,.int .i64 0,.int .i64 0,.int .i64 0,.int .i64 0,.int .i64 0,.int .i64 0,.int .i64 0,.int .i64 0,.int .i64 0,.int .i64 0,.int .i64 0,.int .i64 0,.int .i64 0,.int .i64 0,.int .i64 0,.int .i64 0,.int .i64 0,.int .i64 0,.int .i64 0,.int .i64 0,.int .i64 0,.int .i64 0,.int .i64 0,.int .i64 0,.int .i64 0,.int .i64 0,.int .i64 0,.slice none 0 0] 159);rw[World.size_alloc]at this;exact this
 have gB:=zA pC pB;have oA:((w.alloc (.cells #[.int .i64 xs,.int .i64 xb] 61)).alloc (.cells #[.int .i64 0,.int .i64 0,.int .i64 0,.int .i64 0,.int .i64 0,.int .i64 0,.int .i64 0,.int .i64 0,.int .i64 0,.int .i64 0,.int .i64 0,.int .i64 0,.int .i64 0,.int .i64 0,.int .i64 0,.int .i64 0,.int .i64 0,.int .i64 0,.int .i64 0,.int .i64 0,.int .i64 0,.int .i64 0,.int .i64 0,.int .i64 0,.int .i64 0,.int .i64 0,.int .i64 0,.int .i64 0,.int .i64 0,.int .i64 0,.int .i64 0,.int .i64 0,.int .i64 0,.int .i64 0,.int .i64 0,.int .i64 0,.int .i64 0,.int .i64 0,.int .i64 0,.int .i64 0,.slice none 0 0] 159)).heap.size=w.heap.size+2:=by rw[World.size_alloc,World.size_alloc]
 clear pC pB;go_enter Tryz.func102,Tryz.ntmps102;go_wp2;refine zKG (zRG p (.slice a p.n c) xs xb n w w.heap.size) 6 ?_ ?_ ?_
 ·rintro l a w ⟨B,X,L,_,hL,_,_,_,_,_,h | h⟩
  ·have:=h.2.1;omega
  ·have:=h.2.1;omega
 ·clear fB kB gB oA;rintro k l a' w1 ⟨B,X,L,⟨j,rfl⟩,hL,hB,hX,nA,hb,hO,⟨rfl,hk,hW,hx⟩ | ⟨rfl,hk,o,hW,hr⟩⟩
  ·refine⟨_,rfl,?_⟩;have HW:=zE hW;have HX:=zE hx;have HO:=zE hO;have Hb:=zE hb;have Hk:=zE hk;have nD:(L:Int)<3:=(by omega);have gD:B≠X:=(by omega);obtain⟨⟨x0,x1⟩,⟨x2,x3⟩⟩:=hx;obtain⟨y0,y1⟩:=HW.out (34+L*2) (by omega);obtain⟨y2,y3⟩:=HW.out (34+L*2+1) (by omega);clear hW hO hb hk;go_upto_region 4 with fail;have lB:zF (fun k=>k=B) w1 ((w1.setCell ⟨B,34+L*2,none⟩ (.int .i64 (qq p xs xb n L))).setCell ⟨B,34+L*2+1,none⟩ (.int .i64 (yR p xs xb n L))):=((zF.refl (fun k=>k=B) w1).setCell (p:=⟨B,34+L*2,none⟩) rfl _).setCell (p:=⟨B,34+L*2+1,none⟩) rfl _;have bB:=zE (zQJ hL HW.out);have iB:=zE (HX.out.zRR lB (by omega));have aB:=zE ((lB.block _ (by omega) (by omega)).trans HO.out);have jA:=zE ((Hb.out.setCell (p:=⟨B,34+L*2,none⟩) (by show _<=B;omega) (.int .i64 (qq p xs xb n L))).setCell (p:=⟨B,34+L*2+1,none⟩) (by show _<=B;omega) (.int .i64 (yR p xs xb n L)));have cA:=Nat.lt_of_lt_of_le nA lB.size;clear lB x0 x1 x2 x3 y0 y1 y2 y3;generalize (w1.setCell ⟨B,34+L*2,none⟩ (.int .i64 (qq p xs xb n L))).setCell ⟨B,34+L*2+1,none⟩ (.int .i64 (yR p xs xb n L))=w2 at bB iB aB jA cA ⊢;clear HW HX HO Hb nA;obtain⟨⟨x0,x1⟩,⟨x2,x3⟩⟩:=iB.out;by_cases hN:Nil (qq p xs xb n L) (yR p xs xb n L)
   ·have HN:=zE hN;rw[hN.1]at x0;rw[hN.2]at x2;clear hN;go_wp2;go_step3;have hk:=Hk.out;exact⟨B,X,L,zDK _ rfl,hL,hB,hX,cA,jA.out,aB.out,Or.inr ⟨rfl,by omega,.slice none 0 0,zNI hL bB.out (fun _=>HN.out),by rw[zOt (fun _=>HN.out) hL];exact zw.nil _ _⟩⟩
   ·have HN:=zE hN;by_cases aD:L=2
    ·subst aD;rcases zAO hN with e0 | ⟨e0,e1⟩
     all_goals
      clear hN;go_wp2;go_step3;have hk:=Hk.out;exact⟨B,X,2,zDK _ rfl,hL,hB,hX,cA,jA.out,aB.out,Or.inr ⟨rfl,by omega,.slice none 0 0,zNI hL bB.out (fun h=>absurd h (by omega)),zw.nil _ _⟩⟩
    ·have fA:L<2:=(by omega);have tD:((L:Int) == 2)=false:=(by simp;omega);have hK:=(zQq HT.out hn fA).resolve_left hN;obtain⟨m,hm⟩:=Int.eq_ofNat_of_zero_le hK.1.2.1;have iD:m<p.n:=(by have:=hK.1.2.2.1;omega);have eD:(m:Int)<(p.n:Int):=(by omega);have dD:Hid ((p.s m).kn=8):=by
      have:=hK.2;rw[hm]at this;exact this
     obtain⟨b,off,ka,kc,rfl,tC⟩:=(Hp.out.zRJ jA.out).cells iD;have HC:=zE tC;obtain⟨q0,q1,q2,_⟩:=tC;have Hm:=zE hm;have kC:=zAO hN;rw[hm]at x0 kC;clear hm hK hN;have sB:Hid ((Tryz.prog.info? 155).map (·.size)=some (qE (p.s m)).size):=by
      show _=_;rw[qE,qB];exact zBt
     rcases kC with e0 | ⟨e0,e1⟩
     all_goals
      go_wp2_with fail;refine(zDp _ _ _ lo hi (p.s m) _ HC.out.slot (Or.inr dD.out)).mono ?_;rintro e w3 ⟨rfl,lA⟩;have eC:=zE (bB.out.zRJ lA);have jC:=zE (iB.out.zRJ lA);have mC:=zE ((lA.block _ (by omega)).trans aB.out);have oB:=zE (jA.out.trans (lA.mono jA.out.size));have cB:=Nat.lt_of_lt_of_le cA lA.size;have rC:Hid (w3.there B (2+L*16) (qE (p.s m)).size):=by
       have:=eC.out.there (o:=2+L*16) (n:=16) (by omega);rw[<-qB (zk (p.s m))]at this;exact this
      clear lA x0 x1 x2 x3 q0 q1 q2 HC bB iB aB jA cA;go_upto_region 6 with(refine wpList_store_mid rfl 155 (.tmp 36) (.tmp 34) rfl B (2+L*16) (qE (p.s m)) rfl rfl rC.out sB.out (zAr _) ?_);have rA:=zDs B (qE (p.s m)).toList (2+L*16) w3;have sA:Hid (yQ (w3.setCells B (2+L*16) (qE (p.s m)).toList) B (yH p xs xb n (L+1) (L+1) (.slice none 0 0))):=by
       have:=zPM fA eC.out HN.out;rw[Hm.out]at this;exact this
      have gC:=zE (jC.out.zRR rA (by omega));have oC:=zE ((rA.block _ (by omega) (by omega)).trans mC.out);have fC:=zE (oB.out.trans (rA.zRJ (B:=w.heap.size) (oB.out.size) (by intro k hk;omega)));have vA:=Nat.lt_of_lt_of_le cB rA.size;clear rA eC jC mC oB cB rC;generalize w3.setCells B (2+L*16) (qE (p.s m)).toList=w4 at sA gC oC fC vA ⊢;have vD:=zHq (n:=n) (L:=L) hn;have mD:((plc n L:Nat):Int)<8:=(by omega);obtain⟨⟨x0,x1⟩,⟨x2,x3⟩⟩:=gC.out;obtain⟨z0,_⟩:=sA.out L (by omega);rw[zHX p xs xb n _ _ _ fA]at z0;obtain⟨y0,_⟩:=sA.out (2+L*16+plc n L*2) (by omega);rw[zLF p xs xb n _ _ fA (by omega),<-(zDG p xs xb n fA).1]at y0;obtain⟨y1,_⟩:=sA.out (2+L*16+plc n L*2+1) (by omega);rw[Nat.add_assoc,zLF p xs xb n _ _ fA (by omega),<-(zDG p xs xb n fA).2,<-Nat.add_assoc]at y1;have tA:Hid (∀(u v:Value) (w5:World),w5=((w4.drew.setCell ⟨X,0,none⟩ u).setCell ⟨X,1,none⟩ v)->(w5.cell? ⟨B,L,none⟩=some (.int .i64 ((plc n L:Nat):Int))/\w5.cell? ⟨B,2+L*16+plc n L*2,none⟩=some (.int .i64 (qq p xs xb n (L+1)))/\w5.cell? ⟨B,2+L*16+plc n L*2+1,none⟩=some (.int .i64 (yR p xs xb n (L+1))))):=by
       intro u v w5 e5;have h:=fun o=>(ql w4.drew X u v).cell (b:=B) (o:=o) (by show B<w4.heap.size;omega) (by omega)
       rw[e5,h,h,h];exact⟨z0,y0,y1⟩
      have lD:(L:Int)<2:=(by omega);simp only[Act.put];refine wp_region_held_drew (S:=(fun w'=>w'.cell? ⟨B,L,none⟩=some (.int .i64 ((plc n L:Nat):Int))/\w'.cell? ⟨B,2+L*16+plc n L*2,none⟩=some (.int .i64 (qq p xs xb n (L+1)))/\w'.cell? ⟨B,2+L*16+plc n L*2+1,none⟩=some (.int .i64 (yR p xs xb n (L+1))))) (by kernel_rfl) ?_ (fun hHeld=>?_)
      ·(try dsimp only)
       go_keep
      refine wpAnyH_take (i:=0) (oi:=({dst:=some 37,op:=Op.move (Operand.tmp 9),type:=3,pos:= "l02_tree.go:165",after:=#[],guard:=none}:Oper)) (v:=?_) rfl (by kernel_rfl) (by kernel_rfl) (by kernel_rfl) (fun _ _ _ h=>h) (Or.inl ⟨by rfl,?_⟩) (by assumption) ?_;rotate_left
      ·(intro w aA;(try dsimp only at aA);go_simp;try with_reducible rfl)
      try simp only[Act.put,List.setIfInBounds_toArray,List.set_cons_zero,List.set_cons_succ]
      refine wpAnyH_take (i:=1) (oi:=({dst:=some 38,op:=Op.move (Operand.tmp 9),type:=3,pos:= "l02_tree.go:165",after:=#[],guard:=none}:Oper)) (v:=?_) rfl (by kernel_rfl) (by kernel_rfl) (by kernel_rfl) (fun _ _ _ h=>h) (Or.inl ⟨by rfl,?_⟩) (by assumption) ?_;rotate_left
      ·(intro w aA;(try dsimp only at aA);go_simp;try with_reducible rfl)
      try simp only[Act.put,List.setIfInBounds_toArray,List.set_cons_zero,List.set_cons_succ]
      refine wpAnyH_take (i:=2) (oi:=({dst:=some 39,op:=Op.fieldAddr 159 (Operand.tmp 7) 0,type:=0,pos:= "l02_tree.go:165",after:=#[],guard:=none}:Oper)) (v:=?_) rfl (by kernel_rfl) (by kernel_rfl) (by kernel_rfl) (fun _ _ _ h=>h) (Or.inl ⟨by rfl,?_⟩) (by assumption) ?_;rotate_left
      ·(intro w aA;(try dsimp only at aA);go_simp;try with_reducible rfl)
      try simp only[Act.put,List.setIfInBounds_toArray,List.set_cons_zero,List.set_cons_succ]
      refine wpAnyH_take (i:=3) (oi:=({dst:=some 40,op:=Op.indexAddr 154 (Operand.tmp 39) (Operand.tmp 38),type:=0,pos:= "l02_tree.go:165",after:=#[{on:=2,ground:=Ground.data},{on:=1,ground:=Ground.data}],guard:=none}:Oper)) (v:=?_) rfl (by kernel_rfl) (by kernel_rfl) (by kernel_rfl) (fun _ _ _ h=>h) (Or.inl ⟨by rfl,?_⟩) (by assumption) ?_;rotate_left
      ·(intro w aA;(try dsimp only at aA);go_simp;try with_reducible rfl)
      try simp only[Act.put,List.setIfInBounds_toArray,List.set_cons_zero,List.set_cons_succ]
      refine wpAnyH_take (i:=4) (oi:=({dst:=some 41,op:=Op.load 2 (Operand.tmp 40),type:=2,pos:= "l02_tree.go:165",after:=#[{on:=3,ground:=Ground.data}],guard:=none}:Oper)) (v:=?_) rfl (by kernel_rfl) (by kernel_rfl) (by kernel_rfl) (fun _ _ _ h=>h) (Or.inl ⟨by rfl,?_⟩) (by assumption) ?_;rotate_left
      ·(intro w aA;(try dsimp only at aA);go_simp;try with_reducible rfl)
      try simp only[Act.put,List.setIfInBounds_toArray,List.set_cons_zero,List.set_cons_succ]
      refine wpAnyH_take (i:=5) (oi:=({dst:=some 42,op:=Op.fieldAddr 159 (Operand.tmp 7) 1,type:=0,pos:= "l02_tree.go:165",after:=#[],guard:=none}:Oper)) (v:=?_) rfl (by kernel_rfl) (by kernel_rfl) (by kernel_rfl) (fun _ _ _ h=>h) (Or.inl ⟨by rfl,?_⟩) (by assumption) ?_;rotate_left
      ·(intro w aA;(try dsimp only at aA);go_simp;try with_reducible rfl)
      try simp only[Act.put,List.setIfInBounds_toArray,List.set_cons_zero,List.set_cons_succ]
      refine wpAnyH_take (i:=6) (oi:=({dst:=some 43,op:=Op.indexAddr 156 (Operand.tmp 42) (Operand.tmp 37),type:=0,pos:= "l02_tree.go:165",after:=#[{on:=5,ground:=Ground.data},{on:=0,ground:=Ground.data}],guard:=none}:Oper)) (v:=?_) rfl (by kernel_rfl) (by kernel_rfl) (by kernel_rfl) (fun _ _ _ h=>h) (Or.inl ⟨by rfl,?_⟩) (by assumption) ?_;rotate_left
      ·(intro w aA;(try dsimp only at aA);go_simp;try with_reducible rfl)
      try simp only[Act.put,List.setIfInBounds_toArray,List.set_cons_zero,List.set_cons_succ]
      refine wpAnyH_take (i:=7) (oi:=({dst:=some 44,op:=Op.indexAddr 155 (Operand.tmp 43) (Operand.tmp 41),type:=0,pos:= "l02_tree.go:165",after:=#[{on:=6,ground:=Ground.data},{on:=4,ground:=Ground.data}],guard:=none}:Oper)) (v:=?_) rfl (by kernel_rfl) (by kernel_rfl) (by kernel_rfl) (fun _ _ _ h=>h) (Or.inl ⟨by rfl,?_⟩) (by assumption) ?_;rotate_left
      ·(intro w aA;(try dsimp only at aA);go_simp;try with_reducible rfl)
      try simp only[Act.put,List.setIfInBounds_toArray,List.set_cons_zero,List.set_cons_succ]
      refine wpAnyH_take (i:=8) (oi:=({dst:=some 45,op:=Op.load 61 (Operand.tmp 44),type:=61,pos:= "l02_tree.go:165",after:=#[{on:=7,ground:=Ground.data}],guard:=none}:Oper)) (v:=?_) rfl (by kernel_rfl) (by kernel_rfl) (by kernel_rfl) (fun _ _ _ h=>h) (Or.inl ⟨by rfl,?_⟩) (by assumption) ?_;rotate_left
      ·(intro w aA;(try dsimp only at aA);go_simp;try with_reducible rfl)
      try simp only[Act.put,List.setIfInBounds_toArray,List.set_cons_zero,List.set_cons_succ]
      refine wpAnyH_ready (rs:=[9]) (by kernel_rfl) (by simp) ?_;refine AllReadyH.cons (o:=({dst:=none,op:=Op.store 61 (Operand.tmp 8) (Operand.tmp 45),type:=0,pos:= "l02_tree.go:165",after:=#[{on:=8,ground:=Ground.data},{on:=0,ground:=Ground.phase},{on:=1,ground:=Ground.phase},{on:=2,ground:=Ground.phase},{on:=3,ground:=Ground.phase},{on:=4,ground:=Ground.phase},{on:=5,ground:=Ground.phase},{on:=6,ground:=Ground.phase},{on:=7,ground:=Ground.phase},{on:=8,ground:=Ground.phase}],guard:=none}:Oper)) rfl (fun K hK=>?_) AllReadyH.nil;go_simp
      (try go_wp2_with fail)
      refine hK.out _ _ ?_ (fun bA=>?_)
      ·(try dsimp only)
       exact tA.out _ _ _ rfl
      clear hK K hHeld;have hHeld:=bA;clear bA
      try simp only[Act.put,List.setIfInBounds_toArray,List.set_cons_zero,List.set_cons_succ]
      refine wpAnyH_done (by kernel_rfl) ?_ _;go_wp2;go_step3;have hk:=Hk.out;have dB:zF (fun k=>k=X) w4 ((w4.setCell ⟨X,0,none⟩ (.int .i64 (qq p xs xb n (L+1)))).setCell ⟨X,1,none⟩ (.int .i64 (yR p xs xb n (L+1)))).drew:=by
       have h:=ql w4 X (.int .i64 (qq p xs xb n (L+1))) (.int .i64 (yR p xs xb n (L+1)));exact⟨h.os,h.tape,h.output,h.size,h.block⟩
      exact⟨B,X,L+1,zDK _ rfl,by omega,hB,hX,Nat.lt_of_lt_of_le vA dB.size,fC.out.trans (dB.zRJ (B:=w.heap.size) fC.out.size (by intro k hk;omega)),(dB.block _ (by omega) (by omega)).trans oC.out,Or.inl ⟨rfl,by omega,sA.out.zRR dB (by omega),gC.out.put _ _⟩⟩
  ·refine⟨_,rfl,?_⟩;have HW:=zE hW;have HO:=zE hO;have Hb:=zE hb;have Hk:=zE hk;have HR:=zE hr;have nD:(L:Int)<3:=(by omega);have gD:B≠X:=(by omega);obtain⟨y0,_⟩:=HW.out (34+L*2) (by omega);rw[(zMG p xs xb n 2 o hL).1]at y0;obtain⟨y1,_⟩:=HW.out (34+L*2+1) (by omega);rw[(zMG p xs xb n 2 o hL).2]at y1;clear hW hO hb hk hr;obtain⟨wd,lC⟩:=Option.map_eq_some_iff.1 zO8;have HU:=zE lC;clear lC;by_cases hN:Nil (qq p xs xb n L) (yR p xs xb n L)
   ·have HN:=zE hN;rw[hN.1]at y0;rw[hN.2]at y1;clear hN;have dA:Hid (zw w1 (X+1) o (qe p xs xb n (2 - L+1))):=by
     have:=HR.out;rw[zLf p xs xb n hL];unfold one;rw[if_pos HN.out,List.append_nil];exact this
    have iA:=HW;have eA:=HO;have kA:=Hb;have nB:=nA;clear HW HO Hb HR nA;by_cases tB:L=0
    ·subst tB;go_wp2_with (first
      | (refine wpList_load_mid rfl 159 (.tmp 7) rfl B 0 rfl ((List.range 41).map (yH p xs xb n 2 3 o)) wd iA.out.range HU.out.1 HU.out.2 (zLp _) ?_)
      | (refine wpList_store_row rfl 159 (.tmp 6) (.tmp 67) rfl (w.heap.size+1) (zAS (yH p xs xb n 2 3 o)) rfl rfl 159 zNt eA.out (zDE _) (by rw[zEg];rfl) (zIN _ _ _ _ _ _ dA.out.one) ?_)
      | fail)
     unfold hop;dsimp only;refine bodyPost_ret (v:=.agg (zAS (yH p xs xb n 2 3 o))) (results_cell_row (P:=Tryz.prog) (ty:=159) Tryz.results102 _ _ (w.heap.size+1) 159 (zAS (yH p xs xb n 2 3 o)) (0,0) _ rfl (setRow_heap _ _ _ _ _ _ eA.out) HU.out.1 (by have:=HU.out.2;cases wd<;>exact this) (zDE _)) rfl ⟨o,rfl,?_,?_⟩
     ·exact(dA.out.setRow (by omega) _).mono (by omega)
     ·exact below_setRow kA.out (by omega) _
    ·obtain⟨M,rfl⟩:∃M,L=M+1:=⟨L - 1,by omega⟩;have hM:(0:Int)<(M:Int)+1:=(by omega);go_wp2;go_step3;have hk:=Hk.out;exact⟨B,X,M,zDK _ rfl,by omega,hB,hX,nB,kA.out,eA.out,Or.inr ⟨rfl,by omega,o,iA.out,by
      have:=dA.out;rw[show 2 - (M+1)+1=2 - M by omega]at this;exact this⟩⟩
   ·have HN:=zE hN;obtain⟨oa,oc,rfl,_⟩:=zW HR.out;have aC:w1.cell? ⟨B,40,none⟩=some (.slice oa (qe p xs xb n (2 - L)).length oc):=(HW.out 40 (by omega)).1;rcases zAO hN with e0 | ⟨e0,e1⟩
    all_goals
     clear hN;go_upto_region 9 with fail;have cC:Below w1.heap.size w1 (w1.alloc (.cells #[.int .i64 (qq p xs xb n L),.int .i64 (yR p xs xb n L)] 61)):=zC _ _;have rB:(w1.alloc (.cells #[.int .i64 (qq p xs xb n L),.int .i64 (yR p xs xb n L)] 61)).cell? ⟨B,40,none⟩=some (.slice oa (qe p xs xb n (2 - L)).length oc):=((HW.out.zRJ cC) 40 (by omega)).1;have mB:Hid (Below w1.heap.size w1 (w1.alloc (.cells #[.int .i64 (qq p xs xb n L),.int .i64 (yR p xs xb n L)] 61)).drew):=cC.drew;clear cC;have nC:Hid (zw (w1.alloc (.cells #[.int .i64 (qq p xs xb n L),.int .i64 (yR p xs xb n L)] 61)).drew w1.heap.size (.slice (some ⟨w1.heap.size,0,none⟩) 1 1) [(qq p xs xb n L,yR p xs xb n L)]):=World.ownsRow_lit (e:=61) (size:=2) w1 #[.int .i64 (qq p xs xb n L),.int .i64 (yR p xs xb n L)] 1 (Nat.le_refl _) (by unfold maxLen;omega) rfl
     go_region_law (refine zOX rfl (.tmp 55) (.tmp 60) rfl (X+1) w1.heap.size (.slice oa (qe p xs xb n (2 - L)).length oc) (qe p xs xb n (2 - L)) (by simp[Act.eval]) (HR.out.zRJ mB.out) (some ⟨w1.heap.size,0,none⟩) 1 1 [(qq p xs xb n L,yR p xs xb n L)] (by simp[Act.eval]) rfl nC.out (by have:=zMV p xs xb n (2 - L);simp;omega) (by have:=mB.out.size;omega) ?_;intro v3 w3 bC mA;obtain⟨va,vc,rfl,_⟩:=zW bC;have dC:zF (fun k=>X<k) w1 w3:=(zF.zRM mB.out).trans ⟨mA.os,mA.tape,mA.output,mA.size,fun k hk oD=>mA.block k hk (fun e=>oD (by have:=(HR.out.lt e.symm).1;omega))⟩;obtain⟨k0,vC⟩:=(HW.out.zRR dC (by omega)) 40 (by omega);have vB:=zE dC;have sC:=zE bC;clear dC bC mA)
     all_goals
      have pA:(qe p xs xb n (2 - L) ++ [(qq p xs xb n L,yR p xs xb n L)]).length=(qe p xs xb n (2 - L)).length+1:=(by simp);have eB:zF (fun k=>X<k\/k=B) w1 (w3.setCell ⟨B,40,none⟩ (.slice va ((qe p xs xb n (2 - L)).length+1) vc)):=zF.setCell (S:=fun k=>X<k\/k=B) (vB.out.mono (fun k hk=>Or.inl hk)) (p:=⟨B,40,none⟩) (Or.inr rfl) _;have iA:=zE (zQN (.slice va ((qe p xs xb n (2 - L)).length+1) vc) (HW.out.zRR vB.out (by omega)));have dA:Hid (zw (w3.setCell ⟨B,40,none⟩ (.slice va ((qe p xs xb n (2 - L)).length+1) vc)) (X+1) (.slice va ((qe p xs xb n (2 - L)).length+1) vc) (qe p xs xb n (2 - L+1))):=by
       have:=sC.out.put (b:=B) (o:=40) (by omega) (.slice va ((qe p xs xb n (2 - L)).length+1) vc);rw[pA]at this;rw[zLf p xs xb n hL];unfold one;rw[if_neg HN.out];exact this
      have eA:=zE ((eB.block _ (by omega) (by omega)).trans HO.out);have kA:=zE (Hb.out.trans (eB.zRJ (B:=w.heap.size) Hb.out.size (by intro k hk;omega)));have nB:=Nat.lt_of_lt_of_le nA eB.size;clear eB sC vB mB nC rB aC HW HO Hb HR nA k0 vC pA y0 y1;generalize w3.setCell ⟨B,40,none⟩ (.slice va ((qe p xs xb n (2 - L)).length+1) vc)=w4 at iA dA eA kA nB ⊢;generalize Value.slice va ((qe p xs xb n (2 - L)).length+1) vc=oq at iA dA ⊢;by_cases tB:L=0
      ·subst tB;go_wp2_with (first
        | (refine wpList_load_mid rfl 159 (.tmp 7) rfl B 0 rfl ((List.range 41).map (yH p xs xb n 2 3 oq)) wd iA.out.range HU.out.1 HU.out.2 (zLp _) ?_)
        | (refine wpList_store_row rfl 159 (.tmp 6) (.tmp 67) rfl (w.heap.size+1) (zAS (yH p xs xb n 2 3 oq)) rfl rfl 159 zNt eA.out (zDE _) (by rw[zEg];rfl) (zIN _ _ _ _ _ _ dA.out.one) ?_)
        | fail)
       unfold hop;dsimp only;refine bodyPost_ret (v:=.agg (zAS (yH p xs xb n 2 3 oq))) (results_cell_row (P:=Tryz.prog) (ty:=159) Tryz.results102 _ _ (w.heap.size+1) 159 (zAS (yH p xs xb n 2 3 oq)) (0,0) _ rfl (setRow_heap _ _ _ _ _ _ eA.out) HU.out.1 (by have:=HU.out.2;cases wd<;>exact this) (zDE _)) rfl ⟨oq,rfl,?_,?_⟩
       ·exact(dA.out.setRow (by omega) _).mono (by omega)
       ·exact below_setRow kA.out (by omega) _
      ·obtain⟨M,rfl⟩:∃M,L=M+1:=⟨L - 1,by omega⟩;have hM:(0:Int)<(M:Int)+1:=(by omega);go_wp2;go_step3;have hk:=Hk.out;exact⟨B,X,M,zDK _ rfl,by omega,hB,hX,nB,kA.out,eA.out,Or.inr ⟨rfl,by omega,oq,iA.out,by
        have:=dA.out;rw[show 2 - (M+1)+1=2 - M by omega]at this;exact this⟩⟩
 ·intro enter;go_upto_region 1 with fail;generalize (w.alloc (.cells #[.int .i64 xs,.int .i64 xb] 61)).alloc (.cells #[.int .i64 0,.int .i64 0,.int .i64 0,.int .i64 0,.int .i64 0,.int .i64 0,.int .i64 0,.int .i64 0,.int .i64 0,.int .i64 0,.int .i64 0,.int .i64 0,.int .i64 0,.int .i64 0,.int .i64 0,.int .i64 0,.int .i64 0,.int .i64 0,.int .i64 0,.int .i64 0,.int .i64 0,.int .i64 0,.int .i64 0,.int .i64 0,.int .i64 0,.int .i64 0,.int .i64 0,.int .i64 0,.int .i64 0,.int .i64 0,.int .i64 0,.int .i64 0,.int .i64 0,.int .i64 0,.int .i64 0,.int .i64 0,.int .i64 0,.int .i64 0,.int .i64 0,.int .i64 0,.slice none 0 0] 159)=W at fB kB gB oA ⊢;have jB:=zC W (.cells (zIJ n) 159);have cD:=zE (fB.out.zRJ jB);have bD:=zE (zQD W n);have fD:=zE ((jB.block _ (by omega)).trans kB.out);have kD:=zA gB jB;have iC:(W.alloc (.cells (zIJ n) 159)).heap.size=w.heap.size+3:=(by rw[World.size_alloc,oA]);obtain⟨⟨x0,x1⟩,⟨x2,x3⟩⟩:=cD.out;have jD:=zE oA;clear jB fB kB gB oA;go_wp2_with (first
   | (refine wpList_store_row rfl 159 (.tmp 7) (.tmp 15) rfl W.heap.size (zIJ n) rfl rfl 159 zNt (heap_alloc_last _ _) (zPH n) rfl (zPd n) ?_;rw[World.setRow_alloc_new])
   | fail)
  go_step3
  rename_i K hK
  refine hK _ _ (enter 0 _ _ _ rfl ?_);clear hK;have oA:=jD.out;have gA:=zC (W.alloc (.cells (zIJ n) 159)) (.cells #[.int .i64 xs,.int .i64 xb] 61);refine⟨W.heap.size,w.heap.size+3,0,zDK _ rfl,by omega,by omega,by omega,by rw[World.size_alloc,iC];omega,zA kD gA,?_,Or.inl ⟨rfl,by omega,?_,?_⟩⟩
  ·exact(gA.block _ (by omega)).trans fD.out
  ·exact(bD.out.zRJ gA).congr fun i hi=>zOl p xs xb n hi
  ·have:=zc.zRL (W.alloc (.cells (zIJ n) 159)) (.int .i64 xs) (.int .i64 xb) 61;rw[iC]at this;exact this
theorem zEH(p:zJ)(i:Nat)(s:zL):(qm p i s).s i=s:=if_pos rfl
theorem zEe(p:zJ){i j:Nat}(s:zL)(h:j≠i):(qm p i s).s j=p.s j:=if_neg h
theorem zFX{p:zJ}{i:Nat}{s:zL}{xs xb:Int}(hi:qG (p.s i))(h:zr p xs xb):zr (qm p i s) xs xb:=by
 obtain⟨h1,h2,h3,h4⟩:=h;refine⟨h1,h2,h3,?_⟩;have aA:xs.toNat≠i:=fun e=>by
  rw[e]at h4;have:=hi.1;omega
 rw[zEe p s aA];exact h4
theorem zLB{p:zJ}{i:Nat}{s t:zL}(hi:qG (p.s i))(h:zAN p t):zAN (qm p i s) t:=by
 refine⟨h.1,?_⟩;rcases h.2 with h2 | h2
 ·exact Or.inl h2
 ·refine Or.inr ⟨h2.1,h2.2.1,fun m hm=>?_⟩;rcases h2.2.2 m hm with h3 | h3
  ·exact Or.inl h3
  ·exact Or.inr ⟨zFX hi h3.1,h3.2⟩
theorem zEZ{p:zJ}{i:Nat}{s:zL}(hR:zv p)(hi:zBS p.n p.s i)(hs:zAN p s):zv (qm p i s):=by
 refine⟨hR.1,fun j hj=>?_,fun j hj=>?_⟩
 ·by_cases e:j=i
  ·rw[e,zEH];exact Or.inr (zLB hi.2.1 hs)
  ·rw[zEe p s e];rcases hR.2.1 j hj with h | h
   ·exact Or.inl h
   ·exact Or.inr (zLB hi.2.1 h)
 ·obtain⟨h1,h2,h3,h4⟩:=hR.2.2 j hj;refine⟨h1,h2,?_,h4⟩;have aA:(p.h j).toNat≠i:=fun e=>h3 (by rw[e];exact hi.2.1)
  show ¬qG ((qm p i s).s (p.h j).toNat);rw[zEe p s aA];exact h3
theorem zBv{p:zJ}{s:zL}(h:zAN p s):¬qG s:=fun hf=>by
 have:=hf.1;have:=h.1.1;omega
def qL(p:zJ)(xs xb:Int)(n L:Nat)(x:Int)(i:Nat):Int:=if i=plc n L then x else yk p (qq p xs xb n L) (yR p xs xb n L) i
def qK(p:zJ)(xs xb:Int)(n L:Nat)(y:Int)(i:Nat):Int:=if i=plc n L then y else zAF p (qq p xs xb n L) (yR p xs xb n L) i
noncomputable def zJJ(p:zJ)(xs xb:Int)(n:Nat)(b:Int)(o:zDj)(L:Nat):zDj:=zEz o.zRQ (qL p xs xb n L o.ps) (qK p xs xb n L o.pb) b
noncomputable def layS(p:zJ)(xs xb:Int)(n:Nat)(b:Int)(o:zDj):Nat->zDj
 | 0=>o
 | k+1=>zJJ p xs xb n b (layS p xs xb n b o k) (1 - k)
theorem zIB:qD (zDk 0)=0:=rfl
theorem zMe(p:zJ)(s:zL):qD (zCy p s).zRQ<=qD p+zAV s:=by
 unfold zCy;split
 ·split
  ·exact zJF _ _ _
  ·show qD (zDk 0)<=_;rw[zIB];omega
 ·show qD (zDk 0)<=_;rw[zIB];omega
theorem zMm(p:zJ)(f g:Nat->Int)(b:Int):qD (zEz p f g b).zRQ<=qD p+8:=by
 unfold zEz;split
 ·show qD p<=_;omega
 ·exact zMe p (qW f g b)
theorem zGQ(p:zJ)(xs xb:Int)(n:Nat)(b:Int)(o:zDj):∀k,qD (layS p xs xb n b o k).zRQ<=qD o.zRQ+8*k
 | 0=>Nat.le_refl _
 | k+1=>by
  have h1:=zGQ p xs xb n b o k;have h2:=zMm (layS p xs xb n b o k).zRQ (qL p xs xb n (1 - k) (layS p xs xb n b o k).ps) (qK p xs xb n (1 - k) (layS p xs xb n b o k).pb) b;show qD (zEz _ _ _ _).zRQ<=_;omega
theorem zN4{p:zJ}{xs xb:Int}{n M L:Nat}{o:Value}{w:World}{B:Nat}(hL:L<2)(h:yQ w B (yH p xs xb n 2 M o)):w.rangeAt B (2+L*16) (zp (zB9 p xs xb n L)).toList:=fun j v hv=>by
 have hj:j<16:=by
  have:=(List.getElem?_eq_some_iff.1 hv).1;simpa[qB]using this
 have e:(zp (zB9 p xs xb n L)).toList[j]?=some (.int .i64 (zB9 p xs xb n L j)):=by rw[Array.getElem?_toList];exact yP (zB9 p xs xb n L) hj
 rw[e]at hv;simp only[Option.some.injEq]at hv;rw[<-hv,(h (2+L*16+j) (by omega)).1];unfold yH;rw[if_neg (by omega),if_pos (by omega),show(2+L*16+j - 2) / 16=L by omega,show(2+L*16+j - 2) % 16=j by omega,if_pos (by omega)]
theorem zQC(p:zJ)(xs xb:Int)(n L:Nat)(x y:Int)(hn:n<64):zp (fun j=>if j=plc n L*2 then x else if j=plc n L*2+1 then y else zB9 p xs xb n L j)=zp (mix (qL p xs xb n L x) (qK p xs xb n L y)):=by
 refine zJk fun j hj=>?_
 unfold mix qL qK;by_cases h1:j=plc n L*2
 ·rw[if_pos h1,if_pos (by omega),if_pos (by omega)]
 rw[if_neg h1];by_cases h2:j=plc n L*2+1
 ·rw[if_pos h2,if_neg (by omega),if_pos (by omega)]
 rw[if_neg h2];unfold zB9 yk zAF zb zu;by_cases h3:j % 2=0
 ·rw[if_pos h3,if_neg (show ¬j / 2=plc n L by omega),show j / 2*2=j by omega]
 ·rw[if_neg h3,if_neg (show ¬j / 2=plc n L by omega),show j / 2*2+1=j by omega]
structure zCB where
 zRQ:zJ
 rs:Int
 rb:Int
 old:List (Int×Int)
 code:Int
def zAb(c:Int):zCB:=⟨zDk 0,0,0,[],c⟩
def zHR(t:zCB)(w:World)(e:Ending)(w':World):Prop:=
 ∃v0 v1 vo lo hi,e = .returned (.agg #[v0,v1,.int .i64 t.rs,.int .i64 t.rb,vo,.int .i64 t.code])/\w.heap.size<=lo/\hi<=w'.heap.size/\zt w' lo hi v0 v1 t.zRQ/\zw w' w.heap.size vo t.old/\(∀k,vo.ownBlock=some k->k<lo\/hi<=k)/\Below w.heap.size w w'
open Classical in
noncomputable def zAw(p:zJ)(xs xb:Int)(n:Nat)(b:Int)(o:zDj):zCB:=
 if (layS p xs xb n b o 1).code≠0 then zAb (layS p xs xb n b o 1).code
 else if (layS p xs xb n b o 2).code≠0 then zAb (layS p xs xb n b o 2).code
 else⟨(layS p xs xb n b o 2).zRQ,(layS p xs xb n b o 2).ps,(layS p xs xb n b o 2).pb,qe p xs xb n 3,0⟩
theorem zJu{p:zJ}{xs xb:Int}{n:Nat}{b:Int}{o:zDj}{k:Nat}(hk:k<2)(h:∀j,j<=k->(layS p xs xb n b o j).code=0)(hc:(layS p xs xb n b o (k+1)).code≠0):zAw p xs xb n b o=zAb (layS p xs xb n b o (k+1)).code:=by
 unfold zAw;rcases k with _ | _ | k
 ·rw[if_pos hc]
 ·rw[if_neg (fun hh=>hh (h 1 (by omega))),if_pos hc]
 ·omega
theorem zIU{p:zJ}{xs xb:Int}{n:Nat}{b:Int}{o:zDj}(h:∀j,j<=2->(layS p xs xb n b o j).code=0):zAw p xs xb n b o=⟨(layS p xs xb n b o 2).zRQ,(layS p xs xb n b o 2).ps,(layS p xs xb n b o 2).pb,qe p xs xb n 3,0⟩:=by
 unfold zAw;rw[if_neg (fun hh=>hh (h 1 (by omega))),if_neg (fun hh=>hh (h 2 (by omega)))]
theorem zOw(w:World)(a0 a1 x0 x1:Value)(f:Nat->Value)(t1 t2 t3 t4:TypeId) :
  zc ((((w.alloc (.cells #[a0,a1] t1)).alloc (.cells (zAS f) t2)).alloc (.cells #[x0,x1] t3)).alloc (.cells #[.slice none 0 0,.slice none 0 0,.int .i64 0,.int .i64 0,.slice none 0 0,.int .i64 0] t4)) w.heap.size a0 a1/\
  yQ ((((w.alloc (.cells #[a0,a1] t1)).alloc (.cells (zAS f) t2)).alloc (.cells #[x0,x1] t3)).alloc (.cells #[.slice none 0 0,.slice none 0 0,.int .i64 0,.int .i64 0,.slice none 0 0,.int .i64 0] t4)) (w.heap.size+1) f/\
  zc ((((w.alloc (.cells #[a0,a1] t1)).alloc (.cells (zAS f) t2)).alloc (.cells #[x0,x1] t3)).alloc (.cells #[.slice none 0 0,.slice none 0 0,.int .i64 0,.int .i64 0,.slice none 0 0,.int .i64 0] t4)) (w.heap.size+1+1) x0 x1/\
  zi ((((w.alloc (.cells #[a0,a1] t1)).alloc (.cells (zAS f) t2)).alloc (.cells #[x0,x1] t3)).alloc (.cells #[.slice none 0 0,.slice none 0 0,.int .i64 0,.int .i64 0,.slice none 0 0,.int .i64 0] t4)) (w.heap.size+1+1+1) (.slice none 0 0) (.slice none 0 0) (.int .i64 0) (.int .i64 0) (.slice none 0 0) (.int .i64 0)/\
  Below w.heap.size w ((((w.alloc (.cells #[a0,a1] t1)).alloc (.cells (zAS f) t2)).alloc (.cells #[x0,x1] t3)).alloc (.cells #[.slice none 0 0,.slice none 0 0,.int .i64 0,.int .i64 0,.slice none 0 0,.int .i64 0] t4))/\
  ((((w.alloc (.cells #[a0,a1] t1)).alloc (.cells (zAS f) t2)).alloc (.cells #[x0,x1] t3)).alloc (.cells #[.slice none 0 0,.slice none 0 0,.int .i64 0,.int .i64 0,.slice none 0 0,.int .i64 0] t4)).heap.size=w.heap.size+4:=by
 have b1:=zC w (.cells #[a0,a1] t1);have b2:=zC (w.alloc (.cells #[a0,a1] t1)) (.cells (zAS f) t2);have b3:=zC ((w.alloc (.cells #[a0,a1] t1)).alloc (.cells (zAS f) t2)) (.cells #[x0,x1] t3);have b4:=zC (((w.alloc (.cells #[a0,a1] t1)).alloc (.cells (zAS f) t2)).alloc (.cells #[x0,x1] t3)) (.cells #[.slice none 0 0,.slice none 0 0,.int .i64 0,.int .i64 0,.slice none 0 0,.int .i64 0] t4);refine⟨(((zc.zRL w a0 a1 t1).zRJ b2).zRJ b3).zRJ b4,?_,?_,?_,zA (zA (zA b1 b2) b3) b4,by simp⟩
 ·have hw:yQ ((w.alloc (.cells #[a0,a1] t1)).alloc (.cells (zAS f) t2)) (w.heap.size+1) f:=fun i hi=>by
   have hb:=heap_alloc_new (w.alloc (.cells #[a0,a1] t1)) (.cells (zAS f) t2);rw[World.size_alloc]at hb;refine zI (i:=i) hb ?_;simp[zAS,hi]
  exact(hw.zRJ b3).zRJ b4
 ·have:=(zc.zRL ((w.alloc (.cells #[a0,a1] t1)).alloc (.cells (zAS f) t2)) x0 x1 t3).zRJ b4;rw[World.size_alloc,World.size_alloc]at this;exact this
 ·have:=zi.zRL (((w.alloc (.cells #[a0,a1] t1)).alloc (.cells (zAS f) t2)).alloc (.cells #[x0,x1] t3)) (.slice none 0 0) (.slice none 0 0) (.int .i64 0) (.int .i64 0) (.slice none 0 0) (.int .i64 0) t4;rw[World.size_alloc,World.size_alloc,World.size_alloc]at this;exact this
def zQx(p:zJ)(xs xb:Int)(n:Nat)(S:Nat->zDj)(o:Value)(w:World)(k:Nat)(wr:World):Prop:=
 (∀j,j<=k->(S j).code=0)/\∃s0 s1,zc wr w.heap.size s0 s1/\zy wr 0 wr.heap.size s0 s1 (S k).zRQ/\(0<k->zt wr (w.heap.size+5) wr.heap.size s0 s1 (S k).zRQ)/\
  zc wr (w.heap.size+4) (.int .i64 (S k).ps) (.int .i64 (S k).pb)/\yQ wr (w.heap.size+1) (yH p xs xb n 2 3 o)/\
  zi wr (w.heap.size+1+1+1) (.slice none 0 0) (.slice none 0 0) (.int .i64 0) (.int .i64 0) (.slice none 0 0) (.int .i64 0)/\w.heap.size+5<=wr.heap.size/\Below w.heap.size w wr
theorem qA.all{w:World}{lo hi:Nat}{v:Value}{n:Nat}{f:Nat->zL}(h:qA w lo hi v n f):qA w 0 w.heap.size v n f:=by
 obtain⟨h0,a,bA,hv,aA,hc⟩:=h;refine⟨h0,a,bA,hv,aA,fun hn=>?_⟩;obtain⟨b,off,ha,h1,h2,h3⟩:=hc hn;refine⟨b,off,ha,Nat.zero_le _,?_,fun i hi=>?_⟩
 ·obtain⟨v0,v1,v2,c0,_⟩:=h3 0 hn;exact zD c0
 ·obtain⟨v0,v1,v2,c0,c1,c2,hs⟩:=h3 i hi;exact⟨v0,v1,v2,c0,c1,c2,hs.all⟩
theorem zy.all{w:World}{lo hi:Nat}{v0 v1:Value}{p:zJ}(h:zy w lo hi v0 v1 p):zy w 0 w.heap.size v0 v1 p:=⟨h.1.all,h.2.all⟩
theorem zLY(v0 v1:Value)(lo hi:Nat)(p q:zJ)(xs xb x y b:Int)(n:Nat)(o:Value)(w:World)(h1:zy w lo hi v0 v1 q)(hn:n<64)(hq:qD q+16<=1048576)(hr:zw w 0 o (qe p xs xb n 3)) :
  Calls Tryz.prog 101 #[.agg #[v0,v1],.agg (zAS (yH p xs xb n 2 3 o)),.agg #[.int .i64 x,.int .i64 y],.int .i64 b] w fun e w'=>
   ((zAw p xs xb n b ⟨q,x,y,0⟩).code≠0/\e = .returned (.agg #[.slice none 0 0,.slice none 0 0,.int .i64 0,.int .i64 0,.slice none 0 0,.int .i64 (zAw p xs xb n b ⟨q,x,y,0⟩).code])/\Below w.heap.size w w')\/
   ((zAw p xs xb n b ⟨q,x,y,0⟩).code=0/\∃s0 s1,e = .returned (.agg #[s0,s1,.int .i64 (layS p xs xb n b ⟨q,x,y,0⟩ 2).ps,.int .i64 (layS p xs xb n b ⟨q,x,y,0⟩ 2).pb,o,.int .i64 0])/\zt w' w.heap.size w'.heap.size s0 s1 (layS p xs xb n b ⟨q,x,y,0⟩ 2).zRQ/\Below w.heap.size w w'):=by
 have Hp:=zE h1;obtain⟨a,c,a',c',rfl,rfl⟩:=h1.form;have Hq:=zE hq;have Hr:=zE hr;clear h1 hq hr;have lD:=zOw w (.slice a q.n c) (.slice a' q.hn c') (.int .i64 x) (.int .i64 y) (yH p xs xb n 2 3 o) 33 159 61 64;go_enter Tryz.func101,Tryz.ntmps101;go_upto_region 1 with fail;generalize (((w.alloc (.cells #[.slice a q.n c,.slice a' q.hn c'] 33)).alloc (.cells (zAS (yH p xs xb n 2 3 o)) 159)).alloc (.cells #[.int .i64 x,.int .i64 y] 61)).alloc (.cells #[.slice none 0 0,.slice none 0 0,.int .i64 0,.int .i64 0,.slice none 0 0,.int .i64 0] 64)=W at lD ⊢;obtain⟨hB,hW,hX,hR,aD,hz⟩:=lD;have HB:=zE hB;have HW:=zE hW;have HR:=zE hR;obtain⟨⟨x0,x1⟩,⟨x2,x3⟩⟩:=hX;have fA:=zC W (.cells #[.int .i64 x,.int .i64 y] 61);have rD:=zE (show zc (W.alloc (.cells #[.int .i64 x,.int .i64 y] 61)) (w.heap.size+4) (.int .i64 x) (.int .i64 y)from hz▸zc.zRL W (.int .i64 x) (.int .i64 y) 61);clear hB hW hR;go_wp2_with fail;have iD:Hid (zQx p xs xb n (layS p xs xb n b ⟨q,x,y,0⟩) o w 0 (W.alloc (.cells #[.int .i64 x,.int .i64 y] 61))):=by
  refine⟨fun j hj=>?_,_,_,HB.out.zRJ fA,((Hp.out.zRJ aD).zRJ fA).all,fun h=>absurd h (Nat.lt_irrefl _),rD.out,HW.out.zRJ fA,HR.out.zRJ fA,by rw[World.size_alloc];omega,zA aD fA⟩;obtain rfl:j=0:=(by omega);rfl
 have fE:=zE (zGQ p xs xb n b ⟨q,x,y,0⟩);clear fA rD HB HW HR x0 x1 x2 x3 aD hz
 go_loopw [15] (fun i wr=>∃k:Nat,k<=2/\i = .int .i64 k/\zQx p xs xb n (layS p xs xb n b ⟨q,x,y,0⟩) o w k wr) (fun i _=>2 - (intOf i).toNat)
 case atStart=>exact⟨0,by omega,rfl,iD.out⟩
 case round=>
  obtain⟨k,hk,rfl,tA,s0,s1,fD,dD,gD,nD,kD,jD,rE,iC⟩:=hrel;have jA:=zE tA;have oD:=zE dD;have mD:=zE gD;have eD:=zE fD;have sC:=zE nD;have mC:=zE kD;have fC:=zE jD;obtain⟨ra,rc,kC,jC,rfl,rfl⟩:=dD.form;clear tA dD gD fD nD kD jD iD;obtain⟨⟨x0,x1⟩,⟨x2,x3⟩⟩:=eD.out;obtain⟨⟨y0,y1⟩,⟨y2,y3⟩⟩:=sC.out;by_cases dE:k<2
  ·obtain⟨L,pD⟩:∃L,L=1 - k:=⟨_,rfl⟩;have hL:L<2:=(by omega);have pE:(L:Int)<2:=(by omega);have gE:(k:Int)<2:=(by omega);have kE:(1:Int) - (k:Int)=(L:Int):=(by omega);have iE:Hid (layS p xs xb n b ⟨q,x,y,0⟩ (k+1)=zJJ p xs xb n b (layS p xs xb n b ⟨q,x,y,0⟩ k) L):=(by rw[pD];rfl);have tD:=zE (fE.out k);have bD:Hid ((Tryz.prog.info? 155).map (·.size)=some (zp (zB9 p xs xb n L)).size):=by
    show _=_;rw[qB];exact zBt
   have cE:Hid ((Tryz.prog.info? 155).map (·.size)=some (zp (zB9 p xs xb n L)).toList.length):=by
    show _=_;rw[zBt];simp[zp]
   clear pD;go_upto_region 7 with(first
    | (refine wpList_load_mid rfl 155 (.tmp 22) rfl (w.heap.size+1) (2+L*16) rfl (zp (zB9 p xs xb n L)).toList _ (zN4 hL mC.out) zHE rfl cE.out ?_)
    | (refine wpList_store_row rfl 155 (.tmp 12) (.tmp 23) rfl wr.heap.size (zp (zB9 p xs xb n L)) rfl rfl 155 #[Value.int .i64 0,Value.int .i64 0,Value.int .i64 0,Value.int .i64 0,Value.int .i64 0,Value.int .i64 0,Value.int .i64 0,Value.int .i64 0,Value.int .i64 0,Value.int .i64 0,Value.int .i64 0,Value.int .i64 0,Value.int .i64 0,Value.int .i64 0,Value.int .i64 0,Value.int .i64 0] (heap_alloc_last _ _) bD.out (by rw[qB];rfl) (zAr _) ?_;rw[World.setRow_alloc_new]))
   have fA:=zC wr (.cells (zp (zB9 p xs xb n L)) 155);have vB:Hid ((wr.alloc (.cells (zp (zB9 p xs xb n L)) 155)).heap[wr.heap.size]?=some (.cells (zp (zB9 p xs xb n L)) 155)):=heap_alloc_last _ _;have lC:Hid (wr.heap.size<(wr.alloc (.cells (zp (zB9 p xs xb n L)) 155)).heap.size):=(by show _<_;rw[World.size_alloc];omega);have iB:=zE (oD.out.zRJ fA);have dB:=zE (eD.out.zRJ fA);have sA:=zE (sC.out.zRJ fA);have pA:=zE (mC.out.zRJ fA);have kB:=zE (fC.out.zRJ fA);have rA:=zA iC fA;clear x0 x1 x2 x3 y0 y1 y2 y3 fA iC oD mD eD sC mC fC;generalize wr.alloc (.cells (zp (zB9 p xs xb n L)) 155)=wA at vB lC iB dB sA pA kB rA ⊢;have oE:=zHq (n:=n) (L:=L) hn;have mE:((plc n L:Nat):Int)<8:=(by omega);obtain⟨⟨y0,y1⟩,⟨y2,y3⟩⟩:=sA.out;obtain⟨z0,_⟩:=pA.out L (by omega);rw[zHX p xs xb n _ _ _ hL]at z0;obtain⟨c0,c1⟩:=zI (i:=plc n L*2) vB.out (yP (zB9 p xs xb n L) (by omega));obtain⟨c2,c3⟩:=zI (i:=plc n L*2+1) vB.out (yP (zB9 p xs xb n L) (by omega));have vA:Hid (∀(u v:Value) (w5:World),w5=((wA.drew.setCell ⟨wr.heap.size,plc n L*2,none⟩ u).setCell ⟨wr.heap.size,plc n L*2+1,none⟩ v)->(w5.cell? ⟨w.heap.size+1,L,none⟩=some (.int .i64 ((plc n L:Nat):Int))/\w5.cell? ⟨w.heap.size+4,0,none⟩=some (.int .i64 (layS p xs xb n b ⟨q,x,y,0⟩ k).ps)/\w5.cell? ⟨w.heap.size+4,1,none⟩=some (.int .i64 (layS p xs xb n b ⟨q,x,y,0⟩ k).pb))):=by
    intro u v w5 e5;have hT:zF (fun k=>k=wr.heap.size) wA.drew ((wA.drew.setCell ⟨wr.heap.size,plc n L*2,none⟩ u).setCell ⟨wr.heap.size,plc n L*2+1,none⟩ v):=((zF.refl (fun k=>k=wr.heap.size) wA.drew).setCell (p:=⟨wr.heap.size,plc n L*2,none⟩) rfl _).setCell (p:=⟨wr.heap.size,plc n L*2+1,none⟩) rfl _;have tC:wr.heap.size<wA.drew.heap.size:=lC.out;rw[e5,hT.cell (by omega) (by omega),hT.cell (by omega) (by omega),hT.cell (by omega) (by omega)];exact⟨z0,y0,y2⟩
   simp only[Act.put];refine wp_region_held_drew (S:=(fun w'=>w'.cell? ⟨w.heap.size+1,L,none⟩=some (.int .i64 ((plc n L:Nat):Int))/\w'.cell? ⟨w.heap.size+4,0,none⟩=some (.int .i64 (layS p xs xb n b ⟨q,x,y,0⟩ k).ps)/\w'.cell? ⟨w.heap.size+4,1,none⟩=some (.int .i64 (layS p xs xb n b ⟨q,x,y,0⟩ k).pb))) (by kernel_rfl) ?_ (fun hHeld=>?_)
   ·(try dsimp only)
    go_keep
   refine wpAnyH_take (i:=0) (oi:=({dst:=some 24,op:=Op.move (Operand.tmp 11),type:=3,pos:= "l02_tree.go:185",after:=#[],guard:=none}:Oper)) (v:=?_) rfl (by kernel_rfl) (by kernel_rfl) (by kernel_rfl) (fun _ _ _ h=>h) (Or.inl ⟨by rfl,?_⟩) (by assumption) ?_;rotate_left
   ·(intro w bA;(try dsimp only at bA);go_simp;try with_reducible rfl)
   try simp only[Act.put,List.setIfInBounds_toArray,List.set_cons_zero,List.set_cons_succ]
   refine wpAnyH_take (i:=1) (oi:=({dst:=some 25,op:=Op.fieldAddr 159 (Operand.tmp 5) 0,type:=0,pos:= "l02_tree.go:185",after:=#[],guard:=none}:Oper)) (v:=?_) rfl (by kernel_rfl) (by kernel_rfl) (by kernel_rfl) (fun _ _ _ h=>h) (Or.inl ⟨by rfl,?_⟩) (by assumption) ?_;rotate_left
   ·(intro w bA;(try dsimp only at bA);go_simp;try with_reducible rfl)
   try simp only[Act.put,List.setIfInBounds_toArray,List.set_cons_zero,List.set_cons_succ]
   refine wpAnyH_take (i:=2) (oi:=({dst:=some 26,op:=Op.indexAddr 154 (Operand.tmp 25) (Operand.tmp 24),type:=0,pos:= "l02_tree.go:185",after:=#[{on:=1,ground:=Ground.data},{on:=0,ground:=Ground.data}],guard:=none}:Oper)) (v:=?_) rfl (by kernel_rfl) (by kernel_rfl) (by kernel_rfl) (fun _ _ _ h=>h) (Or.inl ⟨by rfl,?_⟩) (by assumption) ?_;rotate_left
   ·(intro w bA;(try dsimp only at bA);go_simp;try with_reducible rfl)
   try simp only[Act.put,List.setIfInBounds_toArray,List.set_cons_zero,List.set_cons_succ]
   refine wpAnyH_take (i:=3) (oi:=({dst:=some 27,op:=Op.load 2 (Operand.tmp 26),type:=2,pos:= "l02_tree.go:185",after:=#[{on:=2,ground:=Ground.data}],guard:=none}:Oper)) (v:=?_) rfl (by kernel_rfl) (by kernel_rfl) (by kernel_rfl) (fun _ _ _ h=>h) (Or.inl ⟨by rfl,?_⟩) (by assumption) ?_;rotate_left
   ·(intro w bA;(try dsimp only at bA);go_simp;try with_reducible rfl)
   try simp only[Act.put,List.setIfInBounds_toArray,List.set_cons_zero,List.set_cons_succ]
   refine wpAnyH_take (i:=4) (oi:=({dst:=some 28,op:=Op.load 61 (Operand.tmp 9),type:=61,pos:= "l02_tree.go:185",after:=#[],guard:=none}:Oper)) (v:=?_) rfl (by kernel_rfl) (by kernel_rfl) (by kernel_rfl) (fun _ _ _ h=>h) (Or.inl ⟨by rfl,?_⟩) (by assumption) ?_;rotate_left
   ·(intro w bA;(try dsimp only at bA);go_simp;try with_reducible rfl)
   try simp only[Act.put,List.setIfInBounds_toArray,List.set_cons_zero,List.set_cons_succ]
   refine wpAnyH_take (i:=5) (oi:=({dst:=some 29,op:=Op.indexAddr 155 (Operand.tmp 12) (Operand.tmp 27),type:=0,pos:= "l02_tree.go:185",after:=#[{on:=3,ground:=Ground.data},{on:=0,ground:=Ground.phase},{on:=1,ground:=Ground.phase},{on:=2,ground:=Ground.phase},{on:=3,ground:=Ground.phase},{on:=4,ground:=Ground.phase}],guard:=none}:Oper)) (v:=?_) rfl (by kernel_rfl) (by kernel_rfl) (by kernel_rfl) (fun _ _ _ h=>h) (Or.inl ⟨by rfl,?_⟩) (by assumption) ?_;rotate_left
   ·(intro w bA;(try dsimp only at bA);go_simp;try with_reducible rfl)
   try simp only[Act.put,List.setIfInBounds_toArray,List.set_cons_zero,List.set_cons_succ]
   refine wpAnyH_ready (rs:=[6]) (by kernel_rfl) (by simp) ?_;refine AllReadyH.cons (o:=({dst:=none,op:=Op.store 61 (Operand.tmp 29) (Operand.tmp 28),type:=0,pos:= "l02_tree.go:185",after:=#[{on:=5,ground:=Ground.data},{on:=4,ground:=Ground.data},{on:=0,ground:=Ground.phase},{on:=1,ground:=Ground.phase},{on:=2,ground:=Ground.phase},{on:=3,ground:=Ground.phase},{on:=4,ground:=Ground.phase}],guard:=none}:Oper)) rfl (fun K hK=>?_) AllReadyH.nil;go_simp
   (try go_wp2_with fail)
   refine hK.out _ _ ?_ (fun aA=>?_)
   ·(try dsimp only)
    exact vA.out _ _ _ rfl
   clear hK K hHeld;have hHeld:=aA;clear aA
   try simp only[Act.put,List.setIfInBounds_toArray,List.set_cons_zero,List.set_cons_succ]
   refine wpAnyH_done (by kernel_rfl) ?_ _;have hT:zF (fun k=>k=wr.heap.size) wA ((wA.setCell ⟨wr.heap.size,plc n L*2,none⟩ (.int .i64 (layS p xs xb n b ⟨q,x,y,0⟩ k).ps)).setCell ⟨wr.heap.size,plc n L*2+1,none⟩ (.int .i64 (layS p xs xb n b ⟨q,x,y,0⟩ k).pb)).drew:=by
    have h:zF (fun k=>k=wr.heap.size) wA ((wA.setCell ⟨wr.heap.size,plc n L*2,none⟩ (.int .i64 (layS p xs xb n b ⟨q,x,y,0⟩ k).ps)).setCell ⟨wr.heap.size,plc n L*2+1,none⟩ (.int .i64 (layS p xs xb n b ⟨q,x,y,0⟩ k).pb)):=((zF.refl (fun k=>k=wr.heap.size) wA).setCell (p:=⟨wr.heap.size,plc n L*2,none⟩) rfl _).setCell (p:=⟨wr.heap.size,plc n L*2+1,none⟩) rfl _;exact⟨h.os,h.tape,h.output,h.size,h.block⟩
   have jB:Hid (((wA.setCell ⟨wr.heap.size,plc n L*2,none⟩ (.int .i64 (layS p xs xb n b ⟨q,x,y,0⟩ k).ps)).setCell ⟨wr.heap.size,plc n L*2+1,none⟩ (.int .i64 (layS p xs xb n b ⟨q,x,y,0⟩ k).pb)).drew.heap[wr.heap.size]?=some (.cells (zp (mix (qL p xs xb n L (layS p xs xb n b ⟨q,x,y,0⟩ k).ps) (qK p xs xb n L (layS p xs xb n b ⟨q,x,y,0⟩ k).pb))) 155 (0,0))):=by
    have:=zAX (o:=plc n L*2+1) (.int .i64 (layS p xs xb n b ⟨q,x,y,0⟩ k).pb) (zAX (o:=plc n L*2) (.int .i64 (layS p xs xb n b ⟨q,x,y,0⟩ k).ps) vB.out);rw[zJW _ _ oE,zQC p xs xb n L _ _ hn]at this;exact this
   have tC:=lC.out;have aB:=zE (iB.out.same (hT.same (lo:=0) (hi:=wr.heap.size) (by omega) (by intro k hk;omega)));have nA:=zE (dB.out.zRR hT (by omega));have cB:=zE (sA.out.zRR hT (by omega));have mB:=zE (pA.out.zRR hT (by omega));have bB:=zE (kB.out.zRR hT (by omega));have gB:=rA.trans (hT.zRJ (B:=w.heap.size) rA.size (by intro k hk;omega));have jE:=Nat.lt_of_lt_of_le tC hT.size;clear hT tC iB dB sA pA kB rA vB lC vA y0 y1 y2 y3 z0 c0 c1 c2 c3;generalize ((wA.setCell ⟨wr.heap.size,plc n L*2,none⟩ (.int .i64 (layS p xs xb n b ⟨q,x,y,0⟩ k).ps)).setCell ⟨wr.heap.size,plc n L*2+1,none⟩ (.int .i64 (layS p xs xb n b ⟨q,x,y,0⟩ k).pb)).drew=wB at jB aB nA cB mB bB gB jE ⊢;have aC:Hid ((Tryz.prog.info? 155).map (·.size)=some (zp (mix (qL p xs xb n L (layS p xs xb n b ⟨q,x,y,0⟩ k).ps) (qK p xs xb n L (layS p xs xb n b ⟨q,x,y,0⟩ k).pb))).size):=by
    show _=_;rw[qB];exact zBt
   obtain⟨⟨x0,x1⟩,⟨x2,x3⟩⟩:=nA.out;go_wp2_with (first
    | (refine wpList_load_row rfl 155 (.tmp 12) rfl wr.heap.size rfl 155 (zp (mix (qL p xs xb n L (layS p xs xb n b ⟨q,x,y,0⟩ k).ps) (qK p xs xb n L (layS p xs xb n b ⟨q,x,y,0⟩ k).pb))) (0,0) _ jB.out zHE rfl aC.out ?_)
    | fail)
   refine(zKy _ _ 0 wr.heap.size (layS p xs xb n b ⟨q,x,y,0⟩ k).zRQ _ _ b wB aB.out (by have h1:=tD.out;have h2:=Hq.out;have h3:qD (zDj.mk q x y 0).zRQ=qD q:=rfl;omega)).mono ?_;rintro e wC ⟨t0,t1,rfl,eC,pC⟩;have lB:Hid (layS p xs xb n b ⟨q,x,y,0⟩ (k+1)=zEz (layS p xs xb n b ⟨q,x,y,0⟩ k).zRQ (qL p xs xb n L (layS p xs xb n b ⟨q,x,y,0⟩ k).ps) (qK p xs xb n L (layS p xs xb n b ⟨q,x,y,0⟩ k).pb) b):=iE.out;generalize zEz (layS p xs xb n b ⟨q,x,y,0⟩ k).zRQ (qL p xs xb n L (layS p xs xb n b ⟨q,x,y,0⟩ k).ps) (qK p xs xb n L (layS p xs xb n b ⟨q,x,y,0⟩ k).pb) b=od at eC lB ⊢;obtain⟨ta,tc,dA,cA,rfl,rfl⟩:=eC.form;have fB:=zC wC (.cells #[.slice ta od.zRQ.n tc,.slice dA od.zRQ.hn cA,.int .i64 od.ps,.int .i64 od.pb,.int .i64 od.code] 151);have oB:=zA pC fB;have nC:=zE (eC.zRJ fB);have gC:=zE (zFQ.zRL wC (.slice ta od.zRQ.n tc) (.slice dA od.zRQ.hn cA) (.int .i64 od.ps) (.int .i64 od.pb) (.int .i64 od.code) 151);have oA:=zE (nA.out.zRJ oB);have mA:=zE (cB.out.zRJ oB);have eB:=zE (mB.out.zRJ oB);have lA:=zE (bB.out.zRJ oB);have gA:=zA gB oB;have eE:=pC.size;have pB:wC.heap.size<(wC.alloc (.cells #[.slice ta od.zRQ.n tc,.slice dA od.zRQ.hn cA,.int .i64 od.ps,.int .i64 od.pb,.int .i64 od.code] 151)).heap.size:=(by rw[World.size_alloc];omega);clear eC pC fB oB x0 x1 x2 x3 jB aB nA cB mB bB gB;go_upto_region 9 with fail;generalize wC.alloc (.cells #[.slice ta od.zRQ.n tc,.slice dA od.zRQ.hn cA,.int .i64 od.ps,.int .i64 od.pb,.int .i64 od.code] 151)=wD at nC gC oA mA eB lA gA pB ⊢;generalize wC.heap.size=T at nC gC eE pB ⊢;obtain⟨⟨t0,t1⟩,⟨t2,t3⟩,⟨t4,t5⟩,⟨t6,t7⟩,⟨t8,t9⟩⟩:=gC.out;by_cases hc:od.code=0
   ·have bE:(od.code != 0)=false:=(by simp[hc]);have Hc:=zE hc;clear hc;go_upto_region 11 with fail;obtain⟨⟨x0,x1⟩,⟨x2,x3⟩⟩:=oA.out;obtain⟨⟨y0,y1⟩,⟨y2,y3⟩⟩:=mA.out;have sE:w.heap.size≠w.heap.size+4:=(by omega);have eA:Hid (∀(u v:Value) (w5:World),w5=((wD.drew.setCell ⟨w.heap.size,0,none⟩ u).setCell ⟨w.heap.size,1,none⟩ v)->(w5.cell? ⟨T,0,none⟩=some (.slice ta od.zRQ.n tc)/\w5.cell? ⟨T,1,none⟩=some (.slice dA od.zRQ.hn cA)/\w5.cell? ⟨T,2,none⟩=some (.int .i64 od.ps)/\w5.cell? ⟨T,3,none⟩=some (.int .i64 od.pb))):=by
     intro u v w5 e5;have sD:T<wD.drew.heap.size:=pB;have h:=fun o=>(ql wD.drew w.heap.size u v).cell (b:=T) (o:=o) sD (by omega)
     rw[e5,h,h,h,h];exact⟨t0,t2,t4,t6⟩
    have kA:Hid (∀(u v u' v':Value) (w5:World),w5=((((wD.drew.setCell ⟨w.heap.size,0,none⟩ u).setCell ⟨w.heap.size,1,none⟩ v).setCell ⟨w.heap.size+4,0,none⟩ u').setCell ⟨w.heap.size+4,1,none⟩ v')->(w5.cell? ⟨T,0,none⟩=some (.slice ta od.zRQ.n tc)/\w5.cell? ⟨T,1,none⟩=some (.slice dA od.zRQ.hn cA)/\w5.cell? ⟨T,2,none⟩=some (.int .i64 od.ps)/\w5.cell? ⟨T,3,none⟩=some (.int .i64 od.pb))):=by
     intro u v u' v' w5 e5;have sD:T<wD.drew.heap.size:=pB;have h1:=fun o=>(ql ((wD.drew.setCell ⟨w.heap.size,0,none⟩ u).setCell ⟨w.heap.size,1,none⟩ v) (w.heap.size+4) u' v').cell (b:=T) (o:=o) (by simp;exact pB) (by omega)
     rw[e5,h1,h1,h1,h1];exact eA.out u v _ rfl
    refine wp_region_held_drew (S:=(fun w'=>w'.cell? ⟨T,0,none⟩=some (.slice ta od.zRQ.n tc)/\w'.cell? ⟨T,1,none⟩=some (.slice dA od.zRQ.hn cA)/\w'.cell? ⟨T,2,none⟩=some (.int .i64 od.ps)/\w'.cell? ⟨T,3,none⟩=some (.int .i64 od.pb))) (by kernel_rfl) ?_ (fun hHeld=>?_)
    ·(try dsimp only)
     go_keep
    refine wpAnyH_take (i:=0) (oi:=({dst:=some 40,op:=Op.fieldAddr 151 (Operand.tmp 13) 0,type:=0,pos:= "l02_tree.go:190",after:=#[],guard:=none}:Oper)) (v:=?_) rfl (by kernel_rfl) (by kernel_rfl) (by kernel_rfl) (fun _ _ _ h=>h) (Or.inl ⟨by rfl,?_⟩) (by assumption) ?_;rotate_left
    ·(intro w bA;(try dsimp only at bA);go_simp;try with_reducible rfl)
    try simp only[Act.put,List.setIfInBounds_toArray,List.set_cons_zero,List.set_cons_succ]
    refine wpAnyH_take (i:=2) (oi:=({dst:=some 42,op:=Op.fieldAddr 151 (Operand.tmp 13) 1,type:=0,pos:= "l02_tree.go:190",after:=#[{on:=4,ground:=Ground.gcOnly Departure.lateStores}],guard:=none}:Oper)) (v:=?_) rfl (by kernel_rfl) (by kernel_rfl) (by kernel_rfl) (fun _ _ _ h=>h) (Or.inl ⟨by rfl,?_⟩) (by assumption) ?_;rotate_left
    ·(intro w bA;(try dsimp only at bA);go_simp;try with_reducible rfl)
    try simp only[Act.put,List.setIfInBounds_toArray,List.set_cons_zero,List.set_cons_succ]
    refine wpAnyH_take (i:=1) (oi:=({dst:=some 41,op:=Op.load 33 (Operand.tmp 40),type:=33,pos:= "l02_tree.go:190",after:=#[{on:=0,ground:=Ground.data}],guard:=none}:Oper)) (v:=?_) rfl (by kernel_rfl) (by kernel_rfl) (by kernel_rfl) (fun _ _ _ h=>h) (Or.inl ⟨by rfl,?_⟩) (by assumption) ?_;rotate_left
    ·(intro w bA;(try dsimp only at bA);go_simp;try with_reducible rfl)
    try simp only[Act.put,List.setIfInBounds_toArray,List.set_cons_zero,List.set_cons_succ]
    refine wpAnyH_take (i:=3) (oi:=({dst:=some 43,op:=Op.load 61 (Operand.tmp 42),type:=61,pos:= "l02_tree.go:190",after:=#[{on:=2,ground:=Ground.data},{on:=4,ground:=Ground.gcOnly Departure.lateStores}],guard:=none}:Oper)) (v:=?_) rfl (by kernel_rfl) (by kernel_rfl) (by kernel_rfl) (fun _ _ _ h=>h) (Or.inl ⟨by rfl,?_⟩) (by assumption) ?_;rotate_left
    ·(intro w bA;(try dsimp only at bA);go_simp;try with_reducible rfl)
    try simp only[Act.put,List.setIfInBounds_toArray,List.set_cons_zero,List.set_cons_succ]
    refine wpAnyH_ready (rs:=[4]) (by kernel_rfl) (by simp) ?_;refine AllReadyH.cons (o:=({dst:=none,op:=Op.store 33 (Operand.tmp 4) (Operand.tmp 41),type:=0,pos:= "l02_tree.go:190",after:=#[{on:=1,ground:=Ground.data},{on:=0,ground:=Ground.phase},{on:=1,ground:=Ground.phase},{on:=2,ground:=Ground.textOnly Departure.lateStores},{on:=3,ground:=Ground.textOnly Departure.lateStores}],guard:=none}:Oper)) rfl (fun K hK=>?_) AllReadyH.nil;go_simp
    (try go_wp2_with fail)
    refine hK.out _ _ ?_ (fun aA=>?_)
    ·(try dsimp only)
     exact eA.out _ _ _ rfl
    clear hK K hHeld;have hHeld:=aA;clear aA
    try simp only[Act.put,List.setIfInBounds_toArray,List.set_cons_zero,List.set_cons_succ]
    refine wpAnyH_ready (rs:=[5]) (by kernel_rfl) (by simp) ?_;refine AllReadyH.cons (o:=({dst:=none,op:=Op.store 61 (Operand.tmp 9) (Operand.tmp 43),type:=0,pos:= "l02_tree.go:190",after:=#[{on:=3,ground:=Ground.data},{on:=4,ground:=Ground.chain},{on:=0,ground:=Ground.phase},{on:=1,ground:=Ground.phase},{on:=2,ground:=Ground.phase},{on:=3,ground:=Ground.phase},{on:=4,ground:=Ground.phase}],guard:=none}:Oper)) rfl (fun K hK=>?_) AllReadyH.nil;go_simp
    (try go_wp2_with fail)
    refine hK.out _ _ ?_ (fun aA=>?_)
    ·(try dsimp only)
     exact kA.out _ _ _ _ _ rfl
    clear hK K hHeld;have hHeld:=aA;clear aA
    try simp only[Act.put,List.setIfInBounds_toArray,List.set_cons_zero,List.set_cons_succ]
    refine wpAnyH_done (by kernel_rfl) ?_ _;have nB:zF (fun k=>k=w.heap.size\/k=w.heap.size+4) wD ((((wD.setCell ⟨w.heap.size,0,none⟩ (.slice ta od.zRQ.n tc)).setCell ⟨w.heap.size,1,none⟩ (.slice dA od.zRQ.hn cA)).setCell ⟨w.heap.size+4,0,none⟩ (.int .i64 od.ps)).setCell ⟨w.heap.size+4,1,none⟩ (.int .i64 od.pb)).drew:=by
     have h:=((ql wD w.heap.size (.slice ta od.zRQ.n tc) (.slice dA od.zRQ.hn cA)).mono (T:=fun k=>k=w.heap.size\/k=w.heap.size+4) (fun k hk=>Or.inl hk)).trans ((ql ((wD.setCell ⟨w.heap.size,0,none⟩ (.slice ta od.zRQ.n tc)).setCell ⟨w.heap.size,1,none⟩ (.slice dA od.zRQ.hn cA)) (w.heap.size+4) (.int .i64 od.ps) (.int .i64 od.pb)).mono (T:=fun k=>k=w.heap.size\/k=w.heap.size+4) (fun k hk=>Or.inr hk));exact⟨h.os,h.tape,h.output,h.size,h.block⟩
    have rB:Hid (zc ((((wD.setCell ⟨w.heap.size,0,none⟩ (.slice ta od.zRQ.n tc)).setCell ⟨w.heap.size,1,none⟩ (.slice dA od.zRQ.hn cA)).setCell ⟨w.heap.size+4,0,none⟩ (.int .i64 od.ps)).setCell ⟨w.heap.size+4,1,none⟩ (.int .i64 od.pb)).drew w.heap.size (.slice ta od.zRQ.n tc) (.slice dA od.zRQ.hn cA)):=by
     have rC:=ql ((wD.setCell ⟨w.heap.size,0,none⟩ (.slice ta od.zRQ.n tc)).setCell ⟨w.heap.size,1,none⟩ (.slice dA od.zRQ.hn cA)) (w.heap.size+4) (.int .i64 od.ps) (.int .i64 od.pb);have cD:=(oA.out.put (.slice ta od.zRQ.n tc) (.slice dA od.zRQ.hn cA)).zRR rC (by omega);exact cD
    have sB:Hid (zc ((((wD.setCell ⟨w.heap.size,0,none⟩ (.slice ta od.zRQ.n tc)).setCell ⟨w.heap.size,1,none⟩ (.slice dA od.zRQ.hn cA)).setCell ⟨w.heap.size+4,0,none⟩ (.int .i64 od.ps)).setCell ⟨w.heap.size+4,1,none⟩ (.int .i64 od.pb)).drew (w.heap.size+4) (.int .i64 od.ps) (.int .i64 od.pb)):=by
     have rC:=ql wD w.heap.size (.slice ta od.zRQ.n tc) (.slice dA od.zRQ.hn cA);have cD:=(mA.out.zRR rC (by omega)).put (.int .i64 od.ps) (.int .i64 od.pb);exact cD
    have oC:=zE ((nC.out.zRR nB (fun k hk=>by rcases hk with h | h<;>omega)).zRO (lo':=w.heap.size+5) (hi':=T) (by omega) (Nat.le_refl _));have cC:=zE (eB.out.zRR nB (by omega));have tB:=zE (lA.out.zRR nB (by omega));have dC:=gA.trans (nB.zRJ (B:=w.heap.size) gA.size (fun k hk=>by rcases hk with h | h<;>omega));have vD:=Nat.lt_of_lt_of_le pB nB.size;clear nB oA mA nC eB lA gA eA kA gC t0 t1 t2 t3 t4 t5 t6 t7 t8 t9 x0 x1 x2 x3 y0 y1 y2 y3;generalize ((((wD.setCell ⟨w.heap.size,0,none⟩ (.slice ta od.zRQ.n tc)).setCell ⟨w.heap.size,1,none⟩ (.slice dA od.zRQ.hn cA)).setCell ⟨w.heap.size+4,0,none⟩ (.int .i64 od.ps)).setCell ⟨w.heap.size+4,1,none⟩ (.int .i64 od.pb)).drew=wE at rB sB oC cC tB dC vD ⊢;go_wp2;go_roundw
    case rel=>
     refine⟨k+1,by omega,by go_num,fun j hj=>?_,.slice ta od.zRQ.n tc,.slice dA od.zRQ.hn cA,rB.out,?_,fun _=>?_,?_,cC.out,tB.out,by omega,dC⟩
     ·by_cases e:j=k+1
      ·rw[e,lB.out];exact Hc.out
      ·exact jA.out j (by omega)
     ·rw[lB.out];exact oC.out.at.all
     ·rw[lB.out];exact oC.out.zRO (Nat.le_refl _) (by omega)
     ·rw[lB.out];exact sB.out
    case measure=>simp[intOf];omega
   ·have bE:(od.code != 0)=true:=(by simp[hc]);have Hc:=zE hc;clear hc;obtain⟨⟨r0,r1⟩,⟨r2,r3⟩,⟨r4,r5⟩,⟨r6,r7⟩,⟨r8,r9⟩,⟨aE,nE⟩⟩:=lA.out;go_wp2;have iA:=lA.out.put (.slice none 0 0) (.slice none 0 0) (.int .i64 0) (.int .i64 0) (.slice none 0 0) (.int .i64 od.code);have bC:=zF.put6 wD (w.heap.size+1+1+1) (.slice none 0 0) (.slice none 0 0) (.int .i64 0) (.int .i64 0) (.slice none 0 0) (.int .i64 od.code);have vC:=zJu dE jA.out (by rw[lB.out];exact Hc.out);rw[lB.out]at vC;refine bodyPost_ret (v:=.agg #[.slice none 0 0,.slice none 0 0,.int .i64 0,.int .i64 0,.slice none 0 0,.int .i64 od.code]) (by simp[results,Tryz.results101,go_sem,iA.1.1,iA.2.1.1,iA.2.2.1.1,iA.2.2.2.1.1,iA.2.2.2.2.1.1,iA.2.2.2.2.2.1]) rfl (Or.inl ⟨?_,?_,?_⟩)
    ·rw[vC];exact Hc.out
    ·rw[vC];rfl
    ·exact gA.trans (bC.zRJ (B:=w.heap.size) gA.size (by intro k hk;omega))
  ·obtain rfl:k=2:=(by omega);obtain⟨oa,oc,ho,_⟩:=zW Hr.out;have Ho:=zE ho;obtain⟨lE,_⟩:=mC.out 40 (by omega);rw[zOx,ho]at lE;clear ho;obtain⟨⟨r0,r1⟩,⟨r2,r3⟩,⟨r4,r5⟩,⟨r6,r7⟩,⟨r8,r9⟩,⟨aE,nE⟩⟩:=fC.out;go_wp2;have iA:=fC.out.put (.slice ra (layS p xs xb n b ⟨q,x,y,0⟩ 2).zRQ.n rc) (.slice kC (layS p xs xb n b ⟨q,x,y,0⟩ 2).zRQ.hn jC) (.int .i64 (layS p xs xb n b ⟨q,x,y,0⟩ 2).ps) (.int .i64 (layS p xs xb n b ⟨q,x,y,0⟩ 2).pb) (.slice oa (qe p xs xb n 3).length oc) (.int .i64 0);have bC:=zF.put6 wr (w.heap.size+1+1+1) (.slice ra (layS p xs xb n b ⟨q,x,y,0⟩ 2).zRQ.n rc) (.slice kC (layS p xs xb n b ⟨q,x,y,0⟩ 2).zRQ.hn jC) (.int .i64 (layS p xs xb n b ⟨q,x,y,0⟩ 2).ps) (.int .i64 (layS p xs xb n b ⟨q,x,y,0⟩ 2).pb) (.slice oa (qe p xs xb n 3).length oc) (.int .i64 0);refine bodyPost_ret (v:=.agg #[.slice ra (layS p xs xb n b ⟨q,x,y,0⟩ 2).zRQ.n rc,.slice kC (layS p xs xb n b ⟨q,x,y,0⟩ 2).zRQ.hn jC,.int .i64 (layS p xs xb n b ⟨q,x,y,0⟩ 2).ps,.int .i64 (layS p xs xb n b ⟨q,x,y,0⟩ 2).pb,.slice oa (qe p xs xb n 3).length oc,.int .i64 0]) (by simp[results,Tryz.results101,go_sem,iA.1.1,iA.2.1.1,iA.2.2.1.1,iA.2.2.2.1.1,iA.2.2.2.2.1.1,iA.2.2.2.2.2.1]) rfl (Or.inr ⟨?_,.slice ra (layS p xs xb n b ⟨q,x,y,0⟩ 2).zRQ.n rc,.slice kC (layS p xs xb n b ⟨q,x,y,0⟩ 2).zRQ.hn jC,?_,?_,?_⟩)
   ·rw[zIU jA.out]
   ·rw[<-Ho.out]
   ·exact((mD.out (by omega)).zRR bC (by intro k hk;omega)).zRO (by omega) (by exact bC.size)
   ·exact iC.trans (bC.zRJ (B:=w.heap.size) iC.size (by intro k hk;omega))
theorem zGA(v0 v1:Value)(lo hi:Nat)(p:zJ)(xs xb:Int)(w:World)(h1:zy w lo hi v0 v1 p) :
  Calls Tryz.prog 97 #[.agg #[v0,v1],.agg #[.int .i64 xs,.int .i64 xb]] w fun e w'=>zG (yj p xs xb) e/\Below w.heap.size w w':=by
 have Hp:=zE h1;obtain⟨a,c,a',c',rfl,rfl⟩:∃a c a' c',v0 = .slice a p.n c/\v1 = .slice a' p.hn c':=by
  obtain⟨⟨_,a,c,h1,_⟩,⟨_,a',c',h3,_⟩⟩:=h1;exact⟨a,c,a',c',h1,h3⟩
 clear h1;have fA:=zBs w (.slice a p.n c) (.slice a' p.hn c') (.int .i64 xs) (.int .i64 xb) 33 61;go_enter Tryz.func97,Tryz.ntmps97;go_wp2_with fail;generalize (w.alloc (.cells #[.slice a p.n c,.slice a' p.hn c'] 33)).alloc (.cells #[.int .i64 xs,.int .i64 xb] 61)=W at fA ⊢;obtain⟨hB,hX,bA,hz⟩:=fA;refine(yy _ _ lo hi p _ (Hp.out.zRJ bA)).mono ?_;rintro e w1 ⟨⟨t,rfl,ht⟩,aA⟩;have iA:=zE (hB.zRJ aA);have jA:=zE (hX.zRJ aA);have cA:=zA bA aA;clear hB hX bA aA;by_cases hR:zv p
 ·obtain rfl:t=true:=ht.2 hR;have HR:=zE hR;clear ht hR;obtain⟨⟨x0,x1⟩,⟨x2,x3⟩⟩:=iA.out;obtain⟨⟨y0,y1⟩,⟨y2,y3⟩⟩:=jA.out;go_wp2_with fail;refine(zEx _ _ lo hi p xs xb _ (Hp.out.zRJ cA) HR.out).mono ?_;rintro e w2 ⟨⟨t2,rfl,eA⟩,dA⟩;have HT:=zE eA;have gA:=zA cA dA;clear eA dA x0 x1 x2 x3 y0 y1 y2 y3;go_wp2;go_ret;exact⟨⟨t2,rfl,HT.out.trans ((zFy HR.out).trans ⟨fun h=>⟨HR.out,h⟩,fun h=>h.2⟩)⟩,gA⟩
 ·obtain rfl:t=false:=zQ ht hR;have HR:=zE hR;clear ht hR;go_wp2;go_ret;exact⟨zG.no fun h=>HR.out h.1,cA⟩
def zDg(n:Int):Prop:=0<=n/\n<=63
theorem zEy(n:Int)(w:World):Calls Tryz.prog 80 #[.int .i64 n] w fun e w'=>zG (zDg n) e/\w'=w:=by
 by_cases h1:0<=n
 ·by_cases h2:n<=63
  ·go_enter Tryz.func80,Tryz.ntmps80;go_wp2;go_ret;exact⟨zG.yes ⟨h1,h2⟩,rfl⟩
  ·go_enter Tryz.func80,Tryz.ntmps80;go_wp2;go_ret;exact⟨zG.no fun h=>by have:=h.2;omega,rfl⟩
 ·go_enter Tryz.func80,Tryz.ntmps80;go_wp2;go_ret;exact⟨zG.no fun h=>by have:=h.1;omega,rfl⟩
theorem zEP(n:Int)(w:World):Calls Tryz.prog 99 #[.int .i64 n] w fun e w'=>zG (zDg n) e/\w'=w:=by
 by_cases h1:0<=n
 ·by_cases h2:n<64
  ·go_enter Tryz.func99,Tryz.ntmps99;go_wp2;go_ret;exact⟨zG.yes ⟨h1,by omega⟩,rfl⟩
  ·go_enter Tryz.func99,Tryz.ntmps99;go_wp2;go_ret;exact⟨zG.no fun h=>by have:=h.2;omega,rfl⟩
 ·go_enter Tryz.func99,Tryz.ntmps99;go_wp2;go_ret;exact⟨zG.no fun h=>by have:=h.1;omega,rfl⟩
end Go.Proofs.YtmgeglgboadfiaaGreatDoor
