/- What impl.wayTo answers. -/
import Derived.Test.YtmgeglgboadfiaaGreatDoorT26
set_option linter.unusedVariables false
set_option maxRecDepth 20000
set_option maxHeartbeats 4000000
namespace Go.Proofs.YtmgeglgboadfiaaGreatDoor
open Go.RowKit
theorem zNn(v:Value)(lo hi:Nat)(p:zJ)(xs xb:Int)(n:Nat)(w:World)(h1:qA w lo hi v p.n p.s)(hT:ym p xs xb)(hn:n<64) :
  Calls Tryz.prog 102 #[v,.agg #[.int .i64 xs,.int .i64 xb],.int .i64(n:Int)] w fun e w'=>∃o,e = .returned(.agg(zAT(yI p xs xb n 2 3 o)))/\zw w' w.heap.size o(qe p xs xb n 3)/\Below w.heap.size w w':=by
 have Hp:=zE h1;have HT:=zE hT;obtain⟨_,a,c,rfl,_⟩:=id h1;clear h1 hT;have nD:(n:Int)<64:=by omega
 have rD:0<=(n:Int) % 8:=by omega
 have mD:(n:Int) % 8<8:=by omega
 have mC:=zC w(.cells #[.int .i64 xs,.int .i64 xb] 61);have vB:=zC(w.alloc(.cells #[.int .i64 xs,.int .i64 xb] 61))(.cells #[.int .i64 0,.int .i64 0,.int .i64 0,.int .i64 0,.int .i64 0,.int .i64 0,.int .i64 0,.int .i64 0,.int .i64 0,.int .i64 0,.int .i64 0,.int .i64 0,.int .i64 0,.int .i64 0,.int .i64 0,.int .i64 0,.int .i64 0,.int .i64 0,.int .i64 0,.int .i64 0,.int .i64 0,.int .i64 0,.int .i64 0,.int .i64 0,.int .i64 0,.int .i64 0,.int .i64 0,.int .i64 0,.int .i64 0,.int .i64 0,.int .i64 0,.int .i64 0,.int .i64 0,.int .i64 0,.int .i64 0,.int .i64 0,.int .i64 0,.int .i64 0,.int .i64 0,.int .i64 0,.slice none 0 0] 159);have nB:=zE((zc.zRL w(.int .i64 xs)(.int .i64 xb) 61).zRJ vB);have fB:Hid(((w.alloc(.cells #[.int .i64 xs,.int .i64 xb] 61)).alloc(.cells #[.int .i64 0,.int .i64 0,.int .i64 0,.int .i64 0,.int .i64 0,.int .i64 0,.int .i64 0,.int .i64 0,.int .i64 0,.int .i64 0,.int .i64 0,.int .i64 0,.int .i64 0,.int .i64 0,.int .i64 0,.int .i64 0,.int .i64 0,.int .i64 0,.int .i64 0,.int .i64 0,.int .i64 0,.int .i64 0,.int .i64 0,.int .i64 0,.int .i64 0,.int .i64 0,.int .i64 0,.int .i64 0,.int .i64 0,.int .i64 0,.int .i64 0,.int .i64 0,.int .i64 0,.int .i64 0,.int .i64 0,.int .i64 0,.int .i64 0,.int .i64 0,.int .i64 0,.int .i64 0,.slice none 0 0] 159)).heap[w.heap.size+1]?=some(.cells zOb 159(0,0))):=by
  have:=heap_alloc_new(w.alloc(.cells #[.int .i64 xs,.int .i64 xb] 61))(.cells #[.int .i64 0,.int .i64 0,.int .i64 0,.int .i64 0,.int .i64 0,.int .i64 0,.int .i64 0,.int .i64 0,.int .i64 0,.int .i64 0,.int .i64 0,.int .i64 0,.int .i64 0,.int .i64 0,.int .i64 0,.int .i64 0,.int .i64 0,.int .i64 0,.int .i64 0,.int .i64 0,.int .i64 0,.int .i64 0,.int .i64 0,.int .i64 0,.int .i64 0,.int .i64 0,.int .i64 0,.int .i64 0,.int .i64 0,.int .i64 0,.int .i64 0,.int .i64 0,.int .i64 0,.int .i64 0,.int .i64 0,.int .i64 0,.int .i64 0,.int .i64 0,.int .i64 0,.int .i64 0,.slice none 0 0] 159);rw [World.size_alloc] at this;exact this
 have mB:=zA mC vB;have mA:((w.alloc(.cells #[.int .i64 xs,.int .i64 xb] 61)).alloc(.cells #[.int .i64 0,.int .i64 0,.int .i64 0,.int .i64 0,.int .i64 0,.int .i64 0,.int .i64 0,.int .i64 0,.int .i64 0,.int .i64 0,.int .i64 0,.int .i64 0,.int .i64 0,.int .i64 0,.int .i64 0,.int .i64 0,.int .i64 0,.int .i64 0,.int .i64 0,.int .i64 0,.int .i64 0,.int .i64 0,.int .i64 0,.int .i64 0,.int .i64 0,.int .i64 0,.int .i64 0,.int .i64 0,.int .i64 0,.int .i64 0,.int .i64 0,.int .i64 0,.int .i64 0,.int .i64 0,.int .i64 0,.int .i64 0,.int .i64 0,.int .i64 0,.int .i64 0,.int .i64 0,.slice none 0 0] 159)).heap.size=w.heap.size+2:=by rw [World.size_alloc,World.size_alloc]
 clear mC vB;go_enter Tryz.func102,Tryz.ntmps102;go_wp2;refine zKf(zRF p(.slice a p.n c) xs xb n w w.heap.size) 6 ?_ ?_ ?_
 ·rintro l a w ⟨B,X,L,_,hL,_,_,_,_,_,h | h⟩
  ·have:=h.2.1;omega
  ·have:=h.2.1;omega
 ·clear nB fB mB mA;rintro k l a' w1 ⟨B,X,L,⟨j,rfl⟩,hL,hB,hX,hXs,hb,hO,⟨rfl,hk,hW,hx⟩ | ⟨rfl,hk,o,hW,hr⟩⟩
  ·refine⟨_,rfl,?_⟩;have HW:=zE hW;have HX:=zE hx;have HO:=zE hO;have Hb:=zE hb;have Hk:=zE hk;have iD:(L:Int)<3:=(by omega);have fD:B≠X:=(by omega);obtain⟨⟨x0,x1⟩,⟨x2,x3⟩⟩:=hx;obtain⟨y0,y1⟩:=HW.out(34+L*2)(by omega);obtain⟨y2,y3⟩:=HW.out(34+L*2+1)(by omega);clear hW hO hb hk;go_upto_region 4 with fail;have lB:zF(fun k=>k=B) w1((w1.setCell ⟨B,34+L*2,none⟩(.int .i64(qq p xs xb n L))).setCell ⟨B,34+L*2+1,none⟩(.int .i64(yR p xs xb n L))):=((zF.refl(fun k=>k=B) w1).setCell(p:=⟨B,34+L*2,none⟩) rfl _).setCell(p:=⟨B,34+L*2+1,none⟩) rfl _;have bB:=zE(zQK hL HW.out);have iB:=zE(HX.out.zRR lB(by omega));have rA:=zE((lB.block _(by omega)(by omega)).trans HO.out);have jA:=zE((Hb.out.setCell(p:=⟨B,34+L*2,none⟩)(by show _<=B;omega)(.int .i64(qq p xs xb n L))).setCell(p:=⟨B,34+L*2+1,none⟩)(by show _<=B;omega)(.int .i64(yR p xs xb n L)));have eA:=Nat.lt_of_lt_of_le hXs lB.size;clear lB x0 x1 x2 x3 y0 y1 y2 y3;generalize(w1.setCell ⟨B,34+L*2,none⟩(.int .i64(qq p xs xb n L))).setCell ⟨B,34+L*2+1,none⟩(.int .i64(yR p xs xb n L))=w2 at bB iB rA jA eA ⊢;clear HW HX HO Hb hXs;obtain⟨⟨x0,x1⟩,⟨x2,x3⟩⟩:=iB.out;by_cases hN:Nil(qq p xs xb n L)(yR p xs xb n L)
   ·have HN:=zE hN;rw [hN.1] at x0;rw [hN.2] at x2;clear hN;go_wp2;go_step3;have hk:=Hk.out;exact⟨B,X,L,zDR _ rfl,hL,hB,hX,eA,jA.out,rA.out,Or.inr ⟨rfl,by omega,.slice none 0 0,zNP hL bB.out(fun _=>HN.out),by rw [zO6(fun _=>HN.out) hL];exact zw.nil _ _⟩⟩
   ·have HN:=zE hN;by_cases kD:L=2
    ·subst kD;rcases zAO hN with e0 | ⟨e0,e1⟩
     all_goals
      clear hN;go_wp2;go_step3;have hk:=Hk.out;exact⟨B,X,2,zDR _ rfl,hL,hB,hX,eA,jA.out,rA.out,Or.inr ⟨rfl,by omega,.slice none 0 0,zNP hL bB.out(fun h=>absurd h(by omega)),zw.nil _ _⟩⟩
    ·have iA:L<2:=(by omega);have oD:((L:Int) == 2)=false:=(by simp;omega);have hK:=(zQo HT.out hn iA).resolve_left hN;obtain⟨m,hm⟩:=Int.eq_ofNat_of_zero_le hK.1.2.1;have aD:m<p.n:=(by have:=hK.1.2.2.1;omega);have vC:(m:Int)<(p.n:Int):=(by omega);have eD:Hid((p.s m).kn=8):=by
      have:=hK.2;rw [hm] at this;exact this
     obtain⟨b,off,ka,kc,rfl,hsm⟩:=(Hp.out.zRJ jA.out).cells aD;have HC:=zE hsm;obtain⟨q0,q1,q2,_⟩:=hsm;have Hm:=zE hm;have jC:=zAO hN;rw [hm] at x0 jC;clear hm hK hN;have cC:Hid((Tryz.prog.info? 155).map(·.size)=some(qD(p.s m)).size):=by
      show _=_;rw [qD,qB];exact zBv
     rcases jC with e0 | ⟨e0,e1⟩
     all_goals
      go_wp2_with fail;refine(zDh _ _ _ lo hi(p.s m) _ HC.out.slot(Or.inr eD.out)).mono ?_;rintro e w3 ⟨rfl,hb3⟩;have dC:=zE(bB.out.zRJ hb3);have iC:=zE(iB.out.zRJ hb3);have nC:=zE((hb3.block _(by omega)).trans rA.out);have gC:=zE(jA.out.trans(hb3.mono jA.out.size));have tA:=Nat.lt_of_lt_of_le eA hb3.size;have oC:Hid(w3.there B(2+L*16)(qD(p.s m)).size):=by
       have:=dC.out.there(o:=2+L*16)(n:=16)(by omega);rw [<-qB(zk(p.s m))] at this;exact this
      clear hb3 x0 x1 x2 x3 q0 q1 q2 HC bB iB rA jA eA;go_upto_region 6 with(refine wpList_store_mid rfl 155(.tmp 36)(.tmp 34) rfl B(2+L*16)(qD(p.s m)) rfl rfl oC.out cC.out(zAs _) ?_);have cB:=zDu B(qD(p.s m)).toList(2+L*16) w3;have sA:Hid(yQ(w3.setCells B(2+L*16)(qD(p.s m)).toList) B(yI p xs xb n(L+1)(L+1)(.slice none 0 0))):=by
       have:=zOo iA dC.out HN.out;rw [Hm.out] at this;exact this
      have bC:=zE(iC.out.zRR cB(by omega));have pC:=zE((cB.block _(by omega)(by omega)).trans nC.out);have aC:=zE(gC.out.trans(cB.zRJ(B:=w.heap.size)(gC.out.size)(by intro k hk;omega)));have vA:=Nat.lt_of_lt_of_le tA cB.size;clear cB dC iC nC gC tA oC;generalize w3.setCells B(2+L*16)(qD(p.s m)).toList=w4 at sA bC pC aC vA ⊢;have pD:=zIb(n:=n)(L:=L) hn;have jD:((plc n L:Nat):Int)<8:=(by omega);obtain⟨⟨x0,x1⟩,⟨x2,x3⟩⟩:=bC.out;obtain⟨z0,_⟩:=sA.out L(by omega);rw [zIA p xs xb n _ _ _ iA] at z0;obtain⟨y0,_⟩:=sA.out(2+L*16+plc n L*2)(by omega);rw [zLQ p xs xb n _ _ iA(by omega),<-(zDI p xs xb n iA).1] at y0;obtain⟨y1,_⟩:=sA.out(2+L*16+plc n L*2+1)(by omega);rw [Nat.add_assoc,zLQ p xs xb n _ _ iA(by omega),<-(zDI p xs xb n iA).2,<-Nat.add_assoc] at y1;have aB:Hid(∀(u v:Value)(w5:World),w5=((w4.drew.setCell ⟨X,0,none⟩ u).setCell ⟨X,1,none⟩ v)->(w5.cell? ⟨B,L,none⟩=some(.int .i64((plc n L:Nat):Int))/\w5.cell? ⟨B,2+L*16+plc n L*2,none⟩=some(.int .i64(qq p xs xb n(L+1)))/\w5.cell? ⟨B,2+L*16+plc n L*2+1,none⟩=some(.int .i64(yR p xs xb n(L+1))))):=by
       intro u v w5 e5;have h:=fun o=>(ql w4.drew X u v).cell(b:=B)(o:=o)(by show B<w4.heap.size;omega)(by omega)
       rw [e5,h,h,h];exact⟨z0,y0,y1⟩
      have sC:(L:Int)<2:=(by omega);simp only [Act.put];refine wp_region_held_drew(S:=(fun w'=>w'.cell? ⟨B,L,none⟩=some(.int .i64((plc n L:Nat):Int))/\w'.cell? ⟨B,2+L*16+plc n L*2,none⟩=some(.int .i64(qq p xs xb n(L+1)))/\w'.cell? ⟨B,2+L*16+plc n L*2+1,none⟩=some(.int .i64(yR p xs xb n(L+1)))))(by kernel_rfl) ?_(fun hHeld=>?_)
      ·(bA dsimp only)
       go_keep
      refine wpAnyH_take(i:=0)(oi:=({dst:=some 37,op:=Op.move(Operand.tmp 9),type:=3,pos:= "l02_tree.go:165",after:=#[],guard:=none}:Oper))(v:=?_) rfl(by kernel_rfl)(by kernel_rfl)(by kernel_rfl)(fun _ _ _ h=>h)(Or.inl ⟨by rfl,?_⟩)(by assumption) ?_;rotate_left
      ·(intro w cA;(bA dsimp only at cA);go_simp;bA aA rfl)
      bA simp only [Act.put,List.setIfInBounds_toArray,List.set_cons_zero,List.set_cons_succ]
      refine wpAnyH_take(i:=1)(oi:=({dst:=some 38,op:=Op.move(Operand.tmp 9),type:=3,pos:= "l02_tree.go:165",after:=#[],guard:=none}:Oper))(v:=?_) rfl(by kernel_rfl)(by kernel_rfl)(by kernel_rfl)(fun _ _ _ h=>h)(Or.inl ⟨by rfl,?_⟩)(by assumption) ?_;rotate_left
      ·(intro w cA;(bA dsimp only at cA);go_simp;bA aA rfl)
      bA simp only [Act.put,List.setIfInBounds_toArray,List.set_cons_zero,List.set_cons_succ]
      refine wpAnyH_take(i:=2)(oi:=({dst:=some 39,op:=Op.fieldAddr 159(Operand.tmp 7) 0,type:=0,pos:= "l02_tree.go:165",after:=#[],guard:=none}:Oper))(v:=?_) rfl(by kernel_rfl)(by kernel_rfl)(by kernel_rfl)(fun _ _ _ h=>h)(Or.inl ⟨by rfl,?_⟩)(by assumption) ?_;rotate_left
      ·(intro w cA;(bA dsimp only at cA);go_simp;bA aA rfl)
      bA simp only [Act.put,List.setIfInBounds_toArray,List.set_cons_zero,List.set_cons_succ]
      refine wpAnyH_take(i:=3)(oi:=({dst:=some 40,op:=Op.indexAddr 154(Operand.tmp 39)(Operand.tmp 38),type:=0,pos:= "l02_tree.go:165",after:=#[{on:=2,ground:=Ground.data},{on:=1,ground:=Ground.data}],guard:=none}:Oper))(v:=?_) rfl(by kernel_rfl)(by kernel_rfl)(by kernel_rfl)(fun _ _ _ h=>h)(Or.inl ⟨by rfl,?_⟩)(by assumption) ?_;rotate_left
      ·(intro w cA;(bA dsimp only at cA);go_simp;bA aA rfl)
      bA simp only [Act.put,List.setIfInBounds_toArray,List.set_cons_zero,List.set_cons_succ]
      refine wpAnyH_take(i:=4)(oi:=({dst:=some 41,op:=Op.load 2(Operand.tmp 40),type:=2,pos:= "l02_tree.go:165",after:=#[{on:=3,ground:=Ground.data}],guard:=none}:Oper))(v:=?_) rfl(by kernel_rfl)(by kernel_rfl)(by kernel_rfl)(fun _ _ _ h=>h)(Or.inl ⟨by rfl,?_⟩)(by assumption) ?_;rotate_left
      ·(intro w cA;(bA dsimp only at cA);go_simp;bA aA rfl)
      bA simp only [Act.put,List.setIfInBounds_toArray,List.set_cons_zero,List.set_cons_succ]
      refine wpAnyH_take(i:=5)(oi:=({dst:=some 42,op:=Op.fieldAddr 159(Operand.tmp 7) 1,type:=0,pos:= "l02_tree.go:165",after:=#[],guard:=none}:Oper))(v:=?_) rfl(by kernel_rfl)(by kernel_rfl)(by kernel_rfl)(fun _ _ _ h=>h)(Or.inl ⟨by rfl,?_⟩)(by assumption) ?_;rotate_left
      ·(intro w cA;(bA dsimp only at cA);go_simp;bA aA rfl)
      bA simp only [Act.put,List.setIfInBounds_toArray,List.set_cons_zero,List.set_cons_succ]
      refine wpAnyH_take(i:=6)(oi:=({dst:=some 43,op:=Op.indexAddr 156(Operand.tmp 42)(Operand.tmp 37),type:=0,pos:= "l02_tree.go:165",after:=#[{on:=5,ground:=Ground.data},{on:=0,ground:=Ground.data}],guard:=none}:Oper))(v:=?_) rfl(by kernel_rfl)(by kernel_rfl)(by kernel_rfl)(fun _ _ _ h=>h)(Or.inl ⟨by rfl,?_⟩)(by assumption) ?_;rotate_left
      ·(intro w cA;(bA dsimp only at cA);go_simp;bA aA rfl)
      bA simp only [Act.put,List.setIfInBounds_toArray,List.set_cons_zero,List.set_cons_succ]
      refine wpAnyH_take(i:=7)(oi:=({dst:=some 44,op:=Op.indexAddr 155(Operand.tmp 43)(Operand.tmp 41),type:=0,pos:= "l02_tree.go:165",after:=#[{on:=6,ground:=Ground.data},{on:=4,ground:=Ground.data}],guard:=none}:Oper))(v:=?_) rfl(by kernel_rfl)(by kernel_rfl)(by kernel_rfl)(fun _ _ _ h=>h)(Or.inl ⟨by rfl,?_⟩)(by assumption) ?_;rotate_left
      ·(intro w cA;(bA dsimp only at cA);go_simp;bA aA rfl)
      bA simp only [Act.put,List.setIfInBounds_toArray,List.set_cons_zero,List.set_cons_succ]
      refine wpAnyH_take(i:=8)(oi:=({dst:=some 45,op:=Op.load 61(Operand.tmp 44),type:=61,pos:= "l02_tree.go:165",after:=#[{on:=7,ground:=Ground.data}],guard:=none}:Oper))(v:=?_) rfl(by kernel_rfl)(by kernel_rfl)(by kernel_rfl)(fun _ _ _ h=>h)(Or.inl ⟨by rfl,?_⟩)(by assumption) ?_;rotate_left
      ·(intro w cA;(bA dsimp only at cA);go_simp;bA aA rfl)
      bA simp only [Act.put,List.setIfInBounds_toArray,List.set_cons_zero,List.set_cons_succ]
      refine wpAnyH_ready(rs:=[9])(by kernel_rfl)(by simp) ?_;refine AllReadyH.cons(o:=({dst:=none,op:=Op.store 61(Operand.tmp 8)(Operand.tmp 45),type:=0,pos:= "l02_tree.go:165",after:=#[{on:=8,ground:=Ground.data},{on:=0,ground:=Ground.phase},{on:=1,ground:=Ground.phase},{on:=2,ground:=Ground.phase},{on:=3,ground:=Ground.phase},{on:=4,ground:=Ground.phase},{on:=5,ground:=Ground.phase},{on:=6,ground:=Ground.phase},{on:=7,ground:=Ground.phase},{on:=8,ground:=Ground.phase}],guard:=none}:Oper)) rfl(fun K hK=>?_) AllReadyH.nil;go_simp
      (bA go_wp2_with fail)
      refine hK.out _ _ ?_(fun dA=>?_)
      ·(bA dsimp only)
       exact aB.out _ _ _ rfl
      clear hK K hHeld;have hHeld:=dA;clear dA
      bA simp only [Act.put,List.setIfInBounds_toArray,List.set_cons_zero,List.set_cons_succ]
      refine wpAnyH_done(by kernel_rfl) ?_ _;go_wp2;go_step3;have hk:=Hk.out;have gB:zF(fun k=>k=X) w4((w4.setCell ⟨X,0,none⟩(.int .i64(qq p xs xb n(L+1)))).setCell ⟨X,1,none⟩(.int .i64(yR p xs xb n(L+1)))).drew:=by
       have h:=ql w4 X(.int .i64(qq p xs xb n(L+1)))(.int .i64(yR p xs xb n(L+1)));exact⟨h.os,h.tape,h.output,h.size,h.block⟩
      exact⟨B,X,L+1,zDR _ rfl,by omega,hB,hX,Nat.lt_of_lt_of_le vA gB.size,aC.out.trans(gB.zRJ(B:=w.heap.size) aC.out.size(by intro k hk;omega)),(gB.block _(by omega)(by omega)).trans pC.out,Or.inl ⟨rfl,by omega,sA.out.zRR gB(by omega),bC.out.put _ _⟩⟩
  ·refine⟨_,rfl,?_⟩;have HW:=zE hW;have HO:=zE hO;have Hb:=zE hb;have Hk:=zE hk;have HR:=zE hr;have iD:(L:Int)<3:=(by omega);have fD:B≠X:=(by omega);obtain⟨y0,_⟩:=HW.out(34+L*2)(by omega);rw [(zL0 p xs xb n 2 o hL).1] at y0;obtain⟨y1,_⟩:=HW.out(34+L*2+1)(by omega);rw [(zL0 p xs xb n 2 o hL).2] at y1;clear hW hO hb hk hr;obtain⟨wd,hwd⟩:=Option.map_eq_some_iff.1 zOf;have HU:=zE hwd;clear hwd;by_cases hN:Nil(qq p xs xb n L)(yR p xs xb n L)
   ·have HN:=zE hN;rw [hN.1] at y0;rw [hN.2] at y1;clear hN;have fA:Hid(zw w1(X+1) o(qe p xs xb n(2 - L+1))):=by
     have:=HR.out;rw [zLj p xs xb n hL];unfold one;rw [if_pos HN.out,List.append_nil];exact this
    have kA:=HW;have gA:=HO;have nA:=Hb;have jB:=hXs;clear HW HO Hb HR hXs;by_cases eC:L=0
    ·subst eC;go_wp2_with(first
      |(refine wpList_load_mid rfl 159(.tmp 7) rfl B 0 rfl((List.range 41).map(yI p xs xb n 2 3 o)) wd kA.out.range HU.out.1 HU.out.2(zLY _) ?_)
      |(refine wpList_store_row rfl 159(.tmp 6)(.tmp 67) rfl(w.heap.size+1)(zAT(yI p xs xb n 2 3 o)) rfl rfl 159 zOb gA.out(zDF _)(by rw [zEg];rfl)(zIC _ _ _ _ _ _ fA.out.one) ?_)
      |fail)
     unfold hop;dsimp only;refine bodyPost_ret(v:=.agg(zAT(yI p xs xb n 2 3 o)))(results_cell_row(P:=Tryz.prog)(ty:=159) Tryz.results102 _ _(w.heap.size+1) 159(zAT(yI p xs xb n 2 3 o))(0,0) _ rfl(setRow_heap _ _ _ _ _ _ gA.out) HU.out.1(by have:=HU.out.2;cases wd<;>exact this)(zDF _)) rfl ⟨o,rfl,?_,?_⟩
     ·exact(fA.out.setRow(by omega) _).mono(by omega)
     ·exact below_setRow nA.out(by omega) _
    ·obtain⟨M,rfl⟩:∃M,L=M+1:=⟨L - 1,by omega⟩;have hM:(0:Int)<(M:Int)+1:=(by omega);go_wp2;go_step3;have hk:=Hk.out;exact⟨B,X,M,zDR _ rfl,by omega,hB,hX,jB,nA.out,gA.out,Or.inr ⟨rfl,by omega,o,kA.out,by
      have:=fA.out;rw [show 2 - (M+1)+1=2 - M by omega] at this;exact this⟩⟩
   ·have HN:=zE hN;obtain⟨oa,oc,rfl,_⟩:=zW HR.out;have rB:w1.cell? ⟨B,40,none⟩=some(.slice oa(qe p xs xb n(2 - L)).length oc):=(HW.out 40(by omega)).1;rcases zAO hN with e0 | ⟨e0,e1⟩
    all_goals
     clear hN;go_upto_region 9 with fail;have fC:Below w1.heap.size w1(w1.alloc(.cells #[.int .i64(qq p xs xb n L),.int .i64(yR p xs xb n L)] 61)):=zC _ _;have oB:(w1.alloc(.cells #[.int .i64(qq p xs xb n L),.int .i64(yR p xs xb n L)] 61)).cell? ⟨B,40,none⟩=some(.slice oa(qe p xs xb n(2 - L)).length oc):=((HW.out.zRJ fC) 40(by omega)).1;have dB:Hid(Below w1.heap.size w1(w1.alloc(.cells #[.int .i64(qq p xs xb n L),.int .i64(yR p xs xb n L)] 61)).drew):=fC.drew;clear fC;have rC:Hid(zw(w1.alloc(.cells #[.int .i64(qq p xs xb n L),.int .i64(yR p xs xb n L)] 61)).drew w1.heap.size(.slice(some ⟨w1.heap.size,0,none⟩) 1 1) [(qq p xs xb n L,yR p xs xb n L)]):=World.ownsRow_lit(e:=61)(size:=2) w1 #[.int .i64(qq p xs xb n L),.int .i64(yR p xs xb n L)] 1(Nat.le_refl _)(by unfold maxLen;omega) rfl
     go_region_law(refine zNo rfl(.tmp 55)(.tmp 60) rfl(X+1) w1.heap.size(.slice oa(qe p xs xb n(2 - L)).length oc)(qe p xs xb n(2 - L))(by simp [Act.eval])(HR.out.zRJ dB.out)(some ⟨w1.heap.size,0,none⟩) 1 1 [(qq p xs xb n L,yR p xs xb n L)](by simp [Act.eval]) rfl rC.out(by have:=zMv p xs xb n(2 - L);simp;omega)(by have:=dB.out.size;omega) ?_;intro v3 w3 sB oA;obtain⟨va,vc,rfl,_⟩:=zW sB;have pB:zF(fun k=>X<k) w1 w3:=(zF.zRM dB.out).trans ⟨oA.os,oA.tape,oA.output,oA.size,fun k hk gD=>oA.block k hk(fun e=>gD(by have:=(HR.out.lt e.symm).1;omega))⟩;obtain⟨k0,k0f⟩:=(HW.out.zRR pB(by omega)) 40(by omega);have tB:=zE pB;have kC:=zE sB;clear pB sB oA)
     all_goals
      have pA:(qe p xs xb n(2 - L) ++ [(qq p xs xb n L,yR p xs xb n L)]).length=(qe p xs xb n(2 - L)).length+1:=(by simp);have eB:zF(fun k=>X<k\/k=B) w1(w3.setCell ⟨B,40,none⟩(.slice va((qe p xs xb n(2 - L)).length+1) vc)):=zF.setCell(S:=fun k=>X<k\/k=B)(tB.out.mono(fun k hk=>Or.inl hk))(p:=⟨B,40,none⟩)(Or.inr rfl) _;have kA:=zE(zQQ(.slice va((qe p xs xb n(2 - L)).length+1) vc)(HW.out.zRR tB.out(by omega)));have fA:Hid(zw(w3.setCell ⟨B,40,none⟩(.slice va((qe p xs xb n(2 - L)).length+1) vc))(X+1)(.slice va((qe p xs xb n(2 - L)).length+1) vc)(qe p xs xb n(2 - L+1))):=by
       have:=kC.out.put(b:=B)(o:=40)(by omega)(.slice va((qe p xs xb n(2 - L)).length+1) vc);rw [pA] at this;rw [zLj p xs xb n hL];unfold one;rw [if_neg HN.out];exact this
      have gA:=zE((eB.block _(by omega)(by omega)).trans HO.out);have nA:=zE(Hb.out.trans(eB.zRJ(B:=w.heap.size) Hb.out.size(by intro k hk;omega)));have jB:=Nat.lt_of_lt_of_le hXs eB.size;clear eB kC tB dB rC oB rB HW HO Hb HR hXs k0 k0f pA y0 y1;generalize w3.setCell ⟨B,40,none⟩(.slice va((qe p xs xb n(2 - L)).length+1) vc)=w4 at kA fA gA nA jB ⊢;generalize Value.slice va((qe p xs xb n(2 - L)).length+1) vc=oq at kA fA ⊢;by_cases eC:L=0
      ·subst eC;go_wp2_with(first
        |(refine wpList_load_mid rfl 159(.tmp 7) rfl B 0 rfl((List.range 41).map(yI p xs xb n 2 3 oq)) wd kA.out.range HU.out.1 HU.out.2(zLY _) ?_)
        |(refine wpList_store_row rfl 159(.tmp 6)(.tmp 67) rfl(w.heap.size+1)(zAT(yI p xs xb n 2 3 oq)) rfl rfl 159 zOb gA.out(zDF _)(by rw [zEg];rfl)(zIC _ _ _ _ _ _ fA.out.one) ?_)
        |fail)
       unfold hop;dsimp only;refine bodyPost_ret(v:=.agg(zAT(yI p xs xb n 2 3 oq)))(results_cell_row(P:=Tryz.prog)(ty:=159) Tryz.results102 _ _(w.heap.size+1) 159(zAT(yI p xs xb n 2 3 oq))(0,0) _ rfl(setRow_heap _ _ _ _ _ _ gA.out) HU.out.1(by have:=HU.out.2;cases wd<;>exact this)(zDF _)) rfl ⟨oq,rfl,?_,?_⟩
       ·exact(fA.out.setRow(by omega) _).mono(by omega)
       ·exact below_setRow nA.out(by omega) _
      ·obtain⟨M,rfl⟩:∃M,L=M+1:=⟨L - 1,by omega⟩;have hM:(0:Int)<(M:Int)+1:=(by omega);go_wp2;go_step3;have hk:=Hk.out;exact⟨B,X,M,zDR _ rfl,by omega,hB,hX,jB,nA.out,gA.out,Or.inr ⟨rfl,by omega,oq,kA.out,by
        have:=fA.out;rw [show 2 - (M+1)+1=2 - M by omega] at this;exact this⟩⟩
 ·intro enter;go_upto_region 1 with fail;generalize(w.alloc(.cells #[.int .i64 xs,.int .i64 xb] 61)).alloc(.cells #[.int .i64 0,.int .i64 0,.int .i64 0,.int .i64 0,.int .i64 0,.int .i64 0,.int .i64 0,.int .i64 0,.int .i64 0,.int .i64 0,.int .i64 0,.int .i64 0,.int .i64 0,.int .i64 0,.int .i64 0,.int .i64 0,.int .i64 0,.int .i64 0,.int .i64 0,.int .i64 0,.int .i64 0,.int .i64 0,.int .i64 0,.int .i64 0,.int .i64 0,.int .i64 0,.int .i64 0,.int .i64 0,.int .i64 0,.int .i64 0,.int .i64 0,.int .i64 0,.int .i64 0,.int .i64 0,.int .i64 0,.int .i64 0,.int .i64 0,.int .i64 0,.int .i64 0,.int .i64 0,.slice none 0 0] 159)=W at nB fB mB mA ⊢;have kB:=zC W(.cells(zHj n) 159);have lD:=zE(nB.out.zRJ kB);have bD:=zE(zP8 W n);have tC:=zE((kB.block _(by omega)).trans fB.out);have dD:=zA mB kB;have lC:(W.alloc(.cells(zHj n) 159)).heap.size=w.heap.size+3:=(by rw [World.size_alloc,mA]);obtain⟨⟨x0,x1⟩,⟨x2,x3⟩⟩:=lD.out;have cD:=zE mA;clear kB nB fB mB mA;go_wp2_with(first
   |(refine wpList_store_row rfl 159(.tmp 7)(.tmp 15) rfl W.heap.size(zHj n) rfl rfl 159 zOb(heap_alloc_last _ _)(zPu n) rfl(zPa n) ?_;rw [World.setRow_alloc_new])
   |fail)
  go_step3
  rename_i K hK
  refine hK _ _(enter 0 _ _ _ rfl ?_);clear hK;have mA:=cD.out;have lA:=zC(W.alloc(.cells(zHj n) 159))(.cells #[.int .i64 xs,.int .i64 xb] 61);refine⟨W.heap.size,w.heap.size+3,0,zDR _ rfl,by omega,by omega,by omega,by rw [World.size_alloc,lC];omega,zA dD lA,?_,Or.inl ⟨rfl,by omega,?_,?_⟩⟩
  ·exact(lA.block _(by omega)).trans tC.out
  ·exact(bD.out.zRJ lA).congr fun i hi=>zPX p xs xb n hi
  ·have:=zc.zRL(W.alloc(.cells(zHj n) 159))(.int .i64 xs)(.int .i64 xb) 61;rw [lC] at this;exact this
theorem zEB(p:zJ)(i:Nat)(s:zL):(qm p i s).s i=s:=if_pos rfl
theorem zEm(p:zJ){i j:Nat}(s:zL)(h:j≠i):(qm p i s).s j=p.s j:=if_neg h
theorem zFN{p:zJ}{i:Nat}{s:zL}{xs xb:Int}(hi:qG(p.s i))(h:zr p xs xb):zr(qm p i s) xs xb:=by
 obtain⟨h1,h2,h3,h4⟩:=h;refine⟨h1,h2,h3,?_⟩;have aA:xs.toNat≠i:=fun e=>by
  rw [e] at h4;have:=hi.1;omega
 rw [zEm p s aA];exact h4
theorem zK2{p:zJ}{i:Nat}{s t:zL}(hi:qG(p.s i))(h:zAN p t):zAN(qm p i s) t:=by
 refine⟨h.1,?_⟩;rcases h.2 with h2 | h2
 ·exact Or.inl h2
 ·refine Or.inr ⟨h2.1,h2.2.1,fun m hm=>?_⟩;rcases h2.2.2 m hm with h3 | h3
  ·exact Or.inl h3
  ·exact Or.inr ⟨zFN hi h3.1,h3.2⟩
theorem zEd{p:zJ}{i:Nat}{s:zL}(hR:zv p)(hi:zBZ p.n p.s i)(hs:zAN p s):zv(qm p i s):=by
 refine⟨hR.1,fun j hj=>?_,fun j hj=>?_⟩
 ·by_cases e:j=i
  ·rw [e,zEB];exact Or.inr(zK2 hi.2.1 hs)
  ·rw [zEm p s e];rcases hR.2.1 j hj with h | h
   ·exact Or.inl h
   ·exact Or.inr(zK2 hi.2.1 h)
 ·obtain⟨h1,h2,h3,h4⟩:=hR.2.2 j hj;refine⟨h1,h2,?_,h4⟩;have aA:(p.h j).toNat≠i:=fun e=>h3(by rw [e];exact hi.2.1)
  show ¬qG((qm p i s).s(p.h j).toNat);rw [zEm p s aA];exact h3
theorem zBq{p:zJ}{s:zL}(h:zAN p s):¬qG s:=fun hf=>by
 have:=hf.1;have:=h.1.1;omega
def qK(p:zJ)(xs xb:Int)(n L:Nat)(x:Int)(i:Nat):Int:=if i=plc n L then x else yn p(qq p xs xb n L)(yR p xs xb n L) i
def qL(p:zJ)(xs xb:Int)(n L:Nat)(y:Int)(i:Nat):Int:=if i=plc n L then y else zAF p(qq p xs xb n L)(yR p xs xb n L) i
noncomputable def zJJ(p:zJ)(xs xb:Int)(n:Nat)(b:Int)(o:zDe)(L:Nat):zDe:=zEz o.zRQ(qK p xs xb n L o.ps)(qL p xs xb n L o.pb) b
noncomputable def layS(p:zJ)(xs xb:Int)(n:Nat)(b:Int)(o:zDe):Nat->zDe
 |0=>o
 |k+1=>zJJ p xs xb n b(layS p xs xb n b o k)(1 - k)
theorem zHc:qE(zDi 0)=0:=rfl
theorem zMs(p:zJ)(s:zL):qE(zCt p s).zRQ<=qE p+zAY s:=by
 unfold zCt;split
 ·split
  ·exact zJh _ _ _
  ·show qE(zDi 0)<=_;rw [zHc];omega
 ·show qE(zDi 0)<=_;rw [zHc];omega
theorem zM3(p:zJ)(f g:Nat->Int)(b:Int):qE(zEz p f g b).zRQ<=qE p+8:=by
 unfold zEz;split
 ·show qE p<=_;omega
 ·exact zMs p(qY f g b)
theorem zGY(p:zJ)(xs xb:Int)(n:Nat)(b:Int)(o:zDe):∀k,qE(layS p xs xb n b o k).zRQ<=qE o.zRQ+8*k
 |0=>Nat.le_refl _
 |k+1=>by
  have h1:=zGY p xs xb n b o k;have h2:=zM3(layS p xs xb n b o k).zRQ(qK p xs xb n(1 - k)(layS p xs xb n b o k).ps)(qL p xs xb n(1 - k)(layS p xs xb n b o k).pb) b;show qE(zEz _ _ _ _).zRQ<=_;omega
theorem zOL{p:zJ}{xs xb:Int}{n M L:Nat}{o:Value}{w:World}{B:Nat}(hL:L<2)(h:yQ w B(yI p xs xb n 2 M o)):w.rangeAt B(2+L*16)(zp(zB8 p xs xb n L)).toList:=fun j v hv=>by
 have hj:j<16:=by
  have:=(List.getElem?_eq_some_iff.1 hv).1;simpa [qB] using this
 have e:(zp(zB8 p xs xb n L)).toList[j]?=some(.int .i64(zB8 p xs xb n L j)):=by rw [Array.getElem?_toList];exact yO(zB8 p xs xb n L) hj
 rw [e] at hv;simp only [Option.some.injEq] at hv;rw [<-hv,(h(2+L*16+j)(by omega)).1];unfold yI;rw [if_neg(by omega),if_pos(by omega),show(2+L*16+j - 2) / 16=L by omega,show(2+L*16+j - 2) % 16=j by omega,if_pos(by omega)]
theorem zP5(p:zJ)(xs xb:Int)(n L:Nat)(x y:Int)(hn:n<64):zp(fun j=>if j=plc n L*2 then x else if j=plc n L*2+1 then y else zB8 p xs xb n L j)=zp(mix(qK p xs xb n L x)(qL p xs xb n L y)):=by
 refine zJI fun j hj=>?_
 unfold mix qK qL;by_cases h1:j=plc n L*2
 ·rw [if_pos h1,if_pos(by omega),if_pos(by omega)]
 rw [if_neg h1];by_cases h2:j=plc n L*2+1
 ·rw [if_pos h2,if_neg(by omega),if_pos(by omega)]
 rw [if_neg h2];unfold zB8 yn zAF zb zu;by_cases h3:j % 2=0
 ·rw [if_pos h3,if_neg(show ¬j / 2=plc n L by omega),show j / 2*2=j by omega]
 ·rw [if_neg h3,if_neg(show ¬j / 2=plc n L by omega),show j / 2*2+1=j by omega]
structure zCB where
 zRQ:zJ
 rs:Int
 rb:Int
 old:List(Int×Int)
 code:Int
def zAb(c:Int):zCB:=⟨zDi 0,0,0,[],c⟩
def zHK(t:zCB)(w:World)(e:Ending)(w':World):Prop:=
 ∃v0 v1 vo lo hi,e = .returned(.agg #[v0,v1,.int .i64 t.rs,.int .i64 t.rb,vo,.int .i64 t.code])/\w.heap.size<=lo/\hi<=w'.heap.size/\zt w' lo hi v0 v1 t.zRQ/\zw w' w.heap.size vo t.old/\(∀k,vo.ownBlock=some k->k<lo\/hi<=k)/\Below w.heap.size w w'
open Classical in
noncomputable def zAw(p:zJ)(xs xb:Int)(n:Nat)(b:Int)(o:zDe):zCB:=
 if(layS p xs xb n b o 1).code≠0 then zAb(layS p xs xb n b o 1).code
 else if(layS p xs xb n b o 2).code≠0 then zAb(layS p xs xb n b o 2).code
 else⟨(layS p xs xb n b o 2).zRQ,(layS p xs xb n b o 2).ps,(layS p xs xb n b o 2).pb,qe p xs xb n 3,0⟩
theorem zKn{p:zJ}{xs xb:Int}{n:Nat}{b:Int}{o:zDe}{k:Nat}(hk:k<2)(h:∀j,j<=k->(layS p xs xb n b o j).code=0)(hc:(layS p xs xb n b o(k+1)).code≠0):zAw p xs xb n b o=zAb(layS p xs xb n b o(k+1)).code:=by
 unfold zAw;rcases k with _ | _ | k
 ·rw [if_pos hc]
 ·rw [if_neg(fun hh=>hh(h 1(by omega))),if_pos hc]
 ·omega
theorem zHk{p:zJ}{xs xb:Int}{n:Nat}{b:Int}{o:zDe}(h:∀j,j<=2->(layS p xs xb n b o j).code=0):zAw p xs xb n b o=⟨(layS p xs xb n b o 2).zRQ,(layS p xs xb n b o 2).ps,(layS p xs xb n b o 2).pb,qe p xs xb n 3,0⟩:=by
 unfold zAw;rw [if_neg(fun hh=>hh(h 1(by omega))),if_neg(fun hh=>hh(h 2(by omega)))]
end Go.Proofs.YtmgeglgboadfiaaGreatDoor
