/- What impl.layAnew answers. -/
import Derived.Test.YtmgeglgboadfiaaGreatDoorT27
set_option linter.unusedVariables false
set_option maxRecDepth 20000
set_option maxHeartbeats 4000000
namespace Go.Proofs.YtmgeglgboadfiaaGreatDoor
open Go.RowKit
theorem zPR(w:World)(a0 a1 x0 x1:Value)(f:Nat->Value)(t1 t2 t3 t4:TypeId) :
  zc((((w.alloc(.cells #[a0,a1] t1)).alloc(.cells(zAT f) t2)).alloc(.cells #[x0,x1] t3)).alloc(.cells #[.slice none 0 0,.slice none 0 0,.int .i64 0,.int .i64 0,.slice none 0 0,.int .i64 0] t4)) w.heap.size a0 a1/\
  yQ((((w.alloc(.cells #[a0,a1] t1)).alloc(.cells(zAT f) t2)).alloc(.cells #[x0,x1] t3)).alloc(.cells #[.slice none 0 0,.slice none 0 0,.int .i64 0,.int .i64 0,.slice none 0 0,.int .i64 0] t4))(w.heap.size+1) f/\
  zc((((w.alloc(.cells #[a0,a1] t1)).alloc(.cells(zAT f) t2)).alloc(.cells #[x0,x1] t3)).alloc(.cells #[.slice none 0 0,.slice none 0 0,.int .i64 0,.int .i64 0,.slice none 0 0,.int .i64 0] t4))(w.heap.size+1+1) x0 x1/\
  zi((((w.alloc(.cells #[a0,a1] t1)).alloc(.cells(zAT f) t2)).alloc(.cells #[x0,x1] t3)).alloc(.cells #[.slice none 0 0,.slice none 0 0,.int .i64 0,.int .i64 0,.slice none 0 0,.int .i64 0] t4))(w.heap.size+1+1+1)(.slice none 0 0)(.slice none 0 0)(.int .i64 0)(.int .i64 0)(.slice none 0 0)(.int .i64 0)/\
  Below w.heap.size w((((w.alloc(.cells #[a0,a1] t1)).alloc(.cells(zAT f) t2)).alloc(.cells #[x0,x1] t3)).alloc(.cells #[.slice none 0 0,.slice none 0 0,.int .i64 0,.int .i64 0,.slice none 0 0,.int .i64 0] t4))/\
  ((((w.alloc(.cells #[a0,a1] t1)).alloc(.cells(zAT f) t2)).alloc(.cells #[x0,x1] t3)).alloc(.cells #[.slice none 0 0,.slice none 0 0,.int .i64 0,.int .i64 0,.slice none 0 0,.int .i64 0] t4)).heap.size=w.heap.size+4:=by
 have b1:=zC w(.cells #[a0,a1] t1);have b2:=zC(w.alloc(.cells #[a0,a1] t1))(.cells(zAT f) t2);have b3:=zC((w.alloc(.cells #[a0,a1] t1)).alloc(.cells(zAT f) t2))(.cells #[x0,x1] t3);have b4:=zC(((w.alloc(.cells #[a0,a1] t1)).alloc(.cells(zAT f) t2)).alloc(.cells #[x0,x1] t3))(.cells #[.slice none 0 0,.slice none 0 0,.int .i64 0,.int .i64 0,.slice none 0 0,.int .i64 0] t4);refine⟨(((zc.zRL w a0 a1 t1).zRJ b2).zRJ b3).zRJ b4,?_,?_,?_,zA(zA(zA b1 b2) b3) b4,by simp⟩
 ·have hw:yQ((w.alloc(.cells #[a0,a1] t1)).alloc(.cells(zAT f) t2))(w.heap.size+1) f:=fun i hi=>by
   have hb:=heap_alloc_new(w.alloc(.cells #[a0,a1] t1))(.cells(zAT f) t2);rw [World.size_alloc] at hb;refine zI(i:=i) hb ?_;simp [zAT,hi]
  exact(hw.zRJ b3).zRJ b4
 ·have:=(zc.zRL((w.alloc(.cells #[a0,a1] t1)).alloc(.cells(zAT f) t2)) x0 x1 t3).zRJ b4;rw [World.size_alloc,World.size_alloc] at this;exact this
 ·have:=zi.zRL(((w.alloc(.cells #[a0,a1] t1)).alloc(.cells(zAT f) t2)).alloc(.cells #[x0,x1] t3))(.slice none 0 0)(.slice none 0 0)(.int .i64 0)(.int .i64 0)(.slice none 0 0)(.int .i64 0) t4;rw [World.size_alloc,World.size_alloc,World.size_alloc] at this;exact this
def zRA(p:zJ)(xs xb:Int)(n:Nat)(S:Nat->zDe)(o:Value)(w:World)(k:Nat)(wr:World):Prop:=
 (∀j,j<=k->(S j).code=0)/\∃s0 s1,zc wr w.heap.size s0 s1/\zy wr 0 wr.heap.size s0 s1(S k).zRQ/\(0<k->zt wr(w.heap.size+5) wr.heap.size s0 s1(S k).zRQ)/\
  zc wr(w.heap.size+4)(.int .i64(S k).ps)(.int .i64(S k).pb)/\yQ wr(w.heap.size+1)(yI p xs xb n 2 3 o)/\
  zi wr(w.heap.size+1+1+1)(.slice none 0 0)(.slice none 0 0)(.int .i64 0)(.int .i64 0)(.slice none 0 0)(.int .i64 0)/\w.heap.size+5<=wr.heap.size/\Below w.heap.size w wr
theorem qA.all{w:World}{lo hi:Nat}{v:Value}{n:Nat}{f:Nat->zL}(h:qA w lo hi v n f):qA w 0 w.heap.size v n f:=by
 obtain⟨h0,a,cap,hv,hcc,hc⟩:=h;refine⟨h0,a,cap,hv,hcc,fun hn=>?_⟩;obtain⟨b,off,ha,h1,h2,h3⟩:=hc hn;refine⟨b,off,ha,Nat.zero_le _,?_,fun i hi=>?_⟩
 ·obtain⟨v0,v1,v2,c0,_⟩:=h3 0 hn;exact zD c0
 ·obtain⟨v0,v1,v2,c0,c1,c2,hs⟩:=h3 i hi;exact⟨v0,v1,v2,c0,c1,c2,hs.all⟩
theorem zy.all{w:World}{lo hi:Nat}{v0 v1:Value}{p:zJ}(h:zy w lo hi v0 v1 p):zy w 0 w.heap.size v0 v1 p:=⟨h.1.all,h.2.all⟩
theorem zLJ(v0 v1:Value)(lo hi:Nat)(p q:zJ)(xs xb x y b:Int)(n:Nat)(o:Value)(w:World)(h1:zy w lo hi v0 v1 q)(hn:n<64)(hq:qE q+16<=1048576)(hr:zw w 0 o(qe p xs xb n 3)) :
  Calls Tryz.prog 101 #[.agg #[v0,v1],.agg(zAT(yI p xs xb n 2 3 o)),.agg #[.int .i64 x,.int .i64 y],.int .i64 b] w fun e w'=>
   ((zAw p xs xb n b ⟨q,x,y,0⟩).code≠0/\e = .returned(.agg #[.slice none 0 0,.slice none 0 0,.int .i64 0,.int .i64 0,.slice none 0 0,.int .i64(zAw p xs xb n b ⟨q,x,y,0⟩).code])/\Below w.heap.size w w')\/
   ((zAw p xs xb n b ⟨q,x,y,0⟩).code=0/\∃s0 s1,e = .returned(.agg #[s0,s1,.int .i64(layS p xs xb n b ⟨q,x,y,0⟩ 2).ps,.int .i64(layS p xs xb n b ⟨q,x,y,0⟩ 2).pb,o,.int .i64 0])/\zt w' w.heap.size w'.heap.size s0 s1(layS p xs xb n b ⟨q,x,y,0⟩ 2).zRQ/\Below w.heap.size w w'):=by
 have Hp:=zE h1;obtain⟨a,c,a',c',rfl,rfl⟩:=h1.form;have Hq:=zE hq;have Hr:=zE hr;clear h1 hq hr;have bD:=zPR w(.slice a q.n c)(.slice a' q.hn c')(.int .i64 x)(.int .i64 y)(yI p xs xb n 2 3 o) 33 159 61 64;go_enter Tryz.func101,Tryz.ntmps101;go_upto_region 1 with fail;generalize(((w.alloc(.cells #[.slice a q.n c,.slice a' q.hn c'] 33)).alloc(.cells(zAT(yI p xs xb n 2 3 o)) 159)).alloc(.cells #[.int .i64 x,.int .i64 y] 61)).alloc(.cells #[.slice none 0 0,.slice none 0 0,.int .i64 0,.int .i64 0,.slice none 0 0,.int .i64 0] 64)=W at bD ⊢;obtain⟨hB,hW,hX,hR,hba,hz⟩:=bD;have HB:=zE hB;have HW:=zE hW;have HR:=zE hR;obtain⟨⟨x0,x1⟩,⟨x2,x3⟩⟩:=hX;have fA:=zC W(.cells #[.int .i64 x,.int .i64 y] 61);have sC:=zE(show zc(W.alloc(.cells #[.int .i64 x,.int .i64 y] 61))(w.heap.size+4)(.int .i64 x)(.int .i64 y)from hz▸zc.zRL W(.int .i64 x)(.int .i64 y) 61);clear hB hW hR;go_wp2_with fail;have tC:Hid(zRA p xs xb n(layS p xs xb n b ⟨q,x,y,0⟩) o w 0(W.alloc(.cells #[.int .i64 x,.int .i64 y] 61))):=by
  refine⟨fun j hj=>?_,_,_,HB.out.zRJ fA,((Hp.out.zRJ hba).zRJ fA).all,fun h=>absurd h(Nat.lt_irrefl _),sC.out,HW.out.zRJ fA,HR.out.zRJ fA,by rw [World.size_alloc];omega,zA hba fA⟩;obtain rfl:j=0:=(by omega);rfl
 have eD:=zE(zGY p xs xb n b ⟨q,x,y,0⟩);clear fA sC HB HW HR x0 x1 x2 x3 hba hz
 go_loopw [15](fun i wr=>∃k:Nat,k<=2/\i = .int .i64 k/\zRA p xs xb n(layS p xs xb n b ⟨q,x,y,0⟩) o w k wr)(fun i _=>2 - (intOf i).toNat)
 case atStart=>exact⟨0,by omega,rfl,tC.out⟩
 case round=>
  obtain⟨k,hk,rfl,hcode,s0,s1,hBx,hPl,hPo,hPx,hWy,hRs,hzr,hbr⟩:=hrel;have kA:=zE hcode;have cD:=zE hPl;have aD:=zE hPo;have lC:=zE hBx;have kC:=zE hPx;have eC:=zE hWy;have iC:=zE hRs;obtain⟨ra,rc,ra',rc',rfl,rfl⟩:=hPl.form;clear hcode hPl hPo hBx hPx hWy hRs tC;obtain⟨⟨x0,x1⟩,⟨x2,x3⟩⟩:=lC.out;obtain⟨⟨y0,y1⟩,⟨y2,y3⟩⟩:=kC.out;by_cases iD:k<2
  ·obtain⟨L,hLk⟩:∃L,L=1 - k:=⟨_,rfl⟩;have hL:L<2:=(by omega);have tD:(L:Int)<2:=(by omega);have sD:(k:Int)<2:=(by omega);have rD:(1:Int) - (k:Int)=(L:Int):=(by omega);have gD:Hid(layS p xs xb n b ⟨q,x,y,0⟩(k+1)=zJJ p xs xb n b(layS p xs xb n b ⟨q,x,y,0⟩ k) L):=(by rw [hLk];rfl);have fD:=zE(eD.out k);have mC:Hid((Tryz.prog.info? 155).map(·.size)=some(zp(zB8 p xs xb n L)).size):=by
    show _=_;rw [qB];exact zBv
   have nD:Hid((Tryz.prog.info? 155).map(·.size)=some(zp(zB8 p xs xb n L)).toList.length):=by
    show _=_;rw [zBv];simp [zp]
   clear hLk;go_upto_region 7 with(first
    |(refine wpList_load_mid rfl 155(.tmp 22) rfl(w.heap.size+1)(2+L*16) rfl(zp(zB8 p xs xb n L)).toList _(zOL hL eC.out) zG9 rfl nD.out ?_)
    |(refine wpList_store_row rfl 155(.tmp 12)(.tmp 23) rfl wr.heap.size(zp(zB8 p xs xb n L)) rfl rfl 155 #[Value.int .i64 0,Value.int .i64 0,Value.int .i64 0,Value.int .i64 0,Value.int .i64 0,Value.int .i64 0,Value.int .i64 0,Value.int .i64 0,Value.int .i64 0,Value.int .i64 0,Value.int .i64 0,Value.int .i64 0,Value.int .i64 0,Value.int .i64 0,Value.int .i64 0,Value.int .i64 0](heap_alloc_last _ _) mC.out(by rw [qB];rfl)(zAs _) ?_;rw [World.setRow_alloc_new]))
   have fA:=zC wr(.cells(zp(zB8 p xs xb n L)) 155);have sB:Hid((wr.alloc(.cells(zp(zB8 p xs xb n L)) 155)).heap[wr.heap.size]?=some(.cells(zp(zB8 p xs xb n L)) 155)):=heap_alloc_last _ _;have gC:Hid(wr.heap.size<(wr.alloc(.cells(zp(zB8 p xs xb n L)) 155)).heap.size):=(by show _<_;rw [World.size_alloc];omega);have vA:=zE(cD.out.zRJ fA);have cB:=zE(lC.out.zRJ fA);have rA:=zE(kC.out.zRJ fA);have sA:=zE(eC.out.zRJ fA);have aB:=zE(iC.out.zRJ fA);have pA:=zA hbr fA;clear x0 x1 x2 x3 y0 y1 y2 y3 fA hbr cD aD lC kC eC iC;generalize wr.alloc(.cells(zp(zB8 p xs xb n L)) 155)=wA at sB gC vA cB rA sA aB pA ⊢;have pD:=zIb(n:=n)(L:=L) hn;have oD:((plc n L:Nat):Int)<8:=(by omega);obtain⟨⟨y0,y1⟩,⟨y2,y3⟩⟩:=rA.out;obtain⟨z0,_⟩:=sA.out L(by omega);rw [zIA p xs xb n _ _ _ hL] at z0;obtain⟨c0,c1⟩:=zI(i:=plc n L*2) sB.out(yO(zB8 p xs xb n L)(by omega));obtain⟨c2,c3⟩:=zI(i:=plc n L*2+1) sB.out(yO(zB8 p xs xb n L)(by omega));have tA:Hid(∀(u v:Value)(w5:World),w5=((wA.drew.setCell ⟨wr.heap.size,plc n L*2,none⟩ u).setCell ⟨wr.heap.size,plc n L*2+1,none⟩ v)->(w5.cell? ⟨w.heap.size+1,L,none⟩=some(.int .i64((plc n L:Nat):Int))/\w5.cell? ⟨w.heap.size+4,0,none⟩=some(.int .i64(layS p xs xb n b ⟨q,x,y,0⟩ k).ps)/\w5.cell? ⟨w.heap.size+4,1,none⟩=some(.int .i64(layS p xs xb n b ⟨q,x,y,0⟩ k).pb))):=by
    intro u v w5 e5;have hT:zF(fun k=>k=wr.heap.size) wA.drew((wA.drew.setCell ⟨wr.heap.size,plc n L*2,none⟩ u).setCell ⟨wr.heap.size,plc n L*2+1,none⟩ v):=((zF.refl(fun k=>k=wr.heap.size) wA.drew).setCell(p:=⟨wr.heap.size,plc n L*2,none⟩) rfl _).setCell(p:=⟨wr.heap.size,plc n L*2+1,none⟩) rfl _;have rC:wr.heap.size<wA.drew.heap.size:=gC.out;rw [e5,hT.cell(by omega)(by omega),hT.cell(by omega)(by omega),hT.cell(by omega)(by omega)];exact⟨z0,y0,y2⟩
   simp only [Act.put];refine wp_region_held_drew(S:=(fun w'=>w'.cell? ⟨w.heap.size+1,L,none⟩=some(.int .i64((plc n L:Nat):Int))/\w'.cell? ⟨w.heap.size+4,0,none⟩=some(.int .i64(layS p xs xb n b ⟨q,x,y,0⟩ k).ps)/\w'.cell? ⟨w.heap.size+4,1,none⟩=some(.int .i64(layS p xs xb n b ⟨q,x,y,0⟩ k).pb)))(by kernel_rfl) ?_(fun hHeld=>?_)
   ·(bA dsimp only)
    go_keep
   refine wpAnyH_take(i:=0)(oi:=({dst:=some 24,op:=Op.move(Operand.tmp 11),type:=3,pos:= "l02_tree.go:185",after:=#[],guard:=none}:Oper))(v:=?_) rfl(by kernel_rfl)(by kernel_rfl)(by kernel_rfl)(fun _ _ _ h=>h)(Or.inl ⟨by rfl,?_⟩)(by assumption) ?_;rotate_left
   ·(intro w dA;(bA dsimp only at dA);go_simp;bA aA rfl)
   bA simp only [Act.put,List.setIfInBounds_toArray,List.set_cons_zero,List.set_cons_succ]
   refine wpAnyH_take(i:=1)(oi:=({dst:=some 25,op:=Op.fieldAddr 159(Operand.tmp 5) 0,type:=0,pos:= "l02_tree.go:185",after:=#[],guard:=none}:Oper))(v:=?_) rfl(by kernel_rfl)(by kernel_rfl)(by kernel_rfl)(fun _ _ _ h=>h)(Or.inl ⟨by rfl,?_⟩)(by assumption) ?_;rotate_left
   ·(intro w dA;(bA dsimp only at dA);go_simp;bA aA rfl)
   bA simp only [Act.put,List.setIfInBounds_toArray,List.set_cons_zero,List.set_cons_succ]
   refine wpAnyH_take(i:=2)(oi:=({dst:=some 26,op:=Op.indexAddr 154(Operand.tmp 25)(Operand.tmp 24),type:=0,pos:= "l02_tree.go:185",after:=#[{on:=1,ground:=Ground.data},{on:=0,ground:=Ground.data}],guard:=none}:Oper))(v:=?_) rfl(by kernel_rfl)(by kernel_rfl)(by kernel_rfl)(fun _ _ _ h=>h)(Or.inl ⟨by rfl,?_⟩)(by assumption) ?_;rotate_left
   ·(intro w dA;(bA dsimp only at dA);go_simp;bA aA rfl)
   bA simp only [Act.put,List.setIfInBounds_toArray,List.set_cons_zero,List.set_cons_succ]
   refine wpAnyH_take(i:=3)(oi:=({dst:=some 27,op:=Op.load 2(Operand.tmp 26),type:=2,pos:= "l02_tree.go:185",after:=#[{on:=2,ground:=Ground.data}],guard:=none}:Oper))(v:=?_) rfl(by kernel_rfl)(by kernel_rfl)(by kernel_rfl)(fun _ _ _ h=>h)(Or.inl ⟨by rfl,?_⟩)(by assumption) ?_;rotate_left
   ·(intro w dA;(bA dsimp only at dA);go_simp;bA aA rfl)
   bA simp only [Act.put,List.setIfInBounds_toArray,List.set_cons_zero,List.set_cons_succ]
   refine wpAnyH_take(i:=4)(oi:=({dst:=some 28,op:=Op.load 61(Operand.tmp 9),type:=61,pos:= "l02_tree.go:185",after:=#[],guard:=none}:Oper))(v:=?_) rfl(by kernel_rfl)(by kernel_rfl)(by kernel_rfl)(fun _ _ _ h=>h)(Or.inl ⟨by rfl,?_⟩)(by assumption) ?_;rotate_left
   ·(intro w dA;(bA dsimp only at dA);go_simp;bA aA rfl)
   bA simp only [Act.put,List.setIfInBounds_toArray,List.set_cons_zero,List.set_cons_succ]
   refine wpAnyH_take(i:=5)(oi:=({dst:=some 29,op:=Op.indexAddr 155(Operand.tmp 12)(Operand.tmp 27),type:=0,pos:= "l02_tree.go:185",after:=#[{on:=3,ground:=Ground.data},{on:=0,ground:=Ground.phase},{on:=1,ground:=Ground.phase},{on:=2,ground:=Ground.phase},{on:=3,ground:=Ground.phase},{on:=4,ground:=Ground.phase}],guard:=none}:Oper))(v:=?_) rfl(by kernel_rfl)(by kernel_rfl)(by kernel_rfl)(fun _ _ _ h=>h)(Or.inl ⟨by rfl,?_⟩)(by assumption) ?_;rotate_left
   ·(intro w dA;(bA dsimp only at dA);go_simp;bA aA rfl)
   bA simp only [Act.put,List.setIfInBounds_toArray,List.set_cons_zero,List.set_cons_succ]
   refine wpAnyH_ready(rs:=[6])(by kernel_rfl)(by simp) ?_;refine AllReadyH.cons(o:=({dst:=none,op:=Op.store 61(Operand.tmp 29)(Operand.tmp 28),type:=0,pos:= "l02_tree.go:185",after:=#[{on:=5,ground:=Ground.data},{on:=4,ground:=Ground.data},{on:=0,ground:=Ground.phase},{on:=1,ground:=Ground.phase},{on:=2,ground:=Ground.phase},{on:=3,ground:=Ground.phase},{on:=4,ground:=Ground.phase}],guard:=none}:Oper)) rfl(fun K hK=>?_) AllReadyH.nil;go_simp
   (bA go_wp2_with fail)
   refine hK.out _ _ ?_(fun cA=>?_)
   ·(bA dsimp only)
    exact tA.out _ _ _ rfl
   clear hK K hHeld;have hHeld:=cA;clear cA
   bA simp only [Act.put,List.setIfInBounds_toArray,List.set_cons_zero,List.set_cons_succ]
   refine wpAnyH_done(by kernel_rfl) ?_ _;have hT:zF(fun k=>k=wr.heap.size) wA((wA.setCell ⟨wr.heap.size,plc n L*2,none⟩(.int .i64(layS p xs xb n b ⟨q,x,y,0⟩ k).ps)).setCell ⟨wr.heap.size,plc n L*2+1,none⟩(.int .i64(layS p xs xb n b ⟨q,x,y,0⟩ k).pb)).drew:=by
    have h:zF(fun k=>k=wr.heap.size) wA((wA.setCell ⟨wr.heap.size,plc n L*2,none⟩(.int .i64(layS p xs xb n b ⟨q,x,y,0⟩ k).ps)).setCell ⟨wr.heap.size,plc n L*2+1,none⟩(.int .i64(layS p xs xb n b ⟨q,x,y,0⟩ k).pb)):=((zF.refl(fun k=>k=wr.heap.size) wA).setCell(p:=⟨wr.heap.size,plc n L*2,none⟩) rfl _).setCell(p:=⟨wr.heap.size,plc n L*2+1,none⟩) rfl _;exact⟨h.os,h.tape,h.output,h.size,h.block⟩
   have bB:Hid(((wA.setCell ⟨wr.heap.size,plc n L*2,none⟩(.int .i64(layS p xs xb n b ⟨q,x,y,0⟩ k).ps)).setCell ⟨wr.heap.size,plc n L*2+1,none⟩(.int .i64(layS p xs xb n b ⟨q,x,y,0⟩ k).pb)).drew.heap[wr.heap.size]?=some(.cells(zp(mix(qK p xs xb n L(layS p xs xb n b ⟨q,x,y,0⟩ k).ps)(qL p xs xb n L(layS p xs xb n b ⟨q,x,y,0⟩ k).pb))) 155(0,0))):=by
    have:=zAU(o:=plc n L*2+1)(.int .i64(layS p xs xb n b ⟨q,x,y,0⟩ k).pb)(zAU(o:=plc n L*2)(.int .i64(layS p xs xb n b ⟨q,x,y,0⟩ k).ps) sB.out);rw [zJT _ _ pD,zP5 p xs xb n L _ _ hn] at this;exact this
   have rC:=gC.out;have iB:=zE(vA.out.same(hT.same(lo:=0)(hi:=wr.heap.size)(by omega)(by intro k hk;omega)));have mA:=zE(cB.out.zRR hT(by omega));have lB:=zE(rA.out.zRR hT(by omega));have dB:=zE(sA.out.zRR hT(by omega));have eB:=zE(aB.out.zRR hT(by omega));have gB:=pA.trans(hT.zRJ(B:=w.heap.size) pA.size(by intro k hk;omega));have lD:=Nat.lt_of_lt_of_le rC hT.size;clear hT rC vA cB rA sA aB pA sB gC tA y0 y1 y2 y3 z0 c0 c1 c2 c3;generalize((wA.setCell ⟨wr.heap.size,plc n L*2,none⟩(.int .i64(layS p xs xb n b ⟨q,x,y,0⟩ k).ps)).setCell ⟨wr.heap.size,plc n L*2+1,none⟩(.int .i64(layS p xs xb n b ⟨q,x,y,0⟩ k).pb)).drew=wB at bB iB mA lB dB eB gB lD ⊢;have rB:Hid((Tryz.prog.info? 155).map(·.size)=some(zp(mix(qK p xs xb n L(layS p xs xb n b ⟨q,x,y,0⟩ k).ps)(qL p xs xb n L(layS p xs xb n b ⟨q,x,y,0⟩ k).pb))).size):=by
    show _=_;rw [qB];exact zBv
   obtain⟨⟨x0,x1⟩,⟨x2,x3⟩⟩:=mA.out;go_wp2_with(first
    |(refine wpList_load_row rfl 155(.tmp 12) rfl wr.heap.size rfl 155(zp(mix(qK p xs xb n L(layS p xs xb n b ⟨q,x,y,0⟩ k).ps)(qL p xs xb n L(layS p xs xb n b ⟨q,x,y,0⟩ k).pb)))(0,0) _ bB.out zG9 rfl rB.out ?_)
    |fail)
   refine(zKo _ _ 0 wr.heap.size(layS p xs xb n b ⟨q,x,y,0⟩ k).zRQ _ _ b wB iB.out(by have h1:=fD.out;have h2:=Hq.out;have h3:qE(zDe.mk q x y 0).zRQ=qE q:=rfl;omega)).mono ?_;rintro e wC ⟨t0,t1,rfl,hoC,hbC⟩;have jB:Hid(layS p xs xb n b ⟨q,x,y,0⟩(k+1)=zEz(layS p xs xb n b ⟨q,x,y,0⟩ k).zRQ(qK p xs xb n L(layS p xs xb n b ⟨q,x,y,0⟩ k).ps)(qL p xs xb n L(layS p xs xb n b ⟨q,x,y,0⟩ k).pb) b):=gD.out;generalize zEz(layS p xs xb n b ⟨q,x,y,0⟩ k).zRQ(qK p xs xb n L(layS p xs xb n b ⟨q,x,y,0⟩ k).ps)(qL p xs xb n L(layS p xs xb n b ⟨q,x,y,0⟩ k).pb) b=od at hoC jB ⊢;obtain⟨ta,tc,ta',tc',rfl,rfl⟩:=hoC.form;have fB:=zC wC(.cells #[.slice ta od.zRQ.n tc,.slice ta' od.zRQ.hn tc',.int .i64 od.ps,.int .i64 od.pb,.int .i64 od.code] 151);have nB:=zA hbC fB;have dC:=zE(hoC.zRJ fB);have fC:=zE(zFG.zRL wC(.slice ta od.zRQ.n tc)(.slice ta' od.zRQ.hn tc')(.int .i64 od.ps)(.int .i64 od.pb)(.int .i64 od.code) 151);have oA:=zE(mA.out.zRJ nB);have nA:=zE(lB.out.zRJ nB);have kB:=zE(dB.out.zRJ nB);have lA:=zE(eB.out.zRJ nB);have iA:=zA gB nB;have dD:=hbC.size;have oB:wC.heap.size<(wC.alloc(.cells #[.slice ta od.zRQ.n tc,.slice ta' od.zRQ.hn tc',.int .i64 od.ps,.int .i64 od.pb,.int .i64 od.code] 151)).heap.size:=(by rw [World.size_alloc];omega);clear hoC hbC fB nB x0 x1 x2 x3 bB iB mA lB dB eB gB;go_upto_region 9 with fail;generalize wC.alloc(.cells #[.slice ta od.zRQ.n tc,.slice ta' od.zRQ.hn tc',.int .i64 od.ps,.int .i64 od.pb,.int .i64 od.code] 151)=wD at dC fC oA nA kB lA iA oB ⊢;generalize wC.heap.size=T at dC fC dD oB ⊢;obtain⟨⟨t0,t1⟩,⟨t2,t3⟩,⟨t4,t5⟩,⟨t6,t7⟩,⟨t8,t9⟩⟩:=fC.out;by_cases hc:od.code=0
   ·have kD:(od.code != 0)=false:=(by simp [hc]);have Hc:=zE hc;clear hc;go_upto_region 11 with fail;obtain⟨⟨x0,x1⟩,⟨x2,x3⟩⟩:=oA.out;obtain⟨⟨y0,y1⟩,⟨y2,y3⟩⟩:=nA.out;have vD:w.heap.size≠w.heap.size+4:=(by omega);have eA:Hid(∀(u v:Value)(w5:World),w5=((wD.drew.setCell ⟨w.heap.size,0,none⟩ u).setCell ⟨w.heap.size,1,none⟩ v)->(w5.cell? ⟨T,0,none⟩=some(.slice ta od.zRQ.n tc)/\w5.cell? ⟨T,1,none⟩=some(.slice ta' od.zRQ.hn tc')/\w5.cell? ⟨T,2,none⟩=some(.int .i64 od.ps)/\w5.cell? ⟨T,3,none⟩=some(.int .i64 od.pb))):=by
     intro u v w5 e5;have vC:T<wD.drew.heap.size:=oB;have h:=fun o=>(ql wD.drew w.heap.size u v).cell(b:=T)(o:=o) vC(by omega)
     rw [e5,h,h,h,h];exact⟨t0,t2,t4,t6⟩
    have jA:Hid(∀(u v u' v':Value)(w5:World),w5=((((wD.drew.setCell ⟨w.heap.size,0,none⟩ u).setCell ⟨w.heap.size,1,none⟩ v).setCell ⟨w.heap.size+4,0,none⟩ u').setCell ⟨w.heap.size+4,1,none⟩ v')->(w5.cell? ⟨T,0,none⟩=some(.slice ta od.zRQ.n tc)/\w5.cell? ⟨T,1,none⟩=some(.slice ta' od.zRQ.hn tc')/\w5.cell? ⟨T,2,none⟩=some(.int .i64 od.ps)/\w5.cell? ⟨T,3,none⟩=some(.int .i64 od.pb))):=by
     intro u v u' v' w5 e5;have vC:T<wD.drew.heap.size:=oB;have h1:=fun o=>(ql((wD.drew.setCell ⟨w.heap.size,0,none⟩ u).setCell ⟨w.heap.size,1,none⟩ v)(w.heap.size+4) u' v').cell(b:=T)(o:=o)(by simp;exact oB)(by omega)
     rw [e5,h1,h1,h1,h1];exact eA.out u v _ rfl
    refine wp_region_held_drew(S:=(fun w'=>w'.cell? ⟨T,0,none⟩=some(.slice ta od.zRQ.n tc)/\w'.cell? ⟨T,1,none⟩=some(.slice ta' od.zRQ.hn tc')/\w'.cell? ⟨T,2,none⟩=some(.int .i64 od.ps)/\w'.cell? ⟨T,3,none⟩=some(.int .i64 od.pb)))(by kernel_rfl) ?_(fun hHeld=>?_)
    ·(bA dsimp only)
     go_keep
    refine wpAnyH_take(i:=0)(oi:=({dst:=some 40,op:=Op.fieldAddr 151(Operand.tmp 13) 0,type:=0,pos:= "l02_tree.go:190",after:=#[],guard:=none}:Oper))(v:=?_) rfl(by kernel_rfl)(by kernel_rfl)(by kernel_rfl)(fun _ _ _ h=>h)(Or.inl ⟨by rfl,?_⟩)(by assumption) ?_;rotate_left
    ·(intro w dA;(bA dsimp only at dA);go_simp;bA aA rfl)
    bA simp only [Act.put,List.setIfInBounds_toArray,List.set_cons_zero,List.set_cons_succ]
    refine wpAnyH_take(i:=2)(oi:=({dst:=some 42,op:=Op.fieldAddr 151(Operand.tmp 13) 1,type:=0,pos:= "l02_tree.go:190",after:=#[{on:=4,ground:=Ground.gcOnly Departure.lateStores}],guard:=none}:Oper))(v:=?_) rfl(by kernel_rfl)(by kernel_rfl)(by kernel_rfl)(fun _ _ _ h=>h)(Or.inl ⟨by rfl,?_⟩)(by assumption) ?_;rotate_left
    ·(intro w dA;(bA dsimp only at dA);go_simp;bA aA rfl)
    bA simp only [Act.put,List.setIfInBounds_toArray,List.set_cons_zero,List.set_cons_succ]
    refine wpAnyH_take(i:=1)(oi:=({dst:=some 41,op:=Op.load 33(Operand.tmp 40),type:=33,pos:= "l02_tree.go:190",after:=#[{on:=0,ground:=Ground.data}],guard:=none}:Oper))(v:=?_) rfl(by kernel_rfl)(by kernel_rfl)(by kernel_rfl)(fun _ _ _ h=>h)(Or.inl ⟨by rfl,?_⟩)(by assumption) ?_;rotate_left
    ·(intro w dA;(bA dsimp only at dA);go_simp;bA aA rfl)
    bA simp only [Act.put,List.setIfInBounds_toArray,List.set_cons_zero,List.set_cons_succ]
    refine wpAnyH_take(i:=3)(oi:=({dst:=some 43,op:=Op.load 61(Operand.tmp 42),type:=61,pos:= "l02_tree.go:190",after:=#[{on:=2,ground:=Ground.data},{on:=4,ground:=Ground.gcOnly Departure.lateStores}],guard:=none}:Oper))(v:=?_) rfl(by kernel_rfl)(by kernel_rfl)(by kernel_rfl)(fun _ _ _ h=>h)(Or.inl ⟨by rfl,?_⟩)(by assumption) ?_;rotate_left
    ·(intro w dA;(bA dsimp only at dA);go_simp;bA aA rfl)
    bA simp only [Act.put,List.setIfInBounds_toArray,List.set_cons_zero,List.set_cons_succ]
    refine wpAnyH_ready(rs:=[4])(by kernel_rfl)(by simp) ?_;refine AllReadyH.cons(o:=({dst:=none,op:=Op.store 33(Operand.tmp 4)(Operand.tmp 41),type:=0,pos:= "l02_tree.go:190",after:=#[{on:=1,ground:=Ground.data},{on:=0,ground:=Ground.phase},{on:=1,ground:=Ground.phase},{on:=2,ground:=Ground.textOnly Departure.lateStores},{on:=3,ground:=Ground.textOnly Departure.lateStores}],guard:=none}:Oper)) rfl(fun K hK=>?_) AllReadyH.nil;go_simp
    (bA go_wp2_with fail)
    refine hK.out _ _ ?_(fun cA=>?_)
    ·(bA dsimp only)
     exact eA.out _ _ _ rfl
    clear hK K hHeld;have hHeld:=cA;clear cA
    bA simp only [Act.put,List.setIfInBounds_toArray,List.set_cons_zero,List.set_cons_succ]
    refine wpAnyH_ready(rs:=[5])(by kernel_rfl)(by simp) ?_;refine AllReadyH.cons(o:=({dst:=none,op:=Op.store 61(Operand.tmp 9)(Operand.tmp 43),type:=0,pos:= "l02_tree.go:190",after:=#[{on:=3,ground:=Ground.data},{on:=4,ground:=Ground.chain},{on:=0,ground:=Ground.phase},{on:=1,ground:=Ground.phase},{on:=2,ground:=Ground.phase},{on:=3,ground:=Ground.phase},{on:=4,ground:=Ground.phase}],guard:=none}:Oper)) rfl(fun K hK=>?_) AllReadyH.nil;go_simp
    (bA go_wp2_with fail)
    refine hK.out _ _ ?_(fun cA=>?_)
    ·(bA dsimp only)
     exact jA.out _ _ _ _ _ rfl
    clear hK K hHeld;have hHeld:=cA;clear cA
    bA simp only [Act.put,List.setIfInBounds_toArray,List.set_cons_zero,List.set_cons_succ]
    refine wpAnyH_done(by kernel_rfl) ?_ _;have mB:zF(fun k=>k=w.heap.size\/k=w.heap.size+4) wD((((wD.setCell ⟨w.heap.size,0,none⟩(.slice ta od.zRQ.n tc)).setCell ⟨w.heap.size,1,none⟩(.slice ta' od.zRQ.hn tc')).setCell ⟨w.heap.size+4,0,none⟩(.int .i64 od.ps)).setCell ⟨w.heap.size+4,1,none⟩(.int .i64 od.pb)).drew:=by
     have h:=((ql wD w.heap.size(.slice ta od.zRQ.n tc)(.slice ta' od.zRQ.hn tc')).mono(T:=fun k=>k=w.heap.size\/k=w.heap.size+4)(fun k hk=>Or.inl hk)).trans((ql((wD.setCell ⟨w.heap.size,0,none⟩(.slice ta od.zRQ.n tc)).setCell ⟨w.heap.size,1,none⟩(.slice ta' od.zRQ.hn tc'))(w.heap.size+4)(.int .i64 od.ps)(.int .i64 od.pb)).mono(T:=fun k=>k=w.heap.size\/k=w.heap.size+4)(fun k hk=>Or.inr hk));exact⟨h.os,h.tape,h.output,h.size,h.block⟩
    have aC:Hid(zc((((wD.setCell ⟨w.heap.size,0,none⟩(.slice ta od.zRQ.n tc)).setCell ⟨w.heap.size,1,none⟩(.slice ta' od.zRQ.hn tc')).setCell ⟨w.heap.size+4,0,none⟩(.int .i64 od.ps)).setCell ⟨w.heap.size+4,1,none⟩(.int .i64 od.pb)).drew w.heap.size(.slice ta od.zRQ.n tc)(.slice ta' od.zRQ.hn tc')):=by
     have pC:=ql((wD.setCell ⟨w.heap.size,0,none⟩(.slice ta od.zRQ.n tc)).setCell ⟨w.heap.size,1,none⟩(.slice ta' od.zRQ.hn tc'))(w.heap.size+4)(.int .i64 od.ps)(.int .i64 od.pb);have oC:=(oA.out.put(.slice ta od.zRQ.n tc)(.slice ta' od.zRQ.hn tc')).zRR pC(by omega);exact oC
    have vB:Hid(zc((((wD.setCell ⟨w.heap.size,0,none⟩(.slice ta od.zRQ.n tc)).setCell ⟨w.heap.size,1,none⟩(.slice ta' od.zRQ.hn tc')).setCell ⟨w.heap.size+4,0,none⟩(.int .i64 od.ps)).setCell ⟨w.heap.size+4,1,none⟩(.int .i64 od.pb)).drew(w.heap.size+4)(.int .i64 od.ps)(.int .i64 od.pb)):=by
     have pC:=ql wD w.heap.size(.slice ta od.zRQ.n tc)(.slice ta' od.zRQ.hn tc');have oC:=(nA.out.zRR pC(by omega)).put(.int .i64 od.ps)(.int .i64 od.pb);exact oC
    have jC:=zE((dC.out.zRR mB(fun k hk=>by rcases hk with h | h<;>omega)).zRO(lo':=w.heap.size+5)(hi':=T)(by omega)(Nat.le_refl _));have bC:=zE(kB.out.zRR mB(by omega));have tB:=zE(lA.out.zRR mB(by omega));have pB:=iA.trans(mB.zRJ(B:=w.heap.size) iA.size(fun k hk=>by rcases hk with h | h<;>omega));have jD:=Nat.lt_of_lt_of_le oB mB.size;clear mB oA nA dC kB lA iA eA jA fC t0 t1 t2 t3 t4 t5 t6 t7 t8 t9 x0 x1 x2 x3 y0 y1 y2 y3;generalize((((wD.setCell ⟨w.heap.size,0,none⟩(.slice ta od.zRQ.n tc)).setCell ⟨w.heap.size,1,none⟩(.slice ta' od.zRQ.hn tc')).setCell ⟨w.heap.size+4,0,none⟩(.int .i64 od.ps)).setCell ⟨w.heap.size+4,1,none⟩(.int .i64 od.pb)).drew=wE at aC vB jC bC tB pB jD ⊢;go_wp2;go_roundw
    case rel=>
     refine⟨k+1,by omega,by go_num,fun j hj=>?_,.slice ta od.zRQ.n tc,.slice ta' od.zRQ.hn tc',aC.out,?_,fun _=>?_,?_,bC.out,tB.out,by omega,pB⟩
     ·by_cases e:j=k+1
      ·rw [e,jB.out];exact Hc.out
      ·exact kA.out j(by omega)
     ·rw [jB.out];exact jC.out.at.all
     ·rw [jB.out];exact jC.out.zRO(Nat.le_refl _)(by omega)
     ·rw [jB.out];exact vB.out
    case measure=>simp [intOf];omega
   ·have kD:(od.code != 0)=true:=(by simp [hc]);have Hc:=zE hc;clear hc;obtain⟨⟨r0,r1⟩,⟨r2,r3⟩,⟨r4,r5⟩,⟨r6,r7⟩,⟨r8,r9⟩,⟨r10,r11⟩⟩:=lA.out;go_wp2;have gA:=lA.out.put(.slice none 0 0)(.slice none 0 0)(.int .i64 0)(.int .i64 0)(.slice none 0 0)(.int .i64 od.code);have cC:=zF.put6 wD(w.heap.size+1+1+1)(.slice none 0 0)(.slice none 0 0)(.int .i64 0)(.int .i64 0)(.slice none 0 0)(.int .i64 od.code);have nC:=zKn iD kA.out(by rw [jB.out];exact Hc.out);rw [jB.out] at nC;refine bodyPost_ret(v:=.agg #[.slice none 0 0,.slice none 0 0,.int .i64 0,.int .i64 0,.slice none 0 0,.int .i64 od.code])(by simp [results,Tryz.results101,go_sem,gA.1.1,gA.2.1.1,gA.2.2.1.1,gA.2.2.2.1.1,gA.2.2.2.2.1.1,gA.2.2.2.2.2.1]) rfl(Or.inl ⟨?_,?_,?_⟩)
    ·rw [nC];exact Hc.out
    ·rw [nC];rfl
    ·exact iA.trans(cC.zRJ(B:=w.heap.size) iA.size(by intro k hk;omega))
  ·obtain rfl:k=2:=(by omega);obtain⟨oa,oc,ho,_⟩:=zW Hr.out;have Ho:=zE ho;obtain⟨mD,_⟩:=eC.out 40(by omega);rw [zPM,ho] at mD;clear ho;obtain⟨⟨r0,r1⟩,⟨r2,r3⟩,⟨r4,r5⟩,⟨r6,r7⟩,⟨r8,r9⟩,⟨r10,r11⟩⟩:=iC.out;go_wp2;have gA:=iC.out.put(.slice ra(layS p xs xb n b ⟨q,x,y,0⟩ 2).zRQ.n rc)(.slice ra'(layS p xs xb n b ⟨q,x,y,0⟩ 2).zRQ.hn rc')(.int .i64(layS p xs xb n b ⟨q,x,y,0⟩ 2).ps)(.int .i64(layS p xs xb n b ⟨q,x,y,0⟩ 2).pb)(.slice oa(qe p xs xb n 3).length oc)(.int .i64 0);have cC:=zF.put6 wr(w.heap.size+1+1+1)(.slice ra(layS p xs xb n b ⟨q,x,y,0⟩ 2).zRQ.n rc)(.slice ra'(layS p xs xb n b ⟨q,x,y,0⟩ 2).zRQ.hn rc')(.int .i64(layS p xs xb n b ⟨q,x,y,0⟩ 2).ps)(.int .i64(layS p xs xb n b ⟨q,x,y,0⟩ 2).pb)(.slice oa(qe p xs xb n 3).length oc)(.int .i64 0);refine bodyPost_ret(v:=.agg #[.slice ra(layS p xs xb n b ⟨q,x,y,0⟩ 2).zRQ.n rc,.slice ra'(layS p xs xb n b ⟨q,x,y,0⟩ 2).zRQ.hn rc',.int .i64(layS p xs xb n b ⟨q,x,y,0⟩ 2).ps,.int .i64(layS p xs xb n b ⟨q,x,y,0⟩ 2).pb,.slice oa(qe p xs xb n 3).length oc,.int .i64 0])(by simp [results,Tryz.results101,go_sem,gA.1.1,gA.2.1.1,gA.2.2.1.1,gA.2.2.2.1.1,gA.2.2.2.2.1.1,gA.2.2.2.2.2.1]) rfl(Or.inr ⟨?_,.slice ra(layS p xs xb n b ⟨q,x,y,0⟩ 2).zRQ.n rc,.slice ra'(layS p xs xb n b ⟨q,x,y,0⟩ 2).zRQ.hn rc',?_,?_,?_⟩)
   ·rw [zHk kA.out]
   ·rw [<-Ho.out]
   ·exact((aD.out(by omega)).zRR cC(by intro k hk;omega)).zRO(by omega)(by exact cC.size)
   ·exact hbr.trans(cC.zRJ(B:=w.heap.size) hbr.size(by intro k hk;omega))
theorem zFi(v0 v1:Value)(lo hi:Nat)(p:zJ)(xs xb:Int)(w:World)(h1:zy w lo hi v0 v1 p) :
  Calls Tryz.prog 97 #[.agg #[v0,v1],.agg #[.int .i64 xs,.int .i64 xb]] w fun e w'=>zG(ym p xs xb) e/\Below w.heap.size w w':=by
 have Hp:=zE h1;obtain⟨a,c,a',c',rfl,rfl⟩:∃a c a' c',v0 = .slice a p.n c/\v1 = .slice a' p.hn c':=by
  obtain⟨⟨_,a,c,h1,_⟩,⟨_,a',c',h3,_⟩⟩:=h1;exact⟨a,c,a',c',h1,h3⟩
 clear h1;have bA:=zBx w(.slice a p.n c)(.slice a' p.hn c')(.int .i64 xs)(.int .i64 xb) 33 61;go_enter Tryz.func97,Tryz.ntmps97;go_wp2_with fail;generalize(w.alloc(.cells #[.slice a p.n c,.slice a' p.hn c'] 33)).alloc(.cells #[.int .i64 xs,.int .i64 xb] 61)=W at bA ⊢;obtain⟨hB,hX,hba,hz⟩:=bA;refine(yz _ _ lo hi p _(Hp.out.zRJ hba)).mono ?_;rintro e w1 ⟨⟨t,rfl,ht⟩,hb1⟩;have dA:=zE(hB.zRJ hb1);have cA:=zE(hX.zRJ hb1);have aA:=zA hba hb1;clear hB hX hba hb1;by_cases hR:zv p
 ·obtain rfl:t=true:=ht.2 hR;have HR:=zE hR;clear ht hR;obtain⟨⟨x0,x1⟩,⟨x2,x3⟩⟩:=dA.out;obtain⟨⟨y0,y1⟩,⟨y2,y3⟩⟩:=cA.out;go_wp2_with fail;refine(zE5 _ _ lo hi p xs xb _(Hp.out.zRJ aA) HR.out).mono ?_;rintro e w2 ⟨⟨t2,rfl,ht2⟩,hb2⟩;have HT:=zE ht2;have eA:=zA aA hb2;clear ht2 hb2 x0 x1 x2 x3 y0 y1 y2 y3;go_wp2;go_ret;exact⟨⟨t2,rfl,HT.out.trans((zFv HR.out).trans ⟨fun h=>⟨HR.out,h⟩,fun h=>h.2⟩)⟩,eA⟩
 ·obtain rfl:t=false:=zQ ht hR;have HR:=zE hR;clear ht hR;go_wp2;go_ret;exact⟨zG.no fun h=>HR.out h.1,aA⟩
def zDV(n:Int):Prop:=0<=n/\n<=63
theorem zE3(n:Int)(w:World):Calls Tryz.prog 80 #[.int .i64 n] w fun e w'=>zG(zDV n) e/\w'=w:=by
 by_cases h1:0<=n
 ·by_cases h2:n<=63
  ·go_enter Tryz.func80,Tryz.ntmps80;go_wp2;go_ret;exact⟨zG.yes ⟨h1,h2⟩,rfl⟩
  ·go_enter Tryz.func80,Tryz.ntmps80;go_wp2;go_ret;exact⟨zG.no fun h=>by have:=h.2;omega,rfl⟩
 ·go_enter Tryz.func80,Tryz.ntmps80;go_wp2;go_ret;exact⟨zG.no fun h=>by have:=h.1;omega,rfl⟩
theorem zEV(n:Int)(w:World):Calls Tryz.prog 99 #[.int .i64 n] w fun e w'=>zG(zDV n) e/\w'=w:=by
 by_cases h1:0<=n
 ·by_cases h2:n<64
  ·go_enter Tryz.func99,Tryz.ntmps99;go_wp2;go_ret;exact⟨zG.yes ⟨h1,by omega⟩,rfl⟩
  ·go_enter Tryz.func99,Tryz.ntmps99;go_wp2;go_ret;exact⟨zG.no fun h=>by have:=h.2;omega,rfl⟩
 ·go_enter Tryz.func99,Tryz.ntmps99;go_wp2;go_ret;exact⟨zG.no fun h=>by have:=h.1;omega,rfl⟩
def zAa(rb zRU:Int):Prop:=qw zRU/\rb<=zRU
theorem zKz(xs xb zRU:Int)(w:World):Calls Tryz.prog 98 #[.agg #[.int .i64 xs,.int .i64 xb],.int .i64 zRU] w fun e w'=>zG(zAa xb zRU) e/\Below w.heap.size w w':=by
 have aA:=zC w(.cells #[.int .i64 xs,.int .i64 xb] 61);by_cases h3:qw zRU
 ·have H3:=zE h3;clear h3;by_cases h:xb<=zRU
  ·go_enter Tryz.func98,Tryz.ntmps98;go_wp2_with(first | (go_at_call 156;refine(qN zRU _).mono ?_;rintro e w1 ⟨⟨t,rfl,ht⟩,rfl⟩;obtain rfl:t=true:=ht.2 H3.out;clear ht) | fail);go_wp2;go_ret;exact⟨⟨_,rfl,by simp [zAa,H3.out,h]⟩,aA⟩
  ·go_enter Tryz.func98,Tryz.ntmps98;go_wp2_with(first | (go_at_call 156;refine(qN zRU _).mono ?_;rintro e w1 ⟨⟨t,rfl,ht⟩,rfl⟩;obtain rfl:t=true:=ht.2 H3.out;clear ht) | fail);go_wp2;go_ret;exact⟨⟨_,rfl,by first | (simp [zAa,H3.out];done) | (simp [zAa,H3.out];omega)⟩,aA⟩
 ·have H3:=zE h3;clear h3;go_enter Tryz.func98,Tryz.ntmps98;go_wp2_with(first | (go_at_call 156;refine(qN zRU _).mono ?_;rintro e w1 ⟨⟨t,rfl,ht⟩,rfl⟩;obtain rfl:t=false:=zQ ht H3.out;clear ht) | fail);go_wp2;go_ret;exact⟨zG.no(fun hx=>H3.out hx.1),aA⟩
theorem zOg{p:zJ}{xs xb zRU:Int}(h:ym p xs xb):((∀i,i<(zT p xs xb).length->¬zRU<zh(zT p xs xb) i)/\qw zRU)↔zAa xb zRU:=by
 constructor
 ·rintro⟨h1,h2⟩;refine⟨h2,?_⟩;by_cases hz:Nil xs xb
  ·rw [hz.2];have:=h2.1;omega
  ·have e:zT p xs xb=(xs,xb) :: zAv p(p.s xs.toNat) 8:=if_neg hz;have:=h1 0(by rw [e];simp);rw [e] at this;have e2:zh((xs,xb) :: zAv p(p.s xs.toNat) 8) 0=xb:=rfl;rw [e2] at this;omega
 ·rintro⟨h1,h2⟩;refine⟨fun i hi aA=>?_,h1⟩;by_cases hz:Nil xs xb
  ·have e:zT p xs xb = []:=if_pos hz;rw [e] at hi;simp at hi
  ·have hm:(zf(zT p xs xb) i,zh(zT p xs xb) i)∈zT p xs xb:=by
    have:(zf(zT p xs xb) i,zh(zT p xs xb) i)=(zT p xs xb)[i]:=by
     unfold zf zh;rw [List.getD_eq_getElem?_getD,List.getElem?_eq_getElem hi,Option.getD_some]
    rw [this];exact List.getElem_mem hi
   have:=(zC2 h.1(h.2.resolve_left hz).1.1 _ hm).2;have e:(zf(zT p xs xb) i,zh(zT p xs xb) i).2=zh(zT p xs xb) i:=rfl;omega
theorem zLB(v0 v1:Value)(lo hi:Nat)(p:zJ)(xs xb zRU:Int)(w:World)(h1:zy w lo hi v0 v1 p)(hT:ym p xs xb) :
  Calls Tryz.prog 79 #[.agg #[v0,v1],.agg #[.int .i64 xs,.int .i64 xb],.int .i64 zRU] w fun e w'=>zG(zAa xb zRU) e/\Below w.heap.size w w':=by
 have Hp:=zE h1;have HT:=zE hT;have aA:=zE(zOg(zRU:=zRU) hT);obtain⟨a,c,a',c',rfl,rfl⟩:∃a c a' c',v0 = .slice a p.n c/\v1 = .slice a' p.hn c':=by
  obtain⟨⟨_,a,c,h1,_⟩,⟨_,a',c',h3,_⟩⟩:=h1;exact⟨a,c,a',c',h1,h3⟩
 clear h1 hT;have fA:=zBx w(.slice a p.n c)(.slice a' p.hn c')(.int .i64 xs)(.int .i64 xb) 33 61;have dA:=qM p xs xb;go_enter Tryz.func79,Tryz.ntmps79;go_wp2_with fail;generalize(w.alloc(.cells #[.slice a p.n c,.slice a' p.hn c'] 33)).alloc(.cells #[.int .i64 xs,.int .i64 xb] 61)=W at fA ⊢;obtain⟨hB,hX,hba,hz⟩:=fA;refine(yf _ _ lo hi p xs xb W(Hp.out.zRJ hba) HT.out.1 HT.out.2).mono ?_;rintro e w1 ⟨v,rfl,hr,hb1⟩;obtain⟨va,vc,rfl,_⟩:=zW hr;have Hr:=zE hr;have eA:=zA hba hb1;clear hr hb1 hB hX hba hz;generalize zT p xs xb=l at Hr aA dA ⊢;go_wp2
 go_loopw [8](fun i wr=>∃k:Nat,k<=l.length/\i = .int .i64 k/\(∀i,i<k->¬zRU<zh l i)/\w1=wr)(fun i _=>l.length - (intOf i).toNat)
 case atStart=>exact⟨0,Nat.zero_le _,rfl,fun i hi=>absurd hi(Nat.not_lt_zero _),rfl⟩
 case round=>
  obtain⟨k,hk,rfl,hall,rfl⟩:=hrel;have bA:=zE hall;clear hall;by_cases cA:k<l.length
  ·have gA:(k:Int)<(l.length:Int):=(by omega);obtain⟨b,cap,e,_,_,_,hcell⟩:=qf Hr.out(by omega);simp only [Value.slice.injEq,true_and] at e;obtain⟨rfl,rfl⟩:=e;have q2:w1.cell? ⟨b,k*2+1,none⟩=some(.int .i64(zh l k)):=(hcell _ _(zBa l k cA).2).1;clear hcell;generalize hs:zh l k=y at q2;have Hs:=zE hs;clear hs;by_cases hb:zRU<y
   ·go_wp2;go_ret;exact⟨zG.no(fun h=>by have:=(aA.out.2 h).1 k cA;rw [Hs.out] at this;omega),eA⟩
   ·go_wp2;go_roundw
    case rel=>exact⟨k+1,by omega,by go_num,zo cA bA.out(by rw [Hs.out];omega),trivial⟩
    case measure=>simp [intOf];omega
  ·obtain rfl:k=l.length:=(by omega);go_wp2_with(first | (go_at_call 145;refine(yX zRU _).mono ?_;rintro e w2 ⟨⟨t,rfl,ht⟩,rfl⟩;have Ht:=zE ht;clear ht) | fail);go_wp2;go_ret;exact⟨⟨_,rfl,Ht.out.trans ⟨fun h=>aA.out.1 ⟨bA.out,h⟩,fun h=>h.1⟩⟩,eA⟩
theorem zCi(v:Value)(n lo hi:Nat)(f g:Nat->Int)(w:World)(h1:zR w lo hi v n f g)(hn:n<=200) :
  Calls Tryz.prog 86 #[v] w fun e w'=>∃v',e = .returned v'/\zw w' w.heap.size v'(kidsUp f g n)/\Below w.heap.size w w':=by
 have Hp:=zE h1;obtain⟨m1,a,c,rfl,mc,_⟩:=id h1;clear h1;unfold maxLen at m1;obtain⟨i0,hi0,hzz⟩:=Option.map_eq_some_iff.1 zA1;simp only [Prod.mk.injEq] at hzz;have HI:=zE(And.intro hi0 hzz);clear hi0 hzz;have ha:=zC w(.cells #[] 61);have L1:=zE(show zw(w.alloc(.cells #[] 61)) w.heap.size(.slice(some ⟨w.heap.size,0,none⟩) 0 0) [] from World.ownsRow_lit(e:=61)(size:=2) w #[] 0(Nat.le_refl _)(by unfold maxLen;omega) rfl);go_enter Tryz.func86,Tryz.ntmps86;go_wp2
 go_loopw [3,4](fun v i wr=>∃(k:Nat)(sa:Option Addr)(sc:Nat),k<=n/\i = .int .i64 k/\v = .slice sa(kidsUp f g k).length sc/\zw wr w.heap.size v(kidsUp f g k)/\Below w.heap.size w wr)(fun _ i _=>n - (intOf i).toNat)
 case atStart=>exact⟨0,_,_,Nat.zero_le _,rfl,rfl,L1.out,ha⟩
 case round=>
  obtain⟨k,sa,sc,hk,rfl,rfl,hr,hb⟩:=hrel;have Hr:=zE hr;have mA:=zAh f g k;clear hr L1 ha;by_cases nA:k<n
  ·have sA:(k:Int)<(n:Int):=(by omega);obtain⟨b,off,rfl,q0,q1⟩:=(Hp.out.zRJ hb).cellsT nA;go_wp2_with fail;refine(ye(f k)(g k) wr).mono ?_;rintro e W ⟨⟨t,rfl,ht⟩,hb1⟩;have eA:=zA hb hb1;have gA:=zE(Hr.out.zRJ hb1);have aB:=(hb1.cell(zD q0)).trans q0;have vA:=(hb1.cell(zD q1)).trans q1;have tA:=eA.size;clear q0 q1 hb hb1 Hr;by_cases bA:Nil(f k)(g k)
   ·have iA:=zE bA;obtain rfl:t=true:=ht.2 bA;clear ht bA;have dA:=zE(show kidsUp f g(k+1)=kidsUp f g k by rw [kidsUp,show one(f k)(g k) = [] from if_pos iA.out,List.append_nil]);go_wp2;go_roundw
    case rel=>exact⟨k+1,sa,sc,by omega,by go_num,by rw [dA.out],by rw [dA.out];exact gA.out,eA⟩
    case measure=>simp [intOf];omega
   ·have iA:=zE bA;obtain rfl:t=false:=zQ ht bA;clear ht bA;have dA:=zE(show kidsUp f g(k+1)=kidsUp f g k ++ [(f k,g k)] by rw [kidsUp,show one(f k)(g k) = [(f k,g k)] from if_neg iA.out]);have jA:=zC W(.cells #[.int .i64(f k),.int .i64(g k)] 61);have lA:=zE(gA.out.zRJ jA);have kA:=zA eA jA;have bB:(W.alloc(.cells #[.int .i64(f k),.int .i64(g k)] 61)).heap.size=W.heap.size+1:=World.size_alloc _ _;have pA:=zE(World.news_of_block(heap_alloc_last W(.cells #[.int .i64(f k),.int .i64(g k)] 61)));clear jA gA eA;go_wp2_with(first
     |(at_builtin;refine wpList_append_lies _ rfl _ _ 62 rfl w.heap.size 61 i0(.agg #[.int .i64 0,.int .i64 0]) 2 16(by kernel_rfl) HI.out.1 HI.out.2.1 HI.out.2.2.1 HI.out.2.2.2 rfl(by decide)(.slice sa(kidsUp f g k).length sc)(kidsUp f g k).length(pcl(kidsUp f g k)) rfl lA.out ⟨W.heap.size,0,none⟩ 1 1 [.int .i64(f k),.int .i64(g k)] rfl rfl pA.out(by simp [Value.oneCell'])(by decide)(by unfold maxLen;omega)(by omega)(by omega) _ rfl ?_;intro g4 fA w4 cA aA rA oA)
     |go_in)
    go_roundw
    case rel=>exact⟨k+1,some ⟨g4,0,none⟩,fA,by omega,by go_num,by rw [dA.out,List.length_append];rfl,by rw [dA.out];exact zw.next cA,kA.grown aA kA.size(fun q hq=>(lA.out.lt hq).1)⟩
    case measure=>simp [intOf];omega
  ·obtain rfl:k=n:=(by omega);go_wp2;go_ret;exact⟨_,rfl,Hr.out,hb⟩
theorem zCy(v:Value)(n lo hi:Nat)(f g:Nat->Int)(w:World)(h1:zR w lo hi v n f g)(hn:n<=200) :
  Calls Tryz.prog 120 #[v] w fun e w'=>zG(∃i,i<n/\¬Nil(f i)(g i)) e/\Below w.heap.size w w':=by
 have Hp:=zE h1;obtain⟨m1,a,c,rfl,mc,_⟩:=id h1;clear h1;go_enter Tryz.func120,Tryz.ntmps120;go_wp2_with fail;refine(zCi _ n lo hi f g w Hp.out hn).mono ?_;rintro e w1 ⟨v',rfl,hr,hb⟩;obtain⟨va,vc,rfl,_⟩:=zW hr;have aA:=zAh f g n;clear hr;have Hm:Hid(0<(kidsUp f g n).length↔∃i,i<n/\¬Nil(f i)(g i)):=by
  constructor
  ·intro h;obtain⟨x,hx⟩:=List.exists_mem_of_length_pos h;obtain⟨i,hi,_,hni⟩:=yj.1 hx;exact⟨i,hi,hni⟩
  ·rintro⟨i,hi,hni⟩;exact List.length_pos_of_mem(yj.2 ⟨i,hi,rfl,hni⟩)
 generalize(kidsUp f g n).length=m at Hm aA ⊢;have bA:(m:Int)<=200:=by omega
 go_wp2;go_ret;exact⟨⟨_,rfl,by simpa using Hm.out⟩,hb⟩
end Go.Proofs.YtmgeglgboadfiaaGreatDoor
