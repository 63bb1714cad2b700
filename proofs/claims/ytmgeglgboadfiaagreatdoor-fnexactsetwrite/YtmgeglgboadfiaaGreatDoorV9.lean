/- A part of the proof. -/
import Derived.Test.YtmgeglgboadfiaaGreatDoorV8
set_option linter.unusedVariables false
set_option maxRecDepth 20000
set_option maxHeartbeats 4000000
namespace Go.Proofs.YtmgeglgboadfiaaGreatDoor
open Go.RowKit
theorem zP6(w:World)(a0 a1 x0 x1:Value)(f:Nat->Value)(t1 t2 t3 t4:TypeId) :
  zc ((((w.alloc (.cells #[a0,a1] t1)).alloc (.cells (zBQ f) t2)).alloc (.cells #[x0,x1] t3)).alloc (.cells #[.slice none 0 0,.slice none 0 0,.int .i64 0,.int .i64 0,.slice none 0 0,.int .i64 0] t4)) w.heap.size a0 a1/\
  yN ((((w.alloc (.cells #[a0,a1] t1)).alloc (.cells (zBQ f) t2)).alloc (.cells #[x0,x1] t3)).alloc (.cells #[.slice none 0 0,.slice none 0 0,.int .i64 0,.int .i64 0,.slice none 0 0,.int .i64 0] t4)) (w.heap.size+1) f/\
  zc ((((w.alloc (.cells #[a0,a1] t1)).alloc (.cells (zBQ f) t2)).alloc (.cells #[x0,x1] t3)).alloc (.cells #[.slice none 0 0,.slice none 0 0,.int .i64 0,.int .i64 0,.slice none 0 0,.int .i64 0] t4)) (w.heap.size+1+1) x0 x1/\
  zi ((((w.alloc (.cells #[a0,a1] t1)).alloc (.cells (zBQ f) t2)).alloc (.cells #[x0,x1] t3)).alloc (.cells #[.slice none 0 0,.slice none 0 0,.int .i64 0,.int .i64 0,.slice none 0 0,.int .i64 0] t4)) (w.heap.size+1+1+1) (.slice none 0 0) (.slice none 0 0) (.int .i64 0) (.int .i64 0) (.slice none 0 0) (.int .i64 0)/\
  Below w.heap.size w ((((w.alloc (.cells #[a0,a1] t1)).alloc (.cells (zBQ f) t2)).alloc (.cells #[x0,x1] t3)).alloc (.cells #[.slice none 0 0,.slice none 0 0,.int .i64 0,.int .i64 0,.slice none 0 0,.int .i64 0] t4))/\
  ((((w.alloc (.cells #[a0,a1] t1)).alloc (.cells (zBQ f) t2)).alloc (.cells #[x0,x1] t3)).alloc (.cells #[.slice none 0 0,.slice none 0 0,.int .i64 0,.int .i64 0,.slice none 0 0,.int .i64 0] t4)).heap.size=w.heap.size+4:=by
 have b1:=zC w (.cells #[a0,a1] t1);have b2:=zC (w.alloc (.cells #[a0,a1] t1)) (.cells (zBQ f) t2);have b3:=zC ((w.alloc (.cells #[a0,a1] t1)).alloc (.cells (zBQ f) t2)) (.cells #[x0,x1] t3);have b4:=zC (((w.alloc (.cells #[a0,a1] t1)).alloc (.cells (zBQ f) t2)).alloc (.cells #[x0,x1] t3)) (.cells #[.slice none 0 0,.slice none 0 0,.int .i64 0,.int .i64 0,.slice none 0 0,.int .i64 0] t4);refine⟨(((zc.zRZ w a0 a1 t1).zRX b2).zRX b3).zRX b4,?_,?_,?_,zA (zA (zA b1 b2) b3) b4,by simp⟩
 ·have hw:yN ((w.alloc (.cells #[a0,a1] t1)).alloc (.cells (zBQ f) t2)) (w.heap.size+1) f:=fun i hi=>by
   have hb:=heap_alloc_new (w.alloc (.cells #[a0,a1] t1)) (.cells (zBQ f) t2);rw[World.size_alloc]at hb;refine zJ (i:=i) hb ?_;simp[zBQ,hi]
  exact(hw.zRX b3).zRX b4
 ·have:=(zc.zRZ ((w.alloc (.cells #[a0,a1] t1)).alloc (.cells (zBQ f) t2)) x0 x1 t3).zRX b4;rw[World.size_alloc,World.size_alloc]at this;exact this
 ·have:=zi.zRZ (((w.alloc (.cells #[a0,a1] t1)).alloc (.cells (zBQ f) t2)).alloc (.cells #[x0,x1] t3)) (.slice none 0 0) (.slice none 0 0) (.int .i64 0) (.int .i64 0) (.slice none 0 0) (.int .i64 0) t4;rw[World.size_alloc,World.size_alloc,World.size_alloc]at this;exact this
def zRO(p:zI)(xs xb:Int)(n:Nat)(S:Nat->zD0)(o:Value)(w:World)(k:Nat)(wr:World):Prop:=
 (∀j,j<=k->(S j).code=0)/\∃s0 s1,zc wr w.heap.size s0 s1/\zu wr 0 wr.heap.size s0 s1 (S k).zRd/\(0<k->zy wr (w.heap.size+5) wr.heap.size s0 s1 (S k).zRd)/\
  zc wr (w.heap.size+4) (.int .i64 (S k).ps) (.int .i64 (S k).pb)/\yN wr (w.heap.size+1) (yq p xs xb n 2 3 o)/\
  zi wr (w.heap.size+1+1+1) (.slice none 0 0) (.slice none 0 0) (.int .i64 0) (.int .i64 0) (.slice none 0 0) (.int .i64 0)/\w.heap.size+5<=wr.heap.size/\Below w.heap.size w wr
theorem qA.all{w:World}{lo hi:Nat}{v:Value}{n:Nat}{f:Nat->zL}(h:qA w lo hi v n f):qA w 0 w.heap.size v n f:=by
 obtain⟨h0,a,aA,hv,bA,hc⟩:=h;refine⟨h0,a,aA,hv,bA,fun hn=>?_⟩;obtain⟨b,off,ha,h1,h2,h3⟩:=hc hn;refine⟨b,off,ha,Nat.zero_le _,?_,fun i hi=>?_⟩
 ·obtain⟨v0,v1,v2,c0,_⟩:=h3 0 hn;exact zD c0
 ·obtain⟨v0,v1,v2,c0,c1,c2,hs⟩:=h3 i hi;exact⟨v0,v1,v2,c0,c1,c2,hs.all⟩
theorem zu.all{w:World}{lo hi:Nat}{v0 v1:Value}{p:zI}(h:zu w lo hi v0 v1 p):zu w 0 w.heap.size v0 v1 p:=⟨h.1.all,h.2.all⟩
theorem zG4(v0 v1:Value)(lo hi:Nat)(p q:zI)(xs xb x y b:Int)(n:Nat)(o:Value)(w:World)(h1:zu w lo hi v0 v1 q)(hn:n<64)(hq:qC q+16<=1048576)(hr:zw w 0 o (yf p xs xb n 3)) :
  Calls Tryz.prog 101 #[.agg #[v0,v1],.agg (zBQ (yq p xs xb n 2 3 o)),.agg #[.int .i64 x,.int .i64 y],.int .i64 b] w fun e w'=>
   ((zBi p xs xb n b ⟨q,x,y,0⟩).code≠0/\e = .returned (.agg #[.slice none 0 0,.slice none 0 0,.int .i64 0,.int .i64 0,.slice none 0 0,.int .i64 (zBi p xs xb n b ⟨q,x,y,0⟩).code])/\Below w.heap.size w w')\/
   ((zBi p xs xb n b ⟨q,x,y,0⟩).code=0/\∃s0 s1,e = .returned (.agg #[s0,s1,.int .i64 (layS p xs xb n b ⟨q,x,y,0⟩ 2).ps,.int .i64 (layS p xs xb n b ⟨q,x,y,0⟩ 2).pb,o,.int .i64 0])/\zy w' w.heap.size w'.heap.size s0 s1 (layS p xs xb n b ⟨q,x,y,0⟩ 2).zRd/\Below w.heap.size w w'):=by
 have Hp:=zE h1;obtain⟨a,c,a',c',rfl,rfl⟩:=h1.form;have Hq:=zE hq;have Hr:=zE hr;clear h1 hq hr;have gD:=zP6 w (.slice a q.n c) (.slice a' q.hn c') (.int .i64 x) (.int .i64 y) (yq p xs xb n 2 3 o) 33 159 61 64;go_enter Tryz.func101,Tryz.ntmps101;go_upto_region 1 with fail;generalize (((w.alloc (.cells #[.slice a q.n c,.slice a' q.hn c'] 33)).alloc (.cells (zBQ (yq p xs xb n 2 3 o)) 159)).alloc (.cells #[.int .i64 x,.int .i64 y] 61)).alloc (.cells #[.slice none 0 0,.slice none 0 0,.int .i64 0,.int .i64 0,.slice none 0 0,.int .i64 0] 64)=W at gD ⊢;obtain⟨hB,hW,hX,hR,oC,hz⟩:=gD;have HB:=zE hB;have HW:=zE hW;have HR:=zE hR;obtain⟨⟨x0,x1⟩,⟨x2,x3⟩⟩:=hX;have fA:=zC W (.cells #[.int .i64 x,.int .i64 y] 61);have kD:=zE (show zc (W.alloc (.cells #[.int .i64 x,.int .i64 y] 61)) (w.heap.size+4) (.int .i64 x) (.int .i64 y)from hz▸zc.zRZ W (.int .i64 x) (.int .i64 y) 61);clear hB hW hR;go_wp2_with fail;have oD:Hid (zRO p xs xb n (layS p xs xb n b ⟨q,x,y,0⟩) o w 0 (W.alloc (.cells #[.int .i64 x,.int .i64 y] 61))):=by
  refine⟨fun j hj=>?_,_,_,HB.out.zRX fA,((Hp.out.zRX oC).zRX fA).all,fun h=>absurd h (Nat.lt_irrefl _),kD.out,HW.out.zRX fA,HR.out.zRX fA,by rw[World.size_alloc];omega,zA oC fA⟩;obtain rfl:j=0:=(by omega);rfl
 have eE:=zE (zGk p xs xb n b ⟨q,x,y,0⟩);clear fA kD HB HW HR x0 x1 x2 x3 oC hz
 go_loopw [15] (fun i wr=>∃k:Nat,k<=2/\i = .int .i64 k/\zRO p xs xb n (layS p xs xb n b ⟨q,x,y,0⟩) o w k wr) (fun i _=>2 - (intOf i).toNat)
 case atStart=>exact⟨0,by omega,rfl,oD.out⟩
 case round=>
  obtain⟨k,hk,rfl,vA,s0,s1,iD,dD,pD,nD,rD,lD,rE,nC⟩:=hrel;have jA:=zE vA;have sD:=zE dD;have mD:=zE pD;have tC:=zE iD;have eD:=zE nD;have fC:=zE rD;have iC:=zE lD;obtain⟨ra,rc,gC,lC,rfl,rfl⟩:=dD.form;clear vA dD pD iD nD rD lD oD;obtain⟨⟨x0,x1⟩,⟨x2,x3⟩⟩:=tC.out;obtain⟨⟨y0,y1⟩,⟨y2,y3⟩⟩:=eD.out;by_cases fE:k<2
  ·obtain⟨L,fD⟩:∃L,L=1 - k:=⟨_,rfl⟩;have hL:L<2:=(by omega);have pE:(L:Int)<2:=(by omega);have gE:(k:Int)<2:=(by omega);have dE:(1:Int) - (k:Int)=(L:Int):=(by omega);have vD:Hid (layS p xs xb n b ⟨q,x,y,0⟩ (k+1)=zNl p xs xb n b (layS p xs xb n b ⟨q,x,y,0⟩ k) L):=(by rw[fD];rfl);have kE:=zE (eE.out k);have bD:Hid ((Tryz.prog.info? 155).map (·.size)=some (zp (zCK p xs xb n L)).size):=by
    show _=_;rw[qB];exact zBy
   have tD:Hid ((Tryz.prog.info? 155).map (·.size)=some (zp (zCK p xs xb n L)).toList.length):=by
    show _=_;rw[zBy];simp[zp]
   clear fD;go_upto_region 7 with(first
    | (refine wpList_load_mid rfl 155 (.tmp 22) rfl (w.heap.size+1) (2+L*16) rfl (zp (zCK p xs xb n L)).toList _ (zOZ hL fC.out) zHM rfl tD.out ?_)
    | (refine wpList_store_row rfl 155 (.tmp 12) (.tmp 23) rfl wr.heap.size (zp (zCK p xs xb n L)) rfl rfl 155 #[Value.int .i64 0,Value.int .i64 0,Value.int .i64 0,Value.int .i64 0,Value.int .i64 0,Value.int .i64 0,Value.int .i64 0,Value.int .i64 0,Value.int .i64 0,Value.int .i64 0,Value.int .i64 0,Value.int .i64 0,Value.int .i64 0,Value.int .i64 0,Value.int .i64 0,Value.int .i64 0] (heap_alloc_last _ _) bD.out (by rw[qB];rfl) (zAq _) ?_;rw[World.setRow_alloc_new]))
   have fA:=zC wr (.cells (zp (zCK p xs xb n L)) 155);have sB:Hid ((wr.alloc (.cells (zp (zCK p xs xb n L)) 155)).heap[wr.heap.size]?=some (.cells (zp (zCK p xs xb n L)) 155)):=heap_alloc_last _ _;have kC:Hid (wr.heap.size<(wr.alloc (.cells (zp (zCK p xs xb n L)) 155)).heap.size):=(by show _<_;rw[World.size_alloc];omega);have gB:=zE (sD.out.zRX fA);have fB:=zE (tC.out.zRX fA);have mA:=zE (eD.out.zRX fA);have rA:=zE (fC.out.zRX fA);have eB:=zE (iC.out.zRX fA);have nA:=zA nC fA;clear x0 x1 x2 x3 y0 y1 y2 y3 fA nC sD mD tC eD fC iC;generalize wr.alloc (.cells (zp (zCK p xs xb n L)) 155)=wA at sB kC gB fB mA rA eB nA ⊢;have mE:=zJ5 (n:=n) (L:=L) hn;have lE:((plc n L:Nat):Int)<8:=(by omega);obtain⟨⟨y0,y1⟩,⟨y2,y3⟩⟩:=mA.out;obtain⟨z0,_⟩:=rA.out L (by omega);rw[zH2 p xs xb n _ _ _ hL]at z0;obtain⟨c0,c1⟩:=zJ (i:=plc n L*2) sB.out (yO (zCK p xs xb n L) (by omega));obtain⟨c2,c3⟩:=zJ (i:=plc n L*2+1) sB.out (yO (zCK p xs xb n L) (by omega));have tA:Hid (∀(u v:Value) (w5:World),w5=((wA.drew.setCell ⟨wr.heap.size,plc n L*2,none⟩ u).setCell ⟨wr.heap.size,plc n L*2+1,none⟩ v)->(w5.cell? ⟨w.heap.size+1,L,none⟩=some (.int .i64 ((plc n L:Nat):Int))/\w5.cell? ⟨w.heap.size+4,0,none⟩=some (.int .i64 (layS p xs xb n b ⟨q,x,y,0⟩ k).ps)/\w5.cell? ⟨w.heap.size+4,1,none⟩=some (.int .i64 (layS p xs xb n b ⟨q,x,y,0⟩ k).pb))):=by
    intro u v w5 e5;have hT:zF (fun k=>k=wr.heap.size) wA.drew ((wA.drew.setCell ⟨wr.heap.size,plc n L*2,none⟩ u).setCell ⟨wr.heap.size,plc n L*2+1,none⟩ v):=((zF.refl (fun k=>k=wr.heap.size) wA.drew).setCell (p:=⟨wr.heap.size,plc n L*2,none⟩) rfl _).setCell (p:=⟨wr.heap.size,plc n L*2+1,none⟩) rfl _;have pC:wr.heap.size<wA.drew.heap.size:=kC.out;rw[e5,hT.cell (by omega) (by omega),hT.cell (by omega) (by omega),hT.cell (by omega) (by omega)];exact⟨z0,y0,y2⟩
   simp only[Act.put];refine wp_region_held_drew (S:=(fun w'=>w'.cell? ⟨w.heap.size+1,L,none⟩=some (.int .i64 ((plc n L:Nat):Int))/\w'.cell? ⟨w.heap.size+4,0,none⟩=some (.int .i64 (layS p xs xb n b ⟨q,x,y,0⟩ k).ps)/\w'.cell? ⟨w.heap.size+4,1,none⟩=some (.int .i64 (layS p xs xb n b ⟨q,x,y,0⟩ k).pb))) (by kernel_rfl) ?_ (fun hHeld=>?_)
   ·(try dsimp only)
    go_keep
   refine wpAnyH_take (i:=0) (oi:=({dst:=some 24,op:=Op.move (Operand.tmp 11),type:=3,pos:= "l02_tree.go:185",after:=#[],guard:=none}:Oper)) (v:=?_) rfl (by kernel_rfl) (by kernel_rfl) (by kernel_rfl) (fun _ _ _ h=>h) (Or.inl ⟨by rfl,?_⟩) (by assumption) ?_;rotate_left
   ·(intro w bA;(try dsimp only at bA);go_simp;try with_reducible rfl)
   try simp only[Act.put,s1,s2,s3]
   refine wpAnyH_take (i:=1) (oi:=({dst:=some 25,op:=Op.fieldAddr 159 (Operand.tmp 5) 0,type:=0,pos:= "l02_tree.go:185",after:=#[],guard:=none}:Oper)) (v:=?_) rfl (by kernel_rfl) (by kernel_rfl) (by kernel_rfl) (fun _ _ _ h=>h) (Or.inl ⟨by rfl,?_⟩) (by assumption) ?_;rotate_left
   ·(intro w bA;(try dsimp only at bA);go_simp;try with_reducible rfl)
   try simp only[Act.put,s1,s2,s3]
   refine wpAnyH_take (i:=2) (oi:=({dst:=some 26,op:=Op.indexAddr 154 (Operand.tmp 25) (Operand.tmp 24),type:=0,pos:= "l02_tree.go:185",after:=#[{on:=1,ground:=Ground.data},{on:=0,ground:=Ground.data}],guard:=none}:Oper)) (v:=?_) rfl (by kernel_rfl) (by kernel_rfl) (by kernel_rfl) (fun _ _ _ h=>h) (Or.inl ⟨by rfl,?_⟩) (by assumption) ?_;rotate_left
   ·(intro w bA;(try dsimp only at bA);go_simp;try with_reducible rfl)
   try simp only[Act.put,s1,s2,s3]
   refine wpAnyH_take (i:=3) (oi:=({dst:=some 27,op:=Op.load 2 (Operand.tmp 26),type:=2,pos:= "l02_tree.go:185",after:=#[{on:=2,ground:=Ground.data}],guard:=none}:Oper)) (v:=?_) rfl (by kernel_rfl) (by kernel_rfl) (by kernel_rfl) (fun _ _ _ h=>h) (Or.inl ⟨by rfl,?_⟩) (by assumption) ?_;rotate_left
   ·(intro w bA;(try dsimp only at bA);go_simp;try with_reducible rfl)
   try simp only[Act.put,s1,s2,s3]
   refine wpAnyH_take (i:=4) (oi:=({dst:=some 28,op:=Op.load 61 (Operand.tmp 9),type:=61,pos:= "l02_tree.go:185",after:=#[],guard:=none}:Oper)) (v:=?_) rfl (by kernel_rfl) (by kernel_rfl) (by kernel_rfl) (fun _ _ _ h=>h) (Or.inl ⟨by rfl,?_⟩) (by assumption) ?_;rotate_left
   ·(intro w bA;(try dsimp only at bA);go_simp;try with_reducible rfl)
   try simp only[Act.put,s1,s2,s3]
   refine wpAnyH_take (i:=5) (oi:=({dst:=some 29,op:=Op.indexAddr 155 (Operand.tmp 12) (Operand.tmp 27),type:=0,pos:= "l02_tree.go:185",after:=#[{on:=3,ground:=Ground.data},{on:=0,ground:=Ground.phase},{on:=1,ground:=Ground.phase},{on:=2,ground:=Ground.phase},{on:=3,ground:=Ground.phase},{on:=4,ground:=Ground.phase}],guard:=none}:Oper)) (v:=?_) rfl (by kernel_rfl) (by kernel_rfl) (by kernel_rfl) (fun _ _ _ h=>h) (Or.inl ⟨by rfl,?_⟩) (by assumption) ?_;rotate_left
   ·(intro w bA;(try dsimp only at bA);go_simp;try with_reducible rfl)
   try simp only[Act.put,s1,s2,s3]
   refine wpAnyH_ready (rs:=[6]) (by kernel_rfl) (by simp) ?_;refine AllReadyH.cons (o:=({dst:=none,op:=Op.store 61 (Operand.tmp 29) (Operand.tmp 28),type:=0,pos:= "l02_tree.go:185",after:=#[{on:=5,ground:=Ground.data},{on:=4,ground:=Ground.data},{on:=0,ground:=Ground.phase},{on:=1,ground:=Ground.phase},{on:=2,ground:=Ground.phase},{on:=3,ground:=Ground.phase},{on:=4,ground:=Ground.phase}],guard:=none}:Oper)) rfl (fun K hK=>?_) AllReadyH.nil;go_simp
   (try go_wp2_with fail)
   refine hK.out _ _ ?_ (fun aA=>?_)
   ·(try dsimp only)
    exact tA.out _ _ _ rfl
   clear hK K hHeld;have hHeld:=aA;clear aA
   try simp only[Act.put,s1,s2,s3]
   refine wpAnyH_done (by kernel_rfl) ?_ _;have hT:zF (fun k=>k=wr.heap.size) wA ((wA.setCell ⟨wr.heap.size,plc n L*2,none⟩ (.int .i64 (layS p xs xb n b ⟨q,x,y,0⟩ k).ps)).setCell ⟨wr.heap.size,plc n L*2+1,none⟩ (.int .i64 (layS p xs xb n b ⟨q,x,y,0⟩ k).pb)).drew:=by
    have h:zF (fun k=>k=wr.heap.size) wA ((wA.setCell ⟨wr.heap.size,plc n L*2,none⟩ (.int .i64 (layS p xs xb n b ⟨q,x,y,0⟩ k).ps)).setCell ⟨wr.heap.size,plc n L*2+1,none⟩ (.int .i64 (layS p xs xb n b ⟨q,x,y,0⟩ k).pb)):=((zF.refl (fun k=>k=wr.heap.size) wA).setCell (p:=⟨wr.heap.size,plc n L*2,none⟩) rfl _).setCell (p:=⟨wr.heap.size,plc n L*2+1,none⟩) rfl _;exact⟨h.os,h.tape,h.output,h.size,h.block⟩
   have mB:Hid (((wA.setCell ⟨wr.heap.size,plc n L*2,none⟩ (.int .i64 (layS p xs xb n b ⟨q,x,y,0⟩ k).ps)).setCell ⟨wr.heap.size,plc n L*2+1,none⟩ (.int .i64 (layS p xs xb n b ⟨q,x,y,0⟩ k).pb)).drew.heap[wr.heap.size]?=some (.cells (zp (mix (zBT p xs xb n L (layS p xs xb n b ⟨q,x,y,0⟩ k).ps) (zBR p xs xb n L (layS p xs xb n b ⟨q,x,y,0⟩ k).pb))) 155 (0,0))):=by
    have:=zAZ (o:=plc n L*2+1) (.int .i64 (layS p xs xb n b ⟨q,x,y,0⟩ k).pb) (zAZ (o:=plc n L*2) (.int .i64 (layS p xs xb n b ⟨q,x,y,0⟩ k).ps) sB.out);rw[zJW _ _ mE,zP9 p xs xb n L _ _ hn]at this;exact this
   have pC:=kC.out;have aB:=zE (gB.out.same (hT.same (lo:=0) (hi:=wr.heap.size) (by omega) (by intro k hk;omega)));have pA:=zE (fB.out.zRf hT (by omega));have jB:=zE (mA.out.zRf hT (by omega));have dB:=zE (rA.out.zRf hT (by omega));have lB:=zE (eB.out.zRf hT (by omega));have iB:=nA.trans (hT.zRX (B:=w.heap.size) nA.size (by intro k hk;omega));have oE:=Nat.lt_of_lt_of_le pC hT.size;clear hT pC gB fB mA rA eB nA sB kC tA y0 y1 y2 y3 z0 c0 c1 c2 c3;generalize ((wA.setCell ⟨wr.heap.size,plc n L*2,none⟩ (.int .i64 (layS p xs xb n b ⟨q,x,y,0⟩ k).ps)).setCell ⟨wr.heap.size,plc n L*2+1,none⟩ (.int .i64 (layS p xs xb n b ⟨q,x,y,0⟩ k).pb)).drew=wB at mB aB pA jB dB lB iB oE ⊢;have rB:Hid ((Tryz.prog.info? 155).map (·.size)=some (zp (mix (zBT p xs xb n L (layS p xs xb n b ⟨q,x,y,0⟩ k).ps) (zBR p xs xb n L (layS p xs xb n b ⟨q,x,y,0⟩ k).pb))).size):=by
    show _=_;rw[qB];exact zBy
   obtain⟨⟨x0,x1⟩,⟨x2,x3⟩⟩:=pA.out;go_wp2_with (first
    | (refine wpList_load_row rfl 155 (.tmp 12) rfl wr.heap.size rfl 155 (zp (mix (zBT p xs xb n L (layS p xs xb n b ⟨q,x,y,0⟩ k).ps) (zBR p xs xb n L (layS p xs xb n b ⟨q,x,y,0⟩ k).pb))) (0,0) _ mB.out zHM rfl rB.out ?_)
    | fail)
   refine(zKV _ _ 0 wr.heap.size (layS p xs xb n b ⟨q,x,y,0⟩ k).zRd _ _ b wB aB.out (by have h1:=kE.out;have h2:=Hq.out;have h3:qC (zD0.mk q x y 0).zRd=qC q:=rfl;omega)).mono ?_;rintro e wC ⟨t0,t1,rfl,mC,vC⟩;have kB:Hid (layS p xs xb n b ⟨q,x,y,0⟩ (k+1)=zFJ (layS p xs xb n b ⟨q,x,y,0⟩ k).zRd (zBT p xs xb n L (layS p xs xb n b ⟨q,x,y,0⟩ k).ps) (zBR p xs xb n L (layS p xs xb n b ⟨q,x,y,0⟩ k).pb) b):=vD.out;generalize zFJ (layS p xs xb n b ⟨q,x,y,0⟩ k).zRd (zBT p xs xb n L (layS p xs xb n b ⟨q,x,y,0⟩ k).ps) (zBR p xs xb n L (layS p xs xb n b ⟨q,x,y,0⟩ k).pb) b=od at mC kB ⊢;obtain⟨ta,tc,cA,dA,rfl,rfl⟩:=mC.form;have bB:=zC wC (.cells #[.slice ta od.zRd.n tc,.slice cA od.zRd.hn dA,.int .i64 od.ps,.int .i64 od.pb,.int .i64 od.code] 151);have nB:=zA vC bB;have jC:=zE (mC.zRX bB);have eC:=zE (zDg.zRZ wC (.slice ta od.zRd.n tc) (.slice cA od.zRd.hn dA) (.int .i64 od.ps) (.int .i64 od.pb) (.int .i64 od.code) 151);have oA:=zE (pA.out.zRX nB);have sA:=zE (jB.out.zRX nB);have cB:=zE (dB.out.zRX nB);have lA:=zE (lB.out.zRX nB);have gA:=zA iB nB;have bE:=vC.size;have pB:wC.heap.size<(wC.alloc (.cells #[.slice ta od.zRd.n tc,.slice cA od.zRd.hn dA,.int .i64 od.ps,.int .i64 od.pb,.int .i64 od.code] 151)).heap.size:=(by rw[World.size_alloc];omega);clear mC vC bB nB x0 x1 x2 x3 mB aB pA jB dB lB iB;go_upto_region 9 with fail;generalize wC.alloc (.cells #[.slice ta od.zRd.n tc,.slice cA od.zRd.hn dA,.int .i64 od.ps,.int .i64 od.pb,.int .i64 od.code] 151)=wD at jC eC oA sA cB lA gA pB ⊢;generalize wC.heap.size=T at jC eC bE pB ⊢;obtain⟨⟨t0,t1⟩,⟨t2,t3⟩,⟨t4,t5⟩,⟨t6,t7⟩,⟨t8,t9⟩⟩:=eC.out;by_cases hc:od.code=0
   ·have aE:(od.code != 0)=false:=(by simp[hc]);have Hc:=zE hc;clear hc;go_upto_region 11 with fail;obtain⟨⟨x0,x1⟩,⟨x2,x3⟩⟩:=oA.out;obtain⟨⟨y0,y1⟩,⟨y2,y3⟩⟩:=sA.out;have sE:w.heap.size≠w.heap.size+4:=(by omega);have eA:Hid (∀(u v:Value) (w5:World),w5=((wD.drew.setCell ⟨w.heap.size,0,none⟩ u).setCell ⟨w.heap.size,1,none⟩ v)->(w5.cell? ⟨T,0,none⟩=some (.slice ta od.zRd.n tc)/\w5.cell? ⟨T,1,none⟩=some (.slice cA od.zRd.hn dA)/\w5.cell? ⟨T,2,none⟩=some (.int .i64 od.ps)/\w5.cell? ⟨T,3,none⟩=some (.int .i64 od.pb))):=by
     intro u v w5 e5;have jD:T<wD.drew.heap.size:=pB;have h:=fun o=>(yQ wD.drew w.heap.size u v).cell (b:=T) (o:=o) jD (by omega)
     rw[e5,h,h,h,h];exact⟨t0,t2,t4,t6⟩
    have kA:Hid (∀(u v u' v':Value) (w5:World),w5=((((wD.drew.setCell ⟨w.heap.size,0,none⟩ u).setCell ⟨w.heap.size,1,none⟩ v).setCell ⟨w.heap.size+4,0,none⟩ u').setCell ⟨w.heap.size+4,1,none⟩ v')->(w5.cell? ⟨T,0,none⟩=some (.slice ta od.zRd.n tc)/\w5.cell? ⟨T,1,none⟩=some (.slice cA od.zRd.hn dA)/\w5.cell? ⟨T,2,none⟩=some (.int .i64 od.ps)/\w5.cell? ⟨T,3,none⟩=some (.int .i64 od.pb))):=by
     intro u v u' v' w5 e5;have jD:T<wD.drew.heap.size:=pB;have h1:=fun o=>(yQ ((wD.drew.setCell ⟨w.heap.size,0,none⟩ u).setCell ⟨w.heap.size,1,none⟩ v) (w.heap.size+4) u' v').cell (b:=T) (o:=o) (by simp;exact pB) (by omega)
     rw[e5,h1,h1,h1,h1];exact eA.out u v _ rfl
    refine wp_region_held_drew (S:=(fun w'=>w'.cell? ⟨T,0,none⟩=some (.slice ta od.zRd.n tc)/\w'.cell? ⟨T,1,none⟩=some (.slice cA od.zRd.hn dA)/\w'.cell? ⟨T,2,none⟩=some (.int .i64 od.ps)/\w'.cell? ⟨T,3,none⟩=some (.int .i64 od.pb))) (by kernel_rfl) ?_ (fun hHeld=>?_)
    ·(try dsimp only)
     go_keep
    refine wpAnyH_take (i:=0) (oi:=({dst:=some 40,op:=Op.fieldAddr 151 (Operand.tmp 13) 0,type:=0,pos:= "l02_tree.go:190",after:=#[],guard:=none}:Oper)) (v:=?_) rfl (by kernel_rfl) (by kernel_rfl) (by kernel_rfl) (fun _ _ _ h=>h) (Or.inl ⟨by rfl,?_⟩) (by assumption) ?_;rotate_left
    ·(intro w bA;(try dsimp only at bA);go_simp;try with_reducible rfl)
    try simp only[Act.put,s1,s2,s3]
    refine wpAnyH_take (i:=2) (oi:=({dst:=some 42,op:=Op.fieldAddr 151 (Operand.tmp 13) 1,type:=0,pos:= "l02_tree.go:190",after:=#[{on:=4,ground:=Ground.gcOnly Departure.lateStores}],guard:=none}:Oper)) (v:=?_) rfl (by kernel_rfl) (by kernel_rfl) (by kernel_rfl) (fun _ _ _ h=>h) (Or.inl ⟨by rfl,?_⟩) (by assumption) ?_;rotate_left
    ·(intro w bA;(try dsimp only at bA);go_simp;try with_reducible rfl)
    try simp only[Act.put,s1,s2,s3]
    refine wpAnyH_take (i:=1) (oi:=({dst:=some 41,op:=Op.load 33 (Operand.tmp 40),type:=33,pos:= "l02_tree.go:190",after:=#[{on:=0,ground:=Ground.data}],guard:=none}:Oper)) (v:=?_) rfl (by kernel_rfl) (by kernel_rfl) (by kernel_rfl) (fun _ _ _ h=>h) (Or.inl ⟨by rfl,?_⟩) (by assumption) ?_;rotate_left
    ·(intro w bA;(try dsimp only at bA);go_simp;try with_reducible rfl)
    try simp only[Act.put,s1,s2,s3]
    refine wpAnyH_take (i:=3) (oi:=({dst:=some 43,op:=Op.load 61 (Operand.tmp 42),type:=61,pos:= "l02_tree.go:190",after:=#[{on:=2,ground:=Ground.data},{on:=4,ground:=Ground.gcOnly Departure.lateStores}],guard:=none}:Oper)) (v:=?_) rfl (by kernel_rfl) (by kernel_rfl) (by kernel_rfl) (fun _ _ _ h=>h) (Or.inl ⟨by rfl,?_⟩) (by assumption) ?_;rotate_left
    ·(intro w bA;(try dsimp only at bA);go_simp;try with_reducible rfl)
    try simp only[Act.put,s1,s2,s3]
    refine wpAnyH_ready (rs:=[4]) (by kernel_rfl) (by simp) ?_;refine AllReadyH.cons (o:=({dst:=none,op:=Op.store 33 (Operand.tmp 4) (Operand.tmp 41),type:=0,pos:= "l02_tree.go:190",after:=#[{on:=1,ground:=Ground.data},{on:=0,ground:=Ground.phase},{on:=1,ground:=Ground.phase},{on:=2,ground:=Ground.textOnly Departure.lateStores},{on:=3,ground:=Ground.textOnly Departure.lateStores}],guard:=none}:Oper)) rfl (fun K hK=>?_) AllReadyH.nil;go_simp
    (try go_wp2_with fail)
    refine hK.out _ _ ?_ (fun aA=>?_)
    ·(try dsimp only)
     exact eA.out _ _ _ rfl
    clear hK K hHeld;have hHeld:=aA;clear aA
    try simp only[Act.put,s1,s2,s3]
    refine wpAnyH_ready (rs:=[5]) (by kernel_rfl) (by simp) ?_;refine AllReadyH.cons (o:=({dst:=none,op:=Op.store 61 (Operand.tmp 9) (Operand.tmp 43),type:=0,pos:= "l02_tree.go:190",after:=#[{on:=3,ground:=Ground.data},{on:=4,ground:=Ground.chain},{on:=0,ground:=Ground.phase},{on:=1,ground:=Ground.phase},{on:=2,ground:=Ground.phase},{on:=3,ground:=Ground.phase},{on:=4,ground:=Ground.phase}],guard:=none}:Oper)) rfl (fun K hK=>?_) AllReadyH.nil;go_simp
    (try go_wp2_with fail)
    refine hK.out _ _ ?_ (fun aA=>?_)
    ·(try dsimp only)
     exact kA.out _ _ _ _ _ rfl
    clear hK K hHeld;have hHeld:=aA;clear aA
    try simp only[Act.put,s1,s2,s3]
    refine wpAnyH_done (by kernel_rfl) ?_ _;have oB:zF (fun k=>k=w.heap.size\/k=w.heap.size+4) wD ((((wD.setCell ⟨w.heap.size,0,none⟩ (.slice ta od.zRd.n tc)).setCell ⟨w.heap.size,1,none⟩ (.slice cA od.zRd.hn dA)).setCell ⟨w.heap.size+4,0,none⟩ (.int .i64 od.ps)).setCell ⟨w.heap.size+4,1,none⟩ (.int .i64 od.pb)).drew:=by
     have h:=((yQ wD w.heap.size (.slice ta od.zRd.n tc) (.slice cA od.zRd.hn dA)).mono (T:=fun k=>k=w.heap.size\/k=w.heap.size+4) (fun k hk=>Or.inl hk)).trans ((yQ ((wD.setCell ⟨w.heap.size,0,none⟩ (.slice ta od.zRd.n tc)).setCell ⟨w.heap.size,1,none⟩ (.slice cA od.zRd.hn dA)) (w.heap.size+4) (.int .i64 od.ps) (.int .i64 od.pb)).mono (T:=fun k=>k=w.heap.size\/k=w.heap.size+4) (fun k hk=>Or.inr hk));exact⟨h.os,h.tape,h.output,h.size,h.block⟩
    have cC:Hid (zc ((((wD.setCell ⟨w.heap.size,0,none⟩ (.slice ta od.zRd.n tc)).setCell ⟨w.heap.size,1,none⟩ (.slice cA od.zRd.hn dA)).setCell ⟨w.heap.size+4,0,none⟩ (.int .i64 od.ps)).setCell ⟨w.heap.size+4,1,none⟩ (.int .i64 od.pb)).drew w.heap.size (.slice ta od.zRd.n tc) (.slice cA od.zRd.hn dA)):=by
     have cD:=yQ ((wD.setCell ⟨w.heap.size,0,none⟩ (.slice ta od.zRd.n tc)).setCell ⟨w.heap.size,1,none⟩ (.slice cA od.zRd.hn dA)) (w.heap.size+4) (.int .i64 od.ps) (.int .i64 od.pb);have sC:=(oA.out.put (.slice ta od.zRd.n tc) (.slice cA od.zRd.hn dA)).zRf cD (by omega);exact sC
    have aC:Hid (zc ((((wD.setCell ⟨w.heap.size,0,none⟩ (.slice ta od.zRd.n tc)).setCell ⟨w.heap.size,1,none⟩ (.slice cA od.zRd.hn dA)).setCell ⟨w.heap.size+4,0,none⟩ (.int .i64 od.ps)).setCell ⟨w.heap.size+4,1,none⟩ (.int .i64 od.pb)).drew (w.heap.size+4) (.int .i64 od.ps) (.int .i64 od.pb)):=by
     have cD:=yQ wD w.heap.size (.slice ta od.zRd.n tc) (.slice cA od.zRd.hn dA);have sC:=(sA.out.zRf cD (by omega)).put (.int .i64 od.ps) (.int .i64 od.pb);exact sC
    have aD:=zE ((jC.out.zRf oB (fun k hk=>by rcases hk with h | h<;>omega)).zRc (lo':=w.heap.size+5) (hi':=T) (by omega) (Nat.le_refl _));have tB:=zE (cB.out.zRf oB (by omega));have bC:=zE (lA.out.zRf oB (by omega));have vB:=gA.trans (oB.zRX (B:=w.heap.size) gA.size (fun k hk=>by rcases hk with h | h<;>omega));have nE:=Nat.lt_of_lt_of_le pB oB.size;clear oB oA sA jC cB lA gA eA kA eC t0 t1 t2 t3 t4 t5 t6 t7 t8 t9 x0 x1 x2 x3 y0 y1 y2 y3;generalize ((((wD.setCell ⟨w.heap.size,0,none⟩ (.slice ta od.zRd.n tc)).setCell ⟨w.heap.size,1,none⟩ (.slice cA od.zRd.hn dA)).setCell ⟨w.heap.size+4,0,none⟩ (.int .i64 od.ps)).setCell ⟨w.heap.size+4,1,none⟩ (.int .i64 od.pb)).drew=wE at cC aC aD tB bC vB nE ⊢;go_wp2;go_roundw
    case rel=>
     refine⟨k+1,by omega,by go_num,fun j hj=>?_,.slice ta od.zRd.n tc,.slice cA od.zRd.hn dA,cC.out,?_,fun _=>?_,?_,tB.out,bC.out,by omega,vB⟩
     ·by_cases e:j=k+1
      ·rw[e,kB.out];exact Hc.out
      ·exact jA.out j (by omega)
     ·rw[kB.out];exact aD.out.at.all
     ·rw[kB.out];exact aD.out.zRc (Nat.le_refl _) (by omega)
     ·rw[kB.out];exact aC.out
    case measure=>simp[intOf];omega
   ·have aE:(od.code != 0)=true:=(by simp[hc]);have Hc:=zE hc;clear hc;obtain⟨⟨r0,r1⟩,⟨r2,r3⟩,⟨r4,r5⟩,⟨r6,r7⟩,⟨r8,r9⟩,⟨cE,iE⟩⟩:=lA.out;go_wp2;have iA:=lA.out.put (.slice none 0 0) (.slice none 0 0) (.int .i64 0) (.int .i64 0) (.slice none 0 0) (.int .i64 od.code);have dC:=zF.put6 wD (w.heap.size+1+1+1) (.slice none 0 0) (.slice none 0 0) (.int .i64 0) (.int .i64 0) (.slice none 0 0) (.int .i64 od.code);have rC:=zKQ fE jA.out (by rw[kB.out];exact Hc.out);rw[kB.out]at rC;refine bodyPost_ret (v:=.agg #[.slice none 0 0,.slice none 0 0,.int .i64 0,.int .i64 0,.slice none 0 0,.int .i64 od.code]) (by simp[results,Tryz.results101,go_sem,iA.1.1,iA.2.1.1,iA.2.2.1.1,iA.2.2.2.1.1,iA.2.2.2.2.1.1,iA.2.2.2.2.2.1]) rfl (Or.inl ⟨?_,?_,?_⟩)
    ·rw[rC];exact Hc.out
    ·rw[rC];rfl
    ·exact gA.trans (dC.zRX (B:=w.heap.size) gA.size (by intro k hk;omega))
  ·obtain rfl:k=2:=(by omega);obtain⟨oa,oc,ho,_⟩:=zY Hr.out;have Ho:=zE ho;obtain⟨jE,_⟩:=fC.out 40 (by omega);rw[zP3,ho]at jE;clear ho;obtain⟨⟨r0,r1⟩,⟨r2,r3⟩,⟨r4,r5⟩,⟨r6,r7⟩,⟨r8,r9⟩,⟨cE,iE⟩⟩:=iC.out;go_wp2;have iA:=iC.out.put (.slice ra (layS p xs xb n b ⟨q,x,y,0⟩ 2).zRd.n rc) (.slice gC (layS p xs xb n b ⟨q,x,y,0⟩ 2).zRd.hn lC) (.int .i64 (layS p xs xb n b ⟨q,x,y,0⟩ 2).ps) (.int .i64 (layS p xs xb n b ⟨q,x,y,0⟩ 2).pb) (.slice oa (yf p xs xb n 3).length oc) (.int .i64 0);have dC:=zF.put6 wr (w.heap.size+1+1+1) (.slice ra (layS p xs xb n b ⟨q,x,y,0⟩ 2).zRd.n rc) (.slice gC (layS p xs xb n b ⟨q,x,y,0⟩ 2).zRd.hn lC) (.int .i64 (layS p xs xb n b ⟨q,x,y,0⟩ 2).ps) (.int .i64 (layS p xs xb n b ⟨q,x,y,0⟩ 2).pb) (.slice oa (yf p xs xb n 3).length oc) (.int .i64 0);refine bodyPost_ret (v:=.agg #[.slice ra (layS p xs xb n b ⟨q,x,y,0⟩ 2).zRd.n rc,.slice gC (layS p xs xb n b ⟨q,x,y,0⟩ 2).zRd.hn lC,.int .i64 (layS p xs xb n b ⟨q,x,y,0⟩ 2).ps,.int .i64 (layS p xs xb n b ⟨q,x,y,0⟩ 2).pb,.slice oa (yf p xs xb n 3).length oc,.int .i64 0]) (by simp[results,Tryz.results101,go_sem,iA.1.1,iA.2.1.1,iA.2.2.1.1,iA.2.2.2.1.1,iA.2.2.2.2.1.1,iA.2.2.2.2.2.1]) rfl (Or.inr ⟨?_,.slice ra (layS p xs xb n b ⟨q,x,y,0⟩ 2).zRd.n rc,.slice gC (layS p xs xb n b ⟨q,x,y,0⟩ 2).zRd.hn lC,?_,?_,?_⟩)
   ·rw[zK7 jA.out]
   ·rw[<-Ho.out]
   ·exact((mD.out (by omega)).zRf dC (by intro k hk;omega)).zRc (by omega) (by exact dC.size)
   ·exact nC.trans (dC.zRX (B:=w.heap.size) nC.size (by intro k hk;omega))
theorem zGH(v0 v1:Value)(lo hi:Nat)(p:zI)(xs xb:Int)(w:World)(h1:zu w lo hi v0 v1 p) :
  Calls Tryz.prog 97 #[.agg #[v0,v1],.agg #[.int .i64 xs,.int .i64 xb]] w fun e w'=>zG (qp p xs xb) e/\Below w.heap.size w w':=by
 have Hp:=zE h1;obtain⟨a,c,a',c',rfl,rfl⟩:∃a c a' c',v0 = .slice a p.n c/\v1 = .slice a' p.hn c':=by
  obtain⟨⟨_,a,c,h1,_⟩,⟨_,a',c',h3,_⟩⟩:=h1;exact⟨a,c,a',c',h1,h3⟩
 clear h1;have eA:=zB6 w (.slice a p.n c) (.slice a' p.hn c') (.int .i64 xs) (.int .i64 xb) 33 61;go_enter Tryz.func97,Tryz.ntmps97;go_wp2_with fail;generalize (w.alloc (.cells #[.slice a p.n c,.slice a' p.hn c'] 33)).alloc (.cells #[.int .i64 xs,.int .i64 xb] 61)=W at eA ⊢;obtain⟨hB,hX,cA,hz⟩:=eA;refine(zAA _ _ lo hi p _ (Hp.out.zRX cA)).mono ?_;rintro e w1 ⟨⟨t,rfl,ht⟩,aA⟩;have jA:=zE (hB.zRX aA);have gA:=zE (hX.zRX aA);have bA:=zA cA aA;clear hB hX cA aA;by_cases hR:zx p
 ·obtain rfl:t=true:=ht.2 hR;have HR:=zE hR;clear ht hR;obtain⟨⟨x0,x1⟩,⟨x2,x3⟩⟩:=jA.out;obtain⟨⟨y0,y1⟩,⟨y2,y3⟩⟩:=gA.out;go_wp2_with fail;refine(zFE _ _ lo hi p xs xb _ (Hp.out.zRX bA) HR.out).mono ?_;rintro e w2 ⟨⟨t2,rfl,dA⟩,fA⟩;have HT:=zE dA;have iA:=zA bA fA;clear dA fA x0 x1 x2 x3 y0 y1 y2 y3;go_wp2;go_ret;exact⟨⟨t2,rfl,HT.out.trans ((zGL HR.out).trans ⟨fun h=>⟨HR.out,h⟩,fun h=>h.2⟩)⟩,iA⟩
 ·obtain rfl:t=false:=zQ ht hR;have HR:=zE hR;clear ht hR;go_wp2;go_ret;exact⟨zG.no fun h=>HR.out h.1,bA⟩
def zCH(n:Int):Prop:=0<=n/\n<=63
theorem zDO(n:Int)(w:World):Calls Tryz.prog 80 #[.int .i64 n] w fun e w'=>zG (zCH n) e/\w'=w:=by
 by_cases h1:0<=n
 ·by_cases h2:n<=63
  ·go_enter Tryz.func80,Tryz.ntmps80;go_wp2;go_ret;exact⟨zG.yes ⟨h1,h2⟩,rfl⟩
  ·go_enter Tryz.func80,Tryz.ntmps80;go_wp2;go_ret;exact⟨zG.no fun h=>by have:=h.2;omega,rfl⟩
 ·go_enter Tryz.func80,Tryz.ntmps80;go_wp2;go_ret;exact⟨zG.no fun h=>by have:=h.1;omega,rfl⟩
theorem zC1(n:Int)(w:World):Calls Tryz.prog 99 #[.int .i64 n] w fun e w'=>zG (zCH n) e/\w'=w:=by
 by_cases h1:0<=n
 ·by_cases h2:n<64
  ·go_enter Tryz.func99,Tryz.ntmps99;go_wp2;go_ret;exact⟨zG.yes ⟨h1,by omega⟩,rfl⟩
  ·go_enter Tryz.func99,Tryz.ntmps99;go_wp2;go_ret;exact⟨zG.no fun h=>by have:=h.2;omega,rfl⟩
 ·go_enter Tryz.func99,Tryz.ntmps99;go_wp2;go_ret;exact⟨zG.no fun h=>by have:=h.1;omega,rfl⟩
def yB(rb zRi:Int):Prop:=qi zRi/\rb<=zRi
theorem zKZ(xs xb zRi:Int)(w:World):Calls Tryz.prog 98 #[.agg #[.int .i64 xs,.int .i64 xb],.int .i64 zRi] w fun e w'=>zG (yB xb zRi) e/\Below w.heap.size w w':=by
 have aA:=zC w (.cells #[.int .i64 xs,.int .i64 xb] 61);by_cases h3:qi zRi
 ·have H3:=zE h3;clear h3;by_cases h:xb<=zRi
  ·go_enter Tryz.func98,Tryz.ntmps98;go_wp2_with (first | (go_at_call 156;refine(qK zRi _).mono ?_;rintro e w1 ⟨⟨t,rfl,ht⟩,rfl⟩;obtain rfl:t=true:=ht.2 H3.out;clear ht) | fail);go_wp2;go_ret;exact⟨⟨_,rfl,by simp[yB,H3.out,h]⟩,aA⟩
  ·go_enter Tryz.func98,Tryz.ntmps98;go_wp2_with (first | (go_at_call 156;refine(qK zRi _).mono ?_;rintro e w1 ⟨⟨t,rfl,ht⟩,rfl⟩;obtain rfl:t=true:=ht.2 H3.out;clear ht) | fail);go_wp2;go_ret;exact⟨⟨_,rfl,by first | (simp[yB,H3.out];done) | (simp[yB,H3.out];omega)⟩,aA⟩
 ·have H3:=zE h3;clear h3;go_enter Tryz.func98,Tryz.ntmps98;go_wp2_with (first | (go_at_call 156;refine(qK zRi _).mono ?_;rintro e w1 ⟨⟨t,rfl,ht⟩,rfl⟩;obtain rfl:t=false:=zQ ht H3.out;clear ht) | fail);go_wp2;go_ret;exact⟨zG.no (fun hx=>H3.out hx.1),aA⟩
theorem zPE{p:zI}{xs xb zRi:Int}(h:qp p xs xb):((∀i,i<(zR p xs xb).length->¬zRi<zh (zR p xs xb) i)/\qi zRi)↔yB xb zRi:=by
 constructor
 ·rintro⟨h1,h2⟩;refine⟨h2,?_⟩;by_cases hz:Nil xs xb
  ·rw[hz.2];have:=h2.1;omega
  ·have e:zR p xs xb=(xs,xb) :: zAy p (p.s xs.toNat) 8:=if_neg hz;have:=h1 0 (by rw[e];simp);rw[e]at this;have e2:zh ((xs,xb) :: zAy p (p.s xs.toNat) 8) 0=xb:=rfl;rw[e2]at this;omega
 ·rintro⟨h1,h2⟩;refine⟨fun i hi aA=>?_,h1⟩;by_cases hz:Nil xs xb
  ·have e:zR p xs xb = []:=if_pos hz;rw[e]at hi;simp at hi
  ·have hm:(zf (zR p xs xb) i,zh (zR p xs xb) i)∈zR p xs xb:=by
    have:(zf (zR p xs xb) i,zh (zR p xs xb) i)=(zR p xs xb)[i]:=by
     unfold zf zh;rw[List.getD_eq_getElem?_getD,List.getElem?_eq_getElem hi,Option.getD_some]
    rw[this];exact List.getElem_mem hi
   have:=(zDE h.1 (h.2.resolve_left hz).1.1 _ hm).2;have e:(zf (zR p xs xb) i,zh (zR p xs xb) i).2=zh (zR p xs xb) i:=rfl;omega
theorem zMA(v0 v1:Value)(lo hi:Nat)(p:zI)(xs xb zRi:Int)(w:World)(h1:zu w lo hi v0 v1 p)(hT:qp p xs xb) :
  Calls Tryz.prog 79 #[.agg #[v0,v1],.agg #[.int .i64 xs,.int .i64 xb],.int .i64 zRi] w fun e w'=>zG (yB xb zRi) e/\Below w.heap.size w w':=by
 have Hp:=zE h1;have HT:=zE hT;have bA:=zE (zPE (zRi:=zRi) hT);obtain⟨a,c,a',c',rfl,rfl⟩:∃a c a' c',v0 = .slice a p.n c/\v1 = .slice a' p.hn c':=by
  obtain⟨⟨_,a,c,h1,_⟩,⟨_,a',c',h3,_⟩⟩:=h1;exact⟨a,c,a',c',h1,h3⟩
 clear h1 hT;have kA:=zB6 w (.slice a p.n c) (.slice a' p.hn c') (.int .i64 xs) (.int .i64 xb) 33 61;have eA:=qN p xs xb;go_enter Tryz.func79,Tryz.ntmps79;go_wp2_with fail;generalize (w.alloc (.cells #[.slice a p.n c,.slice a' p.hn c'] 33)).alloc (.cells #[.int .i64 xs,.int .i64 xb] 61)=W at kA ⊢;obtain⟨hB,hX,fA,hz⟩:=kA;refine(yZ _ _ lo hi p xs xb W (Hp.out.zRX fA) HT.out.1 HT.out.2).mono ?_;rintro e w1 ⟨v,rfl,hr,iA⟩;obtain⟨va,vc,rfl,_⟩:=zY hr;have Hr:=zE hr;have jA:=zA fA iA;clear hr iA hB hX fA hz;generalize zR p xs xb=l at Hr bA eA ⊢;go_wp2
 go_loopw [8] (fun i wr=>∃k:Nat,k<=l.length/\i = .int .i64 k/\(∀i,i<k->¬zRi<zh l i)/\w1=wr) (fun i _=>l.length - (intOf i).toNat)
 case atStart=>exact⟨0,Nat.zero_le _,rfl,fun i hi=>absurd hi (Nat.not_lt_zero _),rfl⟩
 case round=>
  obtain⟨k,hk,rfl,cA,rfl⟩:=hrel;have dA:=zE cA;clear cA;by_cases gA:k<l.length
  ·have lA:(k:Int)<(l.length:Int):=(by omega);obtain⟨b,mA,e,_,_,_,aA⟩:=qZ Hr.out (by omega);simp only[Value.slice.injEq,true_and]at e;obtain⟨rfl,rfl⟩:=e;have q2:w1.cell? ⟨b,k*2+1,none⟩=some (.int .i64 (zh l k)):=(aA _ _ (zBY l k gA).2).1;clear aA;generalize hs:zh l k=y at q2;have Hs:=zE hs;clear hs;by_cases hb:zRi<y
   ·go_wp2;go_ret;exact⟨zG.no (fun h=>by have:=(bA.out.2 h).1 k gA;rw[Hs.out]at this;omega),jA⟩
   ·go_wp2;go_roundw
    case rel=>exact⟨k+1,by omega,by go_num,zo gA dA.out (by rw[Hs.out];omega),trivial⟩
    case measure=>simp[intOf];omega
  ·obtain rfl:k=l.length:=(by omega);go_wp2_with (first | (go_at_call 145;refine(yX zRi _).mono ?_;rintro e w2 ⟨⟨t,rfl,ht⟩,rfl⟩;have Ht:=zE ht;clear ht) | fail);go_wp2;go_ret;exact⟨⟨_,rfl,Ht.out.trans ⟨fun h=>bA.out.1 ⟨dA.out,h⟩,fun h=>h.1⟩⟩,jA⟩
theorem zMl(v:Value)(n lo hi:Nat)(f g:Nat->Int)(w:World)(h1:zU w lo hi v n f g)(hn:n<=200) :
  Calls Tryz.prog 86 #[v] w fun e w'=>∃v',e = .returned v'/\zw w' w.heap.size v' (kidsUp f g n)/\Below w.heap.size w w':=by
 have Hp:=zE h1;obtain⟨m1,a,c,rfl,mc,_⟩:=id h1;clear h1;unfold maxLen at m1;obtain⟨i0,nA,jA⟩:=Option.map_eq_some_iff.1 zA3;simp only[Prod.mk.injEq]at jA;have HI:=zE (And.intro nA jA);clear nA jA;have ha:=zC w (.cells #[] 61);have L1:=zE (show zw (w.alloc (.cells #[] 61)) w.heap.size (.slice (some ⟨w.heap.size,0,none⟩) 0 0) [] from World.ownsRow_lit (e:=61) (size:=2) w #[] 0 (Nat.le_refl _) (by unfold maxLen;omega) rfl);go_enter Tryz.func86,Tryz.ntmps86;go_wp2
 go_loopw [3,4] (fun v i wr=>∃(k:Nat) (sa:Option Addr) (sc:Nat),k<=n/\i = .int .i64 k/\v = .slice sa (kidsUp f g k).length sc/\zw wr w.heap.size v (kidsUp f g k)/\Below w.heap.size w wr) (fun _ i _=>n - (intOf i).toNat)
 case atStart=>exact⟨0,_,_,Nat.zero_le _,rfl,rfl,L1.out,ha⟩
 case round=>
  obtain⟨k,sa,sc,hk,rfl,rfl,hr,hb⟩:=hrel;have Hr:=zE hr;have tA:=zBE f g k;clear hr L1 ha;by_cases vA:k<n
  ·have sA:(k:Int)<(n:Int):=(by omega);obtain⟨b,off,rfl,q0,q1⟩:=(Hp.out.zRX hb).cellsT vA;go_wp2_with fail;refine(yx (f k) (g k) wr).mono ?_;rintro e W ⟨⟨t,rfl,ht⟩,dA⟩;have fA:=zA hb dA;have gA:=zE (Hr.out.zRX dA);have cB:=(dA.cell (zD q0)).trans q0;have dB:=(dA.cell (zD q1)).trans q1;have eB:=fA.size;clear q0 q1 hb dA Hr;by_cases bA:Nil (f k) (g k)
   ·have lA:=zE bA;obtain rfl:t=true:=ht.2 bA;clear ht bA;have eA:=zE (show kidsUp f g (k+1)=kidsUp f g k by rw[kidsUp,show one (f k) (g k) = [] from if_pos lA.out,List.append_nil]);go_wp2;go_roundw
    case rel=>exact⟨k+1,sa,sc,by omega,by go_num,by rw[eA.out],by rw[eA.out];exact gA.out,fA⟩
    case measure=>simp[intOf];omega
   ·have lA:=zE bA;obtain rfl:t=false:=zQ ht bA;clear ht bA;have eA:=zE (show kidsUp f g (k+1)=kidsUp f g k ++ [(f k,g k)] by rw[kidsUp,show one (f k) (g k) = [(f k,g k)] from if_neg lA.out]);have iA:=zC W (.cells #[.int .i64 (f k),.int .i64 (g k)] 61);have mA:=zE (gA.out.zRX iA);have oA:=zA fA iA;have bB:(W.alloc (.cells #[.int .i64 (f k),.int .i64 (g k)] 61)).heap.size=W.heap.size+1:=World.size_alloc _ _;have pA:=zE (World.news_of_block (heap_alloc_last W (.cells #[.int .i64 (f k),.int .i64 (g k)] 61)));clear iA gA fA;go_wp2_with (first
     | (at_builtin;refine wpList_append_lies _ rfl _ _ 62 rfl w.heap.size 61 i0 (.agg #[.int .i64 0,.int .i64 0]) 2 16 (by kernel_rfl) HI.out.1 HI.out.2.1 HI.out.2.2.1 HI.out.2.2.2 rfl (by decide) (.slice sa (kidsUp f g k).length sc) (kidsUp f g k).length (pcl (kidsUp f g k)) rfl mA.out ⟨W.heap.size,0,none⟩ 1 1 [.int .i64 (f k),.int .i64 (g k)] rfl rfl pA.out (by simp[Value.oneCell']) (by decide) (by unfold maxLen;omega) (by omega) (by omega) _ rfl ?_;intro g4 kA w4 cA aA rA aB)
     | go_in)
    go_roundw
    case rel=>exact⟨k+1,some ⟨g4,0,none⟩,kA,by omega,by go_num,by rw[eA.out,List.length_append];rfl,by rw[eA.out];exact zw.next cA,oA.grown aA oA.size (fun q hq=>(mA.out.lt hq).1)⟩
    case measure=>simp[intOf];omega
  ·obtain rfl:k=n:=(by omega);go_wp2;go_ret;exact⟨_,rfl,Hr.out,hb⟩
theorem zPv{p:zI}{xs xb:Int}{n:Nat}{b:Int}{o:zD0}(h:(zBi p xs xb n b o).code≠0):zBi p xs xb n b o=zAS (zBi p xs xb n b o).code:=by
 unfold zBi at h ⊢;split
 ·rfl
 ·split
  ·rfl
  ·rename_i h1 h2
   rw[if_neg h1,if_neg h2]at h;exact absurd rfl h
theorem zQ0{p:zI}{xs xb:Int}{n:Nat}{b:Int}{o:zD0}(h:(zBi p xs xb n b o).code=0):zBi p xs xb n b o=⟨(layS p xs xb n b o 2).zRd,(layS p xs xb n b o 2).ps,(layS p xs xb n b o 2).pb,yf p xs xb n 3,0⟩:=by
 unfold zBi at h ⊢;split
 ·rename_i h1
  rw[if_pos h1]at h;exact absurd h h1
 ·split
  ·rename_i h1 h2
   rw[if_neg h1,if_pos h2]at h;exact absurd h h2
  ·rfl
theorem zAm{w wr:World}{R:Nat}{c:Int}(aA:w.heap.size<=R)(hb:Below w.heap.size w wr) :
  zHb (zAS c) w (.returned (.agg #[.slice none 0 0,.slice none 0 0,.int .i64 0,.int .i64 0,.slice none 0 0,.int .i64 c])) (put6 wr R (.slice none 0 0) (.slice none 0 0) (.int .i64 0) (.int .i64 0) (.slice none 0 0) (.int .i64 c)):=by
 have t:=zF.put6 wr R (.slice none 0 0) (.slice none 0 0) (.int .i64 0) (.int .i64 0) (.slice none 0 0) (.int .i64 c);exact⟨_,_,_,w.heap.size,w.heap.size,rfl,Nat.le_refl _,by have:=hb.size;have:=t.size;omega,zH9,zw.nil _ _,fun k hk=>by simp[Value.ownBlock]at hk,hb.trans (t.zRX (by have:=hb.size;omega) (fun k hk=>by omega))⟩
theorem zPN(w:World)(a0 a1 x0 x1:Value)(t1 t2 t3:TypeId) :
  zc (((w.alloc (.cells #[a0,a1] t1)).alloc (.cells #[x0,x1] t2)).alloc (.cells #[.slice none 0 0,.slice none 0 0,.int .i64 0,.int .i64 0,.slice none 0 0,.int .i64 0] t3)) w.heap.size a0 a1/\
  zc (((w.alloc (.cells #[a0,a1] t1)).alloc (.cells #[x0,x1] t2)).alloc (.cells #[.slice none 0 0,.slice none 0 0,.int .i64 0,.int .i64 0,.slice none 0 0,.int .i64 0] t3)) (w.heap.size+1) x0 x1/\
  zi (((w.alloc (.cells #[a0,a1] t1)).alloc (.cells #[x0,x1] t2)).alloc (.cells #[.slice none 0 0,.slice none 0 0,.int .i64 0,.int .i64 0,.slice none 0 0,.int .i64 0] t3)) (w.heap.size+1+1) (.slice none 0 0) (.slice none 0 0) (.int .i64 0) (.int .i64 0) (.slice none 0 0) (.int .i64 0)/\
  Below w.heap.size w (((w.alloc (.cells #[a0,a1] t1)).alloc (.cells #[x0,x1] t2)).alloc (.cells #[.slice none 0 0,.slice none 0 0,.int .i64 0,.int .i64 0,.slice none 0 0,.int .i64 0] t3))/\
  (((w.alloc (.cells #[a0,a1] t1)).alloc (.cells #[x0,x1] t2)).alloc (.cells #[.slice none 0 0,.slice none 0 0,.int .i64 0,.int .i64 0,.slice none 0 0,.int .i64 0] t3)).heap.size=w.heap.size+3:=by
 refine⟨((zc.zRZ w a0 a1 t1).zRX (zC _ _)).zRX (zC _ _),?_,?_,zA (zA (zC _ _) (zC _ _)) (zC _ _),by simp⟩
 ·have:=(zc.zRZ (w.alloc (.cells #[a0,a1] t1)) x0 x1 t2).zRX (zC _ (.cells #[.slice none 0 0,.slice none 0 0,.int .i64 0,.int .i64 0,.slice none 0 0,.int .i64 0] t3));rw[World.size_alloc]at this;exact this
 ·have:=zi.zRZ ((w.alloc (.cells #[a0,a1] t1)).alloc (.cells #[x0,x1] t2)) (.slice none 0 0) (.slice none 0 0) (.int .i64 0) (.int .i64 0) (.slice none 0 0) (.int .i64 0) t3;rw[World.size_alloc,World.size_alloc]at this;exact this
def qj(b:Int)(d:ByteArray):zL:={zRi:=b,kn:=0,ks:=fun _=>0,kb:=fun _=>0,data:=d}
open Classical in
noncomputable def qo(p:zI)(xs xb zRj:Int)(d:ByteArray)(b:Int):zCO:=
 if 8000<d.size then zAS 2 else if qp p xs xb/\yB xb b then(if zCH zRj/\d.size=16 then(if (qx p (qj b d)).code=0 then zBi p xs xb zRj.toNat b ⟨(qx p (qj b d)).zRd,(qx p (qj b d)).ps,(qx p (qj b d)).pb,0⟩else zAS (qx p (qj b d)).code)else zAS 8)else zAS 1
theorem zFR{p:zI}{xs xb zRj b:Int}{d:ByteArray}(h:8000<d.size):qo p xs xb zRj d b=zAS 2:=if_pos h
theorem zCt{p:zI}{xs xb zRj b:Int}{d:ByteArray}(h0:¬8000<d.size)(h:¬(qp p xs xb/\yB xb b)):qo p xs xb zRj d b=zAS 1:=(if_neg h0).trans (if_neg h)
theorem zB7{p:zI}{xs xb zRj b:Int}{d:ByteArray}(h0:¬8000<d.size)(h:qp p xs xb/\yB xb b)(h2:¬(zCH zRj/\d.size=16)):qo p xs xb zRj d b=zAS 8:=((if_neg h0).trans (if_pos h)).trans (if_neg h2)
theorem zH1{p:zI}{xs xb zRj b:Int}{d:ByteArray}(h0:¬8000<d.size)(h:qp p xs xb/\yB xb b)(h2:zCH zRj/\d.size=16)(h3:(qx p (qj b d)).code≠0):qo p xs xb zRj d b=zAS (qx p (qj b d)).code:=(((if_neg h0).trans (if_pos h)).trans (if_pos h2)).trans (if_neg h3)
theorem zJR{p:zI}{xs xb zRj b:Int}{d:ByteArray}(h0:¬8000<d.size)(h:qp p xs xb/\yB xb b)(h2:zCH zRj/\d.size=16)(h3:(qx p (qj b d)).code=0):qo p xs xb zRj d b=zBi p xs xb zRj.toNat b ⟨(qx p (qj b d)).zRd,(qx p (qj b d)).ps,(qx p (qj b d)).pb,0⟩:=(((if_neg h0).trans (if_pos h)).trans (if_pos h2)).trans (if_pos h3)
theorem zFw(v0 v1:Value)(lo hi:Nat)(p:zI)(xs xb zRj b:Int)(d:ByteArray)(w:World)(h1:zu w lo hi v0 v1 p) :
  Calls Tryz.prog 36 #[.agg #[v0,v1],.agg #[.int .i64 xs,.int .i64 xb],.int .i64 zRj,.string d,.int .i64 b] w (zHb (qo p xs xb zRj d b) w):=by
 have Hp:=zE h1;obtain⟨a,c,a',c',rfl,rfl⟩:=h1.form;clear h1;have bD:=zPN w (.slice a p.n c) (.slice a' p.hn c') (.int .i64 xs) (.int .i64 xb) 33 61 64;go_enter Tryz.func36,Tryz.ntmps36;go_upto_region 1 with fail;generalize ((w.alloc (.cells #[.slice a p.n c,.slice a' p.hn c'] 33)).alloc (.cells #[.int .i64 xs,.int .i64 xb] 61)).alloc (.cells #[.slice none 0 0,.slice none 0 0,.int .i64 0,.int .i64 0,.slice none 0 0,.int .i64 0] 64)=W at bD ⊢;obtain⟨hB,hX,hR,kA,hz⟩:=bD;by_cases pC:8000<d.size
 ·have vA:=zE pC;have mD:(8000:Int)<(d.size:Int):=(by omega);have HR:=zE hR;obtain⟨⟨r0,r1⟩,⟨r2,r3⟩,⟨r4,r5⟩,⟨r6,r7⟩,⟨r8,r9⟩,⟨mA,oA⟩⟩:=HR.out
  try go_wp2
  have bA:=HR.out.put (.slice none 0 0) (.slice none 0 0) (.int .i64 0) (.int .i64 0) (.slice none 0 0) (.int .i64 2);have fA:=zAm (R:=w.heap.size+1+1) (c:=2) (by omega) kA;rw[zFR vA.out];exact bodyPost_ret (v:=.agg #[.slice none 0 0,.slice none 0 0,.int .i64 0,.int .i64 0,.slice none 0 0,.int .i64 2]) (by simp[results,Tryz.results36,go_sem,bA.1.1,bA.2.1.1,bA.2.2.1.1,bA.2.2.2.1.1,bA.2.2.2.2.1.1,bA.2.2.2.2.2.1]) rfl fA
 ·have vA:=zE pC;have mD:¬(8000:Int)<(d.size:Int):=(by omega);clear pC;obtain⟨⟨x0,x1⟩,⟨x2,x3⟩⟩:=id hB;obtain⟨⟨y0,y1⟩,⟨y2,y3⟩⟩:=id hX;go_wp2_with fail;refine(zGH _ _ lo hi p xs xb W (Hp.out.zRX kA)).mono ?_;rintro e w1 ⟨⟨t,rfl,ht⟩,iB⟩;have eD:=zE (hB.zRX iB);have oC:=zE (hX.zRX iB);have kC:=zE (hR.zRX iB);have tC:=zA kA iB;have nD:w.heap.size+3<=w1.heap.size:=(by have:=iB.size;omega);clear hB hX hR kA iB hz x0 x1 x2 x3 y0 y1 y2 y3;by_cases lB:qp p xs xb
  ·have mB:=zE lB;obtain rfl:t=true:=ht.2 lB;clear ht lB;obtain⟨⟨y0,y1⟩,⟨y2,y3⟩⟩:=oC.out;go_wp2_with fail;refine(zKZ xs xb b w1).mono ?_;rintro e w2 ⟨⟨t,rfl,ht⟩,oB⟩;have sC:=zE (eD.out.zRX oB);have aD:=zE (oC.out.zRX oB);have pA:=zE (kC.out.zRX oB);have nB:=zA tC oB;have tD:w.heap.size+3<=w2.heap.size:=(by have:=oB.size;omega);clear oB tC eD oC kC nD y0 y1 y2 y3;by_cases kB:yB xb b
   ·have gC:=zE (And.intro mB.out kB);obtain rfl:t=true:=ht.2 kB;clear ht kB;obtain⟨⟨r0,r1⟩,⟨r2,r3⟩,⟨r4,r5⟩,⟨r6,r7⟩,⟨r8,r9⟩,⟨mA,oA⟩⟩:=pA.out;by_cases hN:zCH zRj
    ·have jB:=zE hN;obtain⟨n,rfl⟩:=Int.eq_ofNat_of_zero_le hN.1;have nA:n<64:=(by have:=hN.2;omega);clear hN;by_cases iA:d.size=16
     ·have aC:=zE (And.intro jB.out iA);have iD:((d.size:Int) != 16)=false:=(by simp;omega);have gB:=zE iA;clear iA r0 r1 r2 r3 r4 r5 r6 r7 r8 r9 mA oA;obtain⟨⟨x0,x1⟩,⟨x2,x3⟩⟩:=sC.out;go_wp2_with (first | (go_at_call 99;refine(zC1 _ _).mono ?_;rintro e w9 ⟨⟨t2,rfl,cB⟩,rfl⟩;obtain rfl:t2=true:=cB.2 jB.out;clear cB) | fail);go_wp2_with fail;have HS:Hid (qH w9 0 0 (.int .i64 (qj b d).zRi) (.slice none 0 0) (.string (qj b d).data) (qj b d)):=⟨rfl,⟨Nat.zero_le _,none,0,rfl,Nat.le_refl _,fun h=>absurd h (Nat.lt_irrefl _)⟩,rfl,by show d.size<=maxLen;rw[gB.out];unfold maxLen;omega⟩;have pD:=zEI mB.out.1;refine(zDU _ _ _ lo hi 0 0 p (qj b d) w9 (Hp.out.zRX nB) HS.out (by show qC p+(0+d.size)<=_;rw[gB.out];omega)).mono ?_;rintro e w3 ⟨t0,t1,rfl,bC,nC⟩;have lC:Hid ((qx p (qj b d)).code≠0->qo p xs xb (n:Int) d b=zAS (qx p (qj b d)).code):=fun h=>zH1 vA.out gC.out aC.out h
      have iC:Hid ((qx p (qj b d)).code=0->qo p xs xb (n:Int) d b=zBi p xs xb n b ⟨(qx p (qj b d)).zRd,(qx p (qj b d)).ps,(qx p (qj b d)).pb,0⟩):=fun h=>zJR vA.out gC.out aC.out h
      have rC:Hid (qC (qx p (qj b d)).zRd+16<=1048576):=by
       have h1:=zFO p (qj b d);have h2:zAN (qj b d)=16:=(by show 0+d.size=16;rw[gB.out]);show _<=_;omega
      generalize qx p (qj b d)=od at bC lC iC rC ⊢;obtain⟨ta,tc,sA,bB,rfl,rfl⟩:=bC.form;have eB:=zC w3 (.cells #[.slice ta od.zRd.n tc,.slice sA od.zRd.hn bB,.int .i64 od.ps,.int .i64 od.pb,.int .i64 od.code] 151);have pB:=zA nC eB;have dC:=zE (bC.zRX eB);have lA:=zE (zDg.zRZ w3 (.slice ta od.zRd.n tc) (.slice sA od.zRd.hn bB) (.int .i64 od.ps) (.int .i64 od.pb) (.int .i64 od.code) 151);have rA:=zE (sC.out.zRX pB);have tA:=zE (aD.out.zRX pB);have tB:=zE (pA.out.zRX pB);have aB:=zA nB pB;have kD:=nC.size;have dD:w3.heap.size<(w3.alloc (.cells #[.slice ta od.zRd.n tc,.slice sA od.zRd.hn bB,.int .i64 od.ps,.int .i64 od.pb,.int .i64 od.code] 151)).heap.size:=(by rw[World.size_alloc];omega);clear bC nC eB pB x0 x1 x2 x3 sC aD pA nB HS pD;go_upto_region 8 with fail;generalize w3.alloc (.cells #[.slice ta od.zRd.n tc,.slice sA od.zRd.hn bB,.int .i64 od.ps,.int .i64 od.pb,.int .i64 od.code] 151)=wD at dC lA rA tA tB aB dD ⊢;generalize w3.heap.size=T at dC lA kD dD ⊢;obtain⟨⟨t0,t1⟩,⟨t2,t3⟩,⟨t4,t5⟩,⟨t6,t7⟩,⟨t8,t9⟩⟩:=lA.out;by_cases hc:od.code=0
      ·have jD:(od.code != 0)=false:=(by simp[hc]);have jC:=zE (iC.out hc);clear hc lC iC;obtain⟨⟨x0,x1⟩,⟨x2,x3⟩⟩:=rA.out;obtain⟨⟨y0,y1⟩,⟨y2,y3⟩⟩:=tA.out;go_upto_region 10 with fail;by_cases eC:(zBi p xs xb n b ⟨od.zRd,od.ps,od.pb,0⟩).code=0
       ·have HC:=zE eC;clear eC;refine wp_region_held_drew (S:=(fun w'=>w'.cell? ⟨T,0,none⟩=some (.slice ta od.zRd.n tc)/\w'.cell? ⟨T,1,none⟩=some (.slice sA od.zRd.hn bB)/\w'.cell? ⟨T,2,none⟩=some (.int .i64 od.ps)/\w'.cell? ⟨T,3,none⟩=some (.int .i64 od.pb)/\w'.cell? ⟨w.heap.size,0,none⟩=some (.slice a p.n c)/\w'.cell? ⟨w.heap.size+1,0,none⟩=some (.int .i64 xs)/\w'.cell? ⟨w.heap.size+1,1,none⟩=some (.int .i64 xb))) (by kernel_rfl) ?_ (fun hHeld=>?_)
        ·(try dsimp only)
         go_keep
        refine wpAnyH_take (i:=0) (oi:=({dst:=some 47,op:=Op.fieldAddr 151 (Operand.tmp 11) 0,type:=0,pos:= "l02_tree.go:66",after:=#[],guard:=none}:Oper)) (v:=?_) rfl (by kernel_rfl) (by kernel_rfl) (by kernel_rfl) (fun _ _ _ h=>h) (Or.inl ⟨by rfl,?_⟩) (by assumption) ?_;rotate_left
        ·(intro w cA;(try dsimp only at cA);go_simp;try with_reducible rfl)
        try simp only[Act.put,s1,s2,s3]
        refine wpAnyH_take (i:=1) (oi:=({dst:=some 48,op:=Op.load 33 (Operand.tmp 47),type:=33,pos:= "l02_tree.go:66",after:=#[{on:=0,ground:=Ground.data}],guard:=none}:Oper)) (v:=?_) rfl (by kernel_rfl) (by kernel_rfl) (by kernel_rfl) (fun _ _ _ h=>h) (Or.inl ⟨by rfl,?_⟩) (by assumption) ?_;rotate_left
        ·(intro w cA;(try dsimp only at cA);go_simp;try with_reducible rfl)
        try simp only[Act.put,s1,s2,s3]
        refine wpAnyH_take (i:=2) (oi:=({dst:=some 49,op:=Op.fieldAddr 33 (Operand.tmp 5) 0,type:=0,pos:= "l02_tree.go:66",after:=#[],guard:=none}:Oper)) (v:=?_) rfl (by kernel_rfl) (by kernel_rfl) (by kernel_rfl) (fun _ _ _ h=>h) (Or.inl ⟨by rfl,?_⟩) (by assumption) ?_;rotate_left
        ·(intro w cA;(try dsimp only at cA);go_simp;try with_reducible rfl)
        try simp only[Act.put,s1,s2,s3]
        refine wpAnyH_take (i:=3) (oi:=({dst:=some 50,op:=Op.load 31 (Operand.tmp 49),type:=31,pos:= "l02_tree.go:66",after:=#[{on:=2,ground:=Ground.data}],guard:=none}:Oper)) (v:=?_) rfl (by kernel_rfl) (by kernel_rfl) (by kernel_rfl) (fun _ _ _ h=>h) (Or.inl ⟨by rfl,?_⟩) (by assumption) ?_;rotate_left
        ·(intro w cA;(try dsimp only at cA);go_simp;try with_reducible rfl)
        try simp only[Act.put,s1,s2,s3]
        refine wpAnyH_take (i:=4) (oi:=({dst:=some 51,op:=Op.load 61 (Operand.tmp 6),type:=61,pos:= "l02_tree.go:66",after:=#[],guard:=none}:Oper)) (v:=?_) rfl (by kernel_rfl) (by kernel_rfl) (by kernel_rfl) (fun _ _ _ h=>h) (Or.inl ⟨by rfl,?_⟩) (by assumption) ?_;rotate_left
        ·(intro w cA;(try dsimp only at cA);go_simp;try with_reducible rfl)
        try simp only[Act.put,s1,s2,s3]
        refine wpAnyH_take (i:=5) (oi:=({dst:=some 52,op:=Op.move (Operand.tmp 2),type:=2,pos:= "l02_tree.go:66",after:=#[],guard:=none}:Oper)) (v:=?_) rfl (by kernel_rfl) (by kernel_rfl) (by kernel_rfl) (fun _ _ _ h=>h) (Or.inl ⟨by rfl,?_⟩) (by assumption) ?_;rotate_left
        ·(intro w cA;(try dsimp only at cA);go_simp;try with_reducible rfl)
        try simp only[Act.put,s1,s2,s3]
        refine wpAnyH_take (i:=7) (oi:=({dst:=some 54,op:=Op.fieldAddr 151 (Operand.tmp 11) 1,type:=0,pos:= "l02_tree.go:66",after:=#[],guard:=none}:Oper)) (v:=?_) rfl (by kernel_rfl) (by kernel_rfl) (by kernel_rfl) (fun _ _ _ h=>h) (Or.inl ⟨by rfl,?_⟩) (by assumption) ?_;rotate_left
        ·(intro w cA;(try dsimp only at cA);go_simp;try with_reducible rfl)
        try simp only[Act.put,s1,s2,s3]
        refine wpAnyH_take (i:=8) (oi:=({dst:=some 55,op:=Op.load 61 (Operand.tmp 54),type:=61,pos:= "l02_tree.go:66",after:=#[{on:=7,ground:=Ground.data}],guard:=none}:Oper)) (v:=?_) rfl (by kernel_rfl) (by kernel_rfl) (by kernel_rfl) (fun _ _ _ h=>h) (Or.inl ⟨by rfl,?_⟩) (by assumption) ?_;rotate_left
        ·(intro w cA;(try dsimp only at cA);go_simp;try with_reducible rfl)
        try simp only[Act.put,s1,s2,s3]
        refine wpAnyH_take (i:=9) (oi:=({dst:=some 56,op:=Op.move (Operand.tmp 4),type:=2,pos:= "l02_tree.go:66",after:=#[],guard:=none}:Oper)) (v:=?_) rfl (by kernel_rfl) (by kernel_rfl) (by kernel_rfl) (fun _ _ _ h=>h) (Or.inl ⟨by rfl,?_⟩) (by assumption) ?_;rotate_left
        ·(intro w cA;(try dsimp only at cA);go_simp;try with_reducible rfl)
        try simp only[Act.put,s1,s2,s3]
        refine wpAnyH_ready (rs:=[6]) (by kernel_rfl) (by simp) ?_;refine AllReadyH.cons (o:=({dst:=some 53,op:=Op.call {callee:=Callee.value (Operand.func 102),args:=#[Operand.tmp 50,Operand.tmp 51,Operand.tmp 52],argTypes:=#[31,61,2]},type:=159,pos:= "l02_tree.go:66",after:=#[{on:=3,ground:=Ground.data},{on:=4,ground:=Ground.data},{on:=5,ground:=Ground.data}],guard:=none}:Oper)) rfl (fun K hK=>?_) AllReadyH.nil;go_simp;go_at_call 102;refine(zJY _ lo hi p xs xb n _ ?_ mB.out nA).mono ?_
        ·first | exact(Hp.out.zRX aB).1 | exact(Hp.out.zRX aB.drew).1
        rintro e wa ⟨o,rfl,fB,kA⟩;obtain⟨mC,fC,rfl,_⟩:=zY fB;have jA:=zE fB;clear fB;have gA:Below wD.heap.size wD wa:=(by first | exact kA | exact zK kA);obtain⟨⟨k0,_⟩,⟨k1,_⟩,⟨k2,_⟩,⟨k3,_⟩,_⟩:=lA.out.zRX gA;obtain⟨⟨k4,_⟩,_⟩:=rA.out.zRX gA;obtain⟨⟨k5,_⟩,⟨k6,_⟩⟩:=tA.out.zRX gA
        (try go_wp2_with fail)
        refine hK.out _ _ ?_ (fun aA=>?_)
        ·(try dsimp only)
         go_keep
        clear hK K hHeld;have hHeld:=aA;clear aA
        try simp only[Act.put,s1,s2,s3]
        refine wpAnyH_ready (rs:=[10]) (by kernel_rfl) (by simp) ?_;refine AllReadyH.cons (o:=({dst:=some 57,op:=Op.call {callee:=Callee.value (Operand.func 101),args:=#[Operand.tmp 48,Operand.tmp 53,Operand.tmp 55,Operand.tmp 56],argTypes:=#[33,159,61,2]},type:=64,pos:= "l02_tree.go:66",after:=#[{on:=1,ground:=Ground.data},{on:=6,ground:=Ground.data},{on:=8,ground:=Ground.data},{on:=9,ground:=Ground.data},{on:=6,ground:=Ground.chain}],guard:=none}:Oper)) rfl (fun K hK=>?_) AllReadyH.nil;go_simp;go_at_call 101;refine(zG4 _ _ _ _ p od.zRd xs xb od.ps od.pb b n _ wa (dC.out.zRX gA).at nA rC.out (jA.out.mono (Nat.zero_le _))).mono ?_;rintro e wb (⟨sB,rB,dB⟩ | ⟨sB,s0,s1,rB,cC,dB⟩)
        ·exact absurd HC.out sB
        subst rB;have eA:=zA gA dB;obtain⟨a5,c5,a6,c6,rfl,rfl⟩:=cC.form;obtain⟨⟨l0,_⟩,⟨l1,_⟩,⟨l2,_⟩,⟨l3,_⟩,_⟩:=lA.out.zRX eA;obtain⟨⟨l4,_⟩,_⟩:=rA.out.zRX eA;obtain⟨⟨l5,_⟩,⟨l6,_⟩⟩:=tA.out.zRX eA;have vB:=zE (tB.out.zRX eA);obtain⟨⟨r0,r1⟩,⟨r2,r3⟩,⟨r4,r5⟩,⟨r6,r7⟩,⟨r8,r9⟩,⟨mA,oA⟩⟩:=vB.out;have dA:Hid (∀(u0 u1 u2 u3 u4 u5:Value),(fun (w':World)=>w'.cell? ⟨T,0,none⟩=some (.slice ta od.zRd.n tc)/\w'.cell? ⟨T,1,none⟩=some (.slice sA od.zRd.hn bB)/\w'.cell? ⟨T,2,none⟩=some (.int .i64 od.ps)/\w'.cell? ⟨T,3,none⟩=some (.int .i64 od.pb)/\w'.cell? ⟨w.heap.size,0,none⟩=some (.slice a p.n c)/\w'.cell? ⟨w.heap.size+1,0,none⟩=some (.int .i64 xs)/\w'.cell? ⟨w.heap.size+1,1,none⟩=some (.int .i64 xb)) (put6 wb (w.heap.size+1+1) u0 u1 u2 u3 u4 u5)):=by
         intro u0 u1 u2 u3 u4 u5;have t:=zF.put6 wb (w.heap.size+1+1) u0 u1 u2 u3 u4 u5;have g1:=(lA.out.zRX eA).zRf t (by omega);have g2:=(rA.out.zRX eA).zRf t (by omega);have g3:=(tA.out.zRX eA).zRf t (by omega);exact⟨g1.1.1,g1.2.1.1,g1.2.2.1.1,g1.2.2.2.1.1,g2.1.1,g3.1.1,g3.2.1⟩
        (try go_wp2_with fail)
        refine hK.out _ _ ?_ (fun aA=>?_)
        ·(try dsimp only)
         go_keep
        clear hK K hHeld;have hHeld:=aA;clear aA
        try simp only[Act.put,s1,s2,s3]
        refine wpAnyH_ready (rs:=[11]) (by kernel_rfl) (by simp) ?_;refine AllReadyH.cons (o:=({dst:=none,op:=Op.store 64 (Operand.tmp 10) (Operand.tmp 57),type:=0,pos:= "l02_tree.go:66",after:=#[{on:=10,ground:=Ground.data},{on:=10,ground:=Ground.chain},{on:=0,ground:=Ground.phase},{on:=1,ground:=Ground.phase},{on:=2,ground:=Ground.phase},{on:=3,ground:=Ground.phase},{on:=4,ground:=Ground.phase},{on:=5,ground:=Ground.phase},{on:=6,ground:=Ground.phase},{on:=7,ground:=Ground.phase},{on:=8,ground:=Ground.phase},{on:=9,ground:=Ground.phase},{on:=10,ground:=Ground.phase}],guard:=none}:Oper)) rfl (fun K hK=>?_) AllReadyH.nil;go_simp
        (try go_wp2_with fail)
        refine hK.out _ _ ?_ (fun aA=>?_)
        ·(try dsimp only)
         exact dA.out _ _ _ _ _ _
        clear hK K hHeld;have hHeld:=aA;clear aA
        try simp only[Act.put,s1,s2,s3]
        refine wpAnyH_done (by kernel_rfl) ?_ _;have bA:=vB.out.put (.slice a5 (layS p xs xb n b ⟨od.zRd,od.ps,od.pb,0⟩ 2).zRd.n c5) (.slice a6 (layS p xs xb n b ⟨od.zRd,od.ps,od.pb,0⟩ 2).zRd.hn c6) (.int .i64 (layS p xs xb n b ⟨od.zRd,od.ps,od.pb,0⟩ 2).ps) (.int .i64 (layS p xs xb n b ⟨od.zRd,od.ps,od.pb,0⟩ 2).pb) (.slice mC (yf p xs xb n 3).length fC) (.int .i64 0);have vC:=zF.put6 wb (w.heap.size+1+1) (.slice a5 (layS p xs xb n b ⟨od.zRd,od.ps,od.pb,0⟩ 2).zRd.n c5) (.slice a6 (layS p xs xb n b ⟨od.zRd,od.ps,od.pb,0⟩ 2).zRd.hn c6) (.int .i64 (layS p xs xb n b ⟨od.zRd,od.ps,od.pb,0⟩ 2).ps) (.int .i64 (layS p xs xb n b ⟨od.zRd,od.ps,od.pb,0⟩ 2).pb) (.slice mC (yf p xs xb n 3).length fC) (.int .i64 0);have cD:=zA aB eA;have rD:=zE cC;have lD:Hid (w.heap.size+3<=wD.heap.size):=(by show _<=_;omega);have sD:=zE gA.size;have oD:=zE dB;clear hHeld dA l0 l1 l2 l3 l4 l5 l6 k0 k1 k2 k3 k4 k5 k6 cC dB;go_wp2;have hE:=jC.out.trans (zQ0 HC.out);rw[hE];have vD:=lD.out;have aE:=sD.out;exact bodyPost_ret (v:=.agg #[.slice a5 (layS p xs xb n b ⟨od.zRd,od.ps,od.pb,0⟩ 2).zRd.n c5,.slice a6 (layS p xs xb n b ⟨od.zRd,od.ps,od.pb,0⟩ 2).zRd.hn c6,.int .i64 (layS p xs xb n b ⟨od.zRd,od.ps,od.pb,0⟩ 2).ps,.int .i64 (layS p xs xb n b ⟨od.zRd,od.ps,od.pb,0⟩ 2).pb,.slice mC (yf p xs xb n 3).length fC,.int .i64 0]) (by simp[results,Tryz.results36,go_sem,bA.1.1,bA.2.1.1,bA.2.2.1.1,bA.2.2.2.1.1,bA.2.2.2.2.1.1,bA.2.2.2.2.2.1]) rfl ⟨_,_,_,wa.heap.size,wb.heap.size,rfl,by omega,vC.size,rD.out.zRf vC (by intro k hk;omega),(((((((jA.out.zRX oD.out).put (show w.heap.size+1+1<wD.heap.size by omega) _).put (show w.heap.size+1+1<wD.heap.size by omega) _).put (show w.heap.size+1+1<wD.heap.size by omega) _).put (show w.heap.size+1+1<wD.heap.size by omega) _).put (show w.heap.size+1+1<wD.heap.size by omega) _).put (show w.heap.size+1+1<wD.heap.size by omega) _).mono (show w.heap.size<=wD.heap.size by omega),fun k hk=>Or.inl (jA.out.lt hk).2,cD.trans (vC.zRX (B:=w.heap.size) cD.size (by intro k hk;omega))⟩
       ·have HC:=zE eC;clear eC;refine wp_region_held_drew (S:=(fun w'=>w'.cell? ⟨T,0,none⟩=some (.slice ta od.zRd.n tc)/\w'.cell? ⟨T,1,none⟩=some (.slice sA od.zRd.hn bB)/\w'.cell? ⟨T,2,none⟩=some (.int .i64 od.ps)/\w'.cell? ⟨T,3,none⟩=some (.int .i64 od.pb)/\w'.cell? ⟨w.heap.size,0,none⟩=some (.slice a p.n c)/\w'.cell? ⟨w.heap.size+1,0,none⟩=some (.int .i64 xs)/\w'.cell? ⟨w.heap.size+1,1,none⟩=some (.int .i64 xb))) (by kernel_rfl) ?_ (fun hHeld=>?_)
        ·(try dsimp only)
         go_keep
        refine wpAnyH_take (i:=0) (oi:=({dst:=some 47,op:=Op.fieldAddr 151 (Operand.tmp 11) 0,type:=0,pos:= "l02_tree.go:66",after:=#[],guard:=none}:Oper)) (v:=?_) rfl (by kernel_rfl) (by kernel_rfl) (by kernel_rfl) (fun _ _ _ h=>h) (Or.inl ⟨by rfl,?_⟩) (by assumption) ?_;rotate_left
        ·(intro w cA;(try dsimp only at cA);go_simp;try with_reducible rfl)
        try simp only[Act.put,s1,s2,s3]
        refine wpAnyH_take (i:=1) (oi:=({dst:=some 48,op:=Op.load 33 (Operand.tmp 47),type:=33,pos:= "l02_tree.go:66",after:=#[{on:=0,ground:=Ground.data}],guard:=none}:Oper)) (v:=?_) rfl (by kernel_rfl) (by kernel_rfl) (by kernel_rfl) (fun _ _ _ h=>h) (Or.inl ⟨by rfl,?_⟩) (by assumption) ?_;rotate_left
        ·(intro w cA;(try dsimp only at cA);go_simp;try with_reducible rfl)
        try simp only[Act.put,s1,s2,s3]
        refine wpAnyH_take (i:=2) (oi:=({dst:=some 49,op:=Op.fieldAddr 33 (Operand.tmp 5) 0,type:=0,pos:= "l02_tree.go:66",after:=#[],guard:=none}:Oper)) (v:=?_) rfl (by kernel_rfl) (by kernel_rfl) (by kernel_rfl) (fun _ _ _ h=>h) (Or.inl ⟨by rfl,?_⟩) (by assumption) ?_;rotate_left
        ·(intro w cA;(try dsimp only at cA);go_simp;try with_reducible rfl)
        try simp only[Act.put,s1,s2,s3]
        refine wpAnyH_take (i:=3) (oi:=({dst:=some 50,op:=Op.load 31 (Operand.tmp 49),type:=31,pos:= "l02_tree.go:66",after:=#[{on:=2,ground:=Ground.data}],guard:=none}:Oper)) (v:=?_) rfl (by kernel_rfl) (by kernel_rfl) (by kernel_rfl) (fun _ _ _ h=>h) (Or.inl ⟨by rfl,?_⟩) (by assumption) ?_;rotate_left
        ·(intro w cA;(try dsimp only at cA);go_simp;try with_reducible rfl)
        try simp only[Act.put,s1,s2,s3]
        refine wpAnyH_take (i:=4) (oi:=({dst:=some 51,op:=Op.load 61 (Operand.tmp 6),type:=61,pos:= "l02_tree.go:66",after:=#[],guard:=none}:Oper)) (v:=?_) rfl (by kernel_rfl) (by kernel_rfl) (by kernel_rfl) (fun _ _ _ h=>h) (Or.inl ⟨by rfl,?_⟩) (by assumption) ?_;rotate_left
        ·(intro w cA;(try dsimp only at cA);go_simp;try with_reducible rfl)
        try simp only[Act.put,s1,s2,s3]
        refine wpAnyH_take (i:=5) (oi:=({dst:=some 52,op:=Op.move (Operand.tmp 2),type:=2,pos:= "l02_tree.go:66",after:=#[],guard:=none}:Oper)) (v:=?_) rfl (by kernel_rfl) (by kernel_rfl) (by kernel_rfl) (fun _ _ _ h=>h) (Or.inl ⟨by rfl,?_⟩) (by assumption) ?_;rotate_left
        ·(intro w cA;(try dsimp only at cA);go_simp;try with_reducible rfl)
        try simp only[Act.put,s1,s2,s3]
        refine wpAnyH_take (i:=7) (oi:=({dst:=some 54,op:=Op.fieldAddr 151 (Operand.tmp 11) 1,type:=0,pos:= "l02_tree.go:66",after:=#[],guard:=none}:Oper)) (v:=?_) rfl (by kernel_rfl) (by kernel_rfl) (by kernel_rfl) (fun _ _ _ h=>h) (Or.inl ⟨by rfl,?_⟩) (by assumption) ?_;rotate_left
        ·(intro w cA;(try dsimp only at cA);go_simp;try with_reducible rfl)
        try simp only[Act.put,s1,s2,s3]
        refine wpAnyH_take (i:=8) (oi:=({dst:=some 55,op:=Op.load 61 (Operand.tmp 54),type:=61,pos:= "l02_tree.go:66",after:=#[{on:=7,ground:=Ground.data}],guard:=none}:Oper)) (v:=?_) rfl (by kernel_rfl) (by kernel_rfl) (by kernel_rfl) (fun _ _ _ h=>h) (Or.inl ⟨by rfl,?_⟩) (by assumption) ?_;rotate_left
        ·(intro w cA;(try dsimp only at cA);go_simp;try with_reducible rfl)
        try simp only[Act.put,s1,s2,s3]
        refine wpAnyH_take (i:=9) (oi:=({dst:=some 56,op:=Op.move (Operand.tmp 4),type:=2,pos:= "l02_tree.go:66",after:=#[],guard:=none}:Oper)) (v:=?_) rfl (by kernel_rfl) (by kernel_rfl) (by kernel_rfl) (fun _ _ _ h=>h) (Or.inl ⟨by rfl,?_⟩) (by assumption) ?_;rotate_left
        ·(intro w cA;(try dsimp only at cA);go_simp;try with_reducible rfl)
        try simp only[Act.put,s1,s2,s3]
        refine wpAnyH_ready (rs:=[6]) (by kernel_rfl) (by simp) ?_;refine AllReadyH.cons (o:=({dst:=some 53,op:=Op.call {callee:=Callee.value (Operand.func 102),args:=#[Operand.tmp 50,Operand.tmp 51,Operand.tmp 52],argTypes:=#[31,61,2]},type:=159,pos:= "l02_tree.go:66",after:=#[{on:=3,ground:=Ground.data},{on:=4,ground:=Ground.data},{on:=5,ground:=Ground.data}],guard:=none}:Oper)) rfl (fun K hK=>?_) AllReadyH.nil;go_simp;go_at_call 102;refine(zJY _ lo hi p xs xb n _ ?_ mB.out nA).mono ?_
        ·first | exact(Hp.out.zRX aB).1 | exact(Hp.out.zRX aB.drew).1
        rintro e wa ⟨o,rfl,fB,kA⟩;obtain⟨mC,fC,rfl,_⟩:=zY fB;have jA:=zE fB;clear fB;have gA:Below wD.heap.size wD wa:=(by first | exact kA | exact zK kA);obtain⟨⟨k0,_⟩,⟨k1,_⟩,⟨k2,_⟩,⟨k3,_⟩,_⟩:=lA.out.zRX gA;obtain⟨⟨k4,_⟩,_⟩:=rA.out.zRX gA;obtain⟨⟨k5,_⟩,⟨k6,_⟩⟩:=tA.out.zRX gA
        (try go_wp2_with fail)
        refine hK.out _ _ ?_ (fun aA=>?_)
        ·(try dsimp only)
         go_keep
        clear hK K hHeld;have hHeld:=aA;clear aA
        try simp only[Act.put,s1,s2,s3]
        refine wpAnyH_ready (rs:=[10]) (by kernel_rfl) (by simp) ?_;refine AllReadyH.cons (o:=({dst:=some 57,op:=Op.call {callee:=Callee.value (Operand.func 101),args:=#[Operand.tmp 48,Operand.tmp 53,Operand.tmp 55,Operand.tmp 56],argTypes:=#[33,159,61,2]},type:=64,pos:= "l02_tree.go:66",after:=#[{on:=1,ground:=Ground.data},{on:=6,ground:=Ground.data},{on:=8,ground:=Ground.data},{on:=9,ground:=Ground.data},{on:=6,ground:=Ground.chain}],guard:=none}:Oper)) rfl (fun K hK=>?_) AllReadyH.nil;go_simp;go_at_call 101;refine(zG4 _ _ _ _ p od.zRd xs xb od.ps od.pb b n _ wa (dC.out.zRX gA).at nA rC.out (jA.out.mono (Nat.zero_le _))).mono ?_;rintro e wb (⟨sB,rB,dB⟩ | ⟨sB,s0,s1,rB,cC,dB⟩);rotate_left
        ·exact absurd sB HC.out
        subst rB;have eA:=zA gA dB;obtain⟨⟨l0,_⟩,⟨l1,_⟩,⟨l2,_⟩,⟨l3,_⟩,_⟩:=lA.out.zRX eA;obtain⟨⟨l4,_⟩,_⟩:=rA.out.zRX eA;obtain⟨⟨l5,_⟩,⟨l6,_⟩⟩:=tA.out.zRX eA;have vB:=zE (tB.out.zRX eA);obtain⟨⟨r0,r1⟩,⟨r2,r3⟩,⟨r4,r5⟩,⟨r6,r7⟩,⟨r8,r9⟩,⟨mA,oA⟩⟩:=vB.out;have dA:Hid (∀(u0 u1 u2 u3 u4 u5:Value),(fun (w':World)=>w'.cell? ⟨T,0,none⟩=some (.slice ta od.zRd.n tc)/\w'.cell? ⟨T,1,none⟩=some (.slice sA od.zRd.hn bB)/\w'.cell? ⟨T,2,none⟩=some (.int .i64 od.ps)/\w'.cell? ⟨T,3,none⟩=some (.int .i64 od.pb)/\w'.cell? ⟨w.heap.size,0,none⟩=some (.slice a p.n c)/\w'.cell? ⟨w.heap.size+1,0,none⟩=some (.int .i64 xs)/\w'.cell? ⟨w.heap.size+1,1,none⟩=some (.int .i64 xb)) (put6 wb (w.heap.size+1+1) u0 u1 u2 u3 u4 u5)):=by
         intro u0 u1 u2 u3 u4 u5;have t:=zF.put6 wb (w.heap.size+1+1) u0 u1 u2 u3 u4 u5;have g1:=(lA.out.zRX eA).zRf t (by omega);have g2:=(rA.out.zRX eA).zRf t (by omega);have g3:=(tA.out.zRX eA).zRf t (by omega);exact⟨g1.1.1,g1.2.1.1,g1.2.2.1.1,g1.2.2.2.1.1,g2.1.1,g3.1.1,g3.2.1⟩
        (try go_wp2_with fail)
        refine hK.out _ _ ?_ (fun aA=>?_)
        ·(try dsimp only)
         go_keep
        clear hK K hHeld;have hHeld:=aA;clear aA
        try simp only[Act.put,s1,s2,s3]
        refine wpAnyH_ready (rs:=[11]) (by kernel_rfl) (by simp) ?_;refine AllReadyH.cons (o:=({dst:=none,op:=Op.store 64 (Operand.tmp 10) (Operand.tmp 57),type:=0,pos:= "l02_tree.go:66",after:=#[{on:=10,ground:=Ground.data},{on:=10,ground:=Ground.chain},{on:=0,ground:=Ground.phase},{on:=1,ground:=Ground.phase},{on:=2,ground:=Ground.phase},{on:=3,ground:=Ground.phase},{on:=4,ground:=Ground.phase},{on:=5,ground:=Ground.phase},{on:=6,ground:=Ground.phase},{on:=7,ground:=Ground.phase},{on:=8,ground:=Ground.phase},{on:=9,ground:=Ground.phase},{on:=10,ground:=Ground.phase}],guard:=none}:Oper)) rfl (fun K hK=>?_) AllReadyH.nil;go_simp
        (try go_wp2_with fail)
        refine hK.out _ _ ?_ (fun aA=>?_)
        ·(try dsimp only)
         exact dA.out _ _ _ _ _ _
        clear hK K hHeld;have hHeld:=aA;clear aA
        try simp only[Act.put,s1,s2,s3]
        refine wpAnyH_done (by kernel_rfl) ?_ _;have bA:=vB.out.put (.slice none 0 0) (.slice none 0 0) (.int .i64 0) (.int .i64 0) (.slice none 0 0) (.int .i64 (zBi p xs xb n b ⟨od.zRd,od.ps,od.pb,0⟩).code);have fA:=zAm (R:=w.heap.size+1+1) (c:=(zBi p xs xb n b ⟨od.zRd,od.ps,od.pb,0⟩).code) (by omega) (zA aB eA);have fD:=zE fA;clear hHeld dA l0 l1 l2 l3 l4 l5 l6 k0 k1 k2 k3 k4 k5 k6 fA;go_wp2;have hE:=jC.out.trans (zPv HC.out);rw[hE];exact bodyPost_ret (v:=.agg #[.slice none 0 0,.slice none 0 0,.int .i64 0,.int .i64 0,.slice none 0 0,.int .i64 (zBi p xs xb n b ⟨od.zRd,od.ps,od.pb,0⟩).code]) (by simp[results,Tryz.results36,go_sem,bA.1.1,bA.2.1.1,bA.2.2.1.1,bA.2.2.2.1.1,bA.2.2.2.2.1.1,bA.2.2.2.2.2.1]) rfl fD.out
      ·have jD:(od.code != 0)=true:=(by simp[hc]);have jC:=zE (lC.out hc);clear hc lC iC;obtain⟨⟨r0,r1⟩,⟨r2,r3⟩,⟨r4,r5⟩,⟨r6,r7⟩,⟨r8,r9⟩,⟨mA,oA⟩⟩:=tB.out
       try go_wp2
       have bA:=tB.out.put (.slice none 0 0) (.slice none 0 0) (.int .i64 0) (.int .i64 0) (.slice none 0 0) (.int .i64 od.code);have fA:=zAm (R:=w.heap.size+1+1) (c:=od.code) (by omega) aB;rw[jC.out];exact bodyPost_ret (v:=.agg #[.slice none 0 0,.slice none 0 0,.int .i64 0,.int .i64 0,.slice none 0 0,.int .i64 od.code]) (by simp[results,Tryz.results36,go_sem,bA.1.1,bA.2.1.1,bA.2.2.1.1,bA.2.2.2.1.1,bA.2.2.2.2.1.1,bA.2.2.2.2.2.1]) rfl fA
     ·have aC:Hid (¬(zCH (n:Int)/\d.size=16)):=fun h=>iA h.2
      have iD:((d.size:Int) != 16)=true:=(by simp;omega);clear iA;go_wp2_with (first | (go_at_call 99;refine(zC1 _ _).mono ?_;rintro e w9 ⟨⟨t2,rfl,cB⟩,rfl⟩;obtain rfl:t2=true:=cB.2 jB.out;clear cB) | fail);obtain⟨⟨r0,r1⟩,⟨r2,r3⟩,⟨r4,r5⟩,⟨r6,r7⟩,⟨r8,r9⟩,⟨mA,oA⟩⟩:=pA.out
      try go_wp2
      have bA:=pA.out.put (.slice none 0 0) (.slice none 0 0) (.int .i64 0) (.int .i64 0) (.slice none 0 0) (.int .i64 8);have fA:=zAm (R:=w.heap.size+1+1) (c:=8) (by omega) nB;rw[zB7 vA.out gC.out aC.out];exact bodyPost_ret (v:=.agg #[.slice none 0 0,.slice none 0 0,.int .i64 0,.int .i64 0,.slice none 0 0,.int .i64 8]) (by simp[results,Tryz.results36,go_sem,bA.1.1,bA.2.1.1,bA.2.2.1.1,bA.2.2.2.1.1,bA.2.2.2.2.1.1,bA.2.2.2.2.2.1]) rfl fA
    ·have jB:=zE hN;clear hN;go_wp2_with (first | (go_at_call 99;refine(zC1 _ _).mono ?_;rintro e w9 ⟨⟨t2,rfl,cB⟩,rfl⟩;obtain rfl:t2=false:=zQ cB jB.out;clear cB) | fail);obtain⟨⟨r0,r1⟩,⟨r2,r3⟩,⟨r4,r5⟩,⟨r6,r7⟩,⟨r8,r9⟩,⟨mA,oA⟩⟩:=pA.out
     try go_wp2
     have bA:=pA.out.put (.slice none 0 0) (.slice none 0 0) (.int .i64 0) (.int .i64 0) (.slice none 0 0) (.int .i64 8);have fA:=zAm (R:=w.heap.size+1+1) (c:=8) (by omega) nB;rw[zB7 vA.out gC.out (fun h=>jB.out h.1)];exact bodyPost_ret (v:=.agg #[.slice none 0 0,.slice none 0 0,.int .i64 0,.int .i64 0,.slice none 0 0,.int .i64 8]) (by simp[results,Tryz.results36,go_sem,bA.1.1,bA.2.1.1,bA.2.2.1.1,bA.2.2.2.1.1,bA.2.2.2.2.1.1,bA.2.2.2.2.2.1]) rfl fA
   ·have gD:=zE kB;obtain rfl:t=false:=zQ ht kB;clear ht kB;obtain⟨⟨r0,r1⟩,⟨r2,r3⟩,⟨r4,r5⟩,⟨r6,r7⟩,⟨r8,r9⟩,⟨mA,oA⟩⟩:=pA.out
    try go_wp2
    have bA:=pA.out.put (.slice none 0 0) (.slice none 0 0) (.int .i64 0) (.int .i64 0) (.slice none 0 0) (.int .i64 1);have fA:=zAm (R:=w.heap.size+1+1) (c:=1) (by omega) nB;rw[zCt vA.out (fun h=>gD.out h.2)];exact bodyPost_ret (v:=.agg #[.slice none 0 0,.slice none 0 0,.int .i64 0,.int .i64 0,.slice none 0 0,.int .i64 1]) (by simp[results,Tryz.results36,go_sem,bA.1.1,bA.2.1.1,bA.2.2.1.1,bA.2.2.2.1.1,bA.2.2.2.2.1.1,bA.2.2.2.2.2.1]) rfl fA
  ·have mB:=zE lB;obtain rfl:t=false:=zQ ht lB;clear ht lB;obtain⟨⟨r0,r1⟩,⟨r2,r3⟩,⟨r4,r5⟩,⟨r6,r7⟩,⟨r8,r9⟩,⟨mA,oA⟩⟩:=kC.out
   try go_wp2
   have bA:=kC.out.put (.slice none 0 0) (.slice none 0 0) (.int .i64 0) (.int .i64 0) (.slice none 0 0) (.int .i64 1);have fA:=zAm (R:=w.heap.size+1+1) (c:=1) (by omega) tC;rw[zCt vA.out (fun h=>mB.out h.1)];exact bodyPost_ret (v:=.agg #[.slice none 0 0,.slice none 0 0,.int .i64 0,.int .i64 0,.slice none 0 0,.int .i64 1]) (by simp[results,Tryz.results36,go_sem,bA.1.1,bA.2.1.1,bA.2.2.1.1,bA.2.2.2.1.1,bA.2.2.2.2.1.1,bA.2.2.2.2.2.1]) rfl fA
theorem zHr{p:zI}{xs xb:Int}{n:Nat}(hT:qp p xs xb)(hn:n<64):∀{L:Nat},L<3->¬Nil (qy p xs xb n L) (yk p xs xb n L)->zr p (qy p xs xb n L) (yk p xs xb n L)/\yk p xs xb n L<=xb
 | 0,_,hN=>⟨(hT.2.resolve_left hN).1.1,Int.le_refl _⟩
 | L+1,hL,hN=>by
  have aA:¬Nil (qy p xs xb n L) (yk p xs xb n L):=fun h=>hN (zEz h (by omega))
  obtain⟨h1,h2⟩:=zHr hT hn (L:=L) (by omega) aA;rw[(zDd p xs xb n (show L<2 by omega)).1,(zDd p xs xb n (show L<2 by omega)).2]at hN ⊢;unfold zCK at hN ⊢;rw[if_neg aA,if_neg aA]at hN ⊢;obtain⟨h3,h4⟩:=zAl (qS hT.1 h1) (zJ5 (n:=n) (L:=L) hn) hN;refine⟨h3,?_⟩;have h5:=h1.2.2.2;have bA:zj (p.s (qy p xs xb n L).toNat) (plc n L*2+1)<=(p.s (qy p xs xb n L).toNat).zRi:=h4;omega
theorem zLi{p q:zI}{xs xb x y b:Int}{n L:Nat}(hT:qp p xs xb)(hn:n<64)(hL:L<2)(hB:yB xb b)(bA:∀s t,zr p s t->zr q s t)(hx:Nil x y\/(zr q x y/\y<=b)) :
  zAg q (zAk (zBT p xs xb n L x) (zBR p xs xb n L y) b):=by
 refine⟨hB.1,Or.inr ⟨rfl,by simp[zAk,Go.ByteArray.toList_eq],fun i hi=>?_⟩⟩;have aA:i<8:=hi;show zIW q b (zBT p xs xb n L x i) (zBR p xs xb n L y i);unfold zBT zBR;by_cases e:i=plc n L
 ·rw[if_pos e,if_pos e];rcases hx with h | h
  ·exact Or.inl h
  ·exact Or.inr h
 ·rw[if_neg e,if_neg e];unfold yo zAI;by_cases hN:Nil (qy p xs xb n L) (yk p xs xb n L)
  ·rw[if_pos hN,if_pos hN];exact Or.inl ⟨rfl,rfl⟩
  ·rw[if_neg hN,if_neg hN];obtain⟨h1,h2⟩:=zHr hT hn (L:=L) (by omega) hN;by_cases hk:Nil (zb (p.s (qy p xs xb n L).toNat) i) (zt (p.s (qy p xs xb n L).toNat) i)
   ·exact Or.inl hk
   ·obtain⟨h3,h4⟩:=zAl (qS hT.1 h1) aA hk;refine Or.inr ⟨bA _ _ h3,?_⟩;have h5:=h1.2.2.2;have h6:=hB.2;omega
theorem zDc{f:Nat->zL}:∀{n:Nat},roomN f n=0->∀j,j<n->¬qE (f j)
 | 0,_,j,hj=>absurd hj (Nat.not_lt_zero _)
 | n+1,h,j,hj=>by
  by_cases hf:qE (f n)
  ·rw[zBt hf]at h;omega
  ·rw[zCD hf]at h;by_cases e:j=n
   ·rw[e];exact hf
   ·exact zDc h j (by omega)
theorem zAW{f:Nat->zL}:∀{n:Nat},0<roomN f n->∃i,qz n f i
 | 0,h=>absurd h (Nat.lt_irrefl _)
 | n+1,h=>by
  by_cases h0:0<roomN f n
  ·obtain⟨i,h1,h2,h3⟩:=zAW h0;exact⟨i,by omega,h2,h3⟩
  ·by_cases hf:qE (f n)
   ·exact⟨n,by omega,hf,zDc (by omega)⟩
   ·rw[zCD hf]at h;exact absurd h h0
theorem zCY{p:zI}{i:Nat}{s:zL}(hi:qz p.n p.s i)(hs:zAg p s):roomN (yF p i s).s p.n+1=roomN p.s p.n:=by
 have h:=zLh (p:=p) (i:=i) (s:=s) hi.2.1 (zAH hs) p.n;rw[if_pos hi.1]at h;exact h
theorem zAe{p:zI}{b:Int}{d:ByteArray}(hb:qi b)(hd:d.size=16):zAg p (qj b d):=⟨hb,Or.inl ⟨rfl,hd⟩⟩
theorem zDx{p:zI}{i:Nat}{s:zL}(hi:qz p.n p.s i)(hs:1<=s.zRi):zr (yF p i s) (i:Int) s.zRi:=
 ⟨hs,by omega,by have:=hi.1;show(i:Int)<(p.n:Int);omega,by rw[Int.toNat_natCast,zCB]⟩
theorem zD1{p:zI}{xs xb x b:Int}{n L:Nat}(hn:n<64)(hb:1<=b):¬zEW (zBT p xs xb n L x) (zBR p xs xb n L b):=fun h=>by
 have:=(h (plc n L) (zJ5 hn)).2;unfold zBR at this;rw[if_pos rfl]at this;omega
def qh(p:zI)(b:Int)(d:ByteArray)(i0:Nat):zI:=yF p i0 (qj b d)
def zAa(p:zI)(xs xb:Int)(n:Nat)(b:Int)(d:ByteArray)(i0 i1:Nat):zI:=yF (qh p b d i0) i1 (zAk (zBT p xs xb n 1 (i0:Int)) (zBR p xs xb n 1 b) b)
def zG5(p:zI)(xs xb:Int)(n:Nat)(b:Int)(d:ByteArray)(i0 i1 i2:Nat):zI:=yF (zAa p xs xb n b d i0 i1) i2 (zAk (zBT p xs xb n 0 (i1:Int)) (zBR p xs xb n 0 b) b)
theorem zRJ{p:zI}{xs xb b:Int}{d:ByteArray}{i0:Nat}(hT:qp p xs xb)(hB:yB xb b)(hd:d.size=16)(h0:qz p.n p.s i0):qx p (qj b d)=⟨qh p b d i0,(i0:Int),b,0⟩:=
 zHS ⟨hT.1,zAH (zAe (p:=p) hB.1 hd),zAe hB.1 hd⟩ h0
theorem zD6{p:zI}{xs xb b:Int}{d:ByteArray}{i0:Nat}(hT:qp p xs xb)(hB:yB xb b)(hd:d.size=16)(h0:qz p.n p.s i0):zx (qh p b d i0):=zGV hT.1 h0 (zAe hB.1 hd)
theorem zBc{p:zI}{xs xb b:Int}{n:Nat}{d:ByteArray}{i0:Nat}(hT:qp p xs xb)(hn:n<64)(hB:yB xb b)(h0:qz p.n p.s i0):zAg (qh p b d i0) (zAk (zBT p xs xb n 1 (i0:Int)) (zBR p xs xb n 1 b) b):=
 zLi hT hn (by omega) hB (fun s t h=>zD5 h0.2.1 h) (Or.inr ⟨zDx (s:=qj b d) h0 hB.1.1,Int.le_refl _⟩)
theorem zEP{p:zI}{xs xb b:Int}{n:Nat}{d:ByteArray}{i0 i1:Nat}(hT:qp p xs xb)(hn:n<64)(hB:yB xb b)(h0:qz p.n p.s i0)(h1:qz p.n (qh p b d i0).s i1):zAg (zAa p xs xb n b d i0 i1) (zAk (zBT p xs xb n 0 (i1:Int)) (zBR p xs xb n 0 b) b):=
 zLi hT hn (by omega) hB (fun s t h=>zD5 (p:=qh p b d i0) h1.2.1 (zD5 h0.2.1 h)) (Or.inr ⟨zDx (p:=qh p b d i0) (s:=zAk (zBT p xs xb n 1 (i0:Int)) (zBR p xs xb n 1 b) b) h1 hB.1.1,Int.le_refl _⟩)
theorem zRE{p:zI}{xs xb b:Int}{n:Nat}{d:ByteArray}{i0:Nat}(hn:n<64)(hB:yB xb b):layS p xs xb n b ⟨qh p b d i0,(i0:Int),b,0⟩ 1=qx (qh p b d i0) (zAk (zBT p xs xb n 1 (i0:Int)) (zBR p xs xb n 1 b) b):=
 if_neg (zD1 hn hB.1.1)
theorem zK6{p:zI}{xs xb b:Int}{n:Nat}{d:ByteArray}{i0 i1:Nat}(hT:qp p xs xb)(hn:n<64)(hB:yB xb b)(hd:d.size=16)(h0:qz p.n p.s i0)(h1:qz p.n (qh p b d i0).s i1):layS p xs xb n b ⟨qh p b d i0,(i0:Int),b,0⟩ 1=⟨zAa p xs xb n b d i0 i1,(i1:Int),b,0⟩:=by
 rw[zRE hn hB];exact zHS ⟨zD6 hT hB hd h0,zAH (zBc (d:=d) hT hn hB h0),zBc hT hn hB h0⟩ h1
theorem zRN{p:zI}{xs xb b:Int}{n:Nat}{d:ByteArray}{i0 i1:Nat}(hT:qp p xs xb)(hn:n<64)(hB:yB xb b)(hd:d.size=16)(h0:qz p.n p.s i0)(h1:qz p.n (qh p b d i0).s i1):layS p xs xb n b ⟨qh p b d i0,(i0:Int),b,0⟩ 2=qx (zAa p xs xb n b d i0 i1) (zAk (zBT p xs xb n 0 (i1:Int)) (zBR p xs xb n 0 b) b):=by
 show zNl p xs xb n b (layS p xs xb n b ⟨qh p b d i0,(i0:Int),b,0⟩ 1) 0=_;rw[zK6 hT hn hB hd h0 h1];exact if_neg (zD1 hn hB.1.1)
theorem zNq{n:Nat}(hn:n<64):zCH (n:Int):=⟨by omega,by omega⟩
theorem zMK{p:zI}{xs xb b:Int}{n:Nat}{d:ByteArray}{i0:Nat}(hT:qp p xs xb)(hn:n<64)(hB:yB xb b)(hd:d.size=16)(h0:qz p.n p.s i0):qo p xs xb (n:Int) d b=zBi p xs xb n b ⟨qh p b d i0,(i0:Int),b,0⟩:=by
 have t0:=zRJ hT hB hd h0;rw[zJR (by omega) ⟨hT,hB⟩ ⟨zNq hn,hd⟩ (by rw[t0]),t0];rfl
theorem zFb{p:zI}{xs xb b:Int}{n:Nat}{d:ByteArray}{i0 i1:Nat}(hT:qp p xs xb)(hn:n<64)(hB:yB xb b)(hd:d.size=16)(h0:qz p.n p.s i0)(h1:qz p.n (qh p b d i0).s i1):zx (zAa p xs xb n b d i0 i1):=
 zGV (zD6 hT hB hd h0) h1 (zBc hT hn hB h0)
theorem zLe{p:zI}{xs xb b:Int}{n:Nat}{d:ByteArray}{i0 i1 i2:Nat}(hT:qp p xs xb)(hn:n<64)(hB:yB xb b)(hd:d.size=16)(h0:qz p.n p.s i0)(h1:qz p.n (qh p b d i0).s i1)(h2:qz p.n (zAa p xs xb n b d i0 i1).s i2) :
  qo p xs xb (n:Int) d b=⟨zG5 p xs xb n b d i0 i1 i2,(i2:Int),b,yf p xs xb n 3,0⟩:=by
 rw[zMK hT hn hB hd h0];have e1:=zK6 hT hn hB hd h0 h1;have e2:layS p xs xb n b ⟨qh p b d i0,(i0:Int),b,0⟩ 2=⟨zG5 p xs xb n b d i0 i1 i2,(i2:Int),b,0⟩:=by
  rw[zRN hT hn hB hd h0 h1];exact zHS ⟨zFb hT hn hB hd h0 h1,zAH (zEP (d:=d) hT hn hB h0 h1),zEP hT hn hB h0 h1⟩ h2
 rw[zK7 (fun j hj=>by
  rcases j with _ | _ | _ | j
  ·rfl
  ·rw[e1]
  ·rw[e2]
  ·omega),e2]
theorem zHl{p:zI}{xs xb b:Int}{n:Nat}{d:ByteArray}(hT:qp p xs xb)(hn:n<64)(hB:yB xb b)(hd:d.size=16)(hr:roomN p.s p.n<3):qo p xs xb (n:Int) d b=zAS 6:=by
 by_cases r0:roomN p.s p.n=0
 ·have t0:=zE1 (p:=p) (s:=qj b d) ⟨hT.1,zAH (zAe (p:=p) hB.1 hd),zAe hB.1 hd⟩ (zDc r0);rw[zH1 (by omega) ⟨hT,hB⟩ ⟨zNq hn,hd⟩ (by rw[t0];decide),t0]
 ·obtain⟨i0,h0⟩:=zAW (f:=p.s) (n:=p.n) (by omega);have q0:=zCY (s:=qj b d) h0 (zAe hB.1 hd);rw[zMK hT hn hB hd h0];by_cases r1:roomN (qh p b d i0).s p.n=0
  ·have t1:=zE1 (p:=qh p b d i0) ⟨zD6 hT hB hd h0,zAH (zBc (n:=n) (d:=d) hT hn hB h0),zBc hT hn hB h0⟩ (zDc r1);have e1:=zRE (p:=p) (xs:=xs) (d:=d) (i0:=i0) hn hB;rw[t1]at e1;rw[zKQ (k:=0) (by omega) (fun j hj=>by cases (show j=0 from by omega);rfl) (by rw[e1];decide),e1]
  ·obtain⟨i1,h1⟩:=zAW (f:=(qh p b d i0).s) (n:=p.n) (by omega);have q1:roomN (zAa p xs xb n b d i0 i1).s p.n+1=roomN (qh p b d i0).s p.n:=zCY (p:=qh p b d i0) h1 (zBc hT hn hB h0);have aA:roomN (qh p b d i0).s p.n+1=roomN p.s p.n:=q0;have r2:roomN (zAa p xs xb n b d i0 i1).s p.n=0:=(by omega);have t2:=zE1 (p:=zAa p xs xb n b d i0 i1) ⟨zFb hT hn hB hd h0 h1,zAH (zEP (d:=d) hT hn hB h0 h1),zEP hT hn hB h0 h1⟩ (zDc r2);have e1:=zK6 hT hn hB hd h0 h1;have e2:=zRN hT hn hB hd h0 h1;rw[t2]at e2;rw[zKQ (k:=1) (by omega) (fun j hj=>by
    rcases j with _ | _ | j
    ·rfl
    ·rw[e1]
    ·omega) (by rw[e2];decide),e2]
theorem zHt{l:List (Int×Int)}{x:Int}:x∈yG l↔∃y,(x,y)∈l:=by
 unfold yG;rw[List.mem_map];constructor
 ·rintro⟨⟨a,b⟩,h,rfl⟩;exact⟨b,h⟩
 ·rintro⟨y,h⟩;exact⟨(x,y),h,rfl⟩
theorem zFA{xs xb x:Int}:x∈yG (one xs xb)↔x=xs/\¬Nil xs xb:=by
 rw[zHt];constructor
 ·rintro⟨y,h⟩;obtain⟨e,hn⟩:=zKb.1 h;simp only[Prod.mk.injEq]at e;exact⟨e.1,hn⟩
 ·rintro⟨rfl,hn⟩;exact⟨xb,zKb.2 ⟨rfl,hn⟩⟩
theorem zEF{ks kb:Nat->Int}{k:Nat}{x:Int}:x∈yG (kidsUp ks kb k)↔∃i,i<k/\x=ks i/\¬Nil (ks i) (kb i):=by
 rw[zHt];constructor
 ·rintro⟨y,h⟩;obtain⟨i,hi,e,hn⟩:=zAT.1 h;simp only[Prod.mk.injEq]at e;exact⟨i,hi,e.1,hn⟩
 ·rintro⟨i,hi,rfl,hn⟩;exact⟨kb i,zAT.2 ⟨i,hi,rfl,hn⟩⟩
theorem zOi(xs xb:Int):(yG (one xs xb)).Nodup:=by
 unfold one yG;split<;>simp
theorem zGN{ks kb:Nat->Int}:∀{k:Nat},(yG (kidsUp ks kb k)).Nodup↔∀i,i<k->∀j,j<i->¬Nil (ks i) (kb i)->¬Nil (ks j) (kb j)->ks j≠ks i
 | 0=>by simp[kidsUp,yG]
 | k+1=>by
  rw[kidsUp,zA1,List.nodup_append,zGN (k:=k)];constructor
  ·rintro⟨h1,_,h2⟩ i hi j hj ni nj;by_cases e:i=k
   ·subst e;exact h2 _ (zEF.2 ⟨j,hj,rfl,nj⟩) _ (zFA.2 ⟨rfl,ni⟩)
   ·exact h1 i (by omega) j hj ni nj
  ·intro h;refine⟨fun i hi j hj=>h i (by omega) j hj,zOi _ _,fun a ha b hb=>?_⟩;obtain⟨j,hj,rfl,nj⟩:=zEF.1 ha;obtain⟨rfl,nk⟩:=zFA.1 hb;exact h k (Nat.lt_succ_self k) j hj nk nj
theorem zGd{p:zI}{x xb y yb:Int}(h:zAi p x xb)(h':zBo p y yb):x≠y:=fun e=>by
 subst e;have:=h.2.1;have:=h'.2.1;omega
theorem zOA{p:zI}{rs:Int}(hT:zQn p (p.s rs.toNat)){i:Nat}(hi:i<8)(hn:¬Nil (zb (p.s rs.toNat) i) (zt (p.s rs.toNat) i)):zb (p.s rs.toNat) i≠rs:=fun e=>by
 have h1:=(hT.1 i hi).resolve_left hn;rw[e]at h1;obtain⟨j,hj,nj⟩:=hT.2;have h2:=((hT.1 j hj).resolve_left nj).1;have h3:=(h1.2.1 j hj).resolve_left nj;exact zGd h2 h3 rfl
structure Ext (p q:zI):Prop where
 n:q.n=p.n
 hn:q.hn=p.hn
 h:q.h=p.h
 s:∀j,¬qE (p.s j)->q.s j=p.s j
theorem Ext.refl(p:zI):Ext p p:=⟨rfl,rfl,rfl,fun _ _=>rfl⟩
theorem Ext.trans{p q r:zI}(h:Ext p q)(k:Ext q r):Ext p r:=⟨k.n.trans h.n,k.hn.trans h.hn,k.h.trans h.h,fun j hj=>(k.s j (by rw[h.s j hj];exact hj)).trans (h.s j hj)⟩
theorem Ext.set{p:zI}{i:Nat}(hi:qE (p.s i))(s:zL):Ext p (yF p i s):=⟨rfl,rfl,rfl,fun j hj=>zDY p s (fun e=>hj (e▸hi))⟩
theorem zHN{p:zI}{xs xb:Int}(h:zr p xs xb):¬qE (p.s xs.toNat):=fun hf=>by
 have:=hf.1;have:=h.1;have:=h.2.2.2;omega
theorem Ext.at{p q:zI}(h:Ext p q){xs xb:Int}(hp:zr p xs xb):q.s xs.toNat=p.s xs.toNat:=h.s _ (zHN hp)
theorem Ext.points{p q:zI}(h:Ext p q){xs xb:Int}(hp:zr p xs xb):zr q xs xb:=⟨hp.1,hp.2.1,by rw[h.n];exact hp.2.2.1,by rw[h.at hp];exact hp.2.2.2⟩
theorem Ext.has{p q:zI}(h:Ext p q)(x:Int):Has q.hn q.h x↔Has p.hn p.h x:=by rw[h.hn,h.h]
theorem Ext.node{p q:zI}(h:Ext p q){xs xb:Int}(hp:zAi p xs xb):zAi q xs xb:=⟨h.points hp.1,by rw[h.at hp.1];exact hp.2.1,fun e=>hp.2.2 ((h.has xs).1 e)⟩
theorem Ext.zRj{p q:zI}(h:Ext p q){xs xb:Int}(hp:zBo p xs xb):zBo q xs xb:=⟨h.points hp.1,by rw[h.at hp.1];exact hp.2.1,fun e=>hp.2.2 ((h.has xs).1 e)⟩
def zL8(p:zI)(x:Int):Prop:=qE (p.s x.toNat)
structure New (p:zI) (xs xb:Int) (n:Nat) (b:Int) (q:zI) (ys yb ms mb gs gb:Int):Prop where
 ext:Ext p q
 right:zx q
 zRj:Nil gs gb\/(zBo q gs gb/\zL8 p gs)
 node:(Nil ms mb/\zEW (zBT p xs xb n 1 gs) (zBR p xs xb n 1 gb))\/(zAi q ms mb/\zL8 p ms/\q.s ms.toNat=zAk (zBT p xs xb n 1 gs) (zBR p xs xb n 1 gb) b/\¬zEW (zBT p xs xb n 1 gs) (zBR p xs xb n 1 gb))
 root:(Nil ys yb/\zEW (zBT p xs xb n 0 ms) (zBR p xs xb n 0 mb))\/(zAi q ys yb/\zL8 p ys/\q.s ys.toNat=zAk (zBT p xs xb n 0 ms) (zBR p xs xb n 0 mb) b/\¬zEW (zBT p xs xb n 0 ms) (zBR p xs xb n 0 mb))
theorem zOr{p:zI}{xs xb:Int}(hT:qp p xs xb){z:Int×Int}:z∈zR p xs xb↔(z=(xs,xb)/\¬Nil xs xb)\/(∃i,i<8/\z=(yo p xs xb i,zAI p xs xb i)/\¬Nil (yo p xs xb i) (zAI p xs xb i))\/∃k,k<64/\z=(yw p xs xb k,zAC p xs xb k)/\¬Nil (yw p xs xb k) (zAC p xs xb k):=by
 by_cases hz:Nil xs xb
 ·have e0:∀i,yo p xs xb i=0/\zAI p xs xb i=0:=fun i=>⟨if_pos hz,if_pos hz⟩
  have e1:∀k,Nil (yw p xs xb k) (zAC p xs xb k):=fun k=>by
   have hn:Nil (yK p xs xb k) (yp p xs xb k):=e0 (k / 8);exact⟨if_pos hn,if_pos hn⟩
  unfold zR;rw[if_pos hz];constructor
  ·intro h;simp at h
  ·rintro(⟨_,h⟩ | ⟨i,_,_,h⟩ | ⟨k,_,_,h⟩)
   ·exact absurd hz h
   ·exact absurd (e0 i) h
   ·exact absurd (e1 k) h
 ·have e0:∀i,yo p xs xb i=zb (p.s xs.toNat) i/\zAI p xs xb i=zt (p.s xs.toNat) i:=fun i=>⟨if_neg hz,if_neg hz⟩
  unfold zR;rw[if_neg hz,List.mem_cons,zCX];constructor
  ·rintro(h | ⟨i,hi,h⟩)
   ·exact Or.inl ⟨h,hz⟩
   ·obtain⟨hn,h⟩:=zCx.1 h;rw[<-(e0 i).1,<-(e0 i).2]at hn;rcases h with h | h
    ·exact Or.inr (Or.inl ⟨i,hi,by rw[(e0 i).1,(e0 i).2];exact h,hn⟩)
    ·obtain⟨a,ha,h,na⟩:=zAT.1 h;have q1:(i*8+a) / 8=i:=(by omega);have q2:(i*8+a) % 8=a:=(by omega);have e1:yw p xs xb (i*8+a)=zb (p.s (zb (p.s xs.toNat) i).toNat) a:=by
      unfold yw yK yp;rw[q1,q2];unfold yo at hn ⊢;rw[if_neg hz]at hn ⊢;rw[if_neg hn]
     have e2:zAC p xs xb (i*8+a)=zt (p.s (zb (p.s xs.toNat) i).toNat) a:=by
      have bA:=hn;rw[(e0 i).1,(e0 i).2]at bA;unfold zAC yK yp;rw[q1,q2,(e0 i).1,(e0 i).2];exact if_neg bA
     exact Or.inr (Or.inr ⟨i*8+a,by omega,by rw[e1,e2];exact h,by rw[e1,e2];exact na⟩)
  ·rintro(⟨h,_⟩ | ⟨i,hi,h,hn⟩ | ⟨k,hk,h,hn⟩)
   ·exact Or.inl h
   ·rw[(e0 i).1,(e0 i).2]at h hn;exact Or.inr ⟨i,hi,zCx.2 ⟨hn,Or.inl h⟩⟩
   ·have aA:¬Nil (yK p xs xb k) (yp p xs xb k):=fun hx=>hn ⟨if_pos hx,if_pos hx⟩
    have e1:yw p xs xb k=zb (p.s (yK p xs xb k).toNat) (k % 8):=if_neg aA;have e2:zAC p xs xb k=zt (p.s (yK p xs xb k).toNat) (k % 8):=if_neg aA;rw[e1,e2]at h hn;have e3:yK p xs xb k=zb (p.s xs.toNat) (k / 8):=(e0 (k / 8)).1;have e4:yp p xs xb k=zt (p.s xs.toNat) (k / 8):=(e0 (k / 8)).2;rw[e3]at h hn;rw[e3,e4]at aA;exact Or.inr ⟨k / 8,by omega,zCx.2 ⟨aA,Or.inr (zAT.2 ⟨k % 8,by omega,h,hn⟩)⟩⟩
theorem zHY{p:zI}{xs xb:Int}(hz:¬Nil xs xb)(i:Nat):yo p xs xb i=zb (p.s xs.toNat) i/\zAI p xs xb i=zt (p.s xs.toNat) i:=⟨if_neg hz,if_neg hz⟩
theorem zFC{p:zI}{xs xb:Int}{i:Nat}(h:¬Nil (yo p xs xb i) (zAI p xs xb i)):¬Nil xs xb:=fun hx=>h ⟨if_pos hx,if_pos hx⟩
theorem zQU{p:zI}{xs xb:Int}(hT:qp p xs xb){i:Nat}(hi:i<8)(h:¬Nil (yo p xs xb i) (zAI p xs xb i)):zAi p (yo p xs xb i) (zAI p xs xb i)/\zP0 p (p.s (yo p xs xb i).toNat):=by
 have hz:=zFC h;obtain⟨h1,h2,h3⟩:=hT.2.resolve_left hz;rw[(zHY hz i).1,(zHY hz i).2]at h ⊢;exact(h2.1 i hi).resolve_left h
theorem zQM{p:zI}{xs xb:Int}(hT:qp p xs xb)(h:¬Nil xs xb):zAi p xs xb:=(hT.2.resolve_left h).1
theorem zKj{p:zI}{xs xb:Int}(hT:qp p xs xb){i:Nat}(hi:i<8)(h:¬Nil (yo p xs xb i) (zAI p xs xb i)):yo p xs xb i≠xs:=by
 have hz:=zFC h;obtain⟨h1,h2,h3⟩:=hT.2.resolve_left hz;rw[(zHY hz i).1]at h ⊢;rw[(zHY hz i).2]at h;exact zOA h2 hi h
theorem Ext.free{p q:zI}(h:Ext p q){j:Nat}(hf:qE (q.s j)):qE (p.s j):=Classical.byContradiction fun hn=>hn (by rw[h.s j hn]at hf;exact hf)
theorem zQV{p:zI}{xs xb:Int}{n:Nat}{z:Int×Int}:z∈yf p xs xb n 3↔(z=(yw p xs xb n,zAC p xs xb n)/\¬Nil (yw p xs xb n) (zAC p xs xb n))\/(z=(yK p xs xb n,yp p xs xb n)/\¬Nil (yK p xs xb n) (yp p xs xb n))\/(z=(xs,xb)/\¬Nil xs xb):=by
 unfold yf;rw[zAT];constructor
 ·rintro⟨i,hi,h⟩;rcases i with _ | _ | _ | i
  ·exact Or.inl h
  ·exact Or.inr (Or.inl h)
  ·exact Or.inr (Or.inr h)
  ·omega
 ·rintro(h | h | h)
  ·exact⟨0,by omega,h⟩
  ·exact⟨1,by omega,h⟩
  ·exact⟨2,by omega,h⟩
theorem zNP{p:zI}{xs xb:Int}{n:Nat}(hT:qp p xs xb)(hn:n<64){z:Int×Int}(h:z∈yf p xs xb n 3):z∈zR p xs xb:=by
 rw[zOr hT];rcases zQV.1 h with h | h | h
 ·exact Or.inr (Or.inr ⟨n,hn,h⟩)
 ·exact Or.inr (Or.inl ⟨n / 8,by omega,h⟩)
 ·exact Or.inl h
theorem zIH{l:List (Int×Int)}(h:(yG l).Nodup):l.Nodup:=by
 unfold yG List.Nodup at *;rw[List.pairwise_map]at h;exact h.imp (fun aA e=>aA (by rw[e]))
theorem zN8{p:zI}{xs xb:Int}{n:Nat}(hT:qp p xs xb)(hn:n<64):(yf p xs xb n 3).Nodup:=by
 apply zIH;unfold yf;rw[zGN];intro i hi j hj ni nj;rcases i with _ | _ | _ | i
 ·omega
 ·obtain rfl:j=0:=(by omega);exact fun e=>zGd (zQU hT (i:=n / 8) (by omega) ni).1 ((zNU hT hn).resolve_left nj) e.symm
 ·rcases j with _ | _ | j
  ·exact fun e=>zGd (zQM hT ni) ((zNU hT hn).resolve_left nj) e.symm
  ·exact zKj hT (i:=n / 8) (by omega) nj
  ·omega
 ·omega
theorem zLI(v0 v1:Value)(lo hi:Nat)(p:zI)(w:World)(h1:zu w lo hi v0 v1 p)(hn:p.n<=200) :
  Calls Tryz.prog 81 #[.agg #[v0,v1]] w fun e w'=>e = .returned (.int .i64 (roomN p.s p.n:Int))/\Below w.heap.size w w':=by
 have Hp:Hid (zu w lo hi v0 v1 p):=h1;obtain⟨⟨m1,a,c,rfl,mc,g1⟩,⟨m2,a',c',rfl,fA,g2⟩⟩:=h1;unfold maxLen at m1 m2;clear g1 g2;have cA:Hid (Below w.heap.size w (w.alloc (.cells #[.slice a p.n c,.slice a' p.hn c'] 33))):=zC _ _;go_enter Tryz.func81,Tryz.ntmps81;go_wp2
 go_loopw [3,4] (fun m i wr=>∃k:Nat,k<=p.n/\i = .int .i64 k/\m = .int .i64 (roomN p.s k:Int)/\zc wr w.heap.size (.slice a p.n c) (.slice a' p.hn c')/\Below w.heap.size w wr) (fun _ i _=>p.n - (intOf i).toNat)
 case atStart=>exact⟨0,Nat.zero_le _,rfl,rfl,zc.zRZ _ _ _ _,cA.out⟩
 case round=>
  obtain⟨k,hk,rfl,rfl,hx,hb⟩:=hrel;have Hx:Hid (zc wr w.heap.size (.slice a p.n c) (.slice a' p.hn c')):=hx;clear hx;obtain⟨⟨y0,y1⟩,⟨y2,y3⟩⟩:=Hx.out;have gA:=zFp p.s k;by_cases eA:k<p.n
  ·have dA:(k:Int)<(p.n:Int):=(by omega);obtain⟨b,off,ka,kc,rfl,hs⟩:=(Hp.out.1.zRX hb).cells eA;have Hs:Hid (zAd wr b (off+k*3) lo hi ka kc (p.s k)):=hs;obtain⟨q0,q1,q2,_⟩:=hs;go_wp2_with fail;refine(yd _ _ _ lo hi (p.s k) _ Hs.out.slot).mono ?_;rintro e w1 ⟨⟨t,rfl,ht⟩,aA⟩;have HX:Hid (zc w1 w.heap.size (.slice (some ⟨b,off,none⟩) p.n c) (.slice a' p.hn c')):=Hx.out.zRX aA;have bA:=zA hb aA;clear aA q0 q1 q2 y0 y1 y2 y3 Hs Hx;by_cases hf:qE (p.s k)
   ·obtain rfl:t=true:=ht.2 hf;have HF:Hid (qE (p.s k)):=hf;clear ht hf;go_wp2;go_roundw
    case rel=>exact⟨k+1,by omega,by go_num,congrArg (Value.int .i64) (by rw[zBt HF.out];omega),HX.out,bA⟩
    case measure=>simp[intOf];omega
   ·obtain rfl:t=false:=zQ ht hf;have HF:Hid (¬qE (p.s k)):=hf;clear ht hf;go_wp2;go_roundw
    case rel=>exact⟨k+1,by omega,by go_num,congrArg (Value.int .i64) (by rw[zCD HF.out]),HX.out,bA⟩
    case measure=>simp[intOf];omega
  ·obtain rfl:k=p.n:=(by omega);go_wp2;go_ret;exact⟨rfl,hb⟩
theorem qW.set{w:World}{S:Nat->Prop}{a:Option Addr}{c:Nat}{v1:Value}{p:zI}(h:qW w S (.slice a p.n c) v1 p){i:Nat}(hi':i<p.n) :
  ∃bs off,a=some ⟨bs,off,none⟩/\S bs/\(∃x0 x1 x2,zW w bs (off+i*3) x0/\zW w bs (off+i*3+1) x1/\zW w bs (off+i*3+2) x2)/\
   ∀(s:zL) (nb:Nat) (nv:Value),zm w nb nv s.kn s.ks s.kb->s.data.size<=maxLen->(0<s.kn->¬S nb)->
    qW (((w.setCell ⟨bs,off+i*3,none⟩ (.int .i64 s.zRi)).setCell ⟨bs,off+i*3+1,none⟩ nv).setCell ⟨bs,off+i*3+2,none⟩ (.string s.data)) (fun k=>S k\/(0<s.kn/\k=nb)) (.slice a p.n c) v1 (yF p i s):=by
 obtain⟨bs,hb,kb,kv,⟨hm,a0,c0,hv,kA,hx⟩,lA,eA,iA,gA⟩:=h;simp only[Value.slice.injEq,true_and]at hv;obtain⟨rfl,rfl⟩:=hv;have h0:0<p.n:=by omega
 obtain⟨off,ha,cA⟩:=hx h0;have dA:=gA bs (Or.inl (Or.inl ⟨h0,rfl⟩));have fA:∀j,j<p.n->0<(p.s j).kn->S (kb j):=fun j hj hk=>gA _ (Or.inl (Or.inr ⟨j,hj,hk,rfl⟩))
 have jA:0<p.hn->S hb:=fun h=>gA _ (Or.inr ⟨h,rfl⟩)
 refine⟨bs,off,ha,dA,⟨_,_,_,(cA i hi').zRi,(cA i hi').kidsv,(cA i hi').data⟩,fun s nb nv hp hs bA=>?_⟩;refine⟨bs,hb,(fun j=>if j=i then nb else kb j),(fun j=>if j=i then nv else kv j),⟨hm,a,c,rfl,kA,fun _=>⟨off,ha,fun j hj=>?_⟩⟩,fun j k hj hk mA g1 g2=>?_,?_,fun g0 hx=>?_,fun k hk=>?_⟩
 ·have aA:=cA j hj;by_cases e:j=i
  ·subst e;simp only[yF,if_true];refine⟨?_,?_,?_,?_,hs,fun hk e=>bA hk (e▸dA)⟩
   ·exact((aA.zRi.set _).zRY _ (Or.inr (by omega))).zRY _ (Or.inr (by omega))
   ·exact((aA.kidsv.zRY _ (Or.inr (by omega))).set _).zRY _ (Or.inr (by omega))
   ·exact((aA.data.zRY _ (Or.inr (by omega))).zRY _ (Or.inr (by omega))).set _
   ·refine((hp.zRf (zF.put _ _ _ _) ?_).zRf (zF.put _ _ _ _) ?_).zRf (zF.put _ _ _ _) ?_
    all_goals exact fun hk e=>bA hk (e▸dA)
  ·simp only[yF,if_neg e];refine⟨?_,?_,?_,?_,aA.zRn,aA.zRk⟩
   ·exact((aA.zRi.zRY _ (Or.inr (by omega))).zRY _ (Or.inr (by omega))).zRY _ (Or.inr (by omega))
   ·exact((aA.kidsv.zRY _ (Or.inr (by omega))).zRY _ (Or.inr (by omega))).zRY _ (Or.inr (by omega))
   ·exact((aA.data.zRY _ (Or.inr (by omega))).zRY _ (Or.inr (by omega))).zRY _ (Or.inr (by omega))
   ·refine((aA.kids.zRf (zF.put _ _ _ _) ?_).zRf (zF.put _ _ _ _) ?_).zRf (zF.put _ _ _ _) ?_
    all_goals exact fun hk e=>aA.zRk hk e
 ·show(if j=i then nb else kb j)≠(if k=i then nb else kb k);by_cases e1:j=i
  ·by_cases e2:k=i
   ·omega
   ·rw[if_pos e1,if_neg e2];simp only[yF,if_pos e1]at g1;simp only[yF,if_neg e2]at g2;exact fun e=>bA g1 (e▸fA k hk g2)
  ·by_cases e2:k=i
   ·rw[if_neg e1,if_pos e2];simp only[yF,if_neg e1]at g1;simp only[yF,if_pos e2]at g2;exact fun e=>bA g2 (e▸fA j hj g1)
   ·rw[if_neg e1,if_neg e2];simp only[yF,if_neg e1]at g1;simp only[yF,if_neg e2]at g2;exact lA j k hj hk mA g1 g2
 ·have nA:0<p.hn->hb≠bs:=fun h e=>iA h (Or.inl ⟨h0,e⟩)
  refine((eA.zRf (zF.put _ _ _ _) ?_).zRf (zF.put _ _ _ _) ?_).zRf (zF.put _ _ _ _) ?_
  all_goals exact fun hk e=>nA hk e
 ·rcases hx with⟨_,e⟩ | ⟨j,hj,g1,e⟩
  ·exact iA g0 (Or.inl ⟨h0,e⟩)
  ·by_cases e1:j=i
   ·simp only[yF,if_pos e1]at g1 e;exact bA g1 (e▸jA g0)
   ·simp only[yF,if_neg e1]at g1 e;exact iA g0 (Or.inr ⟨j,hj,g1,e⟩)
 ·rcases hk with(⟨_,e⟩ | ⟨j,hj,g1,e⟩) | ⟨g0,e⟩
  ·exact Or.inl (e▸dA)
  ·by_cases e1:j=i
   ·simp only[yF,if_pos e1]at g1 e;exact Or.inr ⟨g1,e⟩
   ·simp only[yF,if_neg e1]at g1 e;exact Or.inl (e▸fA j hj g1)
  ·exact Or.inl (e▸jA g0)
theorem zFU(dA nb:Nat)(S:Nat->Prop)(a:Option Addr)(c:Nat)(v1 kv:Value)(p:zI)(s:zL)(w:World)(cA:zc w dA (.slice a p.n c) v1)(hO:¬S dA)(hS:∀k,S k->k<w.heap.size)(hc:p.n<=c)(eA:qW w S (.slice a p.n c) v1 p)(hp:zm w nb kv s.kn s.ks s.kb)
  (tA:0<s.kn->¬S nb/\nb<w.heap.size) (iB:s.data.size<=maxLen) :
  Calls Tryz.prog 84 #[.pointer (some ⟨dA,0,none⟩),.agg #[.int .i64 s.zRi,kv,.string s.data]] w fun e w'=>
   (∃i,qz p.n p.s i/\e = .returned (.tuple #[.agg #[.int .i64 (i:Int),.int .i64 s.zRi],.bool true])/\zc w' dA (.slice a p.n c) v1/\qW w' (fun k=>S k\/(0<s.kn/\k=nb)) (.slice a p.n c) v1 (yF p i s)/\zF S w w')\/
   ((∀j,j<p.n->¬qE (p.s j))/\e = .returned (.tuple #[.agg #[.int .i64 0,.int .i64 0],.bool false])/\Below w.heap.size w w'):=by
 have aA:=eA.own (lo:=0) (hi:=w.heap.size) (fun k hk=>⟨Nat.zero_le _,hS k hk⟩);have hm:p.n<=2 ^ 63 - 1:=aA.at.1.1;have iA:=zT aA;clear aA;have bA:=zT cA;have oA:=zT eA;have Hq:=zT hp;obtain⟨_,ka,kc,rfl,_⟩:=hp;have pB:dA<w.heap.size:=cA.1.lt;clear cA eA;have ha:=zC w (.cells #[.int .i64 s.zRi,.slice ka s.kn kc,.string s.data] 127);have fB:=zA ha (zC _ (.cells #[.int .i64 0,.int .i64 0] 61));have HS:=zT ((yR.zRZ w (.int .i64 s.zRi) (.slice ka s.kn kc) (.string s.data) 127).zRX (zC _ (.cells #[.int .i64 0,.int .i64 0] 61)));have hr:=zc.zRZ (w.alloc (.cells #[.int .i64 s.zRi,.slice ka s.kn kc,.string s.data] 127)) (.int .i64 0) (.int .i64 0) 61;rw[World.size_alloc]at hr;have HR:=zT hr;clear hr ha;go_enter Tryz.func84,Tryz.ntmps84;go_wp2
 go_loopw [6] (fun i wr=>∃k:Nat,k<=p.n/\i = .int .i64 k/\(∀j,j<k->¬qE (p.s j))/\yR wr w.heap.size (.int .i64 s.zRi) (.slice ka s.kn kc) (.string s.data)/\zc wr (w.heap.size+1) (.int .i64 0) (.int .i64 0)/\Below w.heap.size w wr) (fun i _=>p.n - (intOf i).toNat)
 case atStart=>exact⟨0,Nat.zero_le _,rfl,fun j hj=>absurd hj (Nat.not_lt_zero _),HS.out,HR.out,fB⟩
 case round=>
  obtain⟨k,hk,rfl,kA,hs,hr,hb⟩:=hrel;have fA:=zT kA;have Hs:=zT hs;have Hr:=zT hr;clear kA hs hr;obtain⟨⟨x0,x1⟩,⟨x2,x3⟩⟩:=bA.out.zRX hb;by_cases lA:k<p.n
  ·have gB:(k:Int)<(p.n:Int):=(by omega);obtain⟨b,off,lB,oB,rfl,sA⟩:=(iA.out.at.1.zRX hb).cells lA;have Hc:=zT sA;obtain⟨q0,q1,q2,_⟩:=sA;go_wp2_with fail;refine(yd _ _ _ 0 w.heap.size (p.s k) _ Hc.out.slot).mono ?_;rintro e w1 ⟨⟨t,rfl,ht⟩,nA⟩;have gA:=zA hb nA;have vA:=zT (Hs.out.zRX nA);have pA:=zT (Hr.out.zRX nA);clear nA q0 q1 q2 Hc x0 x1 x2 x3 Hs Hr;by_cases hf:qE (p.s k)
   ·obtain rfl:t=true:=ht.2 hf;have HF:=zT hf;clear ht hf;obtain⟨⟨x0,x1⟩,⟨x2,x3⟩⟩:=bA.out.zRX gA;obtain⟨⟨y0,y1⟩,⟨y2,y3⟩,⟨y4,y5⟩⟩:=vA.out;obtain⟨⟨z0,z1⟩,⟨z2,z3⟩⟩:=pA.out;obtain⟨bs,cB,he,rA,⟨q0,q1,q2,⟨r0,r1⟩,⟨r2,r3⟩,⟨r4,r5⟩⟩,jA⟩:=(oA.out.zRX gA).set (i:=k) lA;simp only[Option.some.injEq,Addr.mk.injEq,and_true]at he;obtain⟨rfl,rfl⟩:=he;have n0:b≠dA:=fun e=>hO (e▸rA)
    have kB:b<w.heap.size:=hS b rA;have n1:b≠w.heap.size:=(by omega);have n2:b≠w.heap.size+1:=(by omega);have n3:w.heap.size+1≠w.heap.size:=(by omega);go_wp2_with fail;go_region_held3 (fun w'=>w'.cell? ⟨dA,0,none⟩=some (.slice (some ⟨b,off,none⟩) p.n c)/\w'.cell? ⟨w.heap.size,0,none⟩=some (.int .i64 s.zRi)/\w'.cell? ⟨w.heap.size,1,none⟩=some (.slice ka s.kn kc)/\w'.cell? ⟨w.heap.size,2,none⟩=some (.string s.data)) (go_keep) (fail);have tX:=((zF.put w1 b (off+k*3) (.int .i64 s.zRi)).trans (zF.put _ b (off+k*3+1) (.slice ka s.kn kc))).trans (zF.put _ b (off+k*3+2) (.string s.data));have dB:=zT (pA.out.zRf tX (by omega));have bB:=zT (jA s nb (.slice ka s.kn kc) (Hq.out.zRX gA) iB (fun h0=>(tA h0).1));have jB:=zT ((bA.out.zRX gA).zRf tX (by omega));have aB:=zT ((zF.zRa (S:=S) gA).trans2 tX (fun k hk _=>by
     have eB:k=b:=(by omega);exact eB▸rA))
    clear jA tX;go_wp2;have mA:=dB.out.put (.int .i64 (k:Int)) (.int .i64 s.zRi);have t2:=(zF.put (((w1.setCell ⟨b,off+k*3,none⟩ (.int .i64 s.zRi)).setCell ⟨b,off+k*3+1,none⟩ (.slice ka s.kn kc)).setCell ⟨b,off+k*3+2,none⟩ (.string s.data)) (w.heap.size+1) 0 (.int .i64 (k:Int))).trans (zF.put _ (w.heap.size+1) 1 (.int .i64 s.zRi));have nB:=t2.size;have mB:=aB.out.size;refine bodyPost_ret (v:=.tuple #[.agg #[.int .i64 (k:Int),.int .i64 s.zRi],.bool true]) (by simp[results,Tryz.results84,go_sem,mA.1.1,mA.2.1]) rfl (Or.inl ⟨k,⟨lA,HF.out,fA.out⟩,rfl,?_,?_,?_⟩)
    ·exact(jB.out.zRf t2 (by omega)).zRX (Below.refl _ _).drew
    ·exact(bB.out.zRf t2 (fun k hk=>by
      rcases hk with hk | hk
      ·have:=hS k hk;omega
      ·have:=tA hk.1;omega)).zRX (Below.refl _ _).drew
    ·exact(aB.out.trans2 t2 (fun k hk lA=>by omega)).trans (zF.zRa (Below.refl _ _).drew)
   ·obtain rfl:t=false:=zQ ht hf;have HF:=zT hf;clear ht hf;go_wp2;go_roundw
    case rel=>exact⟨k+1,by omega,by go_num,zo lA fA.out HF.out,vA.out,pA.out,gA⟩
    case measure=>simp[intOf];omega
  ·obtain rfl:k=p.n:=(by omega);obtain⟨⟨z0,z1⟩,⟨z2,z3⟩⟩:=Hr.out;go_wp2;have mA:=Hr.out.put (.int .i64 0) (.int .i64 0);exact bodyPost_ret (v:=.tuple #[.agg #[.int .i64 0,.int .i64 0],.bool false]) (by simp[results,Tryz.results84,go_sem,mA.1.1,mA.2.1]) rfl (Or.inr ⟨fA.out,rfl,(hb.setCell (by show _<=w.heap.size+1;omega) _).setCell (by show _<=w.heap.size+1;omega) _⟩)
theorem zF4(v0 v1:Value)(lo hi:Nat)(p:zI)(xs xb:Int)(w:World)(h1:zu w lo hi v0 v1 p) :
  Calls Tryz.prog 78 #[.agg #[v0,v1],.agg #[.int .i64 xs,.int .i64 xb]] w fun e w'=>zG (qp p xs xb) e/\Below w.heap.size w w':=by
 have Hp:=zE h1;obtain⟨a,c,a',c',rfl,rfl⟩:∃a c a' c',v0 = .slice a p.n c/\v1 = .slice a' p.hn c':=by
  obtain⟨⟨_,a,c,h1,_⟩,⟨_,a',c',h3,_⟩⟩:=h1;exact⟨a,c,a',c',h1,h3⟩
 clear h1;have dA:=zB6 w (.slice a p.n c) (.slice a' p.hn c') (.int .i64 xs) (.int .i64 xb) 33 61;go_enter Tryz.func78,Tryz.ntmps78;go_wp2_with fail;generalize (w.alloc (.cells #[.slice a p.n c,.slice a' p.hn c'] 33)).alloc (.cells #[.int .i64 xs,.int .i64 xb] 61)=W at dA ⊢;obtain⟨hB,hX,cA,hz⟩:=dA;refine(zDD _ _ lo hi p W (Hp.out.zRX cA)).mono ?_;rintro e w1 ⟨⟨t,rfl,ht⟩,aA⟩;have iA:=zE (hB.zRX aA);have fA:=zE (hX.zRX aA);have bA:=zA cA aA;clear hB hX cA aA hz;by_cases hR:zx p
 ·have HR:=zE hR;obtain rfl:t=true:=ht.2 hR;clear ht hR;obtain⟨⟨x0,x1⟩,⟨x2,x3⟩⟩:=iA.out;obtain⟨⟨y0,y1⟩,⟨y2,y3⟩⟩:=fA.out;go_wp2_with fail;refine(zCU _ _ lo hi p xs xb _ (Hp.out.zRX bA) HR.out).mono ?_;rintro e w2 ⟨⟨t,rfl,ht⟩,eA⟩;have gA:=zA bA eA;have Ht:=zE ht;clear eA ht;go_wp2;go_ret;exact⟨⟨_,rfl,Ht.out.trans ⟨fun h=>⟨HR.out,h⟩,fun h=>h.2⟩⟩,gA⟩
 ·have HR:=zE hR;obtain rfl:t=false:=zQ ht hR;clear ht hR;go_wp2;go_ret;exact⟨zG.no fun h=>HR.out h.1,bA⟩
end Go.Proofs.YtmgeglgboadfiaaGreatDoor
