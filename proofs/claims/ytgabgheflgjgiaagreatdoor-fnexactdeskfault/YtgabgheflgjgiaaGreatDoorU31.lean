/- A part of the proof. -/
import Derived.Test.YtgabgheflgjgiaaGreatDoorU30
import Derived.Laws.IdiomStrings
set_option linter.unusedVariables false
set_option maxRecDepth 20000
set_option maxHeartbeats 4000000
namespace Go.Proofs.YtgabgheflgjgiaaGreatDoor
open Go.RowKit
theorem zLk{p:zI}{xs xb zO2:Int}{d:ByteArray}(h:zMC p xs xb zO2 d):d.size<=16:=by
 by_cases hx:qR p xs xb/\zAB zO2
 ·by_cases hn:Nil (zz p xs xb zO2.toNat) (qD p xs xb zO2.toNat)
  ·rw[(h.1 hx).1 hn];decide
  ·rw[(h.1 hx).2 hn];have hp:zO2.toNat<64:=(by have:=hx.2;unfold zAB at this;omega);rcases zGM hx.1 hp with hc | hc
   ·exact absurd hc hn
   ·rcases(qq hx.1.1 hc.1).2 with⟨_,e⟩ | ⟨e,_⟩
    ·omega
    ·have:=hc.2.1;omega
 ·rw[h.2 hx];exact Nat.zero_le _
def zCl(d:ByteArray):List Int:=d.data.toList.map (fun b=>(b.toNat:Int))
theorem zCF(d:ByteArray):(zCl d).length=d.size:=by
 unfold zCl;rw[List.length_map,Array.length_toList];rfl
def zEN(w:World)(g:Nat)(l:List Int):Prop:=∀j,(h:j<l.length)->zT w g j (.int .u8 l[j])
theorem zEN.put{w:World}{g:Nat}{l:List Int}(h:zEN w g l){j:Nat}(hj:j<l.length)(x:Int):zEN (w.setCell ⟨g,j,none⟩ (.int .u8 x)) g (l.set j x):=fun i hi=>by
 rw[List.length_set]at hi;by_cases e:j=i
 ·subst e;rw[List.getElem_set_self];exact(h j hj).set _
 ·rw[List.getElem_set_ne e];exact(h i hi).zOq _ (Or.inr e)
theorem zEN.conv{w:World}{g:Nat}{l:List Int}(h:zEN w g l){n:Nat}(hn:l.length=n)(cap:Nat):(convert 46 9 (.slice (some ⟨g,0,none⟩) n cap)).run Tryz.prog w = .ok (.string (strOfNums l)) w:=
 run_convert_bytes_arg (P:=Tryz.prog) w 46 5 (by kernel_rfl) (by kernel_rfl) g 0 n cap l hn (fun i hi=>by
  rw[Nat.zero_add,List.getD_eq_getElem?_getD,List.getElem?_eq_getElem (by omega)];exact(h i (by omega)).1) 9 (by kernel_rfl)
theorem zMZ(w:World)(n:Nat):n<=grownCap w n 0 5:=grownCap_ge w n 0 5
theorem zJ4(w:World)(d:ByteArray)(cp:Nat):zEN (w.alloc (.cells (bytesRow d cp) 5 ((bytesRow d cp).size,(bytesRow d cp).size+1))).drew w.heap.size (zCl d):=fun j hj=>by
 rw[zCF]at hj;have hb:(w.alloc (.cells (bytesRow d cp) 5 ((bytesRow d cp).size,(bytesRow d cp).size+1))).drew.heap[w.heap.size]?=some (.cells (bytesRow d cp) 5 ((bytesRow d cp).size,(bytesRow d cp).size+1)):=heap_alloc_new _ _;have hs:d.size<=(bytesRow d cp).size:=by unfold bytesRow;rw[Array.size_append,Array.size_map];exact Nat.le_add_right _ _
 have aA:j<d.data.size:=hj;have he:(bytesRow d cp)[j]?=some (.int .u8 ((zCl d)[j]'(by rw[zCF];exact hj))):=by
  unfold bytesRow zCl;rw[Array.getElem?_append_left (by rw[Array.size_map];exact aA),Array.getElem?_map,Array.getElem?_eq_getElem aA];simp
 refine⟨?_,?_⟩
 ·unfold World.cell?;dsimp only;rw[hb];exact he
 ·unfold World.frozen?;dsimp only;rw[hb];show(decide ((bytesRow d cp).size<=j) && decide (j<(bytesRow d cp).size+1))=false;rw[decide_eq_false (by omega),Bool.false_and]
theorem zMy(D:Nat)(P:Nat->Prop)(g m cap:Nat)(wd nm:ByteArray)(n:Int)(w:World)(hD:zAS w D P)(t0:w.cell? ⟨g,0,none⟩=some (.string nm))(hm:0<m)(lB:m<=cap) :
  Calls Tryz.prog 30 #[.pointer (some ⟨D,0,none⟩),.agg #[.string wd,.int .i64 n,.slice (some ⟨g,0,none⟩) m cap]] w (zDW 100 D P w):=by
 have HD:=zG hD;have mA:=hD;have tB:=hD.lt;obtain⟨v0,v1,v2,v3,u0,u1,u2,u3,S,l1,h1,l2,h2,hA⟩:=hD;have HL:=zG hA.zOx.at;obtain⟨a0,c0,a1,c1,a2,c2,a3,c3,rfl,rfl,rfl,rfl⟩:=hA.zOx.form;obtain⟨⟨y0,-⟩,⟨y1,-⟩,⟨y2,-⟩,⟨y3,-⟩,⟨y4,-⟩,⟨y5,-⟩,-⟩:=hA.box;have vB:=zD t0;have aB:D≠w.heap.size:=by omega
 have bB:w.heap.size≠D:=by omega
 have mA:Hid (zAS w D P):=mA;clear hA;have ha:=zC w (.cells #[.string wd,.int .i64 n,.slice (some ⟨g,0,none⟩) m cap] 48);have hY:=qP.zOt w (.string wd) (.int .i64 n) (.slice (some ⟨g,0,none⟩) m cap) 48;have jB:(w.alloc (.cells #[.string wd,.int .i64 n,.slice (some ⟨g,0,none⟩) m cap] 48)).heap.size=w.heap.size+1:=World.size_alloc _ _;have tA:=zC (w.alloc (.cells #[.string wd,.int .i64 n,.slice (some ⟨g,0,none⟩) m cap] 48)) (.cells #[.slice a0 S.zOx.zOv.n c0,.slice a1 S.zOx.zOv.hn c1,.int .i64 S.zOx.time,.int .i64 S.zOx.next,.slice a2 S.zOx.sn c2,.slice a3 S.zOx.pn c3] 40);have hX:=za.zOt (w.alloc (.cells #[.string wd,.int .i64 n,.slice (some ⟨g,0,none⟩) m cap] 48)) (.slice a0 S.zOx.zOv.n c0) (.slice a1 S.zOx.zOv.hn c1) (.int .i64 S.zOx.time) (.int .i64 S.zOx.next) (.slice a2 S.zOx.sn c2) (.slice a3 S.zOx.pn c3) 40;rw[jB]at hX;have sA:=hY.zOp tA;have dA:=zA ha tA;go_enter Tryz.func30,Tryz.ntmps30;go_wp2_with fail;have T2:=(dA.cell (zD t0)).trans t0;have iA:=zG (HL.out.zOp dA);have nA:=zG (HD.out.zOp dA);have lA:=zG dA;generalize (w.alloc (.cells #[.string wd,.int .i64 n,.slice (some ⟨g,0,none⟩) m cap] 48)).alloc (.cells #[.slice a0 S.zOx.zOv.n c0,.slice a1 S.zOx.zOv.hn c1,.int .i64 S.zOx.time,.int .i64 S.zOx.next,.slice a2 S.zOx.sn c2,.slice a3 S.zOx.pn c3] 40)=W2 at hX sA T2 iA nA lA ⊢;clear ha tA dA hY y0 y1 y2 y3 y4 y5 jB t0 HL HD aB bB;have HX:=zG hX;have HY:=zG sA;obtain⟨⟨x0,-⟩,⟨x1,-⟩,⟨x2,-⟩,⟨x3,-⟩,⟨x4,-⟩,⟨x5,-⟩⟩:=hX;obtain⟨-,⟨k1,-⟩,⟨k2,-⟩⟩:=sA;have dC:(0:Int)<(m:Int):=by omega
 go_region_held3 (fun w'=>w'.cell? ⟨w.heap.size+1,0,none⟩=some (.slice a0 S.zOx.zOv.n c0)/\w'.cell? ⟨w.heap.size+1,1,none⟩=some (.slice a1 S.zOx.zOv.hn c1)/\w'.cell? ⟨w.heap.size+1,2,none⟩=some (.int .i64 S.zOx.time)/\w'.cell? ⟨w.heap.size+1,3,none⟩=some (.int .i64 S.zOx.next)/\w'.cell? ⟨w.heap.size+1,4,none⟩=some (.slice a2 S.zOx.sn c2)/\w'.cell? ⟨w.heap.size+1,5,none⟩=some (.slice a3 S.zOx.pn c3)/\w'.cell? ⟨w.heap.size,2,none⟩=some (.slice (some ⟨g,0,none⟩) m cap)/\w'.cell? ⟨g,0,none⟩=some (.string nm)) (go_keep)
  (first | (go_at_call 47;refine(yY _ _ _ _ l1 h1 S.zOx nm _ (iA.out.zOp (Below.refl _ _).drew)).mono ?_;rintro e w4 ⟨r,rfl,hF,eB⟩;have aA:=zJ eB;obtain⟨⟨y0,-⟩,⟨y1,-⟩,⟨y2,-⟩,⟨y3,-⟩,⟨y4,-⟩,⟨y5,-⟩⟩:=HX.out.zOp aA;obtain⟨-,-,⟨q2,-⟩⟩:=HY.out.zOp aA;have T4:=(aA.cell (zD T2)).trans T2))
 have cA:=zG (zA lA.out aA);have pA:=zG (iA.out.zOp aA);have oA:=zG (nA.out.zOp aA);have rA:=zG (HX.out.zOp aA);have jA:=zG (HY.out.zOp aA);clear eB aA x0 x1 x2 x3 x4 x5 y0 y1 y2 y3 y4 y5 k1 k2 q2 T2 T4 iA nA lA HX HY;rcases hF with⟨k,hk,kB,cB,rfl⟩ | ⟨eC,rfl⟩;rotate_left
 ·go_wp2;go_ret;exact⟨⟨_,rfl,by decide⟩,oA.out,zE.zOs cA.out⟩
 have aC:¬(k:Int)<0:=by omega
 have oB:(0:Int)<=(k:Int):=by omega
 have bC:(k:Int)<(S.zOx.sn:Int):=by omega
 obtain⟨-,⟨k1,-⟩,-⟩:=id jA.out;go_wp2_with fail;refine(yV n _).mono ?_;rintro e w5 ⟨⟨t,rfl,ht⟩,rfl⟩;clear k1;cases t
 ·go_wp2;go_ret;exact⟨⟨_,rfl,by decide⟩,oA.out,zE.zOs cA.out⟩
 obtain⟨ab,ao,sB,rfl,kA⟩:=pA.out.zOy.cells hk;obtain⟨⟨x0,-⟩,⟨x1,-⟩,⟨x2,-⟩,⟨x3,-⟩,⟨x4,-⟩,⟨x5,-⟩⟩:=id rA.out;obtain⟨-,⟨k1,-⟩,-⟩:=id jA.out;have q3:=kA.c3;have q4:=kA.c4;have dB:=zG kA;clear kA kB cB ht;go_wp2_with fail;have bA:Below w5.heap.size w5 w5.drew:=(Below.refl _ _).drew;have gA:=zG (show ∀w',Below w5.heap.size w5 w'->(fun w':World=>w'.cell? ⟨w.heap.size+1,0,none⟩=some (.slice a0 S.zOx.zOv.n c0)/\w'.cell? ⟨w.heap.size+1,1,none⟩=some (.slice a1 S.zOx.zOv.hn c1)/\w'.cell? ⟨w.heap.size+1,4,none⟩=some (.slice (some ⟨ab,ao,none⟩) S.zOx.sn c2)/\w'.cell? ⟨w.heap.size,1,none⟩=some (.int .i64 n)/\w'.cell? ⟨ab,ao+k*6+3,none⟩=some (.int .i64 (S.zOx.zOy k).rs)/\w'.cell? ⟨ab,ao+k*6+4,none⟩=some (.int .i64 (S.zOx.zOy k).rb)) w' from fun w' hb=>by
  have hx:=rA.out.zOp hb;have hy:=jA.out.zOp hb;have hs:=dB.out.zOp hb;exact⟨hx.1.1,hx.2.1.1,hx.2.2.2.2.1.1,hy.2.1.1,hs.c3,hs.c4⟩)
 refine wp_region_held_drew (S:=(fun w':World=>w'.cell? ⟨w.heap.size+1,0,none⟩=some (.slice a0 S.zOx.zOv.n c0)/\w'.cell? ⟨w.heap.size+1,1,none⟩=some (.slice a1 S.zOx.zOv.hn c1)/\w'.cell? ⟨w.heap.size+1,4,none⟩=some (.slice (some ⟨ab,ao,none⟩) S.zOx.sn c2)/\w'.cell? ⟨w.heap.size,1,none⟩=some (.int .i64 n)/\w'.cell? ⟨ab,ao+k*6+3,none⟩=some (.int .i64 (S.zOx.zOy k).rs)/\w'.cell? ⟨ab,ao+k*6+4,none⟩=some (.int .i64 (S.zOx.zOy k).rb))) (by kernel_rfl) (gA.out _ bA) (fun hHeld=>?_);generalize w5.drew=q0 at hHeld bA ⊢;refine tk 0 (h:=tk 1 (h:=tk 2 (h:=tk 3 (h:=tk 4 (h:=tk 5 (h:=tk 6 (h:=tk 7 (h:=tk 8 (h:=tk 9 (h:=?_))))))))));refine rd [10] (rc (fun K hK=>?_) .nil);go_simp;go_at_call 60;refine(zFg _ _ l1 h1 S.zOx.zOv (S.zOx.zOy k).rs (S.zOx.zOy k).rb n _ (pA.out.zOp bA).zOv).mono ?_;rintro e w6 ⟨⟨d,rfl,hd⟩,eA⟩
 (try go_wp2_with fail)
 refine hK.out _ _ (gA.out _ (zA bA eA)) ?_;clear hK K;intro hHeld
 try simp only[Act.put,s1,s2,s3]
 refine rd [11] (rc (fun K hK=>?_) .nil);have nB:=zLk hd;have fB:=run_bytes_of_string (P:=Tryz.prog) w6 9 46 5 d (by kernel_rfl) (by kernel_rfl) (by kernel_rfl);have vA:=(zC w6 (.cells (bytesRow d (grownCap w6 d.size 0 5)) 5 ((bytesRow d (grownCap w6 d.size 0 5)).size,(bytesRow d (grownCap w6 d.size 0 5)).size+1))).drew;go_simp
 (try go_wp2_with fail)
 refine hK.out _ _ (gA.out _ (zA (zA bA eA) vA)) ?_;clear hK K;intro hHeld
 try simp only[Act.put,s1,s2,s3]
 refine tk 12 (h:=?_);refine wpAnyH_done (by kernel_rfl) ?_ _;have hC:=zJ4 w6 d (grownCap w6 d.size 0 5);have mB:d.size<=grownCap w6 d.size 0 5:=zMZ w6 d.size;have fA:=zG (zA (zA (zA cA.out bA) eA) vA);have gB:w.heap.size<=w6.heap.size:=(zA (zA cA.out bA) eA).size;generalize grownCap w6 d.size 0 5=cp at hC mB fA ⊢;generalize (w6.alloc (.cells (bytesRow d cp) 5 ((bytesRow d cp).size,(bytesRow d cp).size+1))).drew=w7 at hC fA ⊢;generalize w6.heap.size=gb at hC gB ⊢;have HC:=zG hC;clear hHeld gA fB vA eA hd hC q3 q4 x0 x1 x2 x3 x4 x5 k1 bA rA jA dB pA oA cA;go_wp2
 go_loopw [8] (fun i wr=>∃(j:Nat) (l:List Int),j<=d.size/\i = .int .i64 j/\l.length=d.size/\zEN wr gb l/\Below w.heap.size w wr) (fun i _=>d.size - (intOf i).toNat)
 case atStart=>exact⟨0,_,Nat.zero_le _,rfl,zCF d,HC.out,fA.out⟩
 case round=>
  clear HC fA;obtain⟨j,l,hj,rfl,hl,hC,hB⟩:=hrel;have HC:=zG hC;have HB:=zG hB;have Hl:=zG hl;clear hC hB hl;by_cases cC:j<d.size
  ·have pB:(j:Int)<(d.size:Int):=(by omega);have h0:(0:Int)<=(j:Int):=(by omega);have iB:j<l.length:=(by have:=Hl.out;omega);obtain⟨c1,c2⟩:=HC.out j iB;by_cases hz:l[j]=0
   ·have rB:(l[j] == 0)=true:=(by rw[hz];rfl);clear hz;go_wp2;go_roundw
    case rel=>exact⟨j+1,l.set j 45,by omega,by go_num,by rw[List.length_set];exact Hl.out,HC.out.put iB 45,HB.out.setCell (p:=⟨gb,j,none⟩) gB _⟩
    case measure=>simp[intOf];omega
   ·have rB:(l[j] == 0)=false:=(by rw[beq_eq_false_iff_ne];exact hz);clear hz;go_wp2;go_roundw
    case rel=>exact⟨j+1,l,by omega,by go_num,Hl.out,HC.out,HB.out⟩
    case measure=>simp[intOf];omega
  ·obtain rfl:j=d.size:=(by omega);have fB:=HC.out.conv (n:=d.size) Hl.out cp;have fC:(strOfNums l).size<=16:=(by rw[strOfNums_size,Hl.out];exact nB);go_wp2;go_ret;exact⟨⟨_,rfl,by rw[ByteArray.size_append,strOfNums_size,Hl.out];show 5+d.size<=100;omega⟩,mA.out.zOp HB.out,zE.zOs HB.out⟩
theorem zOg:Tryz.prog.underlying 37=some (.slice 102):=by kernel_rfl
theorem zC2(w:World)(base:Nat)(v:Value)(n:Nat)(xs:List Value)(aA:w.ownsRow base 102 6 v n xs)(hb:base<=w.heap.size)(ad:Option Addr)(b off i m c:Nat)(G:Nat->Value)(fA:0<m->ad=some ⟨b,off+i,none⟩)(hG:∀j,j<m*6->w.cell? ⟨b,off+(i+j),none⟩=some (G (i+j))/\(G (i+j)).oneCell'=true)(hn:n+m<=1000)(ty:TypeId) :
  ∃v' w',(Builtin.append_ #[37,37] ty #[v,.slice ad m c]).run Tryz.prog w = .ok v' w'/\w'.ownsRow base 102 6 v' (n+m) (xs ++ zGC G i (m*6))/\w.grownBy w' v.ownBlock/\(m=0->v'=v/\w'=w):=by
 obtain⟨i0,cA,eA⟩:=Option.map_eq_some_iff.1 zGk;simp only[Prod.mk.injEq]at eA;obtain⟨hz,hs,gA⟩:=eA;by_cases h0:0<m
 ·obtain rfl:=fA h0;have bA:∀j,(⟨b,off+i,none⟩:Addr).add j=⟨b,off+(i+j),none⟩:=fun j=>by
   unfold Addr.add;split
   ·simp_all
   ·simp[Nat.add_assoc]
  obtain⟨v',w1,hr,r1,r2,_⟩:=run_append_own (P:=Tryz.prog) w base 37 ty 102 i0 _ 6 72 zOg cA hz hs gA rfl (by decide) v n xs aA ⟨b,off+i,none⟩ m c (zGC G i (m*6)) (qh _ _ _) (fun j u hj=>by
    have dA:j<m*6:=by
     have:=(List.getElem?_eq_some_iff.1 hj).1
     rwa [qh]at this
    rw[zB0 dA]at hj;cases hj;rw[bA];exact(hG j dA).1) (fun u hu=>by
    unfold zGC at hu;obtain⟨j,hj,rfl⟩:=List.mem_map.1 hu;exact(hG j (List.mem_range.1 hj)).2) (by unfold maxLen;omega) (by omega) hb
  exact⟨v',w1,hr,r1,r2,fun h=>by omega⟩
 ·obtain rfl:m=0:=(by omega);exact⟨v,w,yl (P:=Tryz.prog) (w:=w) base 37 ty 102 i0 6 c ad zOg cA v n xs aA,by simpa[zGC]using aA,World.grownBy.refl _ _,fun _=>⟨rfl,rfl⟩⟩
theorem zLr(w:World)(b off n k c1 c2:Nat)(A1 A2:Option Addr)(G:Nat->Value)(hG:∀j,j<n*6->w.cell? ⟨b,off+j,none⟩=some (G j)/\(G j).oneCell'=true)(hk:k<n)(hn:n<=100)(h1:0<k->A1=some ⟨b,off,none⟩)(h2:0<n - (k+1)->A2=some ⟨b,off+(k+1)*6,none⟩) :
  ∃a1 aA w1 a2 bA w2,(Builtin.append_ #[37,37] 37 #[.slice (some ⟨w.heap.size,0,none⟩) 0 0,.slice A1 k c1]).run Tryz.prog (w.alloc (.cells #[] 102)) = .ok (.slice a1 k aA) w1/\(Builtin.append_ #[37,37] 37 #[.slice a1 k aA,.slice A2 (n - (k+1)) c2]).run Tryz.prog w1 = .ok (.slice a2 (n - 1) bA) w2/\Below w.heap.size w w1/\Below w.heap.size w w2/\n - 1<=bA/\(0<n - 1->∃g,a2=some ⟨g,0,none⟩/\w.heap.size<=g/\g<w2.heap.size/\∀j,j<(n - 1)*6->zT w2 g j (if j<k*6 then G j else G (j+6))):=by
 have fA:=zC w (.cells #[] 102);have cA:(w.alloc (.cells #[] 102)).ownsRow w.heap.size 102 6 (.slice (some ⟨w.heap.size,0,none⟩) 0 0) 0 []:=World.ownsRow_made w #[] 0 (Nat.le_refl _) (Nat.zero_le _) (by simp);obtain⟨v1,w1,kA,iA,pA,-⟩:=zC2 (w.alloc (.cells #[] 102)) w.heap.size _ 0 [] cA fA.size A1 b off 0 k c1 G (fun h=>by rw[h1 h];rfl) (fun j hj=>by
  have:=hG j (by omega);rw[Nat.zero_add];exact⟨(fA.cell (zD this.1)).trans this.1,this.2⟩) (by omega) 37
 have dA:Below w.heap.size w w1:=fA.grown pA fA.size (fun q hq=>by have:=cA.lt q hq;omega);obtain⟨v2,w2,lA,jA,rA,-⟩:=zC2 w1 w.heap.size v1 (0+k) _ iA dA.size A2 b off ((k+1)*6) (n - (k+1)) c2 G h2 (fun j hj=>by
  have:=hG ((k+1)*6+j) (by omega);exact⟨(dA.cell (zD this.1)).trans this.1,this.2⟩) (by omega) 37
 have mA:Below w.heap.size w w2:=dA.grown rA dA.size (fun q hq=>by have:=iA.lt q hq;omega);obtain⟨a1,aA,rfl,-⟩:=zX iA;have e:0+k+(n - (k+1))=n - 1:=by omega
 rw[e]at jA;rw[Nat.zero_add]at kA lA;obtain⟨a2,bA,rfl,oA⟩:=zX jA;refine⟨a1,aA,w1,a2,bA,w2,kA,lA,dA,mA,oA,fun h0=>?_⟩;obtain⟨g,cap,e2,hc,nA,sA,eA⟩:=qp jA h0;simp only[Value.slice.injEq,true_and]at e2;refine⟨g,e2.1,nA,sA,fun j hj=>eA j _ ?_⟩;rw[List.nil_append];by_cases gA:j<k*6
 ·rw[if_pos gA,List.getElem?_append_left (by rw[qh];exact gA),zB0 gA,Nat.zero_add]
 ·rw[if_neg gA,List.getElem?_append_right (by rw[qh];omega),qh,zB0 (by omega),show(k+1)*6+(j - k*6)=j+6 by omega]
theorem zJh{w:World}{bs o nb:Nat}{f:Nat->zu}{kv:Nat->Value}{i:Nat}(h:qx w bs o nb (kv i) (f i)):∀r,r<6->w.cell? ⟨bs,o+r,none⟩=some (cellSet f kv i r)
 | 0,_=>h.c0.1
 | 1,_=>h.c1.1
 | 2,_=>h.c2.1
 | 3,_=>h.c3.1
 | 4,_=>h.c4.1
 | 5,_=>h.c5.1
 | n+6,h=>absurd h (by omega)
theorem zE9(w:World)(b off n k c1 c2:Nat)(A1 A2:Option Addr)(G:Nat->Value)(hG:∀j,j<n*6->w.cell? ⟨b,off+j,none⟩=some (G j)/\(G j).oneCell'=true)(hk:k<=n)(hn:n<=100)(h1:0<k->A1=some ⟨b,off,none⟩)(h2:0<n - k->A2=some ⟨b,off+k*6,none⟩)(s:zu) :
  ∃v1 w1 v2 w2 g cap w3,(Builtin.append_ #[37,37] 37 #[.slice (some ⟨w.heap.size,0,none⟩) 0 0,.slice A1 k c1]).run Tryz.prog (w.alloc (.cells #[] 102)) = .ok v1 w1/\(Builtin.append_ #[37,37] 37 #[v1,.slice (some ⟨w1.heap.size,0,none⟩) 1 1]).run Tryz.prog (w1.alloc (.cells #[.string s.name,.int .i64 s.origin,.int .i64 s.zO0,.int .i64 s.rs,.int .i64 s.rb,.slice none 0 0] 102)) = .ok v2 w2/\(Builtin.append_ #[37,37] 37 #[v2,.slice A2 (n - k) c2]).run Tryz.prog w2 = .ok (.slice (some ⟨g,0,none⟩) (n+1) cap) w3/\
   Below w.heap.size w w1/\Below w.heap.size w w2/\Below w.heap.size w w3/\w.heap.size<=g/\g<w3.heap.size/\n+1<=cap/\(n=k->v2 = .slice (some ⟨g,0,none⟩) (n+1) cap/\w2=w3)/\∀j,j<(n+1)*6->zT w3 g j (if j<k*6 then G j else if j<k*6+6 then zEr s (.slice none 0 0) (j - k*6)else G (j - 6)):=by
 have gA:=zC w (.cells #[] 102);have aA:(w.alloc (.cells #[] 102)).ownsRow w.heap.size 102 6 (.slice (some ⟨w.heap.size,0,none⟩) 0 0) 0 []:=World.ownsRow_made w #[] 0 (Nat.le_refl _) (Nat.zero_le _) (by simp);obtain⟨v1,w1,aB,kA,rA,-⟩:=zC2 (w.alloc (.cells #[] 102)) w.heap.size _ 0 [] aA gA.size A1 b off 0 k c1 G (fun h=>by rw[h1 h];rfl) (fun j hj=>by
  have:=hG j (by omega);rw[Nat.zero_add];exact⟨(gA.cell (zD this.1)).trans this.1,this.2⟩) (by omega) 37
 have fA:Below w.heap.size w w1:=gA.grown rA gA.size (fun q hq=>by have:=aA.lt q hq;omega);have bA:=zC w1 (.cells #[.string s.name,.int .i64 s.origin,.int .i64 s.zO0,.int .i64 s.rs,.int .i64 s.rb,.slice none 0 0] 102);obtain⟨v2,w2,bB,lA,sA,-⟩:=zC2 (w1.alloc (.cells #[.string s.name,.int .i64 s.origin,.int .i64 s.zO0,.int .i64 s.rs,.int .i64 s.rb,.slice none 0 0] 102)) w.heap.size v1 (0+k) _ (kA.kept (zEX bA none) (by simp;exact Classical.em _)) (Nat.le_trans fA.size bA.size) (some ⟨w1.heap.size,0,none⟩) w1.heap.size 0 0 1 1 (fun j=>zEr s (.slice none 0 0) j) (fun _=>rfl) (fun j hj=>by
  rw[Nat.zero_add,Nat.zero_add];refine⟨(World.cell?_alloc_at _ _ _ _ rfl).trans ?_,?_⟩
  ·rcases(by omega:j=0\/j=1\/j=2\/j=3\/j=4\/j=5)with rfl | rfl | rfl | rfl | rfl | rfl<;>rfl
  ·rcases(by omega:j=0\/j=1\/j=2\/j=3\/j=4\/j=5)with rfl | rfl | rfl | rfl | rfl | rfl<;>rfl) (by omega) 37
 have cA:Below w.heap.size w (w1.alloc (.cells #[.string s.name,.int .i64 s.origin,.int .i64 s.zO0,.int .i64 s.rs,.int .i64 s.rb,.slice none 0 0] 102)):=fA.trans (bA.mono fA.size);have dA:Below w.heap.size w w2:=cA.grown sA cA.size (fun q hq=>by have:=kA.lt q hq;omega);obtain⟨v3,w3,cB,mA,tA,nA⟩:=zC2 w2 w.heap.size v2 (0+k+1) _ lA dA.size A2 b off (k*6) (n - k) c2 G h2 (fun j hj=>by
  have:=hG (k*6+j) (by omega);exact⟨(dA.cell (zD this.1)).trans this.1,this.2⟩) (by omega) 37
 have oA:Below w.heap.size w w3:=dA.grown tA dA.size (fun q hq=>by have:=lA.lt q hq;omega);have e:0+k+1+(n - k)=n+1:=by omega
 rw[e]at mA;obtain⟨g,cap,rfl,hc,pA,vA,eA⟩:=qp mA (by omega);refine⟨v1,w1,v2,w2,g,cap,w3,aB,bB,cB,fA,dA,oA,pA,vA,hc,fun h=>⟨(nA (by omega)).1.symm,(nA (by omega)).2.symm⟩,fun j hj=>eA j _ ?_⟩;rw[List.nil_append];by_cases iA:j<k*6
 ·rw[if_pos iA,List.getElem?_append_left (by rw[List.length_append,qh,qh];omega),List.getElem?_append_left (by rw[qh];exact iA),zB0 iA,Nat.zero_add]
 ·rw[if_neg iA];by_cases jA:j<k*6+6
  ·rw[if_pos jA,List.getElem?_append_left (by rw[List.length_append,qh,qh];omega),List.getElem?_append_right (by rw[qh];omega),qh,zB0 (by omega),Nat.zero_add]
  ·rw[if_neg jA,List.getElem?_append_right (by rw[List.length_append,qh,qh];omega),List.length_append,qh,qh,zB0 (by omega),show k*6+(j - (k*6+1*6))=j - 6 by omega]
end Go.Proofs.YtgabgheflgjgiaaGreatDoor
