/- What impl.ptrsBelow leaves: a new row of pointers, of a page, a node and a root. -/
import Derived.Test.YtmgeglgboadfiaaGreatDoorP6
import Derived.Deep.DeepCutAuto
import Derived.Deep.RegionWith
import Derived.Test.YtmgeglgboadfiaaGreatDoorP4
import Derived.Deep.AppendLies
namespace Go.Proofs.YtmgeglgboadfiaaGreatDoor
open Go.RowKit
set_option linter.unusedVariables false
def NewRow(l:List (Int×Int))(w:World)(e:Ending)(w':World):Prop:=∃v,e = .returned v∧w'.ownsRow w.heap.size 61 2 v l.length (pcl l)∧Below w.heap.size w w'
def catUp(F:Int→Int→List (Int×Int))(s:SlotD):Nat→List (Int×Int)
 | 0=>[]
 | k+1=>catUp F s k ++ F (kidS s k) (kidB s k)
theorem catUp_one(s:SlotD):∀k,catUp one s k=kidsUp (kidS s) (kidB s) k
 | 0=>rfl
 | k+1=>by rw [catUp,kidsUp,catUp_one s k]
theorem catUp_mid(p:PoolD)(s:SlotD):∀k,catUp (midL p) s k=subUp p s k
 | 0=>rfl
 | k+1=>by rw [catUp,subUp,catUp_mid p s k]
theorem catUp_len{F:Int→Int→List (Int×Int)}(hF:∀a b,(F a b).length≤9)(s:SlotD):∀k,(catUp F s k).length≤9*k
 | 0=>Nat.le_refl _
 | k+1=>by
  have:=catUp_len hF s k
  have:=hF (kidS s k) (kidB s k)
  rw [catUp,List.length_append]
  omega
def stepL(p:PoolD)(F:Int→Int→List (Int×Int))(xs xb:Int):List (Int×Int):=if Nil xs xb then [] else(xs,xb) :: catUp F (p.s xs.toNat) 8
def PtrsAtL(p:PoolD)(L:Int)(F:Int→Int→List (Int×Int)):Prop:=∀(v:Value) (lo hi:Nat) (xs xb:Int) (w:World),SlotsAt w lo hi v p.n p.s→(Nil xs xb∨Points p xs xb)→
 Calls Tryz.prog 197 #[v,.agg #[.int .i64 xs,.int .i64 xb],.int .i64 L] w (NewRow (F xs xb) w)
theorem row_not_arr{w:World}{base n K:Nat}{v:Value}{xs:List Value}{cs:Array Value}(h:w.ownsRow base 61 2 v n xs)(hK:w.heap[K]?=some (.cells cs 155 (0,0))):v.ownBlock≠some K:=by
 intro e
 rcases h.2 with⟨rfl,_⟩ | ⟨g,cap,cur,rfl,_,hg,_⟩
 ·simp [Value.ownBlock] at e
 ·simp only [Value.ownBlock,Option.some.injEq] at e
  subst e
  rw [hK] at hg
  simp only [Option.some.injEq,Obj.cells.injEq] at hg
  exact absurd hg.2.1 (by decide)
theorem not_nil_bool{xs xb:Int}(h:¬Nil xs xb):(xs == 0)=false∨(xs == 0)=true∧(xb == 0)=false:=by
 by_cases h0:xs=0
 ·right
  refine⟨by simp [h0],?_⟩
  have:xb≠0:=fun h'=>h ⟨h0,h'⟩
  simp [this]
 ·left; simp [h0]
set_option maxRecDepth 20000 in
set_option maxHeartbeats 1000000 in
theorem ptrs2_any(p:PoolD):PtrsAtL p 2 one:=by
 intro v lo hi xs xb w hs hP
 obtain⟨_,a,c,rfl,_⟩:=id hs
 have ha:=below_alloc w (.cells #[.int .i64 xs,.int .i64 xb] 61)
 obtain⟨⟨x0,x1⟩,⟨x2,x3⟩⟩:=Box2.new w (.int .i64 xs) (.int .i64 xb) 61
 have hlit:=World.ownsRow_lit (e:=61) (size:=2) (base:=w.heap.size) (w.alloc (.cells #[.int .i64 xs,.int .i64 xb] 61)) #[.int .i64 xs,.int .i64 xb] 1 (by simp) (by unfold maxLen; omega) rfl
 rw [World.size_alloc] at hlit
 have Hlit:=hideT hlit
 have HB:=hideT (below_next ha (below_alloc _ (.cells #[.int .i64 xs,.int .i64 xb] 61)))
 clear hlit
 by_cases hn:Nil xs xb
 ·have HN:=hideT hn
  obtain⟨rfl,rfl⟩:=hn
  go_enter Tryz.func197,Tryz.ntmps197
  go_wp2
  go_ret
  exact⟨_,rfl,by rw [show one 0 0 = [] from if_pos HN.out]; exact World.ownsRow_nil _ _ _ _,ha⟩
 ·have HN:=hideT hn
  have e0:=not_nil_bool hn
  clear hn
  rcases e0 with e0 | ⟨e0,e1⟩
  all_goals
   go_enter Tryz.func197,Tryz.ntmps197
   go_wp2
   go_ret
   exact⟨_,rfl,by rw [show one xs xb = [(xs,xb)] from if_neg HN.out]; exact Hlit.out,HB.out⟩
set_option maxRecDepth 20000 in
set_option maxHeartbeats 2000000 in
theorem ptrs_step(p:PoolD)(L:Int)(F:Int→Int→List (Int×Int))(hR:Right p)(hL:0≤L∧L<2)(hF:∀a b,(F a b).length≤9)(hlow:PtrsAtL p (L+1) F):PtrsAtL p L (stepL p F):=by
 intro v lo hi xs xb w hs hP
 have Hs:=hideT hs
 obtain⟨_,a,c,rfl,_⟩:=id hs
 have ha:=below_alloc w (.cells #[.int .i64 xs,.int .i64 xb] 61)
 obtain⟨⟨x0,x1⟩,⟨x2,x3⟩⟩:=Box2.new w (.int .i64 xs) (.int .i64 xb) 61
 have hL2:(L == 2)=false:=by simp; omega
 clear hs
 by_cases hn:Nil xs xb
 ·have HN:=hideT hn
  obtain⟨rfl,rfl⟩:=hn
  go_enter Tryz.func197,Tryz.ntmps197
  go_wp2
  go_ret
  exact⟨_,rfl,by rw [show stepL p F 0 0 = [] from if_pos HN.out]; exact World.ownsRow_nil _ _ _ _,ha⟩
 ·have HN:=hideT hn
  have e0:=not_nil_bool hn
  have hPt:Points p xs xb:=hP.resolve_left hn
  have Hf:=hideT (points_fits hR hPt)
  have Hlow:=hideT hlow
  have HF:=hideT hF
  obtain⟨k,rfl⟩:=Int.eq_ofNat_of_zero_le hPt.2.1
  rw [Int.toNat_natCast] at Hf
  have hk:k<p.n:=by have:=hPt.2.2.1; omega
  have hk':(k:Int)<(p.n:Int):=by omega
  clear hn hP hPt hlow hR hF
  have hlit:=World.ownsRow_lit (e:=61) (size:=2) (base:=w.heap.size+1) (w.alloc (.cells #[.int .i64 (k:Int),.int .i64 xb] 61)) #[.int .i64 (k:Int),.int .i64 xb] 1 (by simp) (by unfold maxLen; omega) rfl
  rw [World.size_alloc] at hlit
  have Hlit:=hideT hlit
  have ha2:=below_alloc (w.alloc (.cells #[.int .i64 (k:Int),.int .i64 xb] 61)) (.cells #[.int .i64 (k:Int),.int .i64 xb] 61)
  have hB2:=below_next ha ha2
  have hxb:=(Box2.new w (.int .i64 (k:Int)) (.int .i64 xb) 61).below ha2
  clear x0 x1 x2 x3 hlit ha ha2
  obtain⟨⟨x0,x1⟩,⟨x2,x3⟩⟩:=hxb
  obtain⟨b,off,ka,kc,rfl,hsc⟩:=(Hs.out.below hB2).cells hk
  have HC:=hideT hsc
  obtain⟨q0,q1,q2,_⟩:=hsc
  obtain⟨y0,y1⟩:=(Box2.new w (.int .i64 (k:Int)) (.int .i64 xb) 61).1
  obtain⟨y2,y3⟩:=(Box2.new w (.int .i64 (k:Int)) (.int .i64 xb) 61).2
  rcases e0 with e0 | ⟨e0,e1⟩
  all_goals
   go_enter Tryz.func197,Tryz.ntmps197
   go_wp2_with fail
   refine(kidsOf_any _ _ _ lo hi (p.s k) _ HC.out.slot (fits_kn Hf.out)).mono ?_
   rintro e w1 ⟨rfl,hb1⟩
   have hB1:=below_next hB2 hb1
   have hrow1:=Hlit.out.kept (grown_of_below hb1 none) (Or.inr (by simp [Value.ownBlock]))
   have Hi16:Hid ((Tryz.prog.info? 155).map (·.size)=some (kidsA (p.s k)).size):=by
    show _=_
    rw [kidsA,arr16_size]; exact infoArr
   have hblk:(w1.alloc (.cells (kidsA (p.s k)) 155)).heap[w1.heap.size]?=some (.cells (kidsA (p.s k)) 155 (0,0)):=heap_alloc_last _ _
   have HK:=hideT hblk
   have Hrow:=hideT (hrow1.alloc (.cells (kidsA (p.s k)) 155))
   have hB3:=below_next hB1 (below_alloc w1 (.cells (kidsA (p.s k)) 155))
   have hz1:w.heap.size+2≤w1.heap.size:=by have:=hb1.size; rw [World.size_alloc,World.size_alloc] at this; omega
   obtain⟨i0,hi0,hzz⟩:=Option.map_eq_some_iff.1 infoPtrT
   simp only [Prod.mk.injEq] at hzz
   have HT:=hideT (And.intro hi0 hzz)
   clear hb1 hB1 hrow1 hblk hB2 x0 x1 x2 x3 y0 y1 y2 y3 q0 q1 q2 HC Hlit hi0 hzz
   go_wp2_with (first
    | (refine wpList_store_row rfl 155 (.tmp 8) (.tmp 23) rfl w1.heap.size (kidsA (p.s k)) rfl rfl 155 #[Value.int .i64 0,Value.int .i64 0,Value.int .i64 0,Value.int .i64 0,Value.int .i64 0,Value.int .i64 0,Value.int .i64 0,Value.int .i64 0,Value.int .i64 0,Value.int .i64 0,Value.int .i64 0,Value.int .i64 0,Value.int .i64 0,Value.int .i64 0,Value.int .i64 0,Value.int .i64 0] (heap_alloc_last _ _) Hi16.out (by rw [kidsA,arr16_size]; rfl) (arr16_one _) ?_; rw [World.setRow_alloc_new]))
   go_loopw [7,24] (fun o i wr=>∃(j:Nat) (oa:Option Addr) (oc:Nat),j≤8∧i = .int .i64 j∧o = .slice oa (((k:Int),xb) :: catUp F (p.s k) j).length oc∧wr.ownsRow (w.heap.size+1) 61 2 o (((k:Int),xb) :: catUp F (p.s k) j).length (pcl (((k:Int),xb) :: catUp F (p.s k) j))∧wr.heap[w1.heap.size]?=some (.cells (kidsA (p.s k)) 155 (0,0))∧Below w.heap.size w wr) (fun _ i _=>8 - (intOf i).toNat)
   case atStart=>exact⟨0,_,_,Nat.zero_le _,rfl,rfl,Hrow.out,HK.out,hB3⟩
   case round=>
    obtain⟨j,oa,oc,hj,rfl,rfl,hown,hK,hb⟩:=hrel
    have Hown:=hideT hown
    have HKr:=hideT hK
    have hszK:w1.heap.size<wr.heap.size:=(Array.getElem?_eq_some_iff.1 hK).1
    have hlen:=catUp_len HF.out (p.s k) j
    clear hown hK
    by_cases hlt:j<8
    ·have hlt':(j:Int)<8:=by omega
     obtain⟨y0,y1⟩:=cell_of_block (i:=j*2) HKr.out (arr16_at (kidCell (p.s k)) (by omega))
     obtain⟨y2,y3⟩:=cell_of_block (i:=j*2+1) HKr.out (arr16_at (kidCell (p.s k)) (by omega))
     have Hkp:Hid (Nil (kidCell (p.s k) (j*2)) (kidCell (p.s k) (j*2+1))∨Points p (kidCell (p.s k) (j*2)) (kidCell (p.s k) (j*2+1))):=by
      by_cases hn:Nil (kidS (p.s k) j) (kidB (p.s k) j)
      ·exact Or.inl hn
      ·exact Or.inr (kid_points Hf.out hlt hn).1
     go_wp2_with fail
     refine(Hlow.out _ lo hi (kidCell (p.s k) (j*2)) (kidCell (p.s k) (j*2+1)) _ (Hs.out.below hb) Hkp.out).mono ?_
     rintro e w2 ⟨v2,rfl,hown2,hb2⟩
     obtain⟨na,nc,rfl,_⟩:=owns_form hown2
     have hl9:=HF.out (kidCell (p.s k) (j*2)) (kidCell (p.s k) (j*2+1))
     have Hown2:=hideT hown2
     have HownO:=hideT (Hown.out.kept (grown_of_below hb2 none) (by cases hv:(Value.slice oa (((k:Int),xb) :: catUp F (p.s k) j).length oc).ownBlock <;> simp))
     have HK2:=hideT ((hb2.block _ hszK).trans HKr.out)
     have hbn:=below_next hb hb2
     have hz2:=hb2.size
     clear hown2 hb2 y0 y1 y2 y3 Hown HKr
     go_wp2_with (first
      | (at_builtin; refine wpList_append_opt rfl _ _ 62 rfl (w.heap.size+1) 61 i0 (.agg #[.int .i64 0,.int .i64 0]) 2 16 (by kernel_rfl) HT.out.1 HT.out.2.1 HT.out.2.2.1 HT.out.2.2.2 rfl (by decide) (.slice oa (((k:Int),xb) :: catUp F (p.s k) j).length oc) (((k:Int),xb) :: catUp F (p.s k) j).length (pcl (((k:Int),xb) :: catUp F (p.s k) j)) rfl ?c0 na (F (kidCell (p.s k) (j*2)) (kidCell (p.s k) (j*2+1))).length nc (pcl (F (kidCell (p.s k) (j*2)) (kidCell (p.s k) (j*2+1)))) rfl (pcl_len _) (pcl_one _) ?c1 ?c3 ?c4 ?c5 ?_))
     case c0=>exact HownO.out
     case c1=>
      intro h0
      obtain⟨g,cap,e,_,_,_,hcell⟩:=owns_cell Hown2.out h0
      simp only [Value.slice.injEq,true_and] at e
      exact⟨g,0,e.1,fun j u hj=>by rw [Nat.zero_add]; exact(hcell j u hj).1⟩
     case c3=>rw [List.length_cons]; unfold maxLen; omega
     case c4=>rw [List.length_cons]; omega
     case c5=>omega
     intro v3 w3 hown3 hgrow3 _
     have hcat:((k:Int),xb) :: catUp F (p.s k) (j+1)=(((k:Int),xb) :: catUp F (p.s k) j) ++ F (kidCell (p.s k) (j*2)) (kidCell (p.s k) (j*2+1)):=rfl
     have hcl:(catUp F (p.s k) j).length+1+(F (kidCell (p.s k) (j*2)) (kidCell (p.s k) (j*2+1))).length=(((k:Int),xb) :: catUp F (p.s k) (j+1)).length:=by rw [hcat,List.length_append,List.length_cons]
     rw [←pcl_append,←hcat,hcl] at hown3
     have HK3:=hideT ((hgrow3.block _ (by omega) (fun e=>row_not_arr HownO.out HK2.out e.symm)).trans HK2.out)
     have hB4:=hbn.grown hgrow3 hbn.size (fun q hq=>by have:=HownO.out.lt q hq; omega)
     obtain⟨oa3,oc3,rfl,_⟩:=owns_form hown3
     have Hown3:=hideT hown3
     clear hown3 hgrow3 hcat hcl
     go_wp2
     go_roundw
     case rel=>exact⟨j+1,oa3,oc3,by omega,by go_num,rfl,Hown3.out,HK3.out,hB4⟩
     case measure=>simp [intOf]; omega
    ·obtain rfl:j=8:=by omega
     go_wp2
     go_ret
     refine⟨_,rfl,?_,hb⟩
     rw [show stepL p F (k:Int) xb=((k:Int),xb) :: catUp F (p.s k) 8 by unfold stepL; rw [if_neg HN.out,Int.toNat_natCast]]
     exact own_base Hown.out (by omega)
theorem ptrs1_any(p:PoolD)(hR:Right p):PtrsAtL p 1 (midL p):=by
 have h:=ptrs_step p 1 one hR (by omega) (fun a b=>by unfold one; split <;> simp) (ptrs2_any p)
 have e:stepL p one=midL p:=by
  funext xs xb
  unfold stepL midL lowL
  rw [catUp_one]
 rw [e] at h
 exact h
theorem ptrs0_any(p:PoolD)(hR:Right p):PtrsAtL p 0 (treeL p):=by
 have h:=ptrs_step p 0 (midL p) hR (by omega) (midL_len p) (ptrs1_any p hR)
 have e:stepL p (midL p)=treeL p:=by
  funext xs xb
  unfold stepL treeL
  rw [catUp_mid]
 rw [e] at h
 exact h
def HasP(n:Nat)(f g:Nat→Int)(x y:Int):Prop:=∃j,j<n∧f j=x∧g j=y
theorem PtrsAt.cellsT{w:World}{lo hi:Nat}{a:Option Addr}{n c:Nat}{f g:Nat→Int}(h:PtrsAt w lo hi (.slice a n c) n f g){k:Nat}(hk:k<n):∃b off,a=some ⟨b,off,none⟩∧w.cell? ⟨b,off+k*2,none⟩=some (.int .i64 (f k))∧w.cell? ⟨b,off+k*2+1,none⟩=some (.int .i64 (g k)):=by
 obtain⟨_,a2,c2,hv,_,hx⟩:=h
 simp only [Value.slice.injEq,true_and] at hv
 obtain⟨rfl,rfl⟩:=hv
 obtain⟨b,off,ha,_,_,h3⟩:=hx (by omega)
 exact⟨b,off,ha,(h3 k hk).1,(h3 k hk).2⟩
theorem PtrsAt.take{w:World}{lo hi:Nat}{a:Option Addr}{n c m c':Nat}{f g:Nat→Int}(h:PtrsAt w lo hi (.slice a n c) n f g)(hm:m≤n)(hc:m≤c'):PtrsAt w lo hi (.slice a m c') m f g:=by
 obtain⟨h0,a2,c2,hv,_,hx⟩:=h
 simp only [Value.slice.injEq,true_and] at hv
 obtain⟨rfl,rfl⟩:=hv
 refine⟨by omega,_,c',rfl,hc,fun h1=>?_⟩
 obtain⟨b,off,ha,hl,hh,h3⟩:=hx (by omega)
 exact⟨b,off,ha,hl,hh,fun i hi=>h3 i (by omega)⟩
set_option maxRecDepth 20000 in
set_option maxHeartbeats 1000000 in
theorem indexPtr_any(v:Value)(n lo hi:Nat)(f g:Nat→Int)(x y:Int)(w:World)(h1:PtrsAt w lo hi v n f g) :
  Calls Tryz.prog 228 #[v,.agg #[.int .i64 x,.int .i64 y]] w fun e w'=>(∃r:Int,e = .returned (.int .i64 r)∧(0≤r↔HasP n f g x y))∧Below w.heap.size w w':=by
 have Hp:=hideT h1
 obtain⟨m1,a,c,rfl,mc,_⟩:=id h1
 unfold maxLen at m1
 clear h1
 have ha:=below_alloc w (.cells #[.int .i64 x,.int .i64 y] 61)
 have HB:=hideT (Box2.new w (.int .i64 x) (.int .i64 y) 61)
 go_enter Tryz.func228,Tryz.ntmps228
 go_wp2
 go_loopw [8] (fun i wr=>∃k:Nat,k≤n∧i = .int .i64 k∧¬HasP k f g x y∧Box2 wr w.heap.size (.int .i64 x) (.int .i64 y)∧Below w.heap.size w wr) (fun i _=>n - (intOf i).toNat)
 case atStart=>exact⟨0,Nat.zero_le _,rfl,fun ⟨j,hj,_⟩=>absurd hj (Nat.not_lt_zero _),HB.out,ha⟩
 case round=>
  obtain⟨k,hk,rfl,hno,hX,hb⟩:=hrel
  have Hno:=hideT hno
  have HX:=hideT hX
  clear hno hX
  obtain⟨⟨x0,x1⟩,⟨x2,x3⟩⟩:=HX.out
  by_cases hlt:k<n
  ·have hlt':(k:Int)<(n:Int):=by omega
   obtain⟨b,off,rfl,q0,q1⟩:=(Hp.out.below hb).cellsT hlt
   by_cases he:x=f k∧y=g k
   ·have H:=hideT (show HasP n f g x y from⟨k,hlt,he.1.symm,he.2.symm⟩)
    rw [←he.1] at q0
    rw [←he.2] at q1
    clear he
    go_wp2
    go_quiet (fail)
    go_wp2
    go_ret
    exact⟨⟨_,rfl,⟨fun _=>H.out,fun _=>Int.natCast_nonneg _⟩⟩,below_drewN hb _⟩
   ·have H:=hideT he
    have e0:(x == f k)=false∨(x == f k)=true∧(y == g k)=false:=by
     by_cases h:x=f k
     ·right
      refine⟨by simp [h],?_⟩
      have:y≠g k:=fun h'=>he ⟨h,h'⟩
      simp [this]
     ·left; simp [h]
    clear he
    rcases e0 with e0 | ⟨e0,e1⟩
    all_goals
     go_wp2
     go_quiet (fail)
     go_wp2
     go_roundw
     case rel=>
      refine⟨k+1,by omega,by go_num,?_,HX.out.below (below_drewN (Below.refl _ _) _),below_drewN hb _⟩
      rintro⟨j,hj,hjx⟩
      by_cases e:j=k
      ·subst e; exact H.out ⟨hjx.1.symm,hjx.2.symm⟩
      ·exact Hno.out ⟨j,by omega,hjx⟩
     case measure=>simp [intOf]; omega
  ·obtain rfl:k=n:=by omega
   go_wp2
   go_ret
   exact⟨⟨-1,rfl,⟨fun h=>absurd h (by omega),fun h=>absurd h Hno.out⟩⟩,hb⟩
set_option maxRecDepth 20000 in
set_option maxHeartbeats 400000 in
theorem containsPtr_any(v:Value)(n lo hi:Nat)(f g:Nat→Int)(x y:Int)(w:World)(h1:PtrsAt w lo hi v n f g) :
  Calls Tryz.prog 220 #[v,.agg #[.int .i64 x,.int .i64 y]] w fun e w'=>BoolIs (HasP n f g x y) e∧Below w.heap.size w w':=by
 have Hi:=hideT h1
 obtain⟨m1,a,c,rfl,mc,_⟩:=id h1
 clear h1
 have ha:=below_alloc w (.cells #[.int .i64 x,.int .i64 y] 61)
 go_enter Tryz.func220,Tryz.ntmps220
 go_wp2_with fail
 refine(indexPtr_any _ n lo hi f g x y _ (Hi.out.below ha)).mono ?_
 rintro e w' ⟨⟨r,rfl,hr⟩,hb⟩
 have Hr:=hideT hr
 have hB:=below_next ha hb
 clear hr hb
 go_wp2
 go_ret
 exact⟨⟨_,rfl,by simpa using Hr.out⟩,hB⟩
def ApartF(p:PoolD)(n:Nat)(f g:Nat→Int):Prop:=∀i,i<n→¬HasP i f g (f i) (g i)∧¬Has p.hn p.h (f i)
set_option maxRecDepth 20000 in
set_option maxHeartbeats 2000000 in
theorem apart_any(v0 v1 v:Value)(lo hi lo' hi' n:Nat)(p:PoolD)(f g:Nat→Int)(w:World)(h1:PoolAt w lo hi v0 v1 p)(h2:PtrsAt w lo' hi' v n f g) :
    Calls Tryz.prog 196 #[.agg #[v0,v1],v] w fun e w'=>BoolIs (ApartF p n f g) e∧Below w.heap.size w w':=by
  have Hp:=hideT h1
  have Hl:=hideT h2
  obtain⟨a,c,a',c',rfl,rfl⟩:∃a c a' c',v0 = .slice a p.n c∧v1 = .slice a' p.hn c':=by
    obtain⟨⟨_,a,c,h1,_⟩,⟨_,a',c',h3,_⟩⟩:=h1
    exact⟨a,c,a',c',h1,h3⟩
  obtain⟨m1,la,lc,rfl,mc,_⟩:=id h2
  unfold maxLen at m1
  clear h1 h2
  have ha:=below_alloc w (.cells #[.slice a p.n c,.slice a' p.hn c'] 33)
  have HB:=hideT (Box2.new w (.slice a p.n c) (.slice a' p.hn c') 33)
  go_enter Tryz.func196,Tryz.ntmps196
  go_wp2
  go_loopw [9] (fun i wr=>∃k:Nat,k≤n∧i = .int .i64 k∧ApartF p k f g∧Box2 wr w.heap.size (.slice a p.n c) (.slice a' p.hn c')∧Below w.heap.size w wr) (fun i _=>n - (intOf i).toNat)
  case atStart=>exact⟨0,Nat.zero_le _,rfl,fun j hj=>absurd hj (Nat.not_lt_zero _),HB.out,ha⟩
  case round=>
    obtain⟨k,hk,rfl,hall,hX,hb⟩:=hrel
    have Hall:=hideT hall
    have HX:=hideT hX
    clear hall hX
    by_cases hlt:k<n
    · have hlt':(k:Int)<(n:Int):=by omega
      have hkc:(k:Int)≤(lc:Int):=by omega
      obtain⟨b,off,rfl,q0,q1⟩:=(Hl.out.below hb).cellsT hlt
      have hal:=below_alloc wr (.cells #[.int .i64 (f k),.int .i64 (g k)] 61)
      have HX1:=hideT (HX.out.below hal)
      have HV:=hideT (Box2.new wr (.int .i64 (f k)) (.int .i64 (g k)) 61)
      have hb1:=below_next hb hal
      have hz1:w.heap.size<wr.heap.size:=HX.out.1.lt
      have hz2:(wr.alloc (.cells #[.int .i64 (f k),.int .i64 (g k)] 61)).heap.size=wr.heap.size+1:=World.size_alloc _ _
      go_upto_region 4 with fail
      generalize wr.alloc (.cells #[.int .i64 (f k),.int .i64 (g k)] 61)=wx at HX1 HV hb1 hz2 ⊢
      clear q0 q1 hal HX
      have Htk:=hideT ((Hl.out.below hb1).take (m:=k) (c':=lc) (by omega) (by omega))
      obtain⟨⟨x0,x1⟩,⟨x2,x3⟩⟩:=HX1.out
      obtain⟨⟨y0,y1⟩,⟨y2,y3⟩⟩:=HV.out
      by_cases hh:HasP k f g (f k) (g k)
      · have HH:=hideT hh
        clear hh
        first
          | (go_region_with (first
              | (go_at_call 220
                 refine(containsPtr_any _ k lo' hi' f g (f k) (g k) _ ?_).mono ?_
                 (first | exact Htk.out | exact Htk.out.below (Below.refl _ _).drew)
                 rintro e w2 ⟨⟨t2,rfl,ht2⟩,hb2⟩
                 obtain rfl:t2=true:=ht2.2 HH.out
                 clear ht2
                 have hC2:Below wx.heap.size wx w2:=(by first | exact hb2 | exact below_undrew hb2)
                 obtain⟨⟨k0,_⟩,⟨k1,_⟩⟩:=HX1.out.below hC2
                 obtain⟨⟨k2,_⟩,⟨k3,_⟩⟩:=HV.out.below hC2)))
          | fail
        all_goals
          have hB2:=below_next hb1 hC2
          go_wp2
          go_ret
          exact⟨BoolIs.no fun h=>(h k hlt).1 HH.out,hB2⟩
      · have HH:=hideT hh
        clear hh
        go_region_held3 (fun w'=>w'.cell? ⟨w.heap.size,0,none⟩=some (.slice a p.n c)∧w'.cell? ⟨w.heap.size,1,none⟩=some (.slice a' p.hn c')∧w'.cell? ⟨wr.heap.size,0,none⟩=some (.int .i64 (f k))∧w'.cell? ⟨wr.heap.size,1,none⟩=some (.int .i64 (g k))) (go_keep)
          (first
            | (go_at_call 220
               refine(containsPtr_any _ k lo' hi' f g (f k) (g k) _ ?_).mono ?_
               (first | exact Htk.out | exact Htk.out.below (Below.refl _ _).drew)
               rintro e w2 ⟨⟨t2,rfl,ht2⟩,hb2⟩
               obtain rfl:t2=false:=bool_no ht2 HH.out
               clear ht2
               have hC2:Below wx.heap.size wx w2:=(by first | exact hb2 | exact below_undrew hb2)
               obtain⟨⟨k0,_⟩,⟨k1,_⟩⟩:=HX1.out.below hC2
               obtain⟨⟨k2,_⟩,⟨k3,_⟩⟩:=HV.out.below hC2)
            | (go_at_call 192
               refine(contains_any _ p.hn lo hi p.h (f k) _ ?_).mono ?_
               exact(Hp.out.2.below (below_next hb1 hC2))
               rintro e w3 ⟨⟨t3,rfl,ht3⟩,rfl⟩))
        have hB2:=below_next hb1 hC2
        have HX2:=hideT (HX1.out.below hC2)
        have HT3:=hideT ht3
        clear ht3 hC2 hb2 x0 x1 x2 x3 y0 y1 y2 y3 k0 k1 k2 k3
        cases t3
        · go_wp2
          go_roundw
          case rel=>exact⟨k+1,by omega,by go_num,relNext (n:=n) hlt Hall.out ⟨HH.out,fun h=>absurd (HT3.out.2 h) (by simp)⟩,HX2.out,hB2⟩
          case measure=>simp [intOf]; omega
        · go_wp2
          go_ret
          exact⟨BoolIs.no fun h=>(h k hlt).2 (HT3.out.1 trivial),hB2⟩
    · obtain rfl:k=n:=by omega
      go_wp2
      go_ret
      exact⟨BoolIs.yes Hall.out,hb⟩
theorem row_ptrs{w:World}{base:Nat}{v:Value}{l:List (Int×Int)}(hm:l.length≤maxLen)(h:w.ownsRow base 61 2 v l.length (pcl l)):PtrsAt w 0 w.heap.size v l.length (fun i=>(l.getD i (0,0)).1) (fun i=>(l.getD i (0,0)).2):=by
  by_cases h0:0<l.length
  · obtain⟨g,cap,rfl,hcp,hb,hlt,hcell⟩:=owns_cell h h0
    refine⟨hm,_,cap,rfl,hcp,fun _=>⟨g,0,rfl,Nat.zero_le _,hlt,fun i hi=>?_⟩⟩
    have get:∀(l:List (Int×Int)) i,i<l.length→(pcl l)[i*2]?=some (.int .i64 (l.getD i (0,0)).1)∧(pcl l)[i*2+1]?=some (.int .i64 (l.getD i (0,0)).2):=by
      intro l
      induction l with
      | nil=>intro i hi; simp at hi
      | cons x l ih=>
        intro i hi
        cases i with
        | zero=>exact⟨rfl,rfl⟩
        | succ i=>
          have:=ih i (by simpa using hi)
          rw [show(i+1)*2=i*2+1+1 by omega]
          simpa [pcl] using this
    rw [Nat.zero_add]
    exact⟨(hcell _ _ (get l i hi).1).1,(hcell _ _ (get l i hi).2).1⟩
  · obtain⟨a,cap,rfl,hcp⟩:=owns_form h
    exact⟨hm,a,cap,rfl,hcp,fun h=>absurd h h0⟩
theorem apart_list(p:PoolD)(l:List (Int×Int)):ApartF p l.length (fun i=>(l.getD i (0,0)).1) (fun i=>(l.getD i (0,0)).2)↔Apart p l:=by
  have getE:∀i (h:i<l.length),l.getD i (0,0)=l[i]:=fun i h=>by rw [List.getD_eq_getElem?_getD,List.getElem?_eq_getElem h,Option.getD_some]
  constructor
  · intro h
    refine⟨?_,fun x hx=>?_⟩
    · rw [List.Nodup,List.pairwise_iff_getElem]
      intro i j hi hj hij e
      refine(h j hj).1 ⟨i,hij,?_,?_⟩
      · show(l.getD i (0,0)).1=(l.getD j (0,0)).1
        rw [getE i hi,getE j hj,e]
      · show(l.getD i (0,0)).2=(l.getD j (0,0)).2
        rw [getE i hi,getE j hj,e]
    · obtain⟨i,hi,rfl⟩:=List.getElem_of_mem hx
      have:=(h i hi).2
      simp only [getE i hi] at this
      exact this
  · rintro⟨h1,h2⟩ i hi
    refine⟨?_,?_⟩
    · rintro⟨j,hj,e1,e2⟩
      simp only [getE i hi,getE j (by omega)] at e1 e2
      rw [List.Nodup,List.pairwise_iff_getElem] at h1
      exact h1 j i (by omega) hi hj (Prod.ext e1 e2)
    · simp only [getE i hi]
      exact h2 _ (List.getElem_mem hi)
set_option maxRecDepth 20000 in
set_option maxHeartbeats 4000000 in
theorem treeThere_any(v0 v1:Value)(lo hi:Nat)(p:PoolD)(xs xb:Int)(w:World)(h1:PoolAt w lo hi v0 v1 p)(hR:Right p) :
    Calls Tryz.prog 155 #[.agg #[v0,v1],.agg #[.int .i64 xs,.int .i64 xb]] w fun e w'=>BoolIs (TreeOkI p xs xb) e∧Below w.heap.size w w':=by
  have Hp:=hideT h1
  have HR:=hideT hR
  obtain⟨a,c,a',c',rfl,rfl⟩:∃a c a' c',v0 = .slice a p.n c∧v1 = .slice a' p.hn c':=by
    obtain⟨⟨_,a,c,h1,_⟩,⟨_,a',c',h3,_⟩⟩:=h1
    exact⟨a,c,a',c',h1,h3⟩
  clear h1 hR
  have hst:=start22 w (.slice a p.n c) (.slice a' p.hn c') (.int .i64 xs) (.int .i64 xb) 33 61
  by_cases hn:Nil xs xb
  · have HN:=hideT hn
    obtain⟨rfl,rfl⟩:=hn
    obtain⟨_,_,hba,_⟩:=hst
    go_enter Tryz.func155,Tryz.ntmps155
    go_wp2
    go_ret
    exact⟨BoolIs.yes (Or.inl HN.out),hba⟩
  · have HN:=hideT hn
    have e0:=not_nil_bool hn
    clear hn
    have Hend:Hid (∀t:Bool,(t=true↔Points p xs xb∧Shape0 p (p.s xs.toNat)∧Apart p (treeL p xs xb))→BoolIs (TreeOkI p xs xb) (.returned (.bool t))):=fun t ht=>⟨t,rfl,ht.trans ⟨fun h=>Or.inr h,fun h=>h.resolve_left HN.out⟩⟩
    go_enter Tryz.func155,Tryz.ntmps155
    go_upto_region 1 with fail
    generalize (w.alloc (.cells #[.slice a p.n c,.slice a' p.hn c'] 33)).alloc (.cells #[.int .i64 xs,.int .i64 xb] 61)=W at hst ⊢
    obtain⟨hB,hX,hba,hz⟩:=hst
    have HB:=hideT hB
    have HX:=hideT hX
    clear hB hX
    go_cut [7] (fun v wc=>v = .bool false∧W=wc)
    case first=>
      obtain⟨⟨y0,y1⟩,⟨y2,y3⟩⟩:=HX.out
      rcases e0 with e0 | ⟨e0,e1⟩
      all_goals
        go_wp2_with fail
        go_meet
        case rel=>exact⟨rfl,rfl⟩
    case rest=>
      obtain⟨rfl,rfl⟩:=hcut
      clear e0
      obtain⟨⟨x0,x1⟩,⟨x2,x3⟩⟩:=HB.out
      obtain⟨⟨y0,y1⟩,⟨y2,y3⟩⟩:=HX.out
      go_upto_region 3 with fail
      by_cases hP:Points p xs xb
      · have HP:=hideT hP
        clear hP
        by_cases hSh:Shape0 p (p.s xs.toNat)
        · have HSh:=hideT hSh
          clear hSh
          go_region_held3 (fun w'=>w'.cell? ⟨w.heap.size,0,none⟩=some (.slice a p.n c)∧w'.cell? ⟨w.heap.size,1,none⟩=some (.slice a' p.hn c')∧w'.cell? ⟨w.heap.size+1,0,none⟩=some (.int .i64 xs)∧w'.cell? ⟨w.heap.size+1,1,none⟩=some (.int .i64 xb)) (go_keep)
            (first
              | (go_at_call 191
                 refine(isPtr_any _ p.n lo hi p.s xs xb _ ?_).mono ?_
                 (first | exact Hp.out.1.below hba | exact Hp.out.1.below hba.drew)
                 rintro e w1 ⟨⟨t1,rfl,ht1⟩,hb1⟩
                 rw [isPtr_iff HR.out] at ht1
                 obtain rfl:t1=true:=ht1.2 HP.out
                 clear ht1
                 have hC1:Below W.heap.size W w1:=(by first | exact hb1 | exact below_undrew hb1)
                 obtain⟨⟨k0,_⟩,⟨k1,_⟩⟩:=HB.out.below hC1
                 obtain⟨⟨k2,_⟩,⟨k3,_⟩⟩:=HX.out.below hC1)
              | (go_at_call 195
                 refine(shape0_any p HR.out _ lo hi xs xb _ ?_ HP.out).mono ?_
                 exact Hp.out.1.below (below_next hba hC1)
                 rintro e w2 ⟨⟨t2,rfl,ht2⟩,hb2⟩
                 obtain rfl:t2=true:=ht2.2 HSh.out
                 clear ht2
                 have hC2:=below_next hC1 hb2
                 obtain⟨⟨l0,_⟩,⟨l1,_⟩⟩:=HB.out.below hC2
                 obtain⟨⟨l2,_⟩,⟨l3,_⟩⟩:=HX.out.below hC2)
              | (go_at_call 197
                 refine(ptrs0_any p HR.out _ lo hi xs xb _ ?_ (Or.inr HP.out)).mono ?_
                 exact Hp.out.1.below (below_next hba hC2)
                 rintro e w3 ⟨v3,rfl,hrow3,hb3⟩
                 obtain⟨na,nc,rfl,_⟩:=owns_form hrow3
                 have hC3:=below_next hC2 hb3
                 have hpt:=row_ptrs (by have:=treeL_len p xs xb; unfold maxLen; omega) hrow3
                 obtain⟨⟨m0,_⟩,⟨m1,_⟩⟩:=HB.out.below hC3
                 obtain⟨⟨m2,_⟩,⟨m3,_⟩⟩:=HX.out.below hC3)
              | (go_at_call 196
                 refine(apart_any _ _ _ lo hi 0 w3.heap.size _ p _ _ _ ?_ hpt).mono ?_
                 exact Hp.out.below (below_next hba hC3)
                 rintro e w4 ⟨⟨t4,rfl,ht4⟩,hb4⟩
                 rw [apart_list] at ht4
                 have hC4:=below_next hC3 hb4
                 obtain⟨⟨n0,_⟩,⟨n1,_⟩⟩:=HB.out.below hC4
                 obtain⟨⟨n2,_⟩,⟨n3,_⟩⟩:=HX.out.below hC4))
          have hB4:=below_next hba hC4
          have HT:=hideT ht4
          clear ht4
          go_wp2
          go_ret
          exact⟨Hend.out t4 (HT.out.trans ⟨fun h=>⟨HP.out,HSh.out,h⟩,fun h=>h.2.2⟩),hB4⟩
        · have HSh:=hideT hSh
          clear hSh
          refine wp_region_held_drew (S:=(fun w'=>w'.cell? ⟨w.heap.size,0,none⟩=some (.slice a p.n c)∧w'.cell? ⟨w.heap.size,1,none⟩=some (.slice a' p.hn c')∧w'.cell? ⟨w.heap.size+1,0,none⟩=some (.int .i64 xs)∧w'.cell? ⟨w.heap.size+1,1,none⟩=some (.int .i64 xb))) (by kernel_rfl) ?_ (fun hHeld=>?_)
          · (try dsimp only)
            go_keep
          refine tk 0 (h:=tk 1 (h:=tk 2 (h:=?_)))
          refine rd [3] (rc (fun K hK=>?_) .nil)
          go_simp
          go_at_call 191
          refine(isPtr_any _ p.n lo hi p.s xs xb _ ?_).mono ?_
          · first | exact Hp.out.1.below hba | exact Hp.out.1.below hba.drew
          rintro e w1 ⟨⟨t1,rfl,ht1⟩,hb1⟩
          rw [isPtr_iff HR.out] at ht1
          obtain rfl:t1=true:=ht1.2 HP.out
          clear ht1
          have hC1:Below W.heap.size W w1:=(by first | exact hb1 | exact below_undrew hb1)
          obtain⟨⟨k0,_⟩,⟨k1,_⟩⟩:=HB.out.below hC1
          obtain⟨⟨k2,_⟩,⟨k3,_⟩⟩:=HX.out.below hC1
          (try go_wp2_with fail)
          refine hK.out _ _ (by(try dsimp only); go_keep) ?_
          clear hK K hHeld
          intro hHeld
          try simp only [Act.put,s1,s2,s3]
          refine tk 4 (h:=tk 5 (h:=tk 6 (h:=tk 7 (h:=?_))))
          refine rd [8] (rc (fun K hK=>?_) .nil)
          go_simp
          go_at_call 195
          refine(shape0_any p HR.out _ lo hi xs xb _ ?_ HP.out).mono ?_
          · exact Hp.out.1.below (below_next hba hC1)
          rintro e w2 ⟨⟨t2,rfl,ht2⟩,hb2⟩
          obtain rfl:t2=false:=bool_no ht2 HSh.out
          clear ht2
          have hC2:=below_next hC1 hb2
          obtain⟨⟨l0,_⟩,⟨l1,_⟩⟩:=HB.out.below hC2
          obtain⟨⟨l2,_⟩,⟨l3,_⟩⟩:=HX.out.below hC2
          (try go_wp2_with fail)
          refine hK.out _ _ (by(try dsimp only); go_keep) ?_
          clear hK K hHeld
          intro hHeld
          try simp only [Act.put,s1,s2,s3]
          refine tk 9 (h:=tk 10 (h:=ts 11 (h:=ts 12 (h:=ts 13 (h:=ts 14 (h:=?_))))))
          refine rd [15] (rc (fun K hK=>?_) .nil)
          split
          · rename_i hwt
            exact absurd (show false=true from hwt) Bool.false_ne_true
          refine hK.out _ _ (by assumption) (fun hHeld=>?_)
          clear hK K
          try simp only [Act.put,s1,s2,s3]
          refine rd [16] (rc (fun K hK=>?_) .nil)
          split
          · rename_i hwt
            exact absurd (show false=true from hwt) Bool.false_ne_true
          refine hK.out _ _ (by assumption) (fun hHeld=>?_)
          clear hK K
          try simp only [Act.put,s1,s2,s3]
          refine tk 17 (h:=tk 18 (h:=?_))
          refine wpAnyH_done (by kernel_rfl) ?_ _
          have hB4:=below_next hba hC2
          go_wp2
          go_ret
          exact⟨Hend.out false ⟨fun h=>(by cases h),fun h=>absurd h.2.1 HSh.out⟩,hB4⟩
      · have HP:=hideT hP
        clear hP
        refine wp_region_held_drew (S:=(fun w'=>w'.cell? ⟨w.heap.size,0,none⟩=some (.slice a p.n c)∧w'.cell? ⟨w.heap.size,1,none⟩=some (.slice a' p.hn c')∧w'.cell? ⟨w.heap.size+1,0,none⟩=some (.int .i64 xs)∧w'.cell? ⟨w.heap.size+1,1,none⟩=some (.int .i64 xb))) (by kernel_rfl) ?_ (fun hHeld=>?_)
        · (try dsimp only)
          go_keep
        refine tk 0 (h:=tk 1 (h:=tk 2 (h:=?_)))
        refine rd [3] (rc (fun K hK=>?_) .nil)
        go_simp
        go_at_call 191
        refine(isPtr_any _ p.n lo hi p.s xs xb _ ?_).mono ?_
        · first | exact Hp.out.1.below hba | exact Hp.out.1.below hba.drew
        rintro e w1 ⟨⟨t1,rfl,ht1⟩,hb1⟩
        rw [isPtr_iff HR.out] at ht1
        obtain rfl:t1=false:=bool_no ht1 HP.out
        clear ht1
        have hC1:Below W.heap.size W w1:=(by first | exact hb1 | exact below_undrew hb1)
        obtain⟨⟨k0,_⟩,⟨k1,_⟩⟩:=HB.out.below hC1
        obtain⟨⟨k2,_⟩,⟨k3,_⟩⟩:=HX.out.below hC1
        (try go_wp2_with fail)
        refine hK.out _ _ (by(try dsimp only); go_keep) ?_
        clear hK K hHeld
        intro hHeld
        try simp only [Act.put,s1,s2,s3]
        refine tk 4 (h:=ts 5 (h:=ts 6 (h:=ts 7 (h:=?_))))
        refine rd [8] (rc (fun K hK=>?_) .nil)
        split
        · rename_i hwt
          exact absurd (show false=true from hwt) Bool.false_ne_true
        refine hK.out _ _ (by assumption) (fun hHeld=>?_)
        clear hK K
        try simp only [Act.put,s1,s2,s3]
        refine tk 9 (h:=tk 10 (h:=ts 11 (h:=ts 12 (h:=ts 13 (h:=ts 14 (h:=?_))))))
        refine rd [15] (rc (fun K hK=>?_) .nil)
        split
        · rename_i hwt
          exact absurd (show false=true from hwt) Bool.false_ne_true
        refine hK.out _ _ (by assumption) (fun hHeld=>?_)
        clear hK K
        try simp only [Act.put,s1,s2,s3]
        refine rd [16] (rc (fun K hK=>?_) .nil)
        split
        · rename_i hwt
          exact absurd (show false=true from hwt) Bool.false_ne_true
        refine hK.out _ _ (by assumption) (fun hHeld=>?_)
        clear hK K
        try simp only [Act.put,s1,s2,s3]
        refine tk 17 (h:=tk 18 (h:=?_))
        refine wpAnyH_done (by kernel_rfl) ?_ _
        have hB4:=below_next hba hC1
        go_wp2
        go_ret
        exact⟨Hend.out false ⟨fun h=>(by cases h),fun h=>absurd h.1 HP.out⟩,hB4⟩
def icl(l:List Int):List Value:=l.map (Value.int .i64)
theorem icl_append(l m:List Int):icl (l ++ m)=icl l ++ icl m:=by simp [icl]
theorem row_ints{w:World}{base:Nat}{v:Value}{l:List Int}(hm:l.length≤maxLen)(h:w.ownsRow base 2 1 v l.length (icl l)):IntsAt w 0 w.heap.size v l.length (fun i=>l.getD i 0):=by
 by_cases h0:0<l.length
 ·obtain⟨g,cap,rfl,hcp,hb,hlt,hcell⟩:=owns_cell h h0
  refine⟨hm,_,cap,rfl,hcp,fun _=>⟨g,0,rfl,Nat.zero_le _,hlt,fun i hi=>?_⟩⟩
  rw [Nat.zero_add]
  refine(hcell i _ ?_).1
  simp [icl,hi]
 ·obtain⟨a,cap,rfl,hcp⟩:=owns_form h
  exact⟨hm,a,cap,rfl,hcp,fun h=>absurd h h0⟩
theorem has_list(l:List Int)(x:Int):Has l.length (fun i=>l.getD i 0) x↔x∈l:=by
 have getE:∀i (h:i<l.length),l.getD i 0=l[i]:=fun i h=>by rw [List.getD_eq_getElem?_getD,List.getElem?_eq_getElem h,Option.getD_some]
 constructor
 ·rintro⟨j,hj,e⟩
  rw [←e]
  show l.getD j 0∈l
  rw [getE j hj]
  exact List.getElem_mem hj
 ·intro h
  obtain⟨i,hi,rfl⟩:=List.getElem_of_mem h
  exact⟨i,hi,getE i hi⟩
def seenL(p:PoolD)(rs:Int)(s:SlotD)(j:Nat):List Int:=rs :: slotsL (subUp p s j)
def midS(p:PoolD)(rs:Int)(s:SlotD)(j i:Nat):List Int:=seenL p rs s j ++ (kidS s j :: slotsL (kidsUp (kidS (p.s (kidS s j).toNat)) (kidB (p.s (kidS s j).toNat)) i))
theorem sub_prefix(p:PoolD)(s:SlotD)(j:Nat):∀m,j≤m→∃r,subUp p s m=subUp p s j ++ r
 | 0,h=>⟨[],by rw [show j=0 by omega]; simp⟩
 | m+1,h=>by
  by_cases e:j=m+1
  ·subst e; exact⟨[],by simp⟩
  ·obtain⟨r,hr⟩:=sub_prefix p s j m (by omega)
   exact⟨r ++ midL p (kidS s m) (kidB s m),by rw [subUp,hr,List.append_assoc]⟩
theorem kids_prefix(ks kb:Nat→Int)(j:Nat):∀m,j≤m→∃r,kidsUp ks kb m=kidsUp ks kb j ++ r
 | 0,h=>⟨[],by rw [show j=0 by omega]; simp⟩
 | m+1,h=>by
  by_cases e:j=m+1
  ·subst e; exact⟨[],by simp⟩
  ·obtain⟨r,hr⟩:=kids_prefix ks kb j m (by omega)
   exact⟨r ++ one (ks m) (kb m),by rw [kidsUp,hr,List.append_assoc]⟩
theorem slotsL_append(l m:List (Int×Int)):slotsL (l ++ m)=slotsL l ++ slotsL m:=by simp [slotsL]
theorem snoc_nodup{l:List Int}{x:Int}:(l ++ [x]).Nodup↔l.Nodup∧x∉l:=by
 rw [List.nodup_append]
 constructor
 ·rintro⟨h1,_,h3⟩
  exact⟨h1,fun hx=>h3 x hx x (by simp) rfl⟩
 ·rintro⟨h1,h2⟩
  refine⟨h1,by simp,fun a ha b hb e=>?_⟩
  rw [List.mem_singleton] at hb
  subst hb
  subst e
  exact h2 ha
theorem tree_slots{p:PoolD}{rs rb:Int}(hz:¬Nil rs rb):slotsL (treeL p rs rb)=seenL p rs (p.s rs.toNat) 8:=by
 unfold treeL seenL
 rw [if_neg hz]
 rfl
theorem midL_yes{p:PoolD}{s:SlotD}{j:Nat}(hn:¬Nil (kidS s j) (kidB s j)):midL p (kidS s j) (kidB s j)=(kidS s j,kidB s j) :: lowL (p.s (kidS s j).toNat):=if_neg hn
theorem seen_next{p:PoolD}{rs:Int}{s:SlotD}{j:Nat}(hn:¬Nil (kidS s j) (kidB s j)):seenL p rs s (j+1)=midS p rs s j 8:=by
 unfold seenL midS seenL
 rw [subUp,slotsL_append,midL_yes hn]
 rfl
theorem seen_stay{p:PoolD}{rs:Int}{s:SlotD}{j:Nat}(hn:Nil (kidS s j) (kidB s j)):seenL p rs s (j+1)=seenL p rs s j:=by
 unfold seenL
 rw [subUp,show midL p (kidS s j) (kidB s j) = [] from if_pos hn,List.append_nil]
theorem mid_start(p:PoolD)(rs:Int)(s:SlotD)(j:Nat):midS p rs s j 0=seenL p rs s j ++ [kidS s j]:=rfl
theorem mid_stay{p:PoolD}{rs:Int}{s:SlotD}{j i:Nat}(hn:Nil (kidS (p.s (kidS s j).toNat) i) (kidB (p.s (kidS s j).toNat) i)):midS p rs s j (i+1)=midS p rs s j i:=by
 unfold midS
 rw [kidsUp,show one (kidS (p.s (kidS s j).toNat) i) (kidB (p.s (kidS s j).toNat) i) = [] from if_pos hn,List.append_nil]
theorem mid_next{p:PoolD}{rs:Int}{s:SlotD}{j i:Nat}(hn:¬Nil (kidS (p.s (kidS s j).toNat) i) (kidB (p.s (kidS s j).toNat) i)):midS p rs s j (i+1)=midS p rs s j i ++ [kidS (p.s (kidS s j).toNat) i]:=by
 unfold midS
 rw [kidsUp,show one (kidS (p.s (kidS s j).toNat) i) (kidB (p.s (kidS s j).toNat) i) = [(kidS (p.s (kidS s j).toNat) i,kidB (p.s (kidS s j).toNat) i)] from if_neg hn,slotsL_append,List.append_assoc]
 rfl
theorem seen_len(p:PoolD)(rs:Int)(s:SlotD){j:Nat}(hj:j≤8):(seenL p rs s j).length≤73:=by
 have:=subUp_len p s j
 simp only [seenL,slotsL,List.length_cons,List.length_map]
 omega
theorem mid_len(p:PoolD)(rs:Int)(s:SlotD){j i:Nat}(hj:j≤8)(hi:i≤8):(midS p rs s j i).length≤90:=by
 have h1:=seen_len p rs s hj
 have h2:=kidsUp_len (kidS (p.s (kidS s j).toNat)) (kidB (p.s (kidS s j).toNat)) i
 simp only [midS,slotsL,List.length_append,List.length_cons,List.length_map]
 omega
theorem nodup_low{p:PoolD}{rs rb:Int}(hz:¬Nil rs rb)(h:(slotsL (treeL p rs rb)).Nodup){j i:Nat}(hj:j<8)(hi:i≤8)(hn:¬Nil (kidS (p.s rs.toNat) j) (kidB (p.s rs.toNat) j)):(midS p rs (p.s rs.toNat) j i).Nodup:=by
 rw [tree_slots hz] at h
 obtain⟨r,hr⟩:=sub_prefix p (p.s rs.toNat) (j+1) 8 (by omega)
 obtain⟨r2,hr2⟩:=kids_prefix (kidS (p.s (kidS (p.s rs.toNat) j).toNat)) (kidB (p.s (kidS (p.s rs.toNat) j).toNat)) i 8 hi
 have e1:seenL p rs (p.s rs.toNat) 8=seenL p rs (p.s rs.toNat) (j+1) ++ slotsL r:=by unfold seenL; rw [hr,slotsL_append]; rfl
 have e2:midS p rs (p.s rs.toNat) j 8=midS p rs (p.s rs.toNat) j i ++ slotsL r2:=by
  unfold midS
  rw [hr2,slotsL_append,List.append_assoc]
  rfl
 rw [e1,seen_next hn,e2,List.append_assoc] at h
 exact(List.nodup_append.1 h).1
end Go.Proofs.YtmgeglgboadfiaaGreatDoor
