/- Slots of a list are held, one after another (no law is proved here). -/
import Derived.Test.YtihdcanckbkgfaaGreatDoorG26
import Derived.Test.YtihdcanckbkgfaaGreatDoorG9
import Derived.Test.YtihdcanckbkgfaaGreatDoorG3
import Derived.Test.YtihdcanckbkgfaaGreatDoorG6
import Derived.Test.YtihdcanckbkgfaaGreatDoorG18
import Derived.Test.YtihdcanckbkgfaaGreatDoorG20
import Derived.Test.YtihdcanckbkgfaaGreatDoorG4
import Derived.Test.YtihdcanckbkgfaaGreatDoorG23
import Derived.Deep.RegionHeld3
import Derived.Test.YtihdcanckbkgfaaGreatDoorG14
import Derived.Test.YtihdcanckbkgfaaGreatDoorG7
import Derived.Test.YtihdcanckbkgfaaGreatDoorG13
import Derived.Test.YtihdcanckbkgfaaGreatDoorG17
import Derived.Test.YtihdcanckbkgfaaGreatDoorG11
import Derived.Test.YtihdcanckbkgfaaGreatDoorG21
import Derived.Test.YtihdcanckbkgfaaGreatDoorG25
import Derived.Deep.RegionLaw
import Derived.Test.YtihdcanckbkgfaaGreatDoorG22
namespace Go.Proofs.YtihdcanckbkgfaaGreatDoor
open Go.RowKit
set_option linter.unusedVariables false
def holdAll(p:PoolD):List (Int×Int)→PoolD
 | []=>p
 | x :: l=>holdAll (holdD p x.1) l
def HoldOk(p:PoolD)(l:List (Int×Int)):Prop:=Right p∧(∀x,x∈l→Points p x.1 x.2∧¬Has p.hn p.h x.1)∧(l.map Prod.fst).Nodup
theorem has_holdD{p:PoolD}{xs y:Int}(h:Has (p.hn+1) (holdD p xs).h y):Has p.hn p.h y∨y=xs:=by
 obtain⟨j,hj,e⟩:=h
 by_cases ej:j=p.hn
 ·right
  rw [←e,ej]
  exact if_pos rfl
 ·left
  exact⟨j,by omega,by rw [←e]; exact(if_neg ej).symm⟩
theorem HoldOk.head{p:PoolD}{x:Int×Int}{l:List (Int×Int)}(h:HoldOk p (x :: l)):holdP p x.1 x.2=⟨holdD p x.1,0,0,0⟩∧HoldOk (holdD p x.1) l:=by
 obtain⟨h1,h2,h3⟩:=h
 obtain⟨g1,g2⟩:=h2 x List.mem_cons_self
 rw [List.map_cons,List.nodup_cons] at h3
 refine⟨hold_ok h1 g1 g2,right_hold h1 g1 g2,fun y hy=>?_,h3.2⟩
 obtain⟨k1,k2⟩:=h2 y (List.mem_cons_of_mem _ hy)
 refine⟨k1,fun hh=>?_⟩
 rcases has_holdD hh with e | e
 ·exact k2 e
 ·exact h3.1 (e▸List.mem_map_of_mem hy)
theorem HoldOk.cut{l':List (Int×Int)}:∀{l:List (Int×Int)} {p:PoolD},HoldOk p (l ++ l')→HoldOk (holdAll p l) l'
 | [],_,h=>h
 | x :: l,p,h=>HoldOk.cut (l:=l) (p:=holdD p x.1) (HoldOk.head (p:=p) (x:=x) (l:=l ++ l') h).2
theorem holdAll_snoc(x:Int×Int):∀(l:List (Int×Int)) (p:PoolD),holdAll p (l ++ [x])=holdD (holdAll p l) x.1
 | [],_=>rfl
 | y :: l,p=>holdAll_snoc x l (holdD p y.1)
theorem holdAll_n:∀(l:List (Int×Int)) (p:PoolD),(holdAll p l).n=p.n∧(holdAll p l).s=p.s∧(holdAll p l).hn=p.hn+l.length
 | [],_=>⟨rfl,rfl,rfl⟩
 | y :: l,p=>by
  obtain⟨h1,h2,h3⟩:=holdAll_n l (holdD p y.1)
  refine⟨h1,h2,?_⟩
  show(holdAll (holdD p y.1) l).hn=_
  rw [h3,List.length_cons]
  show p.hn+1+l.length=_
  omega
theorem HoldOk.next{p:PoolD}{l:List (Int×Int)}(h:HoldOk p l){i:Nat}(hi:i<l.length):holdP (holdAll p (l.take i)) l[i].1 l[i].2=⟨holdAll p (l.take (i+1)),0,0,0⟩∧Right (holdAll p (l.take i)):=by
 have e:l=l.take i ++ l[i] :: l.drop (i+1):=by
  rw [List.getElem_cons_drop,List.take_append_drop]
 have h1:HoldOk (holdAll p (l.take i)) (l[i] :: l.drop (i+1)):=HoldOk.cut (l:=l.take i) (by rw [←e]; exact h)
 refine⟨?_,h1.1⟩
 rw [h1.head.1,List.take_succ_eq_append_getElem hi,holdAll_snoc]
theorem young_sub(f g:Nat→Int)(t:Int):∀k,(youngL f g t k).Sublist ((List.range k).map fun i=>(f i,g i))
 | 0=>List.Sublist.refl _
 | k+1=>by
  rw [List.range_succ,List.map_append,List.map_singleton]
  unfold youngL
  split
  ·exact(young_sub f g t k).append (List.Sublist.refl _)
  ·exact(young_sub f g t k).trans (List.sublist_append_left _ _)
theorem HoldOk.sub{p:PoolD}{l l':List (Int×Int)}(h:HoldOk p l)(hs:l'.Sublist l):HoldOk p l':=⟨h.1,fun x hx=>h.2.1 x (hs.subset hx),List.Nodup.sublist (hs.map _) h.2.2⟩
theorem HoldOk.tree{p:PoolD}{rs rb:Int}(hR:Right p)(hT:TreeOk p rs rb):HoldOk p (treeL p rs rb):=by
 refine⟨hR,fun x hx=>?_,?_⟩
 ·have:=tree_mem hR hT hx
  exact⟨this.1,this.2.2⟩
 ·rcases hT with h | h
  ·rw [treeL,if_pos h]; exact List.nodup_nil
  ·exact h.2.2
end Go.Proofs.YtihdcanckbkgfaaGreatDoor

namespace Go.Proofs.YtihdcanckbkgfaaGreatDoor
open Go.RowKit
set_option linter.unusedVariables false
theorem field_out(v0 v1:Value)(a b c:Int)(w:World):(Instr.field 181 (.agg #[v0,v1,.int .i64 a,.int .i64 b,.int .i64 c]) 0).run Tryz.prog w = .ok (.agg #[v0,v1]) w:=by kernel_rfl
set_option maxRecDepth 20000 in
set_option maxHeartbeats 2000000 in
theorem chHold_any(C lo hi:Nat)(z0 z1 z2 z3 u8:Value)(tm nx id m:Int)(p q:PoolD)(x:Int×Int)(w:World)(hC:Box9 w C z0 z1 (.int .i64 tm) (.int .i64 nx) z2 z3 (.int .i64 id) (.int .i64 m) u8)(hP:PoolAt w lo hi z0 z1 p)(hn:poolN p≤1048576)(hh:holdP p x.1 x.2=⟨q,0,0,0⟩)(hm:0≤m)(hm':m≤1000000) :
  Calls Tryz.prog 123 #[.pointer (some ⟨C,0,none⟩),.agg #[.int .i64 x.1,.int .i64 x.2]] w fun e w'=>(∃v,e = .returned v)∧∃y0 y1,Box9 w' C y0 y1 (.int .i64 tm) (.int .i64 nx) z2 z3 (.int .i64 id) (.int .i64 (m+1)) u8∧PoolOwn w' w.heap.size w'.heap.size y0 y1 q∧Turned (fun j=>j=C) w w':=by
 obtain⟨a0,c0,a1,c1,rfl,rfl⟩:=hP.form
 have hlt:=hC.1.lt
 have hal:=below_alloc w (.cells #[.int .i64 x.1,.int .i64 x.2] 56)
 have HX:=hideW (Box2.new w (.int .i64 x.1) (.int .i64 x.2) 56)
 have HC:=hideW (hC.below hal)
 have hw1:IntKind.i64.wrap (m+1)=m+1:=by first | exact wrap_small (by omega) (by omega) | exact wrap_small _ (by omega) (by omega)
 have hz1:(w.alloc (.cells #[.int .i64 x.1,.int .i64 x.2] 56)).heap.size=w.heap.size+1:=World.size_alloc _ _
 have HCall:=hideW (show ∀w',Below (w.alloc (.cells #[.int .i64 x.1,.int .i64 x.2] 56)).heap.size (w.alloc (.cells #[.int .i64 x.1,.int .i64 x.2] 56)) w'→Calls Tryz.prog 151 #[.agg #[.slice a0 p.n c0,.slice a1 p.hn c1],.agg #[.int .i64 x.1,.int .i64 x.2]] w' fun e w''=>∃b0 d0 b1 d1,e = .returned (.agg #[.slice b0 q.n d0,.slice b1 q.hn d1,.int .i64 0,.int .i64 0,.int .i64 0])∧PoolOwn w'' w'.heap.size w''.heap.size (.slice b0 q.n d0) (.slice b1 q.hn d1) q∧Below w'.heap.size w' w'' from fun w' hb'=>by
  refine(implPoolHold_any _ _ lo hi p x.1 x.2 w' ((hP.below hal).below hb') hn).mono ?_
  rw [hh]
  rintro e w2 ⟨y0,y1,rfl,ho,hb2⟩
  obtain⟨b0,d0,b1,d1,rfl,rfl⟩:=ho.at.form
  exact⟨b0,d0,b1,d1,rfl,ho,hb2⟩)
 clear hP hh hC hn
 go_enter Tryz.func123,Tryz.ntmps123
 go_wp2_with fail
 generalize w.alloc (.cells #[.int .i64 x.1,.int .i64 x.2] 56)=w1 at hal HX HC hz1 HCall ⊢
 have hb0:Below w1.heap.size w1 w1.drew:=(Below.refl _ _).drew
 have HKP:=hideW (show ∀w',Below w1.drew.heap.size w1.drew w'→(fun w':World=>w'.cell? ⟨w.heap.size,0,none⟩=some (.int .i64 x.1)∧w'.cell? ⟨w.heap.size,1,none⟩=some (.int .i64 x.2)) w' from fun w' hb=>by
  have h:=(HX.out.below hb0).below hb
  exact⟨h.1.1,h.2.1⟩)
 obtain⟨⟨x0,-⟩,⟨x1,-⟩,-⟩:=HC.out.below hb0
 refine wp_region_held_drew (S:=(fun w':World=>w'.cell? ⟨w.heap.size,0,none⟩=some (.int .i64 x.1)∧w'.cell? ⟨w.heap.size,1,none⟩=some (.int .i64 x.2))) (by kernel_rfl) (HKP.out _ (Below.refl _ _)) (fun hHeld=>?_)
 have hq0:=hb0
 generalize w1.drew=q0 at hHeld HKP x0 x1 hb0 hq0 ⊢
 refine tk 0 (h:=tk 1 (h:=tk 2 (h:=tk 3 (h:=tk 4 (h:=tk 6 (h:=?_))))))
 refine rd [5] (rc (fun K hK=>?_) .nil)
 go_simp
 (try go_wp2_with fail)
 refine hK.out _ _ (HKP.out _ (Below.refl _ _)) ?_
 clear hK K
 intro hHeld
 try simp only [Act.put,s1,s2,s3]
 refine rd [7] (rc (fun K hK=>?_) .nil)
 go_simp
 go_at_call 151
 refine(HCall.out q0 hq0).mono ?_
 rintro e w3 ⟨b0,d0,b1,d1,rfl,hO3,hb3⟩
 have HO3:=hideW hO3
 have hb3':Below w1.heap.size w1 w3:=below_next hq0 hb3
 have HC3:=hideW (HC.out.below hb3')
 have HX3:=hideW (HX.out.below hb3')
 clear hO3
 (try go_wp2_with fail)
 refine hK.out _ _ ⟨HX3.out.1.1,HX3.out.2.1⟩ ?_
 clear hK K hHeld
 intro hHeld
 try simp only [Act.put,s1,s2,s3]
 have hfo:=field_out (.slice b0 q.n d0) (.slice b1 q.hn d1) 0 0 0
 refine tk 8 (h:=tk 9 (h:=tk 10 (h:=tk 11 (h:=?_))))
 refine rd [12] (rc (fun K hK=>?_) .nil)
 obtain⟨⟨t0,t0'⟩,⟨t1,t1'⟩,-⟩:=HC3.out
 go_simp
 (try go_wp2_with fail)
 have hT:=(Turned.put w3 C 0 (.slice b0 q.n d0)).trans (Turned.put (w3.setCell ⟨C,0,none⟩ (.slice b0 q.n d0)) C 1 (.slice b1 q.hn d1))
 have hX4:=HX3.out.turned hT (fun h=>by omega)
 refine hK.out _ _ ⟨hX4.1.1,hX4.2.1⟩ ?_
 clear hK K hHeld t0 t0' t1 t1'
 intro hHeld
 try simp only [Act.put,s1,s2,s3]
 refine wpAnyH_done (by kernel_rfl) ?_ _
 have HC4:=hideW (show Box9 ((w3.setCell ⟨C,0,none⟩ (.slice b0 q.n d0)).setCell ⟨C,1,none⟩ (.slice b1 q.hn d1)) C (.slice b0 q.n d0) (.slice b1 q.hn d1) (.int .i64 tm) (.int .i64 nx) z2 z3 (.int .i64 id) (.int .i64 m) u8 from⟨(HC3.out.1.set _).other _ (Or.inr (by decide)),(HC3.out.2.1.other _ (Or.inr (by decide))).set _,(HC3.out.2.2.1.other _ (Or.inr (by decide))).other _ (Or.inr (by decide)),(HC3.out.2.2.2.1.other _ (Or.inr (by decide))).other _ (Or.inr (by decide)),(HC3.out.2.2.2.2.1.other _ (Or.inr (by decide))).other _ (Or.inr (by decide)),(HC3.out.2.2.2.2.2.1.other _ (Or.inr (by decide))).other _ (Or.inr (by decide)),(HC3.out.2.2.2.2.2.2.1.other _ (Or.inr (by decide))).other _ (Or.inr (by decide)),(HC3.out.2.2.2.2.2.2.2.1.other _ (Or.inr (by decide))).other _ (Or.inr (by decide)),(HC3.out.2.2.2.2.2.2.2.2.other _ (Or.inr (by decide))).other _ (Or.inr (by decide))⟩)
 have hb4:Below w.heap.size w w3:=below_next hal hb3'
 have HT4:=hideW (show Turned (fun j=>j=C) w ((w3.setCell ⟨C,0,none⟩ (.slice b0 q.n d0)).setCell ⟨C,1,none⟩ (.slice b1 q.hn d1))from(Turned.of_below hb4).trans hT)
 have hz3:=hb3.size
 have hz0:=hq0.size
 have HO4:=hideW ((HO3.out.turned hT (fun k e=>by omega)).wide (show w.heap.size≤q0.heap.size by omega) hT.size)
 clear hX4 hT hfo HC3 HX3 HO3
 generalize ((w3.setCell ⟨C,0,none⟩ (.slice b0 q.n d0)).setCell ⟨C,1,none⟩ (.slice b1 q.hn d1))=w4 at HC4 HT4 HO4 ⊢
 obtain⟨y7,y7'⟩:=HC4.out.2.2.2.2.2.2.2.1
 go_wp2_with fail
 have hT5:=Turned.put w4 C 7 (.int .i64 (m+1))
 go_end0
 refine⟨⟨_,rfl⟩,_,_,⟨HC4.out.1.other _ (Or.inr (by decide)),HC4.out.2.1.other _ (Or.inr (by decide)),HC4.out.2.2.1.other _ (Or.inr (by decide)),HC4.out.2.2.2.1.other _ (Or.inr (by decide)),HC4.out.2.2.2.2.1.other _ (Or.inr (by decide)),HC4.out.2.2.2.2.2.1.other _ (Or.inr (by decide)),HC4.out.2.2.2.2.2.2.1.other _ (Or.inr (by decide)),HC4.out.2.2.2.2.2.2.2.1.set _,HC4.out.2.2.2.2.2.2.2.2.other _ (Or.inr (by decide))⟩,?_,HT4.out.trans hT5⟩
 exact(HO4.out.turned hT5 (fun k e=>by omega)).wide (Nat.le_refl _) hT5.size
end Go.Proofs.YtihdcanckbkgfaaGreatDoor

namespace Go.Proofs.YtihdcanckbkgfaaGreatDoor
open Go.RowKit
set_option linter.unusedVariables false
set_option maxRecDepth 20000 in
set_option maxHeartbeats 2000000 in
theorem letGo_any(C lo hi n:Nat)(P:Nat→Prop)(z0 z1 z2 z3 u8 v:Value)(tm nx id m t:Int)(p:PoolD)(f g:Nat→Int)(w:World)(hv:PtrsAt w lo hi v n f g)(hok:PtrsOk n f g)(ht:TimeOk t)(hH:HoldOk p (youngL f g t n))(hC:Box9 w C z0 z1 (.int .i64 tm) (.int .i64 nx) z2 z3 (.int .i64 id) (.int .i64 m) u8)(hP:PoolIn w P z0 z1 p)(hPl:∀k,P k→C<k∧k<w.heap.size)(hm:0≤m)(hm':m≤900000) :
  Calls Tryz.prog 121 #[v,.int .i64 t,.func (.func 123) #[.pointer (some ⟨C,0,none⟩)] #[]] w fun e w'=>∃vo y0 y1,e = .returned vo∧RowL w' w.heap.size vo (oldL f g t n)∧Box9 w' C y0 y1 (.int .i64 tm) (.int .i64 nx) z2 z3 (.int .i64 id) (.int .i64 (m+((youngL f g t n).length:Int))) u8∧PoolIn w' (fun j=>P j∨(w.heap.size≤j∧j<w'.heap.size)) y0 y1 (holdAll p (youngL f g t n))∧Turned (fun j=>j=C) w w':=by
 have hlt:=hC.1.lt
 have hlen:(youngL f g t n).length≤200:=by have:=young_len f g t n; have:=hok.1; omega
 have HS:=hideW (show Calls Tryz.prog 148 #[v,.int .i64 t] w fun e w'=>∃vy vo,e = .returned (.agg #[vy,vo])∧NewTwo (youngL f g t n) (oldL f g t n) w w' vy vo by
  refine(implSplit_any v n lo hi f g t w hv).mono ?_
  rintro e w1 ⟨vy,vo,l,l',rfl,hy,ho,hr⟩
  rw [hy.1 ⟨hok,ht⟩,ho.1 ⟨hok,ht⟩] at hr
  exact⟨vy,vo,rfl,hr⟩)
 have HC:=hideW hC
 have HP:=hideW hP
 have HH:=hideW hH
 obtain⟨-,av,cv,rfl,-,-⟩:=(show PtrsAt w lo hi v n f g from hv)
 clear hv hok ht hC hP hH
 generalize youngL f g t n=l at HS HH hlen ⊢
 generalize oldL f g t n=l' at HS ⊢
 go_enter Tryz.func121,Tryz.ntmps121
 go_wp2_with fail
 refine HS.out.mono ?_
 clear HS
 rintro e w1 ⟨vy,vo,rfl,hr1,hr2,-,hb1⟩
 obtain⟨ay,cy,rfl,-⟩:=owns_form hr1
 obtain⟨ao,co,rfl,-⟩:=owns_form hr2
 obtain⟨bo,hown,hbo⟩:=hr1.own (by unfold maxLen; omega)
 have hal:=below_alloc w1 (.cells #[.slice ay l.length cy,.slice ao l'.length co] 177)
 have HX:=hideW (Box2.new w1 (.slice ay l.length cy) (.slice ao l'.length co) 177)
 have hb2:=below_next hb1 hal
 have HC2:=hideW (HC.out.below hb2)
 have HP2:=hideW (HP.out.below hb2)
 have HR2:=hideW (RowL.below hr2 hal)
 have HOw:=hideW (hown.below hal)
 have Hbo:=hideW hbo
 have hz1:=hb1.size
 have hz2:(w1.alloc (.cells #[.slice ay l.length cy,.slice ao l'.length co] 177)).heap.size=w1.heap.size+1:=World.size_alloc _ _
 obtain⟨⟨x0,-⟩,⟨x1,-⟩⟩:=HX.out
 clear hr1 hr2 hown hbo HC HP
 go_wp2_with fail
 clear x0 x1
 generalize w1.alloc (.cells #[.slice ay l.length cy,.slice ao l'.length co] 177)=w2 at hal HX hb2 HC2 HP2 HR2 HOw hz2 ⊢
 go_loopw [16] (fun i wr=>∃(k:Nat) (y0 y1:Value),k≤l.length∧i = .int .i64 k∧Box9 wr C y0 y1 (.int .i64 tm) (.int .i64 nx) z2 z3 (.int .i64 id) (.int .i64 (m+(k:Int))) u8∧PoolIn wr (fun j=>P j∨(w.heap.size≤j∧j<wr.heap.size)) y0 y1 (holdAll p (l.take k))∧Turned (fun j=>j=C) w2 wr) (fun i _=>l.length - (intOf i).toNat)
 case atStart=>exact⟨0,_,_,Nat.zero_le _,rfl,by simpa using HC2.out,HP2.out.mono (fun j h=>Or.inl h),Turned.refl _ _⟩
 case round=>
  obtain⟨k,y0,y1,hk,rfl,hCk,hPk,hTk⟩:=hrel
  have HCk:=hideW hCk
  have HPk:=hideW hPk
  have HTk:=hideW hTk
  have hzk:=hTk.size
  have hX:=HX.out.turned hTk (fun h=>by omega)
  obtain⟨⟨x0,-⟩,⟨x1,-⟩⟩:=hX
  clear hCk hPk hTk
  by_cases hlt2:k<l.length
  ·have hlt':(k:Int)<(l.length:Int):=by omega
   have hown:=HOw.out.turned HTk.out (fun h0 e=>by
    obtain⟨_,h,_⟩:=Hbo.out h0
    omega)
   obtain⟨_,a,c,e1,_,hx⟩:=hown
   obtain⟨off,rfl,hcell⟩:=hx (by omega)
   simp only [Value.slice.injEq,true_and] at e1
   obtain⟨rfl,rfl⟩:=e1
   obtain⟨⟨q0,-⟩,⟨q1,-⟩⟩:=hcell k hlt2
   have hn:=HH.out.next hlt2
   have e0:l[k]=(fstL l k,sndL l k):=by
    unfold fstL sndL
    rw [List.getD_eq_getElem?_getD,List.getElem?_eq_getElem hlt2]
    rfl
   rw [e0] at hn
   have HN:=hideW hn
   clear hn e0 hcell hx
   have hal3:=below_alloc wr (.cells #[.int .i64 (fstL l k),.int .i64 (sndL l k)] 56)
   obtain⟨⟨r0,-⟩,⟨r1,-⟩⟩:=Box2.new wr (.int .i64 (fstL l k)) (.int .i64 (sndL l k)) 56
   go_wp2_with fail
   have hz3:=hal3.size
   refine(chHold_any C 0 wr.heap.size y0 y1 z2 z3 u8 tm nx id (m+(k:Int)) (holdAll p (l.take k)) (holdAll p (l.take (k+1))) (fstL l k,sndL l k) _ (HCk.out.below hal3) (((HPk.out.at (lo:=0) (hi:=wr.heap.size) (fun j h=>⟨Nat.zero_le _,by
    rcases h with h | h
    ·have:=hPl j h; omega
    ·omega⟩))).below hal3) (by have:=right_small HN.out.2; omega) HN.out.1 (by omega) (by omega)).mono ?_
   rintro e w4 ⟨⟨ve,rfl⟩,t0,t1,hC4,hP4,hT4⟩
   have HC4:=hideW hC4
   have HP4:=hideW hP4
   have HT4:=hideW hT4
   clear r0 r1 q0 q1 x0 x1 hC4 hP4 hT4
   go_wp2_with fail
   go_roundw
   case rel=>
    have hz4:=HT4.out.size
    refine⟨k+1,t0,t1,by omega,by go_num,?_,HP4.out.isIn (fun j h1 h2=>Or.inr ⟨by omega,h2⟩),HTk.out.trans ((Turned.of_below hal3).trans HT4.out)⟩
    have e:m+((k+1:Nat):Int)=m+(k:Int)+1:=by omega
    rw [e]
    exact HC4.out
   case measure=>simp [intOf]; omega
  ·obtain rfl:k=l.length:=by omega
   go_wp2_with fail
   rw [List.take_length] at HPk
   go_ret
   refine⟨_,y0,y1,rfl,?_,HCk.out,HPk.out,((Turned.of_below hb2).trans HTk.out)⟩
   exact HR2.out.turned (row:=some C) ⟨HTk.out.os,HTk.out.tape,HTk.out.output,HTk.out.size,fun k hk hn=>HTk.out.block k hk (fun e=>hn (by rw [e]))⟩ (fun q hq e=>by
    injection e with e
    have:=RowL.lt HR2.out hq
    omega)
end Go.Proofs.YtihdcanckbkgfaaGreatDoor

namespace Go.Proofs.YtihdcanckbkgfaaGreatDoor
open Go.RowKit
set_option linter.unusedVariables false
set_option maxRecDepth 20000 in
set_option maxHeartbeats 1000000 in
theorem implTreeRight_any(v0 v1:Value)(lo hi:Nat)(p:PoolD)(xs xb:Int)(w:World)(h1:PoolAt w lo hi v0 v1 p) :
  Calls Tryz.prog 149 #[.agg #[v0,v1],.agg #[.int .i64 xs,.int .i64 xb]] w fun e w'=>BoolIs (TreeR p xs xb) e∧Below w.heap.size w w':=by
 have Hp:=hideT h1
 obtain⟨a,c,a',c',rfl,rfl⟩:∃a c a' c',v0 = .slice a p.n c∧v1 = .slice a' p.hn c':=by
  obtain⟨⟨_,a,c,h1,_⟩,⟨_,a',c',h3,_⟩⟩:=h1
  exact⟨a,c,a',c',h1,h3⟩
 clear h1
 have hst:=start22 w (.slice a p.n c) (.slice a' p.hn c') (.int .i64 xs) (.int .i64 xb) 33 56
 go_enter Tryz.func149,Tryz.ntmps149
 go_wp2_with fail
 generalize (w.alloc (.cells #[.slice a p.n c,.slice a' p.hn c'] 33)).alloc (.cells #[.int .i64 xs,.int .i64 xb] 56)=W at hst ⊢
 obtain⟨hB,hX,hba,hz⟩:=hst
 refine(implPoolRight_any _ _ lo hi p _ (Hp.out.below hba)).mono ?_
 rintro e w1 ⟨⟨t,rfl,ht⟩,hb1⟩
 have HB1:=hideT (hB.below hb1)
 have HX1:=hideT (hX.below hb1)
 have hB1:=below_next hba hb1
 clear hB hX hba hb1
 by_cases hR:Right p
 ·obtain rfl:t=true:=ht.2 hR
  have HR:=hideT hR
  clear ht hR
  obtain⟨⟨x0,x1⟩,⟨x2,x3⟩⟩:=HB1.out
  obtain⟨⟨y0,y1⟩,⟨y2,y3⟩⟩:=HX1.out
  go_wp2_with fail
  refine(treeThere_any _ _ lo hi p xs xb _ (Hp.out.below hB1) HR.out).mono ?_
  rintro e w2 ⟨⟨t2,rfl,ht2⟩,hb2⟩
  have HT:=hideT ht2
  have hB2:=below_next hB1 hb2
  clear ht2 hb2 x0 x1 x2 x3 y0 y1 y2 y3
  go_wp2
  go_ret
  exact⟨⟨t2,rfl,HT.out.trans ((tree_iff HR.out).trans ⟨fun h=>⟨HR.out,h⟩,fun h=>h.2⟩)⟩,hB2⟩
 ·obtain rfl:t=false:=bool_no ht hR
  have HR:=hideT hR
  clear ht hR
  go_wp2
  go_ret
  exact⟨BoolIs.no fun h=>HR.out h.1,hB1⟩
end Go.Proofs.YtihdcanckbkgfaaGreatDoor

namespace Go.Proofs.YtihdcanckbkgfaaGreatDoor
open Go.RowKit
set_option linter.unusedVariables false
def TreeList(p:PoolD)(xs xb:Int)(l:List (Int×Int)):Prop:=(TreeR p xs xb→l=treeL p xs xb)∧(¬TreeR p xs xb→l = [])
def NewPtrs(p:PoolD)(xs xb:Int)(w:World)(e:Ending)(w':World):Prop:=∃v l,e = .returned v∧TreeList p xs xb l∧RowL w' w.heap.size v l∧Below w.heap.size w w'
set_option maxRecDepth 20000 in
set_option maxHeartbeats 1000000 in
theorem implTreePtrs_any(v0 v1:Value)(lo hi:Nat)(p:PoolD)(xs xb:Int)(w:World)(h1:PoolAt w lo hi v0 v1 p) :
  Calls Tryz.prog 122 #[.agg #[v0,v1],.agg #[.int .i64 xs,.int .i64 xb]] w (NewPtrs p xs xb w):=by
 have Hp:=hideT h1
 obtain⟨a,c,a',c',rfl,rfl⟩:∃a c a' c',v0 = .slice a p.n c∧v1 = .slice a' p.hn c':=by
  obtain⟨⟨_,a,c,h1,_⟩,⟨_,a',c',h3,_⟩⟩:=h1
  exact⟨a,c,a',c',h1,h3⟩
 clear h1
 have hst:=start22 w (.slice a p.n c) (.slice a' p.hn c') (.int .i64 xs) (.int .i64 xb) 33 56
 go_enter Tryz.func122,Tryz.ntmps122
 go_wp2_with fail
 generalize (w.alloc (.cells #[.slice a p.n c,.slice a' p.hn c'] 33)).alloc (.cells #[.int .i64 xs,.int .i64 xb] 56)=W at hst ⊢
 obtain⟨hB,hX,hba,hz⟩:=hst
 refine(implTreeRight_any _ _ lo hi p xs xb W (Hp.out.below hba)).mono ?_
 rintro e w1 ⟨⟨t,rfl,ht⟩,hb1⟩
 have HB1:=hideT (hB.below hb1)
 have HX1:=hideT (hX.below hb1)
 have hB1:=below_next hba hb1
 clear hB hX hba hb1 hz
 by_cases hR:TreeR p xs xb
 ·have HR:=hideT hR
  obtain rfl:t=true:=ht.2 hR
  clear ht hR
  have HP:=hideT (show Nil xs xb∨Points p xs xb from HR.out.2.imp id (fun h=>h.1.1))
  obtain⟨⟨x0,x1⟩,⟨x2,x3⟩⟩:=HB1.out
  obtain⟨⟨y0,y1⟩,⟨y2,y3⟩⟩:=HX1.out
  go_wp2_with fail
  refine(ptrs0_any p HR.out.1 _ lo hi xs xb _ (Hp.out.1.below hB1) HP.out).mono ?_
  rintro e w2 ⟨v,rfl,hr,hb2⟩
  obtain⟨va,vc,rfl,_⟩:=owns_form hr
  have Hr:=hideT (show RowL w2 w1.heap.size (.slice va (treeL p xs xb).length vc) (treeL p xs xb)from hr)
  have hB2:=below_next hB1 hb2
  have hz1:=hB1.size
  clear hb2 hr
  go_wp2
  go_ret
  exact⟨_,treeL p xs xb,rfl,⟨fun _=>rfl,fun h=>absurd HR.out h⟩,Hr.out.mono hz1,hB2⟩
 ·have HR:=hideT hR
  obtain rfl:t=false:=bool_no ht hR
  clear ht hR
  go_wp2
  go_ret
  exact⟨_,[],rfl,⟨fun h=>absurd h HR.out,fun _=>rfl⟩,RowL.nil _ _,hB1⟩
structure RowV (w:World) (lo hi:Nat) (v:Value) (n:Nat) (f g:Nat→Int) (b:Nat):Prop where
 own:PtrsOwn w b v n f g
 place:0<n→lo≤b∧b<hi
theorem RowV.below{w w':World}{lo hi:Nat}{v:Value}{n:Nat}{f g:Nat→Int}{b:Nat}(h:RowV w lo hi v n f g b)(t:Below w.heap.size w w'):RowV w' lo hi v n f g b:=⟨h.own.below t,h.place⟩
theorem RowV.turned{S:Nat→Prop}{w w':World}{lo hi:Nat}{v:Value}{n:Nat}{f g:Nat→Int}{b:Nat}(h:RowV w lo hi v n f g b)(t:Turned S w w')(hs:∀k,S k→k<lo∨hi≤k):RowV w' lo hi v n f g b:=
 ⟨h.own.turned t (fun h0 hx=>by have:=h.place h0; have:=hs _ hx; omega),h.place⟩
theorem RowV.at'{w:World}{lo hi:Nat}{v:Value}{n:Nat}{f g:Nat→Int}{b:Nat}(h:RowV w lo hi v n f g b):PtrsAt w lo hi v n f g:=h.own.at h.place
end Go.Proofs.YtihdcanckbkgfaaGreatDoor

namespace Go.Proofs.YtihdcanckbkgfaaGreatDoor
open Go.RowKit
set_option linter.unusedVariables false
theorem field_root(v:Value)(s:SnapD)(w:World):(Instr.field 91 (.agg #[.int .i64 s.id,.string s.name,.string s.set,.int .i64 s.prev,.int .i64 s.time,.int .i64 s.rs,.int .i64 s.rb,v]) 5).run Tryz.prog w = .ok (.agg #[.int .i64 s.rs,.int .i64 s.rb]) w:=by kernel_rfl
theorem field_timeE(v:Value)(s:SnapD)(w:World):(Instr.field 91 (.agg #[.int .i64 s.id,.string s.name,.string s.set,.int .i64 s.prev,.int .i64 s.time,.int .i64 s.rs,.int .i64 s.rb,v]) 4).run Tryz.prog w = .ok (.int .i64 s.time) w:=by kernel_rfl
set_option maxRecDepth 20000 in
set_option maxHeartbeats 2000000 in
theorem chAhead_any(C lo hi:Nat)(z0 z1 z2 z3 u6 u7 u8:Value)(W:WorldD)(x:Int)(w:World)(h:WorldAt w lo hi z0 z1 z2 z3 W)(hC:Box9 w C z0 z1 (.int .i64 W.time) (.int .i64 W.next) z2 z3 u6 u7 u8)(hn:W.pn≤20)(hwf:IdsWf W.pn W.snaps)(hD:IdsDist W)(hx:(Lit.int .i64 x).wf=true) :
  Calls Tryz.prog 101 #[.pointer (some ⟨C,0,none⟩),.int .i64 x] w fun e w'=>∃a c,e = .returned (snapV (.slice a (aheadOf W x).dn c) (aheadOf W x))∧Below w.heap.size w w':=by
 have Hp:=hideW h
 obtain⟨l0,lc0,l1,lc1,l2,lc2,l3,lc3,rfl,rfl,rfl,rfl⟩:=h.form
 have HD:=hideW hD
 have Hwf:=hideW hwf
 have Hx:=hideW hx
 have ha:=below_alloc w (.cells #[.int .i64 0,.string ⟨#[]⟩,.string ⟨#[]⟩,.int .i64 0,.int .i64 0,.int .i64 0,.int .i64 0,.slice none 0 0] 91)
 obtain⟨⟨x0,-⟩,⟨x1,-⟩,⟨x2,-⟩,⟨x3,-⟩,⟨x4,-⟩,⟨x5,-⟩,-⟩:=hC.below ha
 have HR:=hideW (Box8.new w (.int .i64 0) (.string ⟨#[]⟩) (.string ⟨#[]⟩) (.int .i64 0) (.int .i64 0) (.int .i64 0) (.int .i64 0) (.slice none 0 0) 91)
 clear h hD hwf hx hC
 obtain⟨S,hS⟩:∃S,S=aheadOf W x:=⟨_,rfl⟩
 rw [←hS]
 unfold snapV
 have HS:=hideW hS
 clear hS
 go_enter Tryz.func101,Tryz.ntmps101
 go_wp2_with fail
 clear x0 x1 x2 x3 x4 x5
 generalize w.alloc (.cells #[.int .i64 0,.string ⟨#[]⟩,.string ⟨#[]⟩,.int .i64 0,.int .i64 0,.int .i64 0,.int .i64 0,.slice none 0 0] 91)=W1 at ha HR ⊢
 refine(aheadIn_any _ _ _ _ lo hi W W1 (Hp.out.below ha) hn Hwf.out).mono ?_
 rintro e w2 ⟨A,rfl,hA,hb2⟩
 have HA:=hideW hA
 clear hA
 go_wp2_with fail
 refine(ahead_any lo hi W A x w2 HA.out HD.out Hx.out hn).mono ?_
 rw [←HS.out]
 unfold snapV
 rintro e w3 ⟨a,c,rfl,hpd,hb3⟩
 have hb:=below_next (below_next ha hb2) hb3
 have HR3:=hideW ((HR.out.below hb2).below hb3)
 clear hpd
 obtain⟨⟨⟨r0,g0⟩,⟨r1,g1⟩,⟨r2,g2⟩,⟨r3,g3⟩⟩,⟨r4,g4⟩,⟨r5,g5⟩,⟨r6,g6⟩,⟨r7,g7⟩⟩:=HR3.out
 go_wp2_with fail
 have HRz:=HR3.out.put (.int .i64 S.id) (.string S.name) (.string S.set) (.int .i64 S.prev) (.int .i64 S.time) (.int .i64 S.rs) (.int .i64 S.rb) (.slice a S.dn c)
 have hT:=Turned.put8 w3 w.heap.size (.int .i64 S.id) (.string S.name) (.string S.set) (.int .i64 S.prev) (.int .i64 S.time) (.int .i64 S.rs) (.int .i64 S.rb) (.slice a S.dn c)
 clear r0 g0 r1 g1 r2 g2 r3 g3 r4 g4 r5 g5 r6 g6 r7 g7
 refine bodyPost_ret (v:=.agg #[.int .i64 S.id,.string S.name,.string S.set,.int .i64 S.prev,.int .i64 S.time,.int .i64 S.rs,.int .i64 S.rb,.slice a S.dn c]) (by simp [results,Tryz.results101,go_sem,HRz.1.1.1,HRz.1.2.1.1,HRz.1.2.2.1.1,HRz.1.2.2.2.1,HRz.2.1.1,HRz.2.2.1.1,HRz.2.2.2.1.1,HRz.2.2.2.2.1]) rfl ⟨a,c,rfl,?_⟩
 ·exact hb.trans (hT.below (B:=w.heap.size) hb.size (fun k e=>by omega))
end Go.Proofs.YtihdcanckbkgfaaGreatDoor

namespace Go.Proofs.YtihdcanckbkgfaaGreatDoor
open Go.RowKit
set_option linter.unusedVariables false
noncomputable def shedL(W:WorldD)(s:SetD):List (Int×Int):=youngL (fstL (treeL W.pool s.rs s.rb)) (sndL (treeL W.pool s.rs s.rb)) (aheadOf W s.prev).time (treeL W.pool s.rs s.rb).length
theorem getL{l:List (Int×Int)}{i:Nat}(hi:i<l.length):(fstL l i,sndL l i)∈l:=by
 have e:(fstL l i,sndL l i)=l[i]:=by
  unfold fstL sndL
  rw [List.getD_eq_getElem?_getD,List.getElem?_eq_getElem hi]
  rfl
 rw [e]
 exact List.getElem_mem hi
theorem rowL_all(l:List (Int×Int)):((List.range l.length).map fun i=>(fstL l i,sndL l i))=l:=by
 refine List.ext_getElem (by simp) (fun i h1 h2=>?_)
 rw [List.getElem_map,List.getElem_range]
 unfold fstL sndL
 rw [List.getD_eq_getElem?_getD,List.getElem?_eq_getElem h2]
 rfl
theorem ptrs_tree{p:PoolD}{rs rb:Int}(hR:Right p)(hT:TreeOk p rs rb):PtrsOk (treeL p rs rb).length (fstL (treeL p rs rb)) (sndL (treeL p rs rb)):=by
 refine⟨by have:=treeL_len p rs rb; omega,fun i hi=>?_,fun i hi k hk e=>?_⟩
 ·have h:=tree_mem hR hT (getL hi)
  have hf:=points_fits hR h.1
  have hb:=hf.1
  have h1:=h.1
  have h2:=hR.1
  unfold Points at h1
  unfold BirthOk at hb
  unfold PtrOk
  dsimp only at h1 hb ⊢
  have h3:=h1.2.2.2
  omega
 ·have hn:=(HoldOk.tree hR hT).2.2
  have hi':i<((treeL p rs rb).map Prod.fst).length:=by rw [List.length_map]; exact hi
  have hk':k<((treeL p rs rb).map Prod.fst).length:=by rw [List.length_map]; omega
  have e1:∀j (hj:j<((treeL p rs rb).map Prod.fst).length),((treeL p rs rb).map Prod.fst)[j]=fstL (treeL p rs rb) j:=fun j hj=>by
   rw [List.length_map] at hj
   rw [List.getElem_map]
   unfold fstL
   rw [List.getD_eq_getElem?_getD,List.getElem?_eq_getElem hj]
   rfl
  have:=(List.getElem_inj (h₀:=hk') (h₁:=hi') hn).1 (by rw [e1,e1]; exact e)
  omega
theorem shed_ok{W:WorldD}{s:SetD}(hR:Right W.pool)(hT:TreeOk W.pool s.rs s.rb):HoldOk W.pool (shedL W s):=by
 refine(HoldOk.tree hR hT).sub ?_
 have:=young_sub (fstL (treeL W.pool s.rs s.rb)) (sndL (treeL W.pool s.rs s.rb)) (aheadOf W s.prev).time (treeL W.pool s.rs s.rb).length
 rwa [rowL_all] at this
set_option maxRecDepth 20000 in
set_option maxHeartbeats 2000000 in
theorem shed_any(C bs o2:Nat)(P Q R:Nat→Prop)(z0 z1 z2 z3 u8:Value)(id m:Int)(W:WorldD)(s:SetD)(w:World)(hin:WorldIn w P Q R z0 z1 z2 z3 W)(hltS:∀j,P j∨Q j∨R j→C+1≤j∧j<w.heap.size)(hC:Box9 w C z0 z1 (.int .i64 W.time) (.int .i64 W.next) z2 z3 (.int .i64 id) (.int .i64 m) u8)(hs:(fun w':World=>w'.cell? ⟨bs,o2+2,none⟩=some (.int .i64 s.prev)∧w'.cell? ⟨bs,o2+3,none⟩=some (.int .i64 s.rs)∧w'.cell? ⟨bs,o2+4,none⟩=some (.int .i64 s.rb)) w)(hbs:bs≠C)(hR:Right W.pool)(hT:TreeOk W.pool s.rs s.rb)(ht:TimeOk (aheadOf W s.prev).time)(hn:W.pn≤20)(hwf:IdsWf W.pn W.snaps)(hD:IdsDist W)(hx:(Lit.int .i64 s.prev).wf=true)(hm:0≤m)(hm':m≤900000) :
  Calls Tryz.prog 80 #[.pointer (some ⟨C,0,none⟩),.pointer (some ⟨bs,o2,none⟩)] w fun e w'=>(∃v,e = .returned v)∧∃y0 y1,Box9 w' C y0 y1 (.int .i64 W.time) (.int .i64 W.next) z2 z3 (.int .i64 id) (.int .i64 (m+((shedL W s).length:Int))) u8∧PoolIn w' (fun j=>P j∨(w.heap.size≤j∧j<w'.heap.size)) y0 y1 (holdAll W.pool (shedL W s))∧Turned (fun j=>j=C) w w':=by
 have hWat:WorldAt w 0 w.heap.size z0 z1 z2 z3 W:=WorldOwn.at (lo:=0) (hi:=w.heap.size) ⟨P,Q,R,hin,fun k hk=>⟨Nat.zero_le _,(hltS k hk).2⟩⟩
 obtain⟨l0,lc0,l1,lc1,l2,lc2,l3,lc3,rfl,rfl,rfl,rfl⟩:=hWat.form
 have hbl:bs<w.heap.size:=lt_of_cell hs.1
 have hCl:=hC.1.lt
 have HC:=hideW hC
 have HP:=hideW hin.pool
 have HPl:=hideW (show ∀k,P k→C<k∧k<w.heap.size from fun k hk=>by have:=hltS k (Or.inl hk); omega)
 have HOk:=hideW (ptrs_tree hR hT)
 have HHo:=hideW (shed_ok hR hT)
 have Ht:=hideW ht
 have HTP:=hideW (show ∀w',Below w.heap.size w w'→Calls Tryz.prog 122 #[.agg #[.slice l0 W.pool.n lc0,.slice l1 W.pool.hn lc1],.agg #[.int .i64 s.rs,.int .i64 s.rb]] w' fun e w''=>∃a c,e = .returned (.slice a (treeL W.pool s.rs s.rb).length c)∧RowL w'' w'.heap.size (.slice a (treeL W.pool s.rs s.rb).length c) (treeL W.pool s.rs s.rb)∧Below w'.heap.size w' w'' from fun w' hb'=>by
  refine(implTreePtrs_any _ _ 0 w.heap.size W.pool s.rs s.rb w' (hWat.pool.below hb')).mono ?_
  rintro e w2 ⟨v,l,rfl,hl,hr,hb2⟩
  rw [hl.1 ⟨hR,hT⟩] at hr
  obtain⟨a,c,rfl,-⟩:=owns_form hr
  exact⟨a,c,rfl,hr,hb2⟩)
 have HAH:=hideW (show ∀w',Below w.heap.size w w'→Calls Tryz.prog 101 #[.pointer (some ⟨C,0,none⟩),.int .i64 s.prev] w' fun e w''=>(∃a c,e = .returned (snapV (.slice a (aheadOf W s.prev).dn c) (aheadOf W s.prev)))∧Below w'.heap.size w' w'' from fun w' hb'=>by
  refine(chAhead_any C 0 w.heap.size _ _ _ _ _ _ _ W s.prev w' (hWat.below hb') (hC.below hb') hn hwf hD hx).mono ?_
  rintro e w2 ⟨a,c,rfl,hb2⟩
  exact⟨⟨a,c,rfl⟩,hb2⟩)
 have HKP:=hideW (show ∀w',Below w.heap.size w w'→(fun w':World=>w'.cell? ⟨bs,o2+2,none⟩=some (.int .i64 s.prev)∧w'.cell? ⟨bs,o2+3,none⟩=some (.int .i64 s.rs)∧w'.cell? ⟨bs,o2+4,none⟩=some (.int .i64 s.rb)) w' from fun w' hb=>⟨(hb.cell (p:=⟨bs,o2+2,none⟩) hbl).trans hs.1,(hb.cell (p:=⟨bs,o2+3,none⟩) hbl).trans hs.2.1,(hb.cell (p:=⟨bs,o2+4,none⟩) hbl).trans hs.2.2⟩)
 have hmf:∀(fn:Fn) (first cap:Array Value) (w:World),(Instr.makeFunc fn first cap).run Tryz.prog w = .ok (.func fn first cap) w:=fun _ _ _ _=>rfl
 have hb0:Below w.heap.size w w.drew:=(Below.refl _ _).drew
 obtain⟨⟨x0,-⟩,⟨x1,-⟩,-⟩:=hC.below hb0
 unfold shedL at HHo ⊢
 generalize treeL W.pool s.rs s.rb=L at HOk HHo HTP ⊢
 generalize aheadOf W s.prev=A at HHo HAH Ht ⊢
 unfold snapV at HAH
 have hft:=fun (a:Option Addr) (c:Nat) (w:World)=>field_timeE (.slice a A.dn c) A w
 clear hin hltS hC hs hR hT ht hn hwf hD hx hWat
 go_enter Tryz.func80,Tryz.ntmps80
 go_wp2_with fail
 refine wp_region_held_drew (S:=(fun w':World=>w'.cell? ⟨bs,o2+2,none⟩=some (.int .i64 s.prev)∧w'.cell? ⟨bs,o2+3,none⟩=some (.int .i64 s.rs)∧w'.cell? ⟨bs,o2+4,none⟩=some (.int .i64 s.rb))) (by kernel_rfl) (HKP.out _ hb0) (fun hHeld=>?_)
 generalize w.drew=q0 at hHeld x0 x1 hb0 ⊢
 refine tk 0 (h:=tk 1 (h:=tk 2 (h:=tk 3 (h:=tk 5 (h:=tk 6 (h:=tk 7 (h:=tk 8 (h:=tk 10 (h:=tk 11 (h:=tk 12 (h:=tk 13 (h:=tk 14 (h:=tk 17 (h:=tk 18 (h:=?_)))))))))))))))
 refine rd [4] (rc (fun K hK=>?_) .nil)
 go_simp
 (try go_wp2_with fail)
 refine hK.out _ _ (HKP.out _ hb0) ?_
 clear hK K
 intro hHeld
 try simp only [Act.put,s1,s2,s3]
 clear x0 x1
 refine rd [9] (rc (fun K hK=>?_) .nil)
 go_simp
 go_at_call 122
 refine(HTP.out _ hb0).mono ?_
 rintro e w2 ⟨a2,c2,rfl,hr2,hb2⟩
 have HR2:=hideW hr2
 have hb2':=below_next hb0 hb2
 clear hr2
 (try go_wp2_with fail)
 refine hK.out _ _ (HKP.out _ hb2') ?_
 clear hK K
 intro hHeld
 try simp only [Act.put,s1,s2,s3]
 refine rd [15] (rc (fun K hK=>?_) .nil)
 go_simp
 go_at_call 101
 refine(HAH.out _ hb2').mono ?_
 rintro e w3 ⟨⟨a3,c3,rfl⟩,hb3⟩
 have hb3':=below_next hb2' hb3
 have HR3:=hideW (RowL.below HR2.out hb3)
 (try go_wp2_with fail)
 refine hK.out _ _ (HKP.out _ hb3') ?_
 clear hK K
 intro hHeld
 try simp only [Act.put,s1,s2,s3]
 refine tk 16 (h:=?_)
 refine rd [19] (rc (fun K hK=>?_) .nil)
 go_simp
 go_at_call 121
 have hz0:=hb0.size
 have hz3:=hb3'.size
 have hpt:PtrsAt w3 0 w3.heap.size (.slice a2 L.length c2) L.length (fstL L) (sndL L):=by
  obtain⟨b,ho,hb⟩:=RowL.own HR3.out (by have:=HOk.out.1; unfold maxLen; omega)
  exact ho.at (fun h0=>⟨Nat.zero_le _,(hb h0).2.2⟩)
 refine(letGo_any C 0 w3.heap.size L.length P _ _ _ _ u8 _ W.time W.next id m A.time W.pool (fstL L) (sndL L) w3 hpt HOk.out Ht.out HHo.out (HC.out.below hb3') (HP.out.below hb3') (fun k hk=>by have:=HPl.out k hk; omega) hm hm').mono ?_
 rintro e wz ⟨vo,y0,y1,rfl,-,hCz,hPz,hTz⟩
 have HCz:=hideW hCz
 have HPz:=hideW hPz
 have HTz:=hideW (show Turned (fun j=>j=C) w wz from(Turned.of_below hb3').trans hTz)
 clear hCz hPz hpt
 (try go_wp2_with fail)
 refine hK.out _ _ ?_ ?_
 ·have h:=HKP.out _ hb3'
  have hbl3:bs<w3.heap.size:=by omega
  exact⟨(hTz.cell (o:=o2+2) hbl3 hbs).trans h.1,(hTz.cell (o:=o2+3) hbl3 hbs).trans h.2.1,(hTz.cell (o:=o2+4) hbl3 hbs).trans h.2.2⟩
 clear hK K hHeld
 intro hHeld
 try simp only [Act.put,s1,s2,s3]
 refine wpAnyH_done (by kernel_rfl) ?_ _
 go_wp2_with fail
 go_end0
 exact⟨⟨_,rfl⟩,y0,y1,HCz.out,HPz.out.mono (fun j h=>h.imp (fun h=>h) (fun h=>⟨by omega,h.2⟩)),HTz.out⟩
end Go.Proofs.YtihdcanckbkgfaaGreatDoor

namespace Go.Proofs.YtihdcanckbkgfaaGreatDoor
open Go.RowKit
set_option linter.unusedVariables false
set_option maxRecDepth 20000 in
set_option maxHeartbeats 2000000 in
theorem indexSet_any(g:Nat)(lb:Array Value)(eg:Enters Tryz.prog g)(P:Nat→Prop)(v:Value)(n lo hi:Nat)(f:Nat→SetD)(w:World)(h:SetsAt w lo hi v n f)(hn:n≤1000)
  (hP:∀i,i<n→∀a c w',Below w.heap.size w w'→PtrsAt w' lo hi (.slice a (f i).dn c) (f i).dn (f i).ds (f i).db→Calls Tryz.prog g (#[.agg #[.string (f i).name,.int .i64 (f i).origin,.int .i64 (f i).prev,.int .i64 (f i).rs,.int .i64 (f i).rb,.slice a (f i).dn c]] ++ lb) w' fun e w''=>BoolIs (P i) e∧Below w'.heap.size w' w'') :
  Calls Tryz.prog 124 #[v,.func (.func g) #[] lb] w fun e w'=>((∃i:Nat,i<n∧P i∧(∀j,j<i→¬P j)∧e = .returned (.int .i64 (i:Int)))∨((∀j,j<n→¬P j)∧e = .returned (.int .i64 (-1))))∧Below w.heap.size w w':=by
 have Hp:=hideW h
 obtain⟨-,a,c,rfl,-,-⟩:=h
 have HP:=hideW hP
 clear hP
 have e0:∀(args:Array Value) (w:World),(callFunc g args).run Tryz.prog w = .ok (.enter g args) w:=eg
 clear eg
 go_enter Tryz.func124,Tryz.ntmps124
 go_wp2
 go_loopw [8] (fun i wr=>∃k:Nat,k≤n∧i = .int .i64 k∧(∀j,j<k→¬P j)∧Below w.heap.size w wr) (fun i _=>n - (intOf i).toNat)
 case atStart=>exact⟨0,Nat.zero_le _,rfl,fun j hj=>absurd hj (Nat.not_lt_zero _),Below.refl _ _⟩
 case round=>
  obtain⟨k,hk,rfl,hall,hb⟩:=hrel
  have Hall:=hideW hall
  clear hall
  by_cases hlt:k<n
  ·have hlt':(k:Int)<(n:Int):=by omega
   obtain⟨b,off,vd,rfl,hs⟩:=(Hp.out.below hb).cells hlt
   obtain⟨-,ad,cd,rfl,-,-⟩:=id hs.dead
   have Hs:=hideW hs.dead
   obtain⟨q0,q1,q2,q3,q4,q5,-,-⟩:=hs
   go_wp2_with fail
   clear q0 q1 q2 q3 q4 q5
   refine(HP.out k hlt ad cd wr hb Hs.out).mono ?_
   rintro e w1 ⟨⟨t,rfl,ht⟩,hb1⟩
   have hbn:=below_next hb hb1
   clear hb1 Hs
   by_cases hf:P k
   ·obtain rfl:t=true:=ht.2 hf
    have HF:=hideW hf
    clear ht hf
    go_wp2
    go_ret
    exact⟨Or.inl ⟨k,hlt,HF.out,Hall.out,rfl⟩,hbn⟩
   ·obtain rfl:t=false:=bool_no ht hf
    have HF:=hideW hf
    clear ht hf
    go_wp2
    go_roundw
    case rel=>
     refine⟨k+1,by omega,by go_num,fun j hj=>?_,hbn⟩
     by_cases e:j=k
     ·subst e; exact HF.out
     ·exact Hall.out j (by omega)
    case measure=>simp [intOf]; omega
  ·obtain rfl:k=n:=by omega
   go_wp2
   go_ret
   exact⟨Or.inr ⟨Hall.out,rfl⟩,hb⟩
end Go.Proofs.YtihdcanckbkgfaaGreatDoor

namespace Go.Proofs.YtihdcanckbkgfaaGreatDoor
open Go.RowKit
set_option linter.unusedVariables false
set_option maxRecDepth 20000 in
set_option maxHeartbeats 2000000 in
theorem chSet1_any(s:SetD)(a:Option Addr)(c B:Nat)(name:ByteArray)(w:World)(h0:w.cell? ⟨B,0,none⟩=some (.string name)) :
  Calls Tryz.prog 125 #[.agg #[.string s.name,.int .i64 s.origin,.int .i64 s.prev,.int .i64 s.rs,.int .i64 s.rb,.slice a s.dn c],.pointer (some ⟨B,0,none⟩)] w fun e w'=>BoolIs (s.name=name) e∧Below w.heap.size w w':=by
 have ha:=below_alloc w (.cells #[.string s.name,.int .i64 s.origin,.int .i64 s.prev,.int .i64 s.rs,.int .i64 s.rb,.slice a s.dn c] 61)
 have k0:=(ha.cell (lt_of_cell h0)).trans h0
 clear h0
 obtain⟨⟨x0,-⟩,⟨x1,-⟩,⟨x2,-⟩,⟨x3,-⟩,⟨x4,-⟩,⟨x5,-⟩⟩:=Box6.new w (.string s.name) (.int .i64 s.origin) (.int .i64 s.prev) (.int .i64 s.rs) (.int .i64 s.rb) (.slice a s.dn c) 61
 by_cases e1:s.name=name
 ·skip
  have a1:=str_eq e1
  have H:=hideW e1
  clear e1
  go_enter Tryz.func125,Tryz.ntmps125
  go_wp2
  go_ret
  exact⟨BoolIs.yes H.out,ha⟩
 ·skip
  have a1:=str_ne e1
  have H:=hideW e1
  clear e1
  go_enter Tryz.func125,Tryz.ntmps125
  go_wp2
  go_ret
  exact⟨BoolIs.no H.out,ha⟩
theorem first_at{n k:Nat}{f:Nat→SetD}{name:ByteArray}{e:Ending}(hn:(f k).name=name)(hf:∀j,j<k→(f j).name≠name)(hk:k<n)
  (hr:(∃i:Nat,i<n∧(f i).name=name∧(∀j,j<i→¬(f j).name=name)∧e = .returned (.int .i64 (i:Int)))∨((∀j,j<n→¬(f j).name=name)∧e = .returned (.int .i64 (-1)))):e = .returned (.int .i64 (k:Int)):=by
 rcases hr with⟨i,hi,h1,h2,rfl⟩ | ⟨h1,_⟩
 ·obtain rfl:i=k:=by
   rcases Nat.lt_trichotomy i k with h | h | h
   ·exact absurd h1 (hf i h)
   ·exact h
   ·exact absurd hn (h2 k h)
  rfl
 ·exact absurd hn (h1 k hk)
set_option maxRecDepth 20000 in
set_option maxHeartbeats 2000000 in
theorem chSet_any(C lo hi n k c2:Nat)(a2:Option Addr)(f:Nat→SetD)(name:ByteArray)(w:World)(hc:w.cell? ⟨C,4,none⟩=some (.slice a2 n c2))(hS:SetsAt w lo hi (.slice a2 n c2) n f)(hn:n≤8)(hk:k<n)(hname:(f k).name=name)(hfirst:∀j,j<k→(f j).name≠name) :
  Calls Tryz.prog 81 #[.pointer (some ⟨C,0,none⟩),.string name] w fun e w'=>(∃b off,a2=some ⟨b,off,none⟩∧e = .returned (.pointer (some ⟨b,off+k*6,none⟩)))∧Below w.heap.size w w':=by
 have Hp:=hideW hS
 have Hn:=hideW hname
 have Hf:=hideW hfirst
 obtain⟨b,off,vd,rfl,-⟩:=hS.cells hk
 clear hS hname hfirst
 have ha:=below_alloc w (.cells #[.string name] 9)
 have c0:(w.alloc (.cells #[.string name] 9)).cell? ⟨w.heap.size,0,none⟩=some (.string name):=World.cell?_alloc_at _ _ _ _ rfl
 have hc1:=(ha.cell (lt_of_cell hc)).trans hc
 have C0:=hideW c0
 have hk':(k:Int)<(n:Int):=by omega
 clear c0 hc
 go_enter Tryz.func81,Tryz.ntmps81
 go_wp2_with fail
 generalize w.alloc (.cells #[.string name] 9)=W1 at ha hc1 C0 ⊢
 have IX:=hideW (show ∀w',Below W1.heap.size W1 w'→Calls Tryz.prog 124 #[.slice (some ⟨b,off,none⟩) n c2,.func (.func 125) #[] #[.pointer (some ⟨w.heap.size,0,none⟩)]] w' fun e w''=>e = .returned (.int .i64 (k:Int))∧Below w'.heap.size w' w'' from fun w' hb'=>by
  refine(indexSet_any 125 #[.pointer (some ⟨w.heap.size,0,none⟩)] (enters_of Tryz.func125 (by kernel_rfl) rfl) (fun i=>(f i).name=name) _ n lo hi f w' ((Hp.out.below ha).below hb') (by omega) (fun i hi' a c w'' hbw hp=>chSet1_any (f i) a c _ name w'' (((below_next hb' hbw).cell (lt_of_cell C0.out)).trans C0.out))).mono ?_
  rintro e w2 ⟨hr,hb2⟩
  exact⟨first_at Hn.out Hf.out hk hr,hb2⟩)
 go_region_held3 (fun w'=>w'.cell? ⟨C,4,none⟩=some (.slice (some ⟨b,off,none⟩) n c2)) (go_keep)
  (first | (go_at_call 124; refine(IX.out _ (Below.refl _ _).drew).mono ?_; rintro e w2 ⟨rfl,hb2⟩; have hb2':=below_undrew hb2; have hc2:=(hb2'.cell (lt_of_cell hc1)).trans hc1))
 go_wp2
 go_ret
 exact⟨⟨b,off,rfl,rfl⟩,below_next ha hb2'⟩
end Go.Proofs.YtihdcanckbkgfaaGreatDoor

namespace Go.Proofs.YtihdcanckbkgfaaGreatDoor
open Go.RowKit
set_option linter.unusedVariables false
theorem SetsOwn.edit{w w':World}{bs off n c:Nat}{kb:Nat→Nat}{kv:Nat→Value}{f:Nat→SetD}(ho:SetsOwn w bs kb kv (.slice (some ⟨bs,off,none⟩) n c) n f){k:Nat}(hk:k<n){s':SetD}{nb:Nat}{nv:Value}
  (ht:Turned (fun j=>j=bs) w w') (hx:∀j,j<n→j≠k→∀r,r<6→∀u,Cell w bs (off+j*6+r) u→Cell w' bs (off+j*6+r) u) (hs:SetOwn w' bs (off+k*6) nb nv s') :
  SetsOwn w' bs (fun j=>if j=k then nb else kb j) (fun j=>if j=k then nv else kv j) (.slice (some ⟨bs,off,none⟩) n c) n (fun j=>if j=k then s' else f j):=by
 obtain⟨hm,a,cap,hv,hc,hx0⟩:=ho
 simp only [Value.slice.injEq,true_and] at hv
 obtain⟨rfl,rfl⟩:=hv
 refine⟨hm,_,_,rfl,hc,fun h0=>?_⟩
 obtain⟨off',e,hall⟩:=hx0 h0
 simp only [Option.some.injEq,Addr.mk.injEq,true_and,and_true] at e
 subst e
 refine⟨off,rfl,fun j hj=>?_⟩
 by_cases e:j=k
 ·subst e
  simp only [if_true]
  exact hs
 ·simp only [if_neg e]
  have h:=hall j hj
  exact⟨hx j hj e 0 (by omega) _ h.c0,hx j hj e 1 (by omega) _ h.c1,hx j hj e 2 (by omega) _ h.c2,hx j hj e 3 (by omega) _ h.c3,hx j hj e 4 (by omega) _ h.c4,hx j hj e 5 (by omega) _ h.c5,h.dead.turned ht (fun h0 e=>h.apart h0 e),h.small,h.apart⟩
def WorldOwn2(w:World)(lo hi m top:Nat)(v0 v1 v2 v3:Value)(W:WorldD):Prop:=∃P Q R,WorldIn w P Q R v0 v1 v2 v3 W∧∀k,P k∨Q k∨R k→(lo≤k∧k<hi)∨(m≤k∧k<top)
theorem WorldOwn2.own{w:World}{lo hi m top:Nat}{v0 v1 v2 v3:Value}{W:WorldD}(h:WorldOwn2 w lo hi m top v0 v1 v2 v3 W)(h1:lo≤m)(h2:hi≤top):WorldOwn w lo top v0 v1 v2 v3 W:=by
 obtain⟨P,Q,R,h,hl⟩:=h
 exact⟨P,Q,R,h,fun k hk=>by have:=hl k hk; omega⟩
theorem WorldOwn2.turned{S:Nat→Prop}{w w':World}{lo hi m top:Nat}{v0 v1 v2 v3:Value}{W:WorldD}(h:WorldOwn2 w lo hi m top v0 v1 v2 v3 W)(t:Turned S w w')(hs:∀k,S k→k<lo∨(hi≤k∧k<m))(hm:hi≤m)(hlo:lo≤m):WorldOwn2 w' lo hi m top v0 v1 v2 v3 W:=by
 obtain⟨P,Q,R,h,hl⟩:=h
 exact⟨P,Q,R,h.turned t (fun k hk e=>by have:=hl k hk; have:=hs k e; omega),hl⟩
end Go.Proofs.YtihdcanckbkgfaaGreatDoor

namespace Go.Proofs.YtihdcanckbkgfaaGreatDoor
open Go.RowKit
set_option linter.unusedVariables false
theorem step_append_run{P:Program}{w w1:World}{ops:Array Oper}{o:Oper}{a:Act}{K:Act→World→Prop}{Q:Exit→Act→World→Prop}{E:Prop}(hgd:o.guard=none)(s x:Operand)(t:TypeId)
  (ho:o.op = .call {callee:=.builtin .append,args:=#[s,x],argTypes:=#[t,t]}) (vs vx v':Value) (hs:a.eval s=vs) (hx:a.eval x=vx) (hrun:(Builtin.append_ #[t,t] o.type #[vs,vx]).run P w = .ok v' w1)
  (h:K (a.put o.dst v') w1):if Region.wanted o (yielded ops a.tmps)=true then Oper.wp P o a w K Q else E:=by
 have hw:Region.wanted o (yielded ops a.tmps)=true:=by simp [Region.wanted,hgd]
 rw [if_pos hw]
 unfold Oper.wp
 simp [execOp,ho,resolve,invoke,builtin,hs,hx,hrun,Result.andThen]
 exact h
end Go.Proofs.YtihdcanckbkgfaaGreatDoor

namespace Go.Proofs.YtihdcanckbkgfaaGreatDoor
open Go.RowKit
set_option linter.unusedVariables false
theorem SetsOwn.nth{w:World}{bs n:Nat}{kb:Nat→Nat}{kv:Nat→Value}{v:Value}{f:Nat→SetD}(h:SetsOwn w bs kb kv v n f){k:Nat}(hk:k<n):∃off c,v = .slice (some ⟨bs,off,none⟩) n c∧SetOwn w bs (off+k*6) (kb k) (kv k) (f k):=by
 obtain⟨_,a,c,hv,_,hx⟩:=h
 obtain⟨off,ha,h⟩:=hx (by omega)
 exact⟨off,c,by rw [hv,ha],h k hk⟩
end Go.Proofs.YtihdcanckbkgfaaGreatDoor
