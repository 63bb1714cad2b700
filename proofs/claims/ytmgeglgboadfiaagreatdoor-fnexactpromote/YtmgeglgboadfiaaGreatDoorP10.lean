/- What spec.l04BornIn answers. -/
import Derived.Test.YtmgeglgboadfiaaGreatDoorP3
import Derived.Test.YtmgeglgboadfiaaGreatDoorP4
import Derived.Test.YtmgeglgboadfiaaGreatDoorP9
import Derived.Deep.RegionHeld3
import Derived.BigQuiet
import Derived.Test.YtmgeglgboadfiaaGreatDoorProg
import GoSem.ClaimJoined
import GoSem.ClaimMapViews
import Derived.JoinedTies
import Derived.KernelRfl
import Derived.RowKit
import Derived.Test.YtmgeglgboadfiaaGreatDoorP1
import Derived.Deep.OwnRows
namespace Go.Proofs.YtmgeglgboadfiaaGreatDoor
open Go.RowKit Go.Maps
set_option linter.unusedVariables false
theorem RowL.atW{w:World}{base:Nat}{v:Value}{l:List (Int×Int)}(h:RowL w base v l)(hm:l.length≤1000):PtrsAt w 0 w.heap.size v l.length (fstL l) (sndL l):=by
 obtain⟨b,h1,h2⟩:=h.own (by unfold maxLen; omega)
 exact h1.at (fun h0=>⟨Nat.zero_le _,(h2 h0).2.2⟩)
def BornN(now old:List (Int×Int))(t tm:Int)(n:Nat):Prop:=∀i,i<n→sndL now i≤tm∧((fstL now i,sndL now i)∈old↔sndL now i≤t)
theorem bornN_L(now old:List (Int×Int))(t tm:Int):BornN now old t tm now.length↔BornL now old t tm:=by
 constructor
 ·intro h x hx
  obtain⟨j,hj,e⟩:=List.getElem_of_mem hx
  have:=h j hj
  unfold fstL sndL at this
  rw [getD_lt hj,e] at this
  exact this
 ·intro h i hi
  have:=h _ (List.getElem_mem hi)
  unfold fstL sndL
  rw [getD_lt hi]
  exact this
def IdsPos(W:WorldD):Prop:=∀k,k<W.pn→1≤(W.snaps k).id
def AheadEq(W:WorldD)(x s b t:Int):Prop:=s=(aheadOf W x).rs∧b=(aheadOf W x).rb∧t=(aheadOf W x).time
theorem ahead_of{W:WorldD}{x s b t:Int}(hp:IdsPos W)(h:AheadIs W x s b t):AheadEq W x s b t:=by
 rcases h with⟨k,_,hk,h1,h2,h3⟩ | ⟨hn,h1,h2,h3⟩
 ·unfold AheadEq
  rw [aheadOf_at hk]
  exact⟨h1,h2,h3⟩
 ·have e:aheadOf W x=zeroSnap:=by
   rcases hn with rfl | hn
   ·exact aheadOf_no (fun k hk e=>by have:=hp k hk; omega)
   ·exact aheadOf_no hn
  unfold AheadEq
  rw [e]
  exact⟨h1,h2,h3⟩
set_option maxRecDepth 20000 in
set_option maxHeartbeats 4000000 in
theorem l04BornIn_any(v0 v1 v2 v3:Value)(lo hi:Nat)(W:WorldD)(x rs rb tm t:Int)(now old:List (Int×Int))(w:World)(h:WorldAt w lo hi v0 v1 v2 v3 W)(hR:Right W.pool)(hT:TreeOk W.pool rs rb)(hA:TreeOk W.pool (aheadOf W x).rs (aheadOf W x).rb)(hP:IdsPos W)(hnow:now=treeL W.pool rs rb)(hold:old=treeL W.pool (aheadOf W x).rs (aheadOf W x).rb)(ht:t=(aheadOf W x).time) :
  Calls Tryz.prog 144 #[worldV v0 v1 v2 v3 W,.int .i64 x,.agg #[.int .i64 rs,.int .i64 rb],.int .i64 tm] w fun e w'=>BoolIs (BornL now old t tm) e∧Below w.heap.size w w':=by
 have Hp:=hideW h
 have HR:=hideW hR
 have HT:=hideW hT
 have HA:=hideW hA
 have HP:=hideW hP
 have Hnow:=hideW hnow
 have Hold:=hideW hold
 have Htt:=hideW ht
 clear h hR hT hA hP hnow hold ht
 have ha:=below_alloc w (.cells #[v0,v1,.int .i64 W.time,.int .i64 W.next,v2,v3] 37)
 have hB:=Box6.new w v0 v1 (.int .i64 W.time) (.int .i64 W.next) v2 v3 37
 have ha2:=below_alloc (w.alloc (.cells #[v0,v1,.int .i64 W.time,.int .i64 W.next,v2,v3] 37)) (.cells #[.int .i64 rs,.int .i64 rb] 61)
 have hX:=Box2.new (w.alloc (.cells #[v0,v1,.int .i64 W.time,.int .i64 W.next,v2,v3] 37)) (.int .i64 rs) (.int .i64 rb) 61
 have hB2:=hB.below ha2
 have hb2:=below_next ha ha2
 have hsz:(w.alloc (.cells #[v0,v1,.int .i64 W.time,.int .i64 W.next,v2,v3] 37)).heap.size=w.heap.size+1:=World.size_alloc _ _
 rw [hsz] at hX
 clear ha ha2 hB
 go_enter Tryz.func144,Tryz.ntmps144
 go_wp2_with fail
 generalize ((w.alloc (.cells #[v0,v1,.int .i64 W.time,.int .i64 W.next,v2,v3] 37)).alloc (.cells #[.int .i64 rs,.int .i64 rb] 61))=W0 at hX hB2 hb2 ⊢
 refine(l04Ahead_any v0 v1 v2 _ lo hi W x W0 (Hp.out.below hb2)).mono ?_
 rintro e w1 ⟨s,b,t',rfl,hF,hb1⟩
 have hq:=ahead_of HP.out hF
 obtain rfl:t=t':=Htt.out.trans hq.2.2.symm
 have hT2:=hideW (show TreeOk W.pool s b by rw [hq.1,hq.2.1]; exact HA.out)
 have HF:=hideW (show old=treeL W.pool s b by rw [Hold.out,hq.1,hq.2.1])
 clear hq Htt Hold HA
 have hX1:=hX.below hb1
 have hB1:=hB2.below hb1
 have hbw:=below_next hb2 hb1
 have ha3:=below_alloc w1 (.cells #[.int .i64 s,.int .i64 b] 61)
 have HY3:=hideW (Box2.new w1 (.int .i64 s) (.int .i64 b) 61)
 have HX3:=hideW (hX1.below ha3)
 have HB3:=hideW (hB1.below ha3)
 have hbw3:=below_next hbw ha3
 clear hX hB2 hb2 hb1 hsz hF hX1 hB1 hbw ha3
 obtain⟨⟨y0,y1⟩,⟨y2,y3⟩⟩:=HY3.out
 obtain⟨⟨z0,z1⟩,⟨z2,z3⟩⟩:=HX3.out
 obtain⟨⟨x0,x1⟩,⟨x2,x3⟩,⟨x4,x5⟩,⟨x6,x7⟩,⟨x8,x9⟩,⟨x10,x11⟩⟩:=HB3.out
 go_wp2_with fail
 generalize w1.alloc (.cells #[.int .i64 s,.int .i64 b] 61)=w3 at *
 refine(l02Ptrs_any v0 v1 lo hi W.pool s b w3 (Hp.out.pool.below hbw3) HR.out hT2.out).mono ?_
 rintro e w4 ⟨vo,rfl,hro,hb4⟩
 have ho:=(hro.atW (by have:=treeL_len W.pool s b; omega))
 have HX4:=hideW (HX3.out.below hb4)
 have HB4:=hideW (HB3.out.below hb4)
 have hbw4:=below_next hbw3 hb4
 clear hro hb4 HX3 HB3 HY3 hbw3 x0 x1 x2 x3 x4 x5 x6 x7 x8 x9 x10 x11 y0 y1 y2 y3 z0 z1 z2 z3
 obtain⟨⟨z0,z1⟩,⟨z2,z3⟩⟩:=HX4.out
 obtain⟨⟨x0,x1⟩,⟨x2,x3⟩,⟨x4,x5⟩,⟨x6,x7⟩,⟨x8,x9⟩,⟨x10,x11⟩⟩:=HB4.out
 go_wp2_with fail
 refine(l02Ptrs_any v0 v1 lo hi W.pool rs rb w4 (Hp.out.pool.below hbw4) HR.out HT.out).mono ?_
 rintro e w5 ⟨vn,rfl,hrn,hb5⟩
 have hn:=(hrn.atW (by have:=treeL_len W.pool rs rb; omega))
 have ho5:=ho.below hb5
 have hbw5:=below_next hbw4 hb5
 clear hrn hb5 HX4 HB4 hbw4 ho x0 x1 x2 x3 x4 x5 x6 x7 x8 x9 x10 x11 z0 z1 z2 z3
 rw [←Hnow.out] at hn
 rw [←HF.out] at ho5
 clear HF hT2 HT Hnow HR HP
 obtain⟨mn,an,cn,rfl,mcn,_⟩:=id hn
 have Hn:=hideW hn
 have Ho:=hideW ho5
 clear hn ho5
 unfold maxLen at mn
 go_wp2
 go_loopw [13] (fun i wr=>∃k:Nat,k≤now.length∧i = .int .i64 k∧BornN now old t tm k∧Below w5.heap.size w5 wr) (fun i _=>now.length - (intOf i).toNat)
 case atStart=>exact⟨0,Nat.zero_le _,rfl,fun j hj=>absurd hj (Nat.not_lt_zero _),Below.refl _ _⟩
 case round=>
  obtain⟨k,hk,rfl,hall,hb⟩:=hrel
  have Hall:=hideW hall
  clear hall
  by_cases hlt:k<now.length
  ·have hlt':(k:Int)<(now.length:Int):=by omega
   obtain⟨b1,off,rfl,q0,q1⟩:=(Hn.out.below hb).cellsD hlt
   by_cases hg:tm<sndL now k
   ·have hd:decide (tm<sndL now k)=true:=by simp [hg]
    have Hg:=hideW hg
    clear hg
    go_wp2
    go_quiet (fail)
    go_wp2
    go_ret
    exact⟨BoolIs.no fun hA=>absurd ((bornN_L _ _ _ _).2 hA k hlt).1 (by have:=Hg.out; omega),below_drewN (below_next hbw5 hb) _⟩
   ·have hd:decide (tm<sndL now k)=false:=by simp; omega
    have Hg:=hideW (show sndL now k≤tm by omega)
    clear hg
    go_wp2_with fail
    go_region_held3 (fun w'=>w'.cell? ⟨b1,off+k*2,none⟩=some (.int .i64 (fstL now k))∧w'.cell? ⟨b1,off+k*2+1,none⟩=some (.int .i64 (sndL now k))) (go_keep)
     (first | (go_at_call 142; refine(l03In_any _ old.length 0 w4.heap.size (fstL old) (sndL old) (fstL now k) (sndL now k) _ ?_).mono ?_; (exact(Ho.out.below hb).below ((Below.refl _ _).drew)); rintro e w6 ⟨⟨t6,rfl,ht6⟩,hb6⟩; have z1:=(hb6.cell (p:=⟨b1,off+k*2,none⟩) (lt_of_cell q0)).trans q0; have z2:=(hb6.cell (p:=⟨b1,off+k*2+1,none⟩) (lt_of_cell q1)).trans q1))
    have hb7:=below_call hb hb6
    have Hin:=hideW (ht6.trans pin_list)
    clear ht6 hb6 z1 z2 q0 q1 hd
    have hiff:(t6 == decide (sndL now k≤t))=true↔((fstL now k,sndL now k)∈old↔sndL now k≤t):=by
     have ho:=Hin.out
     cases t6 <;> simp_all
    have Hiff:=hideW hiff
    clear hiff
    cases hc:(t6 == decide (sndL now k≤t))
    ·go_wp2
     go_ret
     exact⟨BoolIs.no fun hA=>absurd (Hiff.out.2 ((bornN_L _ _ _ _).2 hA k hlt).2) (by simp [hc]),below_next hbw5 hb7⟩
    ·go_wp2
     go_roundw
     case rel=>exact⟨k+1,by omega,by go_num,relNext hlt Hall.out ⟨Hg.out,Hiff.out.1 hc⟩,hb7⟩
     case measure=>simp [intOf]; omega
  ·obtain rfl:k=now.length:=by omega
   go_wp2
   go_ret
   exact⟨BoolIs.yes ((bornN_L _ _ _ _).1 Hall.out),below_next hbw5 hb⟩
theorem lack_no{l m:List (Int×Int)}{k:Nat}(hk:k<l.length)(h:(fstL l k,sndL l k)∈m):lack (l.take (k+1)) m=lack (l.take k) m:=by
 unfold fstL sndL at h
 rw [getD_lt hk] at h
 unfold lack
 rw [List.take_succ_eq_append_getElem hk,List.filter_append,List.filter_cons]
 simp only [List.filter_nil]
 rw [if_neg (by simp; exact h),List.append_nil]
theorem lack_yes{l m:List (Int×Int)}{k:Nat}(hk:k<l.length)(h:(fstL l k,sndL l k)∉m):lack (l.take (k+1)) m=lack (l.take k) m ++ [(fstL l k,sndL l k)]:=by
 unfold fstL sndL at h ⊢
 rw [getD_lt hk] at h ⊢
 unfold lack
 rw [List.take_succ_eq_append_getElem hk,List.filter_append,List.filter_cons]
 simp only [List.filter_nil]
 rw [if_pos (by simp; exact h)]
theorem lack_len(l m:List (Int×Int))(k:Nat):(lack (l.take k) m).length≤k:=by
 unfold lack
 exact Nat.le_trans (List.length_filter_le _ _) (by rw [List.length_take]; omega)
set_option maxRecDepth 20000 in
set_option maxHeartbeats 4000000 in
theorem l04Dead_any(v0 v1 v2 v3 vd:Value)(lo hi lo2 hi2 dn:Nat)(ds db:Nat→Int)(W:WorldD)(x rs rb:Int)(now old:List (Int×Int))(w:World)(h:WorldAt w lo hi v0 v1 v2 v3 W)(hD:PtrsAt w lo2 hi2 vd dn ds db)(hR:Right W.pool)(hT:TreeOk W.pool rs rb)(hA:TreeOk W.pool (aheadOf W x).rs (aheadOf W x).rb)(hP:IdsPos W)(hnow:now=treeL W.pool rs rb)(hold:old=treeL W.pool (aheadOf W x).rs (aheadOf W x).rb) :
  Calls Tryz.prog 72 #[worldV v0 v1 v2 v3 W,.int .i64 x,.agg #[.int .i64 rs,.int .i64 rb],vd] w fun e w'=>BoolIs (PSameL dn ds db (lack old now)) e∧Below w.heap.size w w':=by
 have Hp:=hideW h
 have HR:=hideW hR
 have HT:=hideW hT
 have HA:=hideW hA
 have HP:=hideW hP
 have Hnow:=hideW hnow
 have Hold:=hideW hold
 have HD:=hideW hD
 clear h hR hT hA hP hnow hold hD
 have ha:=below_alloc w (.cells #[v0,v1,.int .i64 W.time,.int .i64 W.next,v2,v3] 37)
 have hB:=Box6.new w v0 v1 (.int .i64 W.time) (.int .i64 W.next) v2 v3 37
 have ha2:=below_alloc (w.alloc (.cells #[v0,v1,.int .i64 W.time,.int .i64 W.next,v2,v3] 37)) (.cells #[.int .i64 rs,.int .i64 rb] 61)
 have hX:=Box2.new (w.alloc (.cells #[v0,v1,.int .i64 W.time,.int .i64 W.next,v2,v3] 37)) (.int .i64 rs) (.int .i64 rb) 61
 have hB2:=hB.below ha2
 have hb2:=below_next ha ha2
 have hsz:(w.alloc (.cells #[v0,v1,.int .i64 W.time,.int .i64 W.next,v2,v3] 37)).heap.size=w.heap.size+1:=World.size_alloc _ _
 rw [hsz] at hX
 clear ha ha2 hB
 go_enter Tryz.func72,Tryz.ntmps72
 go_wp2_with fail
 generalize ((w.alloc (.cells #[v0,v1,.int .i64 W.time,.int .i64 W.next,v2,v3] 37)).alloc (.cells #[.int .i64 rs,.int .i64 rb] 61))=W0 at hX hB2 hb2 ⊢
 refine(l04Ahead_any v0 v1 v2 _ lo hi W x W0 (Hp.out.below hb2)).mono ?_
 rintro e w1 ⟨s,b,t,rfl,hF,hb1⟩
 have hq:=ahead_of HP.out hF
 have hT2:=hideW (show TreeOk W.pool s b by rw [hq.1,hq.2.1]; exact HA.out)
 have HF:=hideW (show old=treeL W.pool s b by rw [Hold.out,hq.1,hq.2.1])
 clear hq Hold HA
 have hX1:=hX.below hb1
 have hB1:=hB2.below hb1
 have hbw:=below_next hb2 hb1
 have ha3:=below_alloc w1 (.cells #[.int .i64 s,.int .i64 b] 61)
 have HY3:=hideW (Box2.new w1 (.int .i64 s) (.int .i64 b) 61)
 have HX3:=hideW (hX1.below ha3)
 have HB3:=hideW (hB1.below ha3)
 have hbw3:=below_next hbw ha3
 clear hX hB2 hb2 hb1 hsz hF hX1 hB1 hbw ha3
 obtain⟨⟨y0,y1⟩,⟨y2,y3⟩⟩:=HY3.out
 obtain⟨⟨z0,z1⟩,⟨z2,z3⟩⟩:=HX3.out
 obtain⟨⟨x0,x1⟩,⟨x2,x3⟩,⟨x4,x5⟩,⟨x6,x7⟩,⟨x8,x9⟩,⟨x10,x11⟩⟩:=HB3.out
 go_wp2_with fail
 generalize w1.alloc (.cells #[.int .i64 s,.int .i64 b] 61)=w3 at *
 refine(l02Ptrs_any v0 v1 lo hi W.pool s b w3 (Hp.out.pool.below hbw3) HR.out hT2.out).mono ?_
 rintro e w4 ⟨vo,rfl,hro,hb4⟩
 have ho:=(hro.atW (by have:=treeL_len W.pool s b; omega))
 have HX4:=hideW (HX3.out.below hb4)
 have HB4:=hideW (HB3.out.below hb4)
 have hbw4:=below_next hbw3 hb4
 clear hro hb4 HX3 HB3 HY3 hbw3 x0 x1 x2 x3 x4 x5 x6 x7 x8 x9 x10 x11 y0 y1 y2 y3 z0 z1 z2 z3
 obtain⟨⟨z0,z1⟩,⟨z2,z3⟩⟩:=HX4.out
 obtain⟨⟨x0,x1⟩,⟨x2,x3⟩,⟨x4,x5⟩,⟨x6,x7⟩,⟨x8,x9⟩,⟨x10,x11⟩⟩:=HB4.out
 go_wp2_with fail
 refine(l02Ptrs_any v0 v1 lo hi W.pool rs rb w4 (Hp.out.pool.below hbw4) HR.out HT.out).mono ?_
 rintro e w5 ⟨vn,rfl,hrn,hb5⟩
 have hn:=(hrn.atW (by have:=treeL_len W.pool rs rb; omega))
 have ho5:=ho.below hb5
 have hbw5:=below_next hbw4 hb5
 clear hrn hb5 HX4 HB4 hbw4 ho x0 x1 x2 x3 x4 x5 x6 x7 x8 x9 x10 x11 z0 z1 z2 z3
 have HL:=hideW (show now.length≤73∧old.length≤73 by rw [Hnow.out,HF.out]; exact⟨treeL_len _ _ _,treeL_len _ _ _⟩)
 rw [←Hnow.out] at hn
 rw [←HF.out] at ho5
 clear HF hT2 HT Hnow HR HP
 obtain⟨mo,ao,co,rfl,mco,_⟩:=id ho5
 have hol:old.length≤73:=HL.out.2
 have Hn:=hideW hn
 have Ho:=hideW ho5
 have HD5:=hideW (HD.out.below hbw5)
 clear hn ho5 HD
 unfold maxLen at mo
 obtain⟨i0,hi0,hzz⟩:=Option.map_eq_some_iff.1 infoPtrL
 simp only [Prod.mk.injEq] at hzz
 have HI:=hideW (And.intro hi0 hzz)
 clear hi0 hzz
 have HA6:=hideW (below_alloc w5 (.cells #[] 61))
 have HL6:=hideW (show RowL (w5.alloc (.cells #[] 61)) w5.heap.size (.slice (some ⟨w5.heap.size,0,none⟩) 0 0) [] from World.ownsRow_lit (e:=61) (size:=2) w5 #[] 0 (Nat.le_refl _) (by unfold maxLen; omega) rfl)
 go_wp2
 go_loopw [13,14] (fun vw i wr=>∃k:Nat,k≤old.length∧i = .int .i64 k∧RowL wr w5.heap.size vw (lack (old.take k) now)∧Below w5.heap.size w5 wr) (fun _ i _=>old.length - (intOf i).toNat)
 case atStart=>exact⟨0,Nat.zero_le _,rfl,by rw [List.take_zero]; exact HL6.out,HA6.out⟩
 case round=>
  obtain⟨k,hk,rfl,hrow,hb⟩:=hrel
  have Hrow:=hideW hrow
  clear hrow HL6 HA6
  by_cases hlt:k<old.length
  ·have hlt':(k:Int)<(old.length:Int):=by omega
   obtain⟨b1,off,rfl,q0,q1⟩:=(Ho.out.below hb).cellsD hlt
   go_wp2_with fail
   refine(l03In_any _ now.length 0 w5.heap.size (fstL now) (sndL now) (fstL old k) (sndL old k) _ (Hn.out.below hb)).mono ?_
   rintro e w6 ⟨⟨t6,rfl,ht6⟩,hb6⟩
   have z0:=(hb6.cell (p:=⟨b1,off+k*2,none⟩) (lt_of_cell q0)).trans q0
   have z1:=(hb6.cell (p:=⟨b1,off+k*2+1,none⟩) (lt_of_cell q1)).trans q1
   have hb7:=below_next hb hb6
   have Hrow6:=hideW (Hrow.out.below hb6)
   have Hin:=hideW (ht6.trans pin_list)
   clear ht6 hb6 q0 q1 Hrow
   cases t6
   ·have hba:=below_alloc w6 (.cells #[.int .i64 (fstL old k),.int .i64 (sndL old k)] 61)
    have Hrow7:=hideW (Hrow6.out.below hba)
    have hB3:=below_next hb7 hba
    have hz2:=hb7.size
    have hz3:(w6.alloc (.cells #[.int .i64 (fstL old k),.int .i64 (sndL old k)] 61)).heap.size=w6.heap.size+1:=World.size_alloc _ _
    have HN:=hideW (World.news_of_block (heap_alloc_last w6 (.cells #[.int .i64 (fstL old k),.int .i64 (sndL old k)] 61)))
    have hlen:=lack_len old now k
    clear hba Hrow6
    go_wp2_with (first
     | (at_builtin; refine wpList_append_lies _ rfl _ _ 62 rfl w5.heap.size 61 i0 (.agg #[.int .i64 0,.int .i64 0]) 2 16 (by kernel_rfl) HI.out.1 HI.out.2.1 HI.out.2.2.1 HI.out.2.2.2 rfl (by decide) _ _ _ rfl Hrow7.out ⟨w6.heap.size,0,none⟩ 1 1 [.int .i64 (fstL old k),.int .i64 (sndL old k)] rfl rfl HN.out (by simp [Value.oneCell']) (by decide) (by unfold maxLen; omega) (by omega) (by omega) _ rfl ?_; intro g' cap' w8 hown8 hgrow8 hat8 hlt8)
     | go_in)
    go_roundw
    case rel=>exact⟨k+1,by omega,by go_num,by rw [lack_yes hlt (fun h=>absurd (Hin.out.2 h) (by simp))]; exact RowL.next hown8,hB3.grown hgrow8 hB3.size (fun q hq=>(Hrow7.out.lt hq).1)⟩
    case measure=>simp [intOf]; omega
   ·have Hm:=hideW (Hin.out.1 rfl)
    clear Hin
    go_wp2
    go_roundw
    case rel=>exact⟨k+1,by omega,by go_num,by rw [lack_no hlt Hm.out]; exact Hrow6.out,hb7⟩
    case measure=>simp [intOf]; omega
  ·obtain rfl:k=old.length:=by omega
   have hw:=Hrow.out
   rw [List.take_length] at hw
   have hwl:(lack old now).length≤old.length:=List.length_filter_le _ _
   have hwr:=hw.atW (by omega)
   clear hw Hrow
   go_wp2_with fail
   refine(specPtrsSame_any vd _ dn lo2 hi2 _ 0 wr.heap.size ds db _ _ wr (HD5.out.below hb) hwr).mono ?_
   rintro e w6 ⟨⟨t6,rfl,ht6⟩,hb6⟩
   have HT6:=hideW ht6
   clear ht6
   go_wp2
   go_ret
   exact⟨⟨t6,rfl,HT6.out⟩,below_next hbw5 (below_next hb hb6)⟩
def BornOf(W:WorldD)(i:Nat):Prop:=BornL (treeM W (memOf W i)) (oldM W (memOf W i)) (aheadOf W (memOf W i).prev).time (memOf W i).time
theorem Trees.snap{W:WorldD}(h:Trees W){k:Nat}(hk:k<W.pn):TreeOk W.pool (W.snaps k).rs (W.snaps k).rb:=by
 have:=h.tree k (by unfold memN; omega)
 rw [memOf_snap hk] at this
 exact this
theorem Trees.set{W:WorldD}(h:Trees W){k:Nat}(hk:k<W.sn):TreeOk W.pool (W.sets k).rs (W.sets k).rb:=by
 have:=h.tree (W.pn+k) (by unfold memN; omega)
 rw [memOf_set] at this
 exact this
theorem bornIn_snap{v0 v1 v2 v3:Value}{lo hi:Nat}{W:WorldD}{w:World}(h:WorldAt w lo hi v0 v1 v2 v3 W)(hT:Trees W)(hP:IdsPos W){k:Nat}(hk:k<W.pn)(w':World)(hb:Below w.heap.size w w') :
  Calls Tryz.prog 144 #[worldV v0 v1 v2 v3 W,.int .i64 (W.snaps k).prev,.agg #[.int .i64 (W.snaps k).rs,.int .i64 (W.snaps k).rb],.int .i64 (W.snaps k).time] w' fun e w''=>BoolIs (BornOf W k) e∧Below w'.heap.size w' w'':=by
 unfold BornOf
 rw [memOf_snap hk]
 exact l04BornIn_any v0 v1 v2 v3 lo hi W _ _ _ _ _ _ _ w' (h.below hb) hT.right (hT.snap hk) (hT.old _) hP rfl rfl rfl
theorem bornIn_set{v0 v1 v2 v3:Value}{lo hi:Nat}{W:WorldD}{w:World}(h:WorldAt w lo hi v0 v1 v2 v3 W)(hT:Trees W)(hP:IdsPos W){k:Nat}(hk:k<W.sn)(w':World)(hb:Below w.heap.size w w') :
  Calls Tryz.prog 144 #[worldV v0 v1 v2 v3 W,.int .i64 (W.sets k).prev,.agg #[.int .i64 (W.sets k).rs,.int .i64 (W.sets k).rb],.int .i64 W.time] w' fun e w''=>BoolIs (BornOf W (W.pn+k)) e∧Below w'.heap.size w' w'':=by
 unfold BornOf
 rw [memOf_set]
 exact l04BornIn_any v0 v1 v2 v3 lo hi W _ _ _ _ _ _ _ w' (h.below hb) hT.right (hT.set hk) (hT.old _) hP rfl rfl rfl
set_option maxRecDepth 20000 in
set_option maxHeartbeats 4000000 in
theorem l04Born_any(v0 v1 v2 v3:Value)(lo hi:Nat)(W:WorldD)(w:World)(h:WorldAt w lo hi v0 v1 v2 v3 W)(hT:Trees W)(hP:IdsPos W) :
  Calls Tryz.prog 76 #[worldV v0 v1 v2 v3 W] w fun e w'=>BoolIs (∀i,i<memN W→BornOf W i) e∧Below w.heap.size w w':=by
 have Hp:=hideW h
 have HT:=hideW hT
 have HP:=hideW hP
 obtain⟨m1,a,c,rfl,mc,_⟩:=id h.snaps
 obtain⟨m2,a',c',rfl,mc',_⟩:=id h.sets
 unfold maxLen at m1 m2
 clear h hT hP
 have ha:=below_alloc w (.cells #[v0,v1,.int .i64 W.time,.int .i64 W.next,.slice a' W.sn c',.slice a W.pn c] 37)
 have HB:=hideW (Box6.new w v0 v1 (.int .i64 W.time) (.int .i64 W.next) (.slice a' W.sn c') (.slice a W.pn c) 37)
 go_enter Tryz.func76,Tryz.ntmps76
 go_wp2
 go_loopw [3] (fun i wr=>∃k:Nat,k≤W.pn∧i = .int .i64 k∧(∀j,j<k→BornOf W j)∧Box6 wr w.heap.size v0 v1 (.int .i64 W.time) (.int .i64 W.next) (.slice a' W.sn c') (.slice a W.pn c)∧Below w.heap.size w wr) (fun i _=>W.pn - (intOf i).toNat)
 case atStart=>exact⟨0,Nat.zero_le _,rfl,fun j hj=>absurd hj (Nat.not_lt_zero _),HB.out,ha⟩
 case round=>
  obtain⟨k,hk,rfl,hall,hX,hb⟩:=hrel
  have Hall:=hideW hall
  have HX:=hideW hX
  clear hall hX ha HB
  obtain⟨⟨x0,x1⟩,⟨x2,x3⟩,⟨x4,x5⟩,⟨x6,x7⟩,⟨x8,x9⟩,⟨x10,x11⟩⟩:=HX.out
  by_cases hlt:k<W.pn
  ·have hlt':(k:Int)<(W.pn:Int):=by omega
   have Hc:=hideW (bornIn_snap (Hp.out.below hb) HT.out HP.out hlt)
   obtain⟨b,off,vd,rfl,hs⟩:=(Hp.out.snaps.below hb).cells hlt
   have q3:=hs.c3
   have q4:=hs.c4
   have q5:=hs.c5
   have q6:=hs.c6
   clear hs x1 x3 x5 x7 x9 x11
   go_wp2_with fail
   go_region_held3 (fun w'=>w'.cell? ⟨w.heap.size,0,none⟩=some v0∧w'.cell? ⟨w.heap.size,1,none⟩=some v1∧w'.cell? ⟨w.heap.size,2,none⟩=some (.int .i64 W.time)∧w'.cell? ⟨w.heap.size,3,none⟩=some (.int .i64 W.next)∧w'.cell? ⟨w.heap.size,4,none⟩=some (.slice a' W.sn c')∧w'.cell? ⟨w.heap.size,5,none⟩=some (.slice (some ⟨b,off,none⟩) W.pn c)∧w'.cell? ⟨b,off+k*8+3,none⟩=some (.int .i64 (W.snaps k).prev)∧w'.cell? ⟨b,off+k*8+4,none⟩=some (.int .i64 (W.snaps k).time)∧w'.cell? ⟨b,off+k*8+5,none⟩=some (.int .i64 (W.snaps k).rs)∧w'.cell? ⟨b,off+k*8+6,none⟩=some (.int .i64 (W.snaps k).rb)) (go_keep)
    (first | (go_at_call 144; refine(Hc.out _ ?_).mono ?_; (exact(Below.refl _ _).drew); rintro e w6 ⟨⟨t6,rfl,ht6⟩,hb6⟩; obtain⟨⟨y0,_⟩,⟨y1,_⟩,⟨y2,_⟩,⟨y3,_⟩,⟨y4,_⟩,⟨y5,_⟩⟩:=HX.out.below (below_undrew hb6); have z3:=(hb6.cell (p:=⟨b,off+k*8+3,none⟩) (lt_of_cell q3)).trans q3; have z4:=(hb6.cell (p:=⟨b,off+k*8+4,none⟩) (lt_of_cell q4)).trans q4; have z5:=(hb6.cell (p:=⟨b,off+k*8+5,none⟩) (lt_of_cell q5)).trans q5; have z6:=(hb6.cell (p:=⟨b,off+k*8+6,none⟩) (lt_of_cell q6)).trans q6))
   have hb7:=below_call hb hb6
   have HX7:=hideW (HX.out.below (below_undrew hb6))
   have Ht:=hideW ht6
   clear ht6 hb6 z3 z4 z5 z6 y0 y1 y2 y3 y4 y5 q3 q4 q5 q6 HX
   cases t6
   ·have Hn:=hideW (show ¬BornOf W k from fun hA=>absurd (Ht.out.2 hA) (by simp))
    clear Ht
    go_wp2
    go_ret
    exact⟨BoolIs.no fun hA=>Hn.out (hA k (by unfold memN; omega)),hb7⟩
   ·have Hn:=hideW (Ht.out.1 rfl)
    clear Ht
    go_wp2
    go_roundw
    case rel=>exact⟨k+1,by omega,by go_num,relNext hlt Hall.out Hn.out,HX7.out,hb7⟩
    case measure=>simp [intOf]; omega
  ·obtain rfl:k=W.pn:=by omega
   go_wp2
   go_loopw [4] (fun i wr=>∃k:Nat,k≤W.sn∧i = .int .i64 k∧(∀j,j<W.pn+k→BornOf W j)∧Box6 wr w.heap.size v0 v1 (.int .i64 W.time) (.int .i64 W.next) (.slice a' W.sn c') (.slice a W.pn c)∧Below w.heap.size w wr) (fun i _=>W.sn - (intOf i).toNat)
   case atStart=>exact⟨0,Nat.zero_le _,rfl,Hall.out,HX.out,hb⟩
   case round=>
    clear x0 x1 x2 x3 x4 x5 x6 x7 x8 x9 x10 x11 HX hb Hall
    obtain⟨k,hk,rfl,hall,hX,hb⟩:=hrel
    have Hall:=hideW hall
    have HX:=hideW hX
    clear hall hX
    obtain⟨⟨x0,x1⟩,⟨x2,x3⟩,⟨x4,x5⟩,⟨x6,x7⟩,⟨x8,x9⟩,⟨x10,x11⟩⟩:=HX.out
    by_cases hlt:k<W.sn
    ·have hlt':(k:Int)<(W.sn:Int):=by omega
     have Hc:=hideW (bornIn_set (Hp.out.below hb) HT.out HP.out hlt)
     obtain⟨b,off,vd,rfl,hs⟩:=(Hp.out.sets.below hb).cells hlt
     have q3:=hs.c2
     have q5:=hs.c3
     have q6:=hs.c4
     clear hs x1 x3 x5 x7 x9 x11
     go_wp2_with fail
     go_region_held3 (fun w'=>w'.cell? ⟨w.heap.size,0,none⟩=some v0∧w'.cell? ⟨w.heap.size,1,none⟩=some v1∧w'.cell? ⟨w.heap.size,2,none⟩=some (.int .i64 W.time)∧w'.cell? ⟨w.heap.size,3,none⟩=some (.int .i64 W.next)∧w'.cell? ⟨w.heap.size,4,none⟩=some (.slice (some ⟨b,off,none⟩) W.sn c')∧w'.cell? ⟨w.heap.size,5,none⟩=some (.slice a W.pn c)∧w'.cell? ⟨b,off+k*6+2,none⟩=some (.int .i64 (W.sets k).prev)∧w'.cell? ⟨b,off+k*6+3,none⟩=some (.int .i64 (W.sets k).rs)∧w'.cell? ⟨b,off+k*6+4,none⟩=some (.int .i64 (W.sets k).rb)) (go_keep)
      (first | (go_at_call 144; refine(Hc.out _ ?_).mono ?_; (exact(Below.refl _ _).drew); rintro e w6 ⟨⟨t6,rfl,ht6⟩,hb6⟩; obtain⟨⟨y0,_⟩,⟨y1,_⟩,⟨y2,_⟩,⟨y3,_⟩,⟨y4,_⟩,⟨y5,_⟩⟩:=HX.out.below (below_undrew hb6); have z3:=(hb6.cell (p:=⟨b,off+k*6+2,none⟩) (lt_of_cell q3)).trans q3; have z5:=(hb6.cell (p:=⟨b,off+k*6+3,none⟩) (lt_of_cell q5)).trans q5; have z6:=(hb6.cell (p:=⟨b,off+k*6+4,none⟩) (lt_of_cell q6)).trans q6))
     have hb7:=below_call hb hb6
     have HX7:=hideW (HX.out.below (below_undrew hb6))
     have Ht:=hideW ht6
     clear ht6 hb6 z3 z5 z6 y0 y1 y2 y3 y4 y5 q3 q5 q6 HX
     cases t6
     ·have Hn:=hideW (show ¬BornOf W (W.pn+k)from fun hA=>absurd (Ht.out.2 hA) (by simp))
      clear Ht
      go_wp2
      go_ret
      exact⟨BoolIs.no fun hA=>Hn.out (hA _ (by unfold memN; omega)),hb7⟩
     ·have Hn:=hideW (Ht.out.1 rfl)
      clear Ht
      go_wp2
      go_roundw
      case rel=>
       refine⟨k+1,by omega,by go_num,fun j hj=>?_,HX7.out,hb7⟩
       by_cases e:j=W.pn+k
       ·subst e; exact Hn.out
       ·exact Hall.out j (by omega)
      case measure=>simp [intOf]; omega
    ·obtain rfl:k=W.sn:=by omega
     go_wp2
     go_ret
     exact⟨BoolIs.yes Hall.out,hb⟩
end Go.Proofs.YtmgeglgboadfiaaGreatDoor

namespace Go.Proofs.YtmgeglgboadfiaaGreatDoor
open Go Go.RowKit
set_option linter.unusedVariables false
def BoolsC(w:World)(R n:Nat)(f:Nat→Bool):Prop:=∀i,i<n→Cell w R i (.bool (f i))
theorem BoolsC.below{w w':World}{R n:Nat}{f:Nat→Bool}(h:BoolsC w R n f)(t:Below w.heap.size w w'):BoolsC w' R n f:=fun i hi=>(h i hi).below t
theorem BoolsC.put{w:World}{R n:Nat}{f:Nat→Bool}(h:BoolsC w R n f){k:Nat}(c:Bool):BoolsC (w.setCell ⟨R,k,none⟩ (.bool c)) R n (fun i=>if i=k then c else f i):=fun i hi=>by
 by_cases e:i=k
 ·subst e
  show Cell _ R i (.bool (if i=i then c else f i))
  rw [if_pos rfl]
  exact(h i hi).set _
 ·show Cell _ R i (.bool (if i=k then c else f i))
  rw [if_neg e]
  exact(h i hi).other _ (Or.inr (fun h=>e h.symm))
theorem made_at(z:Value)(n:Nat){i:Nat}(hi:i<n):(madeCells #[z] n)[i]?=some z:=by
 simp [madeCells,hi,Nat.mod_one]
theorem BoolsC.new(w:World)(n:Nat)(t:TypeId):BoolsC (w.alloc (.cells (madeCells #[.bool false] n) t)) w.heap.size n (fun _=>false):=fun i hi=>by
 have hb:(w.alloc (.cells (madeCells #[Value.bool false] n) t)).heap[w.heap.size]?=some (.cells (madeCells #[.bool false] n) t):=heap_alloc_new _ _
 exact cell_of_block hb (made_at _ _ hi)
theorem boolInfo:(Tryz.prog.info? 4).map (fun i=>(i.zero,i.size,i.bytes))=some (some (.bool false),1,1):=by kernel_rfl
theorem run_make_bools(n:Nat)(hn:n≤1000)(w:World):(Instr.makeSlice 123 (.int .i64 (n:Int)) (.int .i64 (n:Int))).run Tryz.prog w = .ok (.slice (some ⟨w.heap.size,0,none⟩) n n) (w.alloc (.cells (madeCells #[.bool false] n) 4)):=
 run_make_row' 123 4 (.bool false) 1 (by kernel_rfl) boolInfo rfl .i64 .i64 n (by omega) (by omega) w
end Go.Proofs.YtmgeglgboadfiaaGreatDoor

namespace Go.Proofs.YtmgeglgboadfiaaGreatDoor
open Go.RowKit Go.Maps
set_option linter.unusedVariables false
def InSome(W:WorldD)(s:Nat):Prop:=∃m,m<memN W∧∃b,((s:Int),b)∈treeM W (memOf W m)
def rootA(W:WorldD)(i:Nat):Int×Int:=if i<W.sn then((W.sets i).rs,(W.sets i).rb)else((W.snaps (i - W.sn)).rs,(W.snaps (i - W.sn)).rb)
def rootsL(W:WorldD)(n:Nat):List (Int×Int):=(List.range n).map (rootA W)
theorem rootsL_len(W:WorldD)(n:Nat):(rootsL W n).length=n:=by simp [rootsL]
theorem rootsL_succ(W:WorldD)(n:Nat):rootsL W (n+1)=rootsL W n ++ [rootA W n]:=by simp [rootsL,List.range_succ]
theorem rootA_set{W:WorldD}{i:Nat}(h:i<W.sn):rootA W i=((W.sets i).rs,(W.sets i).rb):=if_pos h
theorem rootA_snap(W:WorldD)(i:Nat):rootA W (W.sn+i)=((W.snaps i).rs,(W.snaps i).rb):=by
 unfold rootA
 rw [if_neg (by omega),show W.sn+i - W.sn=i by omega]
theorem rootsL_at{W:WorldD}{n i:Nat}(h:i<n):fstL (rootsL W n) i=(rootA W i).1∧sndL (rootsL W n) i=(rootA W i).2:=by
 unfold fstL sndL
 rw [getD_lt (by rw [rootsL_len]; exact h)]
 simp [rootsL]
theorem rootA_ok{W:WorldD}(hT:Trees W){i:Nat}(hi:i<W.sn+W.pn):TreeOk W.pool (rootA W i).1 (rootA W i).2:=by
 by_cases h:i<W.sn
 ·rw [rootA_set h]; exact hT.set h
 ·have:=rootA_snap W (i - W.sn)
  rw [show W.sn+(i - W.sn)=i by omega] at this
  rw [this]
  exact hT.snap (by omega)
theorem inSome_iff{W:WorldD}{s:Nat}:InSome W s↔∃i,i<W.sn+W.pn∧∃b,((s:Int),b)∈treeL W.pool (rootA W i).1 (rootA W i).2:=by
 unfold InSome memN treeM
 constructor
 ·rintro⟨m,hm,b,h⟩
  by_cases hp:m<W.pn
  ·rw [memOf_snap hp] at h
   exact⟨W.sn+m,by omega,b,by rw [rootA_snap]; exact h⟩
  ·have e:=memOf_set W (m - W.pn)
   rw [show W.pn+(m - W.pn)=m by omega] at e
   rw [e] at h
   exact⟨m - W.pn,by omega,b,by rw [rootA_set (by omega)]; exact h⟩
 ·rintro⟨i,hi,b,h⟩
  by_cases hs:i<W.sn
  ·rw [rootA_set hs] at h
   exact⟨W.pn+i,by omega,b,by rw [memOf_set]; exact h⟩
  ·have e:=rootA_snap W (i - W.sn)
   rw [show W.sn+(i - W.sn)=i by omega] at e
   rw [e] at h
   exact⟨i - W.sn,by omega,b,by rw [memOf_snap (by omega)]; exact h⟩
def MarkN(W:WorldD)(k:Nat)(l:List (Int×Int))(j s:Nat):Prop:=(∃i,i<k∧∃b,((s:Int),b)∈treeL W.pool (rootA W i).1 (rootA W i).2)∨∃q,q<j∧fstL l q=(s:Int)
def MarksN(W:WorldD)(k:Nat)(l:List (Int×Int))(j:Nat)(f:Nat→Bool):Prop:=∀s,f s=true↔MarkN W k l j s
theorem marks_next{W:WorldD}{k j s:Nat}{l:List (Int×Int)}{f:Nat→Bool}(h:MarksN W k l j f)(hs:fstL l j=(s:Int)):MarksN W k l (j+1) (fun i=>if i=s then true else f i):=by
 intro i
 show(if i=s then true else f i)=true↔_
 by_cases e:i=s
 ·subst e
  rw [if_pos rfl]
  exact⟨fun _=>Or.inr ⟨j,by omega,hs⟩,fun _=>rfl⟩
 ·rw [if_neg e,h i]
  constructor
  ·rintro(h | ⟨q,hq,h⟩)
   ·exact Or.inl h
   ·exact Or.inr ⟨q,by omega,h⟩
  ·rintro(h | ⟨q,hq,h⟩)
   ·exact Or.inl h
   ·by_cases eq:q=j
    ·subst eq; exact absurd (by omega) e
    ·exact Or.inr ⟨q,by omega,h⟩
theorem marks_tree{W:WorldD}{k:Nat}{l:List (Int×Int)}{f:Nat→Bool}(h:MarksN W k l l.length f)(hl:l=treeL W.pool (rootA W k).1 (rootA W k).2):MarksN W (k+1) [] 0 f:=by
 intro s
 rw [h s]
 constructor
 ·rintro(⟨i,hi,h⟩ | ⟨q,hq,e⟩)
  ·exact Or.inl ⟨i,by omega,h⟩
  ·refine Or.inl ⟨k,by omega,(l[q]).2,?_⟩
   unfold fstL at e
   rw [getD_lt hq] at e
   rw [←hl,←e]
   exact List.getElem_mem hq
 ·rintro(⟨i,hi,b,h2⟩ | ⟨q,hq,e⟩)
  ·by_cases e:i=k
   ·subst e
    rw [←hl] at h2
    obtain⟨q,hq,e⟩:=List.getElem_of_mem h2
    exact Or.inr ⟨q,hq,by unfold fstL; rw [getD_lt hq,e]⟩
   ·exact Or.inl ⟨i,by omega,b,h2⟩
  ·omega
theorem marks_start{W:WorldD}{k:Nat}{f:Nat→Bool}(h:MarksN W k [] 0 f)(l:List (Int×Int)):MarksN W k l 0 f:=by
 intro s
 rw [h s]
 constructor
 ·rintro(h | ⟨q,hq,_⟩)
  ·exact Or.inl h
  ·omega
 ·rintro(h | ⟨q,hq,_⟩)
  ·exact Or.inl h
  ·omega
theorem slot_nat{p:PoolD}{rs rb:Int}(hR:Right p)(hT:TreeOk p rs rb){j:Nat}(hj:j<(treeL p rs rb).length):∃s:Nat,fstL (treeL p rs rb) j=(s:Int)∧s<p.n:=by
 unfold fstL
 rw [getD_lt hj]
 have:=(tree_mem hR hT (List.getElem_mem hj)).1
 obtain⟨_,h0,h1,_⟩:=this
 exact⟨((treeL p rs rb)[j]).1.toNat,by omega,by omega⟩
theorem Box6.grown{w w1:World}{b:Nat}{v0 v1 v2 v3 v4 v5:Value}{row:Option Nat}(h:Box6 w b v0 v1 v2 v3 v4 v5)(hg:w.grownBy w1 row)(hne:∀q,row=some q→b≠q):Box6 w1 b v0 v1 v2 v3 v4 v5:=by
 have hb:b<w.heap.size:=h.1.lt
 refine h.turned (S:=fun k=>row=some k) ⟨hg.os,hg.tape,hg.output,hg.size,fun k hk hs=>hg.block k hk (fun e=>hs e.symm)⟩ (fun e=>hne b e rfl)
theorem BoolsC.grown{w w1:World}{R n:Nat}{f:Nat→Bool}{row:Option Nat}(h:BoolsC w R n f)(hg:w.grownBy w1 row)(hne:∀q,row=some q→R≠q):BoolsC w1 R n f:=fun i hi=>
 (h i hi).turned (S:=fun k=>row=some k) ⟨hg.os,hg.tape,hg.output,hg.size,fun k hk hs=>hg.block k hk (fun e=>hs e.symm)⟩ (fun e=>hne R e rfl)
end Go.Proofs.YtmgeglgboadfiaaGreatDoor
