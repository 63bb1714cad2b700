/- What impl.prevsRight answers. -/
import Derived.Test.YtmgeglgboadfiaaGreatDoorP13
import Derived.Deep.RegionHeld3
import Derived.Test.YtmgeglgboadfiaaGreatDoorP7
import Derived.Test.YtmgeglgboadfiaaGreatDoorP3
import Derived.Test.YtmgeglgboadfiaaGreatDoorP6
import Derived.Test.YtmgeglgboadfiaaGreatDoorP10
namespace Go.Proofs.YtmgeglgboadfiaaGreatDoor
open Go.RowKit Go.Maps
set_option linter.unusedVariables false
def Box5M(w:World)(b:Nat)(v0 v1 v2 v3 v4:Value):Prop:=Cell w b 0 v0∧Cell w b 1 v1∧Cell w b 2 v2∧Cell w b 3 v3∧Cell w b 4 v4
theorem Box5M.below{w w':World}{b:Nat}{v0 v1 v2 v3 v4:Value}(h:Box5M w b v0 v1 v2 v3 v4)(t:Below w.heap.size w w'):Box5M w' b v0 v1 v2 v3 v4:=⟨h.1.below t,h.2.1.below t,h.2.2.1.below t,h.2.2.2.1.below t,h.2.2.2.2.below t⟩
theorem Box5M.new(w:World)(v0 v1 v2 v3 v4:Value)(t:TypeId):Box5M (w.alloc (.cells #[v0,v1,v2,v3,v4] t)) w.heap.size v0 v1 v2 v3 v4:=by
 have hb:(w.alloc (.cells #[v0,v1,v2,v3,v4] t)).heap[w.heap.size]?=some (.cells #[v0,v1,v2,v3,v4] t):=heap_alloc_new _ _
 exact⟨cell_of_block hb rfl,cell_of_block hb rfl,cell_of_block hb rfl,cell_of_block hb rfl,cell_of_block hb rfl⟩
def PrevsWf(W:WorldD):Prop:=∀i,i<memN W→(Lit.int .i64 (memOf W i).prev).wf=true
def PrevI(W:WorldD)(i:Nat):Prop:=(aheadOf W (memOf W i).prev).id=(memOf W i).prev
theorem field_snap(v:Value)(s:SnapD)(w:World):(Instr.field 99 (snapV v s) 0).run Tryz.prog w = .ok (.int .i64 s.id) w∧(Instr.field 99 (snapV v s) 2).run Tryz.prog w = .ok (.string s.set) w∧(Instr.field 99 (snapV v s) 3).run Tryz.prog w = .ok (.int .i64 s.prev) w∧(Instr.field 99 (snapV v s) 4).run Tryz.prog w = .ok (.int .i64 s.time) w:=by
 refine⟨?_,?_,?_,?_⟩ <;> kernel_rfl
set_option maxRecDepth 20000 in
set_option maxHeartbeats 2000000 in
theorem prevsRight_any(v0 v1 v2 v3:Value)(lo hi:Nat)(W:WorldD)(A:Nat)(w:World)(h:WorldAt w lo hi v0 v1 v2 v3 W)(hs:W.sn≤8)(hp:W.pn≤20)(hA:AheadFn w lo hi W A)(hD:IdsDist W)(hwf:PrevsWf W) :
  Calls Tryz.prog 205 #[worldV v0 v1 v2 v3 W,aheadV A] w fun e w'=>BoolIs (∀i,i<memN W→PrevI W i) e∧Below w.heap.size w w':=by
 have Hp:=hideW h
 have HA:=hideW hA
 have HD:=hideW hD
 have Hwf:=hideW hwf
 clear h hA hD hwf
 have ha:=below_alloc w (.cells #[v0,v1,.int .i64 W.time,.int .i64 W.next,v2,v3] 37)
 obtain⟨⟨x0,-⟩,⟨x2,-⟩,⟨x4,-⟩,⟨x6,-⟩,⟨x8,-⟩,⟨x10,-⟩⟩:=Box6.new w v0 v1 (.int .i64 W.time) (.int .i64 W.next) v2 v3 37
 go_enter Tryz.func205,Tryz.ntmps205
 go_wp2_with fail
 clear x0 x2 x4 x6 x8 x10
 generalize w.alloc (.cells #[v0,v1,.int .i64 W.time,.int .i64 W.next,v2,v3] 37)=W0 at ha ⊢
 refine(membersOf_any v0 v1 v2 v3 lo hi W W0 (Hp.out.below ha) hs hp).mono ?_
 rintro e w1 ⟨vm,vd,rfl,hm,hb1⟩
 have HM:=hideW hm
 have hB1:=below_next ha hb1
 obtain⟨am,cm,rfl,hcm⟩:=id hm.form
 have hmn:memN W≤28:=by unfold memN; omega
 clear ha hb1 hm
 go_wp2
 go_loopw [10] (fun i wr=>∃k:Nat,k≤memN W∧i = .int .i64 k∧(∀j,j<k→PrevI W j)∧Below w1.heap.size w1 wr) (fun i _=>memN W - (intOf i).toNat)
 case atStart=>exact⟨0,Nat.zero_le _,rfl,fun j hj=>absurd hj (Nat.not_lt_zero _),Below.refl _ _⟩
 case round=>
  obtain⟨k,hk,rfl,hall,hb⟩:=hrel
  have Hall:=hideW hall
  clear hall
  by_cases hlt:k<memN W
  rotate_left
  ·obtain rfl:k=memN W:=by omega
   go_wp2
   go_ret
   exact⟨BoolIs.yes Hall.out,below_next hB1 hb⟩
  have hlt':(k:Int)<(memN W:Int):=by omega
  obtain⟨g,cg,e,q0,q1,q2,q3,q4⟩:=(HM.out.below hb).cells k hlt
  obtain⟨-,ad,cd,hvk,-,-⟩:=id ((HM.out.below hb).dead k hlt)
  rw [hvk] at q4
  cases e
  have hbs:=below_alloc wr (.cells #[.int .i64 (memOf W k).prev,.int .i64 (memOf W k).time,.int .i64 (memOf W k).rs,.int .i64 (memOf W k).rb,.slice ad (memOf W k).dn cd] 224)
  have HV:=hideW (Box5M.new wr (.int .i64 (memOf W k).prev) (.int .i64 (memOf W k).time) (.int .i64 (memOf W k).rs) (.int .i64 (memOf W k).rb) (.slice ad (memOf W k).dn cd) 224)
  have HA2:=hideW (HA.out.below (below_next hB1 (below_next hb hbs)))
  have hb2:=below_next hb hbs
  have Hwk:=hideW (Hwf.out k hlt)
  have Hpk:=hideW (show PrevI W k↔(aheadOf W (memOf W k).prev).id=(memOf W k).prev from Iff.rfl)
  clear hvk hbs
  generalize memOf W k=m at *
  go_wp2_with fail
  clear q0 q1 q2 q3 q4
  generalize wr.alloc (.cells #[.int .i64 m.prev,.int .i64 m.time,.int .i64 m.rs,.int .i64 m.rb,.slice ad m.dn cd] 224)=W2 at HV HA2 hb2 ⊢
  generalize wr.heap.size=V at HV ⊢
  obtain⟨⟨y0,-⟩,-⟩:=HV.out
  go_region_held3 (fun w'=>w'.cell? ⟨V,0,none⟩=some (.int .i64 m.prev)) (go_keep)
   (first | (go_at_call 190; refine(ahead_any lo hi W A m.prev _ ?_ HD.out Hwk.out hp).mono ?_; (exact HA2.out.below (Below.refl _ _).drew); rintro e w6 ⟨aa,ca,rfl,hpd,hb6⟩; have hfs:=fun w=>(field_snap (.slice aa (aheadOf W m.prev).dn ca) (aheadOf W m.prev) w).1; obtain⟨⟨z0,_⟩,_⟩:=HV.out.below (below_undrew hb6)))
  have hb7:=below_call hb2 hb6
  clear hb6 hpd hfs z0 y0 HA2
  by_cases he:(aheadOf W m.prev).id=m.prev
  ·have hd:((aheadOf W m.prev).id != m.prev)=false:=by simp [he]
   have He:=hideW (Hpk.out.2 he)
   clear he
   go_wp2
   go_roundw
   case rel=>exact⟨k+1,by omega,by go_num,relNext hlt Hall.out He.out,hb7⟩
   case measure=>simp [intOf]; omega
  ·have hd:((aheadOf W m.prev).id != m.prev)=true:=by simp [he]
   have He:=hideW (fun h=>he (Hpk.out.1 h))
   clear he
   go_wp2
   go_ret
   exact⟨BoolIs.no fun h=>He.out (h k hlt),below_next hB1 hb7⟩
set_option maxRecDepth 20000 in
set_option maxHeartbeats 1000000 in
theorem indexP_any(v:Value)(n lo hi:Nat)(f g:Nat→Int)(x y:Int)(w:World)(h1:PtrsAt w lo hi v n f g) :
  Calls Tryz.prog 228 #[v,.agg #[.int .i64 x,.int .i64 y]] w fun e w'=>∃r:Int,e = .returned (.int .i64 r)∧(0≤r↔PIn n f g x y)∧Below w.heap.size w w':=by
 have Hp:=hideW h1
 obtain⟨m1,a,c,rfl,mc,-⟩:=id h1
 unfold maxLen at m1
 clear h1
 have ha:=below_alloc w (.cells #[.int .i64 x,.int .i64 y] 61)
 have HB:=hideW (Box2.new w (.int .i64 x) (.int .i64 y) 61)
 go_enter Tryz.func228,Tryz.ntmps228
 go_wp2
 go_loopw [8] (fun i wr=>∃k:Nat,k≤n∧i = .int .i64 k∧¬PIn k f g x y∧Box2 wr w.heap.size (.int .i64 x) (.int .i64 y)∧Below w.heap.size w wr) (fun i _=>n - (intOf i).toNat)
 case atStart=>exact⟨0,Nat.zero_le _,rfl,fun ⟨j,hj,_⟩=>absurd hj (Nat.not_lt_zero _),HB.out,ha⟩
 case round=>
  obtain⟨k,hk,rfl,hno,hX,hb⟩:=hrel
  have Hno:=hideW hno
  have HX:=hideW hX
  clear hno hX
  obtain⟨⟨x0,x1⟩,⟨x2,x3⟩⟩:=HX.out
  by_cases hlt:k<n
  ·have hlt':(k:Int)<(n:Int):=by omega
   obtain⟨b,off,rfl,q0,q1⟩:=(Hp.out.below hb).cellsD hlt
   by_cases he:f k=x∧g k=y
   ·have H:=hideW (show PIn n f g x y from⟨k,hlt,he.1,he.2⟩)
    rw [he.1] at q0
    rw [he.2] at q1
    clear he
    go_wp2
    go_quiet (fail)
    go_wp2
    go_ret
    exact⟨k,rfl,⟨fun _=>H.out,fun _=>by omega⟩,below_drewN hb _⟩
   ·have H:=hideW he
    have e0:(x == f k)=false∨(x == f k)=true∧(y == g k)=false:=by
     by_cases h:f k=x
     ·right
      refine⟨by simp [h],?_⟩
      have:¬y=g k:=fun h'=>he ⟨h,h'.symm⟩
      simp [this]
     ·left
      have:¬x=f k:=fun h'=>h h'.symm
      simp [this]
    clear he
    rcases e0 with e0 | ⟨e0,e1⟩
    all_goals
     go_wp2
     go_quiet (fail)
     go_wp2
     go_roundw
     case rel=>
      refine⟨k+1,by omega,by go_num,?_,HX.out.below (below_drewN (Below.refl _ _) _),below_drewN hb _⟩
      rintro⟨j,hj,hjx⟩
      by_cases e:j=k
      ·subst e; exact H.out ⟨hjx.1,hjx.2⟩
      ·exact Hno.out ⟨j,by omega,hjx⟩
     case measure=>simp [intOf]; omega
  ·obtain rfl:k=n:=by omega
   go_wp2
   go_ret
   exact⟨-1,rfl,⟨fun h=>absurd h (by decide),fun h=>absurd h Hno.out⟩,hb⟩
set_option maxRecDepth 20000 in
set_option maxHeartbeats 1000000 in
theorem containsP_any(v:Value)(n lo hi:Nat)(f g:Nat→Int)(x y:Int)(w:World)(h1:PtrsAt w lo hi v n f g) :
  Calls Tryz.prog 220 #[v,.agg #[.int .i64 x,.int .i64 y]] w fun e w'=>BoolIs (PIn n f g x y) e∧Below w.heap.size w w':=by
 have Hp:=hideW h1
 clear h1
 have ha:=below_alloc w (.cells #[.int .i64 x,.int .i64 y] 61)
 obtain⟨⟨x0,-⟩,⟨x2,-⟩⟩:=Box2.new w (.int .i64 x) (.int .i64 y) 61
 go_enter Tryz.func220,Tryz.ntmps220
 go_wp2_with fail
 refine(indexP_any v n lo hi f g x y _ (Hp.out.below ha)).mono ?_
 rintro e w1 ⟨r,rfl,hr,hb1⟩
 have Hr:=hideW hr
 have hB:=below_next ha hb1
 clear hr hb1 x0 x2 ha
 go_wp2
 go_ret
 refine⟨⟨_,rfl,?_⟩,hB⟩
 have:=Hr.out
 simp only [decide_eq_true_eq]
 exact this
set_option maxRecDepth 20000 in
set_option maxHeartbeats 1000000 in
theorem inAhead_any(v:Value)(n lo hi:Nat)(f g:Nat→Int)(x y:Int)(T:Nat)(w:World)(h1:PtrsAt w lo hi v n f g)(hT:w.cell? ⟨T,0,none⟩=some v) :
  Calls Tryz.prog 231 #[.agg #[.int .i64 x,.int .i64 y],.pointer (some ⟨T,0,none⟩)] w fun e w'=>BoolIs (PIn n f g x y) e∧Below w.heap.size w w':=by
 have Hp:=hideW h1
 obtain⟨m1,a,c,rfl,mc,-⟩:=id h1
 clear h1
 have ha:=below_alloc w (.cells #[.int .i64 x,.int .i64 y] 61)
 obtain⟨⟨x0,-⟩,⟨x2,-⟩⟩:=Box2.new w (.int .i64 x) (.int .i64 y) 61
 have hT2:=(ha.cell (p:=⟨T,0,none⟩) (lt_of_cell hT)).trans hT
 clear hT
 go_enter Tryz.func231,Tryz.ntmps231
 go_wp2_with fail
 refine(containsP_any _ n lo hi f g x y _ (Hp.out.below ha)).mono ?_
 rintro e w1 ⟨⟨t1,rfl,ht1⟩,hb1⟩
 have Ht:=hideW ht1
 have hB:=below_next ha hb1
 clear ht1 hb1 x0 x2 ha hT2
 go_wp2
 go_ret
 exact⟨⟨_,rfl,Ht.out⟩,hB⟩
set_option maxRecDepth 20000 in
set_option maxHeartbeats 1000000 in
theorem inKept_any(v:Value)(n lo hi:Nat)(f g:Nat→Int)(x y:Int)(T:Nat)(w:World)(h1:PtrsAt w lo hi v n f g)(hT:w.cell? ⟨T,0,none⟩=some v) :
  Calls Tryz.prog 232 #[.agg #[.int .i64 x,.int .i64 y],.pointer (some ⟨T,0,none⟩)] w fun e w'=>BoolIs (PIn n f g x y) e∧Below w.heap.size w w':=by
 have Hp:=hideW h1
 obtain⟨m1,a,c,rfl,mc,-⟩:=id h1
 clear h1
 have ha:=below_alloc w (.cells #[.int .i64 x,.int .i64 y] 61)
 obtain⟨⟨x0,-⟩,⟨x2,-⟩⟩:=Box2.new w (.int .i64 x) (.int .i64 y) 61
 have hT2:=(ha.cell (p:=⟨T,0,none⟩) (lt_of_cell hT)).trans hT
 clear hT
 go_enter Tryz.func232,Tryz.ntmps232
 go_wp2_with fail
 refine(containsP_any _ n lo hi f g x y _ (Hp.out.below ha)).mono ?_
 rintro e w1 ⟨⟨t1,rfl,ht1⟩,hb1⟩
 have Ht:=hideW ht1
 have hB:=below_next ha hb1
 clear ht1 hb1 x0 x2 ha hT2
 go_wp2
 go_ret
 exact⟨⟨_,rfl,Ht.out⟩,hB⟩
set_option maxRecDepth 20000 in
set_option maxHeartbeats 1000000 in
theorem ptrsOf_any(v0 v1 v2 v3:Value)(lo hi:Nat)(W:WorldD)(xs xb:Int)(w:World)(h:WorldAt w lo hi v0 v1 v2 v3 W)(hR:Right W.pool)(hT:TreeOk W.pool xs xb) :
  Calls Tryz.prog 226 #[worldV v0 v1 v2 v3 W,.agg #[.int .i64 xs,.int .i64 xb]] w fun e w'=>∃v,e = .returned v∧RowL w' w.heap.size v (treeL W.pool xs xb)∧Below w.heap.size w w':=by
 have Hp:=hideW h
 have HR:=hideW hR
 have HT:=hideW (show Nil xs xb∨Points W.pool xs xb from hT.imp id (fun h=>h.1.1))
 obtain⟨m0,a0,c0,rfl,mc0,-⟩:=id h.pool.1
 clear h hR hT
 have ha:=below_alloc w (.cells #[.slice a0 W.pool.n c0,v1,.int .i64 W.time,.int .i64 W.next,v2,v3] 37)
 have hB:=Box6.new w (.slice a0 W.pool.n c0) v1 (.int .i64 W.time) (.int .i64 W.next) v2 v3 37
 have hz:(w.alloc (.cells #[.slice a0 W.pool.n c0,v1,.int .i64 W.time,.int .i64 W.next,v2,v3] 37)).heap.size=w.heap.size+1:=World.size_alloc _ _
 have ha2:=below_alloc (w.alloc (.cells #[.slice a0 W.pool.n c0,v1,.int .i64 W.time,.int .i64 W.next,v2,v3] 37)) (.cells #[.int .i64 xs,.int .i64 xb] 61)
 have hX:=Box2.new (w.alloc (.cells #[.slice a0 W.pool.n c0,v1,.int .i64 W.time,.int .i64 W.next,v2,v3] 37)) (.int .i64 xs) (.int .i64 xb) 61
 rw [hz] at hX
 have hb2:=below_next ha ha2
 obtain⟨⟨x0,-⟩,⟨x2,-⟩,-⟩:=hB.below ha2
 obtain⟨⟨y0,-⟩,⟨y2,-⟩⟩:=hX
 clear hB ha ha2
 go_enter Tryz.func226,Tryz.ntmps226
 go_wp2_with fail
 clear x0 x2 y0 y2
 generalize (w.alloc (.cells #[.slice a0 W.pool.n c0,v1,.int .i64 W.time,.int .i64 W.next,v2,v3] 37)).alloc (.cells #[.int .i64 xs,.int .i64 xb] 61)=W0 at hb2 ⊢
 refine(ptrs0_any W.pool HR.out _ lo hi xs xb W0 (Hp.out.pool.1.below hb2) HT.out).mono ?_
 rintro e w1 ⟨v,rfl,hr,hb1⟩
 have Hr:=hideW hr
 have hB:=below_next hb2 hb1
 have hsz:=hb2.size
 clear hr hb1
 go_wp2
 go_ret
 exact⟨v,rfl,RowL.mono Hr.out hsz,hB⟩
set_option maxRecDepth 20000 in
set_option maxHeartbeats 400000 in
theorem timeRight_any(n:Int)(w:World):Calls Tryz.prog 187 #[.int .i64 n] w fun e w'=>BoolIs (TimeOk n) e∧w'=w:=by
 by_cases h1:0≤n
 ·by_cases h2:n≤1000000
  ·go_enter Tryz.func187,Tryz.ntmps187
   go_wp2
   go_ret
   exact⟨BoolIs.yes ⟨h1,h2⟩,rfl⟩
  ·go_enter Tryz.func187,Tryz.ntmps187
   go_wp2
   go_ret
   exact⟨BoolIs.no fun h=>by have:=h.2; omega,rfl⟩
 ·go_enter Tryz.func187,Tryz.ntmps187
  go_wp2
  go_ret
  exact⟨BoolIs.no fun h=>by have:=h.1; omega,rfl⟩
set_option maxRecDepth 20000 in
set_option maxHeartbeats 400000 in
theorem behind_any(x y t:Int)(T:Nat)(w:World)(hT:w.cell? ⟨T,0,none⟩=some (.int .i64 t)):Calls Tryz.prog 189 #[.agg #[.int .i64 x,.int .i64 y],.pointer (some ⟨T,0,none⟩)] w fun e w'=>BoolIs (t<y) e∧Below w.heap.size w w':=by
 have hbw:=below_alloc w (.cells #[.int .i64 x,.int .i64 y] 61)
 have hT2:=(hbw.cell (p:=⟨T,0,none⟩) (lt_of_cell hT)).trans hT
 by_cases h:t<y
 ·go_enter Tryz.func189,Tryz.ntmps189
  go_wp2
  go_ret
  exact⟨⟨_,rfl,by simpa using h⟩,hbw⟩
 ·go_enter Tryz.func189,Tryz.ntmps189
  go_wp2
  go_ret
  exact⟨⟨_,rfl,by simpa using h⟩,hbw⟩
def NewTwo(l l':List (Int×Int))(w w':World)(v v':Value):Prop:=RowL w' w.heap.size v l∧RowL w' w.heap.size v' l'∧(∀q,v.ownBlock=some q→v'.ownBlock≠some q)∧Below w.heap.size w w'
theorem two_next{w1 w2:World}{base g cap:Nat}{v v':Value}{l l':List (Int×Int)}{x y:Int}(h':RowL w1 base v' l')(ha:∀q,v.ownBlock=some q→v'.ownBlock≠some q)
  (hown:w2.ownsRow base 61 2 (.slice (some ⟨g,0,none⟩) (l.length+1) cap) (l.length+1) (pcl l ++ [.int .i64 x,.int .i64 y])) (hg:w1.grownBy w2 v.ownBlock) (hat:v.ownBlock=some g∨g=w1.heap.size) :
  RowL w2 base (.slice (some ⟨g,0,none⟩) (l.length+1) cap) (l ++ [(x,y)])∧RowL w2 base v' l'∧(∀q,(Value.slice (some ⟨g,0,none⟩) (l.length+1) cap).ownBlock=some q→v'.ownBlock≠some q):=by
 refine⟨?_,h'.turned hg (fun q hq e=>ha q e hq),fun q hq e=>?_⟩
 ·unfold RowL
  rw [pcl_append,List.length_append]
  exact hown
 ·simp only [Value.ownBlock,Option.some.injEq] at hq
  subst hq
  rcases hat with h | h
  ·exact ha _ h e
  ·have:=(h'.lt e).2
   omega
set_option maxRecDepth 20000 in
set_option maxHeartbeats 2000000 in
theorem part_any(v:Value)(n lo hi T:Nat)(f g:Nat→Int)(t:Int)(w:World)(h1:PtrsAt w lo hi v n f g)(hn:n≤200)(hT:w.cell? ⟨T,0,none⟩=some (.int .i64 t)) :
  Calls Tryz.prog 188 #[v,.func (.func 189) #[] #[.pointer (some ⟨T,0,none⟩)]] w fun e w'=>∃vy vo,e = .returned (.tuple #[vy,vo])∧NewTwo (youngL f g t n) (oldL f g t n) w w' vy vo:=by
 have Hp:=hideD h1
 have HT:=hideD hT
 obtain⟨m1,a,c,rfl,mc,_⟩:=id h1
 clear h1 hT
 obtain⟨i0,hi0,hzz⟩:=Option.map_eq_some_iff.1 infoPtrL
 simp only [Prod.mk.injEq] at hzz
 have HI:=hideD (And.intro hi0 hzz)
 clear hi0 hzz
 go_enter Tryz.func188,Tryz.ntmps188
 go_wp2
 go_loopw [6,7,12] (fun vy vo i wr=>∃k:Nat,k≤n∧i = .int .i64 k∧NewTwo (youngL f g t k) (oldL f g t k) w wr vy vo) (fun _ _ i _=>n - (intOf i).toNat)
 case atStart=>exact⟨0,Nat.zero_le _,rfl,RowL.nil _ _,RowL.nil _ _,fun q hq=>by simp [Value.ownBlock] at hq,Below.refl _ _⟩
 case round=>
  obtain⟨k,hk,rfl,hy,ho,hap,hb⟩:=hrel
  have Hy:=hideD hy
  have Ho:=hideD ho
  have Hap:=hideD hap
  have hlen:=young_len f g t k
  clear hy ho hap
  by_cases hlt:k<n
  ·have hlt':(k:Int)<(n:Int):=by omega
   obtain⟨b,off,rfl,q0,q1⟩:=(Hp.out.below hb).cellsD hlt
   have hal:=below_alloc wr (.cells #[.int .i64 (f k),.int .i64 (g k)] 61)
   have HV:=hideD (Box2.new wr (.int .i64 (f k)) (.int .i64 (g k)) 61)
   have hB1:=below_next hb hal
   have HT1:=hideD ((hB1.cell (p:=⟨T,0,none⟩) (lt_of_cell HT.out)).trans HT.out)
   have hmf:∀(fn:Fn) (first cap:Array Value) (w:World),(Instr.makeFunc fn first cap).run Tryz.prog w = .ok (.func fn first cap) w:=fun _ _ _ _=>rfl
   go_wp2_with fail
   refine(behind_any (f k) (g k) t T _ HT1.out).mono ?_
   rintro e w1 ⟨⟨s,rfl,hs⟩,hb1⟩
   have Hy1:=hideD ((Hy.out.below hal).below hb1)
   have Ho1:=hideD ((Ho.out.below hal).below hb1)
   have HV1:=hideD (HV.out.below hb1)
   have hB2:=below_next hB1 hb1
   clear hb1 hB1 hal Hy Ho HV q0 q1 HT1
   have hz2:=hB2.size
   obtain⟨⟨x0,x1⟩,⟨x2,x3⟩⟩:=HV1.out
   have hba:=below_alloc w1 (.cells #[.int .i64 (f k),.int .i64 (g k)] 61)
   have Hy2:=hideD (Hy1.out.below hba)
   have Ho2:=hideD (Ho1.out.below hba)
   have hB3:=below_next hB2 hba
   have hz3:(w1.alloc (.cells #[.int .i64 (f k),.int .i64 (g k)] 61)).heap.size=w1.heap.size+1:=World.size_alloc _ _
   have HN:=hideD (World.news_of_block (heap_alloc_last w1 (.cells #[.int .i64 (f k),.int .i64 (g k)] 61)))
   clear hba
   by_cases hq:t<g k
   ·obtain rfl:s=true:=hs.2 hq
    have ey:youngL f g t (k+1)=youngL f g t k ++ [(f k,g k)]:=if_pos hq
    have eo:oldL f g t (k+1)=oldL f g t k:=if_pos hq
    clear hs hq
    go_wp2_with (first
     | (at_builtin; refine wpList_append_lies _ rfl _ _ 62 rfl w.heap.size 61 i0 (.agg #[.int .i64 0,.int .i64 0]) 2 16 (by kernel_rfl) HI.out.1 HI.out.2.1 HI.out.2.2.1 HI.out.2.2.2 rfl (by decide) _ _ _ rfl Hy2.out ⟨w1.heap.size,0,none⟩ 1 1 [.int .i64 (f k),.int .i64 (g k)] rfl rfl HN.out (by simp [Value.oneCell']) (by decide) (by unfold maxLen; omega) (by omega) (by omega) _ rfl ?_; intro g' cap' w4 hown4 hgrow4 hat4 hlt4)
     | go_in)
    go_roundw
    case rel=>
     obtain⟨r1,r2,r3⟩:=two_next Ho2.out Hap.out hown4 hgrow4 hat4
     exact⟨k+1,by omega,by go_num,by rw [ey]; exact r1,by rw [eo]; exact r2,r3,hB3.grown hgrow4 hB3.size (fun q hq=>(Hy2.out.lt hq).1)⟩
    case measure=>simp [intOf]; omega
   ·obtain rfl:s=false:=bool_no hs hq
    have ey:youngL f g t (k+1)=youngL f g t k:=if_neg hq
    have eo:oldL f g t (k+1)=oldL f g t k ++ [(f k,g k)]:=if_neg hq
    clear hs hq
    go_wp2_with (first
     | (at_builtin; refine wpList_append_lies _ rfl _ _ 62 rfl w.heap.size 61 i0 (.agg #[.int .i64 0,.int .i64 0]) 2 16 (by kernel_rfl) HI.out.1 HI.out.2.1 HI.out.2.2.1 HI.out.2.2.2 rfl (by decide) _ _ _ rfl Ho2.out ⟨w1.heap.size,0,none⟩ 1 1 [.int .i64 (f k),.int .i64 (g k)] rfl rfl HN.out (by simp [Value.oneCell']) (by decide) (by unfold maxLen; omega) (by omega) (by omega) _ rfl ?_; intro g' cap' w4 hown4 hgrow4 hat4 hlt4)
     | go_in)
    go_roundw
    case rel=>
     obtain⟨r1,r2,r3⟩:=two_next Hy2.out (fun q h h'=>Hap.out q h' h) hown4 hgrow4 hat4
     exact⟨k+1,by omega,by go_num,by rw [ey]; exact r2,by rw [eo]; exact r1,fun q h h'=>r3 q h' h,hB3.grown hgrow4 hB3.size (fun q hq=>(Ho2.out.lt hq).1)⟩
    case measure=>simp [intOf]; omega
  ·obtain rfl:k=n:=by omega
   go_wp2
   go_ret2
   exact⟨_,_,rfl,Hy.out,Ho.out,Hap.out,hb⟩
def splitY(n:Nat)(f g:Nat→Int)(t:Int)(l:List (Int×Int)):Prop:=(PtrsOk n f g∧TimeOk t→l=youngL f g t n)∧(¬(PtrsOk n f g∧TimeOk t)→l = [])
def splitO(n:Nat)(f g:Nat→Int)(t:Int)(l:List (Int×Int)):Prop:=(PtrsOk n f g∧TimeOk t→l=oldL f g t n)∧(¬(PtrsOk n f g∧TimeOk t)→l = [])
def NewDead(n:Nat)(f g:Nat→Int)(t:Int)(w:World)(e:Ending)(w':World):Prop:=∃vy vo l l',e = .returned (.agg #[vy,vo])∧splitY n f g t l∧splitO n f g t l'∧NewTwo l l' w w' vy vo
theorem NewTwo.from{l l':List (Int×Int)}{w w1 w2:World}{v v':Value}(h:NewTwo l l' w1 w2 v v')(hb:Below w.heap.size w w1):NewTwo l l' w w2 v v':=by
 obtain⟨h1,h2,h3,h4⟩:=h
 exact⟨RowL.mono h1 hb.size,RowL.mono h2 hb.size,h3,below_next hb h4⟩
set_option maxRecDepth 20000 in
set_option maxHeartbeats 1000000 in
theorem implSplit_any(v:Value)(n lo hi:Nat)(f g:Nat→Int)(t:Int)(w:World)(h1:PtrsAt w lo hi v n f g) :
  Calls Tryz.prog 151 #[v,.int .i64 t] w (NewDead n f g t w):=by
 have Hp:=hideD h1
 obtain⟨m1,a,c,rfl,mc,_⟩:=id h1
 clear h1
 have hmf:∀(fn:Fn) (first cap:Array Value) (w:World),(Instr.makeFunc fn first cap).run Tryz.prog w = .ok (.func fn first cap) w:=fun _ _ _ _=>rfl
 have ha:=below_alloc w (.cells #[.int .i64 t] 2)
 have ha2:=below_alloc (w.alloc (.cells #[.int .i64 t] 2)) (.cells #[.slice none 0 0,.slice none 0 0] 201)
 have hA:=below_next ha ha2
 have HT:=hideD (show Cell ((w.alloc (.cells #[.int .i64 t] 2)).alloc (.cells #[.slice none 0 0,.slice none 0 0] 201)) w.heap.size 0 (.int .i64 t)from Cell.below ⟨by rw [World.cell?_alloc_at _ _ _ _ rfl]; rfl,World.frozen?_alloc_at _ _ _ _ rfl⟩ ha2)
 have HR:=hideD (Box2.new (w.alloc (.cells #[.int .i64 t] 2)) (.slice none 0 0) (.slice none 0 0) 201)
 rw [World.size_alloc] at HR
 clear ha ha2
 by_cases ho:PtrsOk n f g
 ·have Ho:=hideD ho
  clear ho
  by_cases hq:TimeOk t
  ·have Hq:=hideD hq
   clear hq
   go_enter Tryz.func151,Tryz.ntmps151
   go_wp2_with fail
   generalize (w.alloc (.cells #[.int .i64 t] 2)).alloc (.cells #[.slice none 0 0,.slice none 0 0] 201)=W at HT HR hA ⊢
   refine(implPtrsRight_any _ n lo hi f g _ (Hp.out.below hA)).mono ?_
   rintro e w1 ⟨⟨s,rfl,hs⟩,hb1⟩
   obtain rfl:s=true:=hs.2 Ho.out
   have HT1:=hideD (HT.out.below hb1)
   have HR1:=hideD (HR.out.below hb1)
   have hB1:=below_next hA hb1
   clear hs hb1 hA HT HR
   obtain⟨x0,x1⟩:=HT1.out
   go_wp2_with (first
    | (go_at_call 187; refine(timeRight_any t _).mono ?_; rintro e w2 ⟨⟨s,rfl,hs⟩,rfl⟩; obtain rfl:s=true:=hs.2 Hq.out; clear hs)
    | fail)
   go_wp2_with fail
   refine(part_any _ n lo hi w.heap.size f g t _ (Hp.out.below hB1) Ho.out.1 HT1.out.1).mono ?_
   rintro e w3 ⟨vy,vo,rfl,hnew⟩
   have hb3:=hnew.2.2.2
   have hfn:=owns_form hnew.1
   have hfn':=owns_form hnew.2.1
   obtain⟨ya,yc,rfl,_⟩:=hfn
   obtain⟨oa,oc,rfl,_⟩:=hfn'
   have HR3:=hideD (HR1.out.below hb3)
   have HN:=hideD hnew
   have hz2:w.heap.size+1<w2.heap.size:=HR1.out.1.lt
   have hB3:=below_next hB1 hb3
   clear hnew hb3 x0 x1 HT1 HR1
   obtain⟨⟨x0,x1⟩,⟨x2,x3⟩⟩:=HR3.out
   go_wp2
   refine bodyPost_ret (v:=.agg #[.slice ya (youngL f g t n).length yc,.slice oa (oldL f g t n).length oc]) (by simp [results,Tryz.results151,go_sem, *]) rfl ?_
   refine⟨_,_,youngL f g t n,oldL f g t n,rfl,⟨fun _=>rfl,fun h=>absurd ⟨Ho.out,Hq.out⟩ h⟩,⟨fun _=>rfl,fun h=>absurd ⟨Ho.out,Hq.out⟩ h⟩,?_,?_,HN.out.2.2.1,(hB3.setCell (by show w.heap.size≤w.heap.size+1; omega) _).setCell (by show w.heap.size≤w.heap.size+1; omega) _⟩
   ·exact(((RowL.put HN.out.1 hz2 _).put hz2 _)).mono hB1.size
   ·exact(((RowL.put HN.out.2.1 hz2 _).put hz2 _)).mono hB1.size
  ·have Hq:=hideD hq
   clear hq
   go_enter Tryz.func151,Tryz.ntmps151
   go_wp2_with fail
   generalize (w.alloc (.cells #[.int .i64 t] 2)).alloc (.cells #[.slice none 0 0,.slice none 0 0] 201)=W at HT HR hA ⊢
   refine(implPtrsRight_any _ n lo hi f g _ (Hp.out.below hA)).mono ?_
   rintro e w1 ⟨⟨s,rfl,hs⟩,hb1⟩
   obtain rfl:s=true:=hs.2 Ho.out
   have HT1:=hideD (HT.out.below hb1)
   have HR1:=hideD (HR.out.below hb1)
   have hB1:=below_next hA hb1
   clear hs hb1 hA HT HR
   obtain⟨x0,x1⟩:=HT1.out
   obtain⟨⟨y0,y1⟩,⟨y2,y3⟩⟩:=HR1.out
   go_wp2_with (first
    | (go_at_call 187; refine(timeRight_any t _).mono ?_; rintro e w2 ⟨⟨s,rfl,hs⟩,rfl⟩; obtain rfl:s=false:=bool_no hs Hq.out; clear hs)
    | fail)
   go_wp2
   refine bodyPost_ret (v:=.agg #[.slice none 0 0,.slice none 0 0]) (by simp [results,Tryz.results151,go_sem, *]) rfl ?_
   exact⟨_,_,[],[],rfl,⟨fun h=>absurd h.2 Hq.out,fun _=>rfl⟩,⟨fun h=>absurd h.2 Hq.out,fun _=>rfl⟩,RowL.nil _ _,RowL.nil _ _,fun q hq=>by simp [Value.ownBlock] at hq,(hB1.setCell (by show w.heap.size≤w.heap.size+1; omega) _).setCell (by show w.heap.size≤w.heap.size+1; omega) _⟩
 ·have Ho:=hideD ho
  clear ho
  go_enter Tryz.func151,Tryz.ntmps151
  go_wp2_with fail
  generalize (w.alloc (.cells #[.int .i64 t] 2)).alloc (.cells #[.slice none 0 0,.slice none 0 0] 201)=W at HT HR hA ⊢
  refine(implPtrsRight_any _ n lo hi f g _ (Hp.out.below hA)).mono ?_
  rintro e w1 ⟨⟨s,rfl,hs⟩,hb1⟩
  obtain rfl:s=false:=bool_no hs Ho.out
  have HR1:=hideD (HR.out.below hb1)
  have hB1:=below_next hA hb1
  clear hs hb1 hA HT HR
  obtain⟨⟨y0,y1⟩,⟨y2,y3⟩⟩:=HR1.out
  go_wp2
  refine bodyPost_ret (v:=.agg #[.slice none 0 0,.slice none 0 0]) (by simp [results,Tryz.results151,go_sem, *]) rfl ?_
  exact⟨_,_,[],[],rfl,⟨fun h=>absurd h.1 Ho.out,fun _=>rfl⟩,⟨fun h=>absurd h.1 Ho.out,fun _=>rfl⟩,RowL.nil _ _,RowL.nil _ _,fun q hq=>by simp [Value.ownBlock] at hq,(hB1.setCell (by show w.heap.size≤w.heap.size+1; omega) _).setCell (by show w.heap.size≤w.heap.size+1; omega) _⟩
theorem both_yes{l m:List (Int×Int)}{k:Nat}(hk:k<l.length)(h:(fstL l k,sndL l k)∈m):inBoth (l.take (k+1)) m=inBoth (l.take k) m ++ [(fstL l k,sndL l k)]:=by
 unfold fstL sndL at h ⊢
 rw [getD_lt hk] at h ⊢
 unfold inBoth
 rw [List.take_succ_eq_append_getElem hk,List.filter_append,List.filter_cons]
 simp only [List.filter_nil]
 rw [if_pos (by simp; exact h)]
theorem both_no{l m:List (Int×Int)}{k:Nat}(hk:k<l.length)(h:(fstL l k,sndL l k)∉m):inBoth (l.take (k+1)) m=inBoth (l.take k) m:=by
 unfold fstL sndL at h
 rw [getD_lt hk] at h
 unfold inBoth
 rw [List.take_succ_eq_append_getElem hk,List.filter_append,List.filter_cons]
 simp only [List.filter_nil]
 rw [if_neg (by simp; exact h),List.append_nil]
theorem both_len(l m:List (Int×Int))(k:Nat):(inBoth (l.take k) m).length≤k∧(lack (l.take k) m).length≤k:=by
 refine⟨?_,lack_len l m k⟩
 unfold inBoth
 exact Nat.le_trans (List.length_filter_le _ _) (by rw [List.length_take]; omega)
set_option maxRecDepth 20000 in
set_option maxHeartbeats 2000000 in
theorem partAhead_any(v v2:Value)(lo hi lo2 hi2 T:Nat)(l m:List (Int×Int))(w:World)(h1:PtrsAt w lo hi v l.length (fstL l) (sndL l))(hn:l.length≤200)(h2:PtrsAt w lo2 hi2 v2 m.length (fstL m) (sndL m))(hT:w.cell? ⟨T,0,none⟩=some v2) :
  Calls Tryz.prog 188 #[v,.func (.func 231) #[] #[.pointer (some ⟨T,0,none⟩)]] w fun e w'=>∃vy vo,e = .returned (.tuple #[vy,vo])∧NewTwo (inBoth l m) (lack l m) w w' vy vo:=by
 have Hp:=hideD h1
 have HT:=hideD hT
 have HP2:=hideD h2
 obtain⟨m1,a,c,rfl,mc,_⟩:=id h1
 clear h1 hT h2
 unfold maxLen at m1
 obtain⟨i0,hi0,hzz⟩:=Option.map_eq_some_iff.1 infoPtrL
 simp only [Prod.mk.injEq] at hzz
 have HI:=hideD (And.intro hi0 hzz)
 clear hi0 hzz
 go_enter Tryz.func188,Tryz.ntmps188
 go_wp2
 go_loopw [6,7,12] (fun vy vo i wr=>∃k:Nat,k≤l.length∧i = .int .i64 k∧NewTwo (inBoth (l.take k) m) (lack (l.take k) m) w wr vy vo) (fun _ _ i _=>l.length - (intOf i).toNat)
 case atStart=>exact⟨0,Nat.zero_le _,rfl,RowL.nil _ _,RowL.nil _ _,fun q hq=>by simp [Value.ownBlock] at hq,Below.refl _ _⟩
 case round=>
  obtain⟨k,hk,rfl,hy,ho,hap,hb⟩:=hrel
  have Hy:=hideD hy
  have Ho:=hideD ho
  have Hap:=hideD hap
  have hlen:=both_len l m k
  clear hy ho hap
  by_cases hlt:k<l.length
  ·have hlt':(k:Int)<(l.length:Int):=by omega
   obtain⟨b,off,rfl,q0,q1⟩:=(Hp.out.below hb).cellsD hlt
   have hal:=below_alloc wr (.cells #[.int .i64 (fstL l k),.int .i64 (sndL l k)] 61)
   have HV:=hideD (Box2.new wr (.int .i64 (fstL l k)) (.int .i64 (sndL l k)) 61)
   have hB1:=below_next hb hal
   have HT1:=hideD ((hB1.cell (p:=⟨T,0,none⟩) (lt_of_cell HT.out)).trans HT.out)
   have HP3:=hideD (HP2.out.below hB1)
   have hmf:∀(fn:Fn) (first cap:Array Value) (w:World),(Instr.makeFunc fn first cap).run Tryz.prog w = .ok (.func fn first cap) w:=fun _ _ _ _=>rfl
   go_wp2_with fail
   refine(inAhead_any v2 m.length lo2 hi2 (fstL m) (sndL m) (fstL l k) (sndL l k) T _ HP3.out HT1.out).mono ?_
   rintro e w1 ⟨⟨s,rfl,hs⟩,hb1⟩
   have Hy1:=hideD ((Hy.out.below hal).below hb1)
   have Ho1:=hideD ((Ho.out.below hal).below hb1)
   have HV1:=hideD (HV.out.below hb1)
   have hB2:=below_next hB1 hb1
   clear hb1 hB1 hal Hy Ho HV q0 q1 HT1 HP3
   have hz2:=hB2.size
   obtain⟨⟨x0,x1⟩,⟨x2,x3⟩⟩:=HV1.out
   have hba:=below_alloc w1 (.cells #[.int .i64 (fstL l k),.int .i64 (sndL l k)] 61)
   have Hy2:=hideD (Hy1.out.below hba)
   have Ho2:=hideD (Ho1.out.below hba)
   have hB3:=below_next hB2 hba
   have hz3:(w1.alloc (.cells #[.int .i64 (fstL l k),.int .i64 (sndL l k)] 61)).heap.size=w1.heap.size+1:=World.size_alloc _ _
   have HN:=hideD (World.news_of_block (heap_alloc_last w1 (.cells #[.int .i64 (fstL l k),.int .i64 (sndL l k)] 61)))
   clear hba
   by_cases hq:(fstL l k,sndL l k)∈m
   ·obtain rfl:s=true:=hs.2 (pin_list.2 hq)
    have ey:=hideD (both_yes hlt hq)
    have eo:=hideD (lack_no hlt hq)
    clear hs hq
    go_wp2_with (first
     | (at_builtin; refine wpList_append_lies _ rfl _ _ 62 rfl w.heap.size 61 i0 (.agg #[.int .i64 0,.int .i64 0]) 2 16 (by kernel_rfl) HI.out.1 HI.out.2.1 HI.out.2.2.1 HI.out.2.2.2 rfl (by decide) _ _ _ rfl Hy2.out ⟨w1.heap.size,0,none⟩ 1 1 [.int .i64 (fstL l k),.int .i64 (sndL l k)] rfl rfl HN.out (by simp [Value.oneCell']) (by decide) (by unfold maxLen; omega) (by omega) (by omega) _ rfl ?_; intro g' cap' w4 hown4 hgrow4 hat4 hlt4)
     | go_in)
    go_roundw
    case rel=>
     obtain⟨r1,r2,r3⟩:=two_next Ho2.out Hap.out hown4 hgrow4 hat4
     exact⟨k+1,by omega,by go_num,by rw [ey.out]; exact r1,by rw [eo.out]; exact r2,r3,hB3.grown hgrow4 hB3.size (fun q hq=>(Hy2.out.lt hq).1)⟩
    case measure=>simp [intOf]; omega
   ·obtain rfl:s=false:=bool_no hs (fun h=>hq (pin_list.1 h))
    have ey:=hideD (both_no hlt hq)
    have eo:=hideD (lack_yes hlt hq)
    clear hs hq
    go_wp2_with (first
     | (at_builtin; refine wpList_append_lies _ rfl _ _ 62 rfl w.heap.size 61 i0 (.agg #[.int .i64 0,.int .i64 0]) 2 16 (by kernel_rfl) HI.out.1 HI.out.2.1 HI.out.2.2.1 HI.out.2.2.2 rfl (by decide) _ _ _ rfl Ho2.out ⟨w1.heap.size,0,none⟩ 1 1 [.int .i64 (fstL l k),.int .i64 (sndL l k)] rfl rfl HN.out (by simp [Value.oneCell']) (by decide) (by unfold maxLen; omega) (by omega) (by omega) _ rfl ?_; intro g' cap' w4 hown4 hgrow4 hat4 hlt4)
     | go_in)
    go_roundw
    case rel=>
     obtain⟨r1,r2,r3⟩:=two_next Hy2.out (fun q h h'=>Hap.out q h' h) hown4 hgrow4 hat4
     exact⟨k+1,by omega,by go_num,by rw [ey.out]; exact r2,by rw [eo.out]; exact r1,fun q h h'=>r3 q h' h,hB3.grown hgrow4 hB3.size (fun q hq=>(Ho2.out.lt hq).1)⟩
    case measure=>simp [intOf]; omega
  ·obtain rfl:k=l.length:=by omega
   have hyy:=Hy.out
   have hoo:=Ho.out
   rw [List.take_length] at hyy hoo
   have HY:=hideD hyy
   have HO:=hideD hoo
   clear hyy hoo Hy Ho
   go_wp2
   go_ret2
   exact⟨_,_,rfl,HY.out,HO.out,Hap.out,hb⟩
set_option maxRecDepth 20000 in
set_option maxHeartbeats 2000000 in
theorem partKept_any(v v2:Value)(lo hi lo2 hi2 T:Nat)(l m:List (Int×Int))(w:World)(h1:PtrsAt w lo hi v l.length (fstL l) (sndL l))(hn:l.length≤200)(h2:PtrsAt w lo2 hi2 v2 m.length (fstL m) (sndL m))(hT:w.cell? ⟨T,0,none⟩=some v2) :
  Calls Tryz.prog 188 #[v,.func (.func 232) #[] #[.pointer (some ⟨T,0,none⟩)]] w fun e w'=>∃vy vo,e = .returned (.tuple #[vy,vo])∧NewTwo (inBoth l m) (lack l m) w w' vy vo:=by
 have Hp:=hideD h1
 have HT:=hideD hT
 have HP2:=hideD h2
 obtain⟨m1,a,c,rfl,mc,_⟩:=id h1
 clear h1 hT h2
 unfold maxLen at m1
 obtain⟨i0,hi0,hzz⟩:=Option.map_eq_some_iff.1 infoPtrL
 simp only [Prod.mk.injEq] at hzz
 have HI:=hideD (And.intro hi0 hzz)
 clear hi0 hzz
 go_enter Tryz.func188,Tryz.ntmps188
 go_wp2
 go_loopw [6,7,12] (fun vy vo i wr=>∃k:Nat,k≤l.length∧i = .int .i64 k∧NewTwo (inBoth (l.take k) m) (lack (l.take k) m) w wr vy vo) (fun _ _ i _=>l.length - (intOf i).toNat)
 case atStart=>exact⟨0,Nat.zero_le _,rfl,RowL.nil _ _,RowL.nil _ _,fun q hq=>by simp [Value.ownBlock] at hq,Below.refl _ _⟩
 case round=>
  obtain⟨k,hk,rfl,hy,ho,hap,hb⟩:=hrel
  have Hy:=hideD hy
  have Ho:=hideD ho
  have Hap:=hideD hap
  have hlen:=both_len l m k
  clear hy ho hap
  by_cases hlt:k<l.length
  ·have hlt':(k:Int)<(l.length:Int):=by omega
   obtain⟨b,off,rfl,q0,q1⟩:=(Hp.out.below hb).cellsD hlt
   have hal:=below_alloc wr (.cells #[.int .i64 (fstL l k),.int .i64 (sndL l k)] 61)
   have HV:=hideD (Box2.new wr (.int .i64 (fstL l k)) (.int .i64 (sndL l k)) 61)
   have hB1:=below_next hb hal
   have HT1:=hideD ((hB1.cell (p:=⟨T,0,none⟩) (lt_of_cell HT.out)).trans HT.out)
   have HP3:=hideD (HP2.out.below hB1)
   have hmf:∀(fn:Fn) (first cap:Array Value) (w:World),(Instr.makeFunc fn first cap).run Tryz.prog w = .ok (.func fn first cap) w:=fun _ _ _ _=>rfl
   go_wp2_with fail
   refine(inKept_any v2 m.length lo2 hi2 (fstL m) (sndL m) (fstL l k) (sndL l k) T _ HP3.out HT1.out).mono ?_
   rintro e w1 ⟨⟨s,rfl,hs⟩,hb1⟩
   have Hy1:=hideD ((Hy.out.below hal).below hb1)
   have Ho1:=hideD ((Ho.out.below hal).below hb1)
   have HV1:=hideD (HV.out.below hb1)
   have hB2:=below_next hB1 hb1
   clear hb1 hB1 hal Hy Ho HV q0 q1 HT1 HP3
   have hz2:=hB2.size
   obtain⟨⟨x0,x1⟩,⟨x2,x3⟩⟩:=HV1.out
   have hba:=below_alloc w1 (.cells #[.int .i64 (fstL l k),.int .i64 (sndL l k)] 61)
   have Hy2:=hideD (Hy1.out.below hba)
   have Ho2:=hideD (Ho1.out.below hba)
   have hB3:=below_next hB2 hba
   have hz3:(w1.alloc (.cells #[.int .i64 (fstL l k),.int .i64 (sndL l k)] 61)).heap.size=w1.heap.size+1:=World.size_alloc _ _
   have HN:=hideD (World.news_of_block (heap_alloc_last w1 (.cells #[.int .i64 (fstL l k),.int .i64 (sndL l k)] 61)))
   clear hba
   by_cases hq:(fstL l k,sndL l k)∈m
   ·obtain rfl:s=true:=hs.2 (pin_list.2 hq)
    have ey:=hideD (both_yes hlt hq)
    have eo:=hideD (lack_no hlt hq)
    clear hs hq
    go_wp2_with (first
     | (at_builtin; refine wpList_append_lies _ rfl _ _ 62 rfl w.heap.size 61 i0 (.agg #[.int .i64 0,.int .i64 0]) 2 16 (by kernel_rfl) HI.out.1 HI.out.2.1 HI.out.2.2.1 HI.out.2.2.2 rfl (by decide) _ _ _ rfl Hy2.out ⟨w1.heap.size,0,none⟩ 1 1 [.int .i64 (fstL l k),.int .i64 (sndL l k)] rfl rfl HN.out (by simp [Value.oneCell']) (by decide) (by unfold maxLen; omega) (by omega) (by omega) _ rfl ?_; intro g' cap' w4 hown4 hgrow4 hat4 hlt4)
     | go_in)
    go_roundw
    case rel=>
     obtain⟨r1,r2,r3⟩:=two_next Ho2.out Hap.out hown4 hgrow4 hat4
     exact⟨k+1,by omega,by go_num,by rw [ey.out]; exact r1,by rw [eo.out]; exact r2,r3,hB3.grown hgrow4 hB3.size (fun q hq=>(Hy2.out.lt hq).1)⟩
    case measure=>simp [intOf]; omega
   ·obtain rfl:s=false:=bool_no hs (fun h=>hq (pin_list.1 h))
    have ey:=hideD (both_no hlt hq)
    have eo:=hideD (lack_yes hlt hq)
    clear hs hq
    go_wp2_with (first
     | (at_builtin; refine wpList_append_lies _ rfl _ _ 62 rfl w.heap.size 61 i0 (.agg #[.int .i64 0,.int .i64 0]) 2 16 (by kernel_rfl) HI.out.1 HI.out.2.1 HI.out.2.2.1 HI.out.2.2.2 rfl (by decide) _ _ _ rfl Ho2.out ⟨w1.heap.size,0,none⟩ 1 1 [.int .i64 (fstL l k),.int .i64 (sndL l k)] rfl rfl HN.out (by simp [Value.oneCell']) (by decide) (by unfold maxLen; omega) (by omega) (by omega) _ rfl ?_; intro g' cap' w4 hown4 hgrow4 hat4 hlt4)
     | go_in)
    go_roundw
    case rel=>
     obtain⟨r1,r2,r3⟩:=two_next Hy2.out (fun q h h'=>Hap.out q h' h) hown4 hgrow4 hat4
     exact⟨k+1,by omega,by go_num,by rw [ey.out]; exact r2,by rw [eo.out]; exact r1,fun q h h'=>r3 q h' h,hB3.grown hgrow4 hB3.size (fun q hq=>(Ho2.out.lt hq).1)⟩
    case measure=>simp [intOf]; omega
  ·obtain rfl:k=l.length:=by omega
   have hyy:=Hy.out
   have hoo:=Ho.out
   rw [List.take_length] at hyy hoo
   have HY:=hideD hyy
   have HO:=hideD hoo
   clear hyy hoo Hy Ho
   go_wp2
   go_ret2
   exact⟨_,_,rfl,HY.out,HO.out,Hap.out,hb⟩
set_option maxRecDepth 20000 in
set_option maxHeartbeats 1000000 in
theorem implPtrsSame_any(v v':Value)(n lo hi n' lo' hi':Nat)(f g f' g':Nat→Int)(w:World)(h1:PtrsAt w lo hi v n f g)(h2:PtrsAt w lo' hi' v' n' f' g') :
  Calls Tryz.prog 233 #[v,v'] w fun e w'=>BoolIs (PSame n f g n' f' g') e∧Below w.heap.size w w':=by
 have Hp:=hideD h1
 have Hp':=hideD h2
 obtain⟨m1,a,c,rfl,mc,_⟩:=id h1
 obtain⟨m2,a',c',rfl,mc',_⟩:=id h2
 unfold maxLen at m1 m2
 clear h1 h2
 by_cases ho:PtrsOk n f g
 ·have Ho:=hideD ho
  clear ho
  by_cases ho':PtrsOk n' f' g'
  ·have Ho':=hideD ho'
   clear ho'
   go_enter Tryz.func233,Tryz.ntmps233
   go_wp2_with fail
   refine(implPtrsRight_any _ n lo hi f g _ Hp.out).mono ?_
   rintro e w1 ⟨⟨t,rfl,ht⟩,hb1⟩
   obtain rfl:t=true:=ht.2 Ho.out
   clear ht
   go_wp2_with fail
   refine(implPtrsRight_any _ n' lo' hi' f' g' _ (Hp'.out.below hb1)).mono ?_
   rintro e w2 ⟨⟨t,rfl,ht⟩,hb2⟩
   obtain rfl:t=true:=ht.2 Ho'.out
   have hB2:=below_next hb1 hb2
   clear ht hb1 hb2
   go_wp2_with fail
   refine(slotsSeen_any _ n lo hi f g _ (Hp.out.below hB2) Ho.out.1 Ho.out.2.1).mono ?_
   rintro e w3 ⟨rfl,hm,hb3⟩
   have Hm:=hideD hm
   have hB3:=below_next hB2 hb3
   have hz:w.heap.size≤w2.heap.size:=hB2.size
   clear hm hb3 hB2
   go_wp2
   go_loopw [20] (fun i wr=>∃(k:Nat) (D:DataW Unit),k≤n'∧i = .int .i64 k∧MapAt wr w2.heap.size n D∧LeftD n f g f' k D∧(∀j,j<k→PIn n f g (f' j) (g' j))∧Below w.heap.size w wr) (fun i _=>n' - (intOf i).toNat)
   case atStart=>exact⟨0,_,Nat.zero_le _,rfl,Hm.out,LeftD.start Ho.out f',fun j hj=>absurd hj (Nat.not_lt_zero _),hB3⟩
   case round=>
    obtain⟨k,D,hk,rfl,hown,hleft,hin,hb⟩:=hrel
    have Hown:=hideD hown
    have Hleft:=hideD hleft
    have Hin:=hideD hin
    clear hown hleft hin Hm hB3
    by_cases hlt:k<n'
    ·have hlt':(k:Int)<(n':Int):=by omega
     obtain⟨b,off,rfl,q0,q1⟩:=(Hp'.out.below hb).cellsD hlt
     have hkey:keyOf Tryz.prog 2 (.int .i64 (f' k))=some (keyI (f' k)):=keyOf_int_mk intT (wf_small (Ho'.out.2.1 k hlt).1 (by have:=(Ho'.out.2.1 k hlt).2.1; omega))
     have Hkey:=hideD hkey
     clear hkey
     have hb1:=hb.alloc hb.size (.cells #[.int .i64 (f' k),.int .i64 (g' k)] 61)
     have hz1:w2.heap.size≤wr.heap.size:=Nat.le_of_lt Hown.out.lt
     go_wp2_with (first
      | (at_lookup; refine wpList_lookup_own_int _ rfl _ _ 243 rfl 2 2 .i64 lawK mapT intT (zeroK _) w2.heap.size n D rfl (Hown.out.alloc _) _ _ rfl Hkey.out ?_; intro c0 hat hwc)
      | (at_delete; refine wpList_delete_own _ rfl _ _ 243 2 rfl 2 lawK mapT _ w2.heap.size n D rfl (Hown.out.alloc _) _ _ rfl Hkey.out ?_; intro w4 hown4 hturn4)
      | go_in)
     ·have hne:c0≠g' k:=by
       have h:(c0 != g' k)=true:=by assumption
       simpa using h
      go_ret
      exact⟨BoolIs.no (Hleft.out.no Ho.out Ho'.out hlt (show D.atKey (keyI (f' k)) (datI 0)=datI c0 from hat) hne),hb1⟩
     ·have he:c0=g' k:=by
       have h:(c0 != g' k)=false:=by assumption
       simpa using h
      subst he
      have Hat:D.atKey (keyI (f' k)) (datI 0)=datI (g' k):=hat
      go_roundw
      case rel=>exact⟨k+1,_,by omega,by go_num,hown4,Hleft.out.next Ho'.out hlt Hat,relNext hlt Hin.out (Hleft.out.in Ho'.out hlt Hat),hb1.grown hturn4.grown hb1.size (fun j hj=>by cases hj; exact hz)⟩
      case measure=>simp [intOf]; omega
    ·obtain rfl:k=n':=by omega
     go_wp2_with (first
      | (at_len; refine wpList_len_own _ rfl _ 243 rfl 2 2 mapT _ w2.heap.size n D rfl Hown.out ?_)
      | go_in)
     go_ret
     refine⟨⟨_,rfl,?_⟩,hb⟩
     have He:=Hleft.out.end Ho.out Ho'.out Hin.out
     rw [←He]
     simp
  ·have Ho':=hideD ho'
   clear ho'
   go_enter Tryz.func233,Tryz.ntmps233
   go_wp2_with fail
   refine(implPtrsRight_any _ n lo hi f g _ Hp.out).mono ?_
   rintro e w1 ⟨⟨t,rfl,ht⟩,hb1⟩
   obtain rfl:t=true:=ht.2 Ho.out
   clear ht
   go_wp2_with fail
   refine(implPtrsRight_any _ n' lo' hi' f' g' _ (Hp'.out.below hb1)).mono ?_
   rintro e w2 ⟨⟨t,rfl,ht⟩,hb2⟩
   obtain rfl:t=false:=bool_no ht Ho'.out
   have hB2:=below_next hb1 hb2
   clear ht hb1 hb2
   go_wp2
   go_ret
   exact⟨BoolIs.no fun h=>Ho'.out h.2.1,hB2⟩
 ·have Ho:=hideD ho
  clear ho
  go_enter Tryz.func233,Tryz.ntmps233
  go_wp2_with fail
  refine(implPtrsRight_any _ n lo hi f g _ Hp.out).mono ?_
  rintro e w1 ⟨⟨t,rfl,ht⟩,hb1⟩
  obtain rfl:t=false:=bool_no ht Ho.out
  clear ht
  go_wp2
  go_ret
  exact⟨BoolIs.no fun h=>Ho.out h.1,hb1⟩
end Go.Proofs.YtmgeglgboadfiaaGreatDoor
