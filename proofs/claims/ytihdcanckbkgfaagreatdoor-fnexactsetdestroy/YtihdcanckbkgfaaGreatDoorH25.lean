/- What PoolHold tells; how an answer is laid into the variable of the result (no law is proved here). -/
import Derived.Test.YtihdcanckbkgfaaGreatDoorH19
import Derived.Test.YtihdcanckbkgfaaGreatDoorH21
import Derived.Test.YtihdcanckbkgfaaGreatDoorH5
import Derived.Deep.RegionLawGrows
import Derived.Test.YtihdcanckbkgfaaGreatDoorProg
import GoSem.ClaimJoined
import GoSem.ClaimMapViews
import Derived.JoinedTies
import Derived.KernelRfl
import Derived.RowKit
import Derived.Test.YtihdcanckbkgfaaGreatDoorH1
import Derived.Test.YtihdcanckbkgfaaGreatDoorH4
import Derived.Test.YtihdcanckbkgfaaGreatDoorH9
import Derived.Test.YtihdcanckbkgfaaGreatDoorH3
import Derived.Test.YtihdcanckbkgfaaGreatDoorH6
import Derived.Test.YtihdcanckbkgfaaGreatDoorH18
import Derived.Test.YtihdcanckbkgfaaGreatDoorH20
import Derived.Test.YtihdcanckbkgfaaGreatDoorH23
import Derived.Deep.RegionHeld3
import Derived.Test.YtihdcanckbkgfaaGreatDoorH14
import Derived.Test.YtihdcanckbkgfaaGreatDoorH7
namespace Go.Proofs.YtihdcanckbkgfaaGreatDoor
open Go.RowKit
set_option linter.unusedVariables false
def holdD(p:PoolD)(xs:Int):PoolD:={n:=p.n,s:=p.s,hn:=p.hn+1,h:=fun i=>if i=p.hn then xs else p.h i}
open Classical in
noncomputable def holdP(p:PoolD)(xs xb:Int):OutD:=if Right p then(if Points p xs xb∧¬Has p.hn p.h xs then⟨holdD p xs,0,0,0⟩else⟨newP 0,0,0,4⟩)else⟨newP 0,0,0,1⟩
theorem hold_form{p:PoolD}{xs xb:Int}(h:¬Right p):holdP p xs xb=⟨newP 0,0,0,1⟩:=if_neg h
theorem hold_none{p:PoolD}{xs xb:Int}(h:Right p)(h':¬(Points p xs xb∧¬Has p.hn p.h xs)):holdP p xs xb=⟨newP 0,0,0,4⟩:=(if_pos h).trans (if_neg h')
theorem hold_ok{p:PoolD}{xs xb:Int}(h:Right p)(h':Points p xs xb)(h'':¬Has p.hn p.h xs):holdP p xs xb=⟨holdD p xs,0,0,0⟩:=(if_pos h).trans (if_pos ⟨h',h''⟩)
theorem ic_congr{f g:Nat→Int}{n:Nat}(h:∀i,i<n→f i=g i):ic f n=ic g n:=by
 induction n with
 | zero=>rfl
 | succ n ih=>
  unfold ic
  rw [ih (fun i hi=>h i (by omega)),h n (by omega)]
theorem ic_hold(p:PoolD)(xs:Int):ic (holdD p xs).h (p.hn+1)=ic p.h p.hn ++ [.int .i64 xs]:=by
 show ic (holdD p xs).h p.hn ++ [.int .i64 ((holdD p xs).h p.hn)]=_
 rw [ic_congr (f:=(holdD p xs).h) (g:=p.h) (fun i hi=>if_neg (by omega)),show(holdD p xs).h p.hn=xs from if_pos rfl]
theorem start3(w:World)(a0 a1 x0 x1:Value)(t1 t2 t3:TypeId) :
  Box2 (((w.alloc (.cells #[a0,a1] t1)).alloc (.cells #[x0,x1] t2)).alloc (.cells #[.slice none 0 0,.slice none 0 0,.int .i64 0,.int .i64 0,.int .i64 0] t3)) w.heap.size a0 a1∧
  Box2 (((w.alloc (.cells #[a0,a1] t1)).alloc (.cells #[x0,x1] t2)).alloc (.cells #[.slice none 0 0,.slice none 0 0,.int .i64 0,.int .i64 0,.int .i64 0] t3)) (w.heap.size+1) x0 x1∧
  Box5 (((w.alloc (.cells #[a0,a1] t1)).alloc (.cells #[x0,x1] t2)).alloc (.cells #[.slice none 0 0,.slice none 0 0,.int .i64 0,.int .i64 0,.int .i64 0] t3)) (w.heap.size+1+1) (.slice none 0 0) (.slice none 0 0) (.int .i64 0) (.int .i64 0) (.int .i64 0)∧
  Below w.heap.size w (((w.alloc (.cells #[a0,a1] t1)).alloc (.cells #[x0,x1] t2)).alloc (.cells #[.slice none 0 0,.slice none 0 0,.int .i64 0,.int .i64 0,.int .i64 0] t3))∧
  (((w.alloc (.cells #[a0,a1] t1)).alloc (.cells #[x0,x1] t2)).alloc (.cells #[.slice none 0 0,.slice none 0 0,.int .i64 0,.int .i64 0,.int .i64 0] t3)).heap.size=w.heap.size+3:=by
 refine⟨((Box2.new w a0 a1 t1).below (below_alloc _ _)).below (below_alloc _ _),?_,?_,below_next (below_next (below_alloc _ _) (below_alloc _ _)) (below_alloc _ _),by simp⟩
 ·have:=(Box2.new (w.alloc (.cells #[a0,a1] t1)) x0 x1 t2).below (below_alloc _ (.cells #[.slice none 0 0,.slice none 0 0,.int .i64 0,.int .i64 0,.int .i64 0] t3))
  rw [World.size_alloc] at this
  exact this
 ·have:=Box5.new ((w.alloc (.cells #[a0,a1] t1)).alloc (.cells #[x0,x1] t2)) (.slice none 0 0) (.slice none 0 0) (.int .i64 0) (.int .i64 0) (.int .i64 0) t3
  rw [World.size_alloc,World.size_alloc] at this
  exact this
theorem out_ret{w wr:World}{lo hi R:Nat}{s0 s1 u2 u3 u4:Value}{p:PoolD}(ho:PoolOwn wr lo hi s0 s1 p)(hR1:R<lo)(hlo:w.heap.size≤R)(hhi:hi≤wr.heap.size)(hb:Below w.heap.size w wr) :
  PoolOwn (put5 wr R s0 s1 u2 u3 u4) w.heap.size (put5 wr R s0 s1 u2 u3 u4).heap.size s0 s1 p∧Below w.heap.size w (put5 wr R s0 s1 u2 u3 u4):=by
 have t:=Turned.put5 wr R s0 s1 u2 u3 u4
 have hz:=t.size
 exact⟨(ho.turned t (fun k hk=>by omega)).wide (by omega) (by omega),hb.trans (t.below (by have:=hb.size; omega) (fun k hk=>by omega))⟩
theorem none_ret{w wr:World}{R:Nat}{u2 u3 u4:Value}(hlo:w.heap.size≤R)(hb:Below w.heap.size w wr) :
  PoolOwn (put5 wr R (.slice none 0 0) (.slice none 0 0) u2 u3 u4) w.heap.size (put5 wr R (.slice none 0 0) (.slice none 0 0) u2 u3 u4).heap.size (.slice none 0 0) (.slice none 0 0) (newP 0)∧Below w.heap.size w (put5 wr R (.slice none 0 0) (.slice none 0 0) u2 u3 u4):=by
 have t:=Turned.put5 wr R (.slice none 0 0) (.slice none 0 0) u2 u3 u4
 exact⟨none_own,hb.trans (t.below (by have:=hb.size; omega) (fun k hk=>by omega))⟩
theorem grown_of_turned{b:Nat}{w w':World}(t:Turned (fun k=>k=b) w w'):w.grownBy w' (some b):=⟨t.os,t.tape,t.output,t.size,fun k hk hne=>t.block k hk (fun e=>hne (by rw [e]))⟩
theorem news1(w:World)(x:Value)(t:TypeId):∀j u,[x][j]?=some u→(w.alloc (.cells #[x] t)).cell? ((⟨w.heap.size,0,none⟩:Addr).add j)=some u:=by
 intro j u hj
 match j,hj with
 | 0,hj=>simp at hj; subst hj; simp [Addr.add]
 | (j+1),hj=>simp at hj
theorem one1(x:Int):∀u∈[Value.int .i64 x],u.oneCell'=true:=by
 intro u hu
 simp only [List.mem_cons,List.not_mem_nil,or_false] at hu
 rw [hu]; rfl
theorem olds_at{w:World}{lo hi:Nat}{f:Nat→Int}{n c:Nat}{a:Option Addr}(h:IntsAt w lo hi (.slice a n c) n f){w':World}(hb:Below w.heap.size w w'):∀b,a=some b→∀j u,(ic f n)[j]?=some u→w'.cell? (b.add j)=some u:=by
 intro b hab j u hj
 have hlt:j<n:=by
  have:=(List.getElem?_eq_some_iff.1 hj).1
  rw [ic_len] at this
  omega
 obtain⟨b0,off,ha,hc⟩:=news_at h rfl hb (by omega)
 rw [ha] at hab
 simp only [Option.some.injEq] at hab
 subst hab
 rw [add_lit]
 exact hc j u hj
theorem none_len{w:World}{lo hi:Nat}{f:Nat→Int}{n c:Nat}{a:Option Addr}(h:IntsAt w lo hi (.slice a n c) n f):a=none→n=0∧n=0:=fun e=>by
 obtain⟨_,a2,c2,hv,_,hx⟩:=h
 simp only [Value.slice.injEq,true_and] at hv
 obtain⟨rfl,rfl⟩:=hv
 by_cases h0:0<n
 ·obtain⟨b,off,ha,_⟩:=hx h0
  rw [ha] at e
  cases e
 ·omega
theorem below_of_grown{w w':World}(h:w.grownBy w' none):Below w.heap.size w w':=⟨h.os,h.tape,h.output,h.size,fun k hk=>h.block k hk (by simp)⟩
theorem news1_of{w:World}{b:Nat}{x:Value}(h:w.cell? ⟨b,0,none⟩=some x):∀j u,[x][j]?=some u→w.cell? ((⟨b,0,none⟩:Addr).add j)=some u:=by
 intro j u hj
 match j,hj with
 | 0,hj=>simp at hj; subst hj; rw [add_lit]; exact h
 | (j+1),hj=>simp at hj
set_option maxRecDepth 20000 in
set_option maxHeartbeats 2000000 in
theorem implPoolHold_any(v0 v1:Value)(lo hi:Nat)(p:PoolD)(xs xb:Int)(w:World)(h1:PoolAt w lo hi v0 v1 p)(hn:poolN p≤1048576) :
    Calls Tryz.prog 151 #[.agg #[v0,v1],.agg #[.int .i64 xs,.int .i64 xb]] w (NewOut (holdP p xs xb) w):=by
  have Hp:=hide h1
  obtain⟨a,c,a',c',rfl,rfl⟩:=h1.form
  have Hn:=hide hn
  have hm2:p.hn≤1048576:=by unfold poolN at hn; omega
  have hm1:p.n≤1048576:=by unfold poolN at hn; omega
  have Hkn:Hid (∀j,j<p.n→(p.s j).kn≤1048576):=fun j hj=>by have h2:=slotN_le p.s hj; unfold slotN at h2; unfold poolN at hn; omega
  have mc':p.hn≤c':=by obtain⟨_,⟨_,_,_,e,h,_⟩⟩:=h1; simp only [Value.slice.injEq,true_and] at e; omega
  have hst:=start3 w (.slice a p.n c) (.slice a' p.hn c') (.int .i64 xs) (.int .i64 xb) 33 56 181
  obtain⟨i0,hi0,hzz⟩:=Option.map_eq_some_iff.1 infoInt64
  simp only [Prod.mk.injEq] at hzz
  have HI:=hide (And.intro hi0 hzz)
  clear h1 hn hi0 hzz
  go_enter Tryz.func151,Tryz.ntmps151
  go_wp2_with fail
  generalize ((w.alloc (.cells #[.slice a p.n c,.slice a' p.hn c'] 33)).alloc (.cells #[.int .i64 xs,.int .i64 xb] 56)).alloc (.cells #[.slice none 0 0,.slice none 0 0,.int .i64 0,.int .i64 0,.int .i64 0] 181)=W at hst ⊢
  obtain⟨hB,hX,hR,hba,hz⟩:=hst
  refine(implPoolRight_any _ _ lo hi p _ (Hp.out.below hba)).mono ?_
  rintro e w1 ⟨⟨t,rfl,ht⟩,hb1⟩
  have HB1:=hide (hB.below hb1)
  have HX1:=hide (hX.below hb1)
  have HR1:=hide (hR.below hb1)
  have hB1:=below_next hba hb1
  have hz1:w.heap.size+3≤w1.heap.size:=by have:=hb1.size; omega
  clear hB hX hR hba hb1 hz
  by_cases hRt:Right p
  · have HRt:=hide hRt
    obtain rfl:t=true:=ht.2 hRt
    clear ht hRt
    obtain⟨⟨x0,x1⟩,⟨x2,x3⟩⟩:=HB1.out
    obtain⟨⟨y0,y1⟩,⟨y2,y3⟩⟩:=HX1.out
    go_wp2_with fail
    refine(isPtr_any _ p.n lo hi p.s _ _ _ (Hp.out.1.below hB1)).mono ?_
    rintro e w2 ⟨⟨t,rfl,ht⟩,hb2⟩
    rw [isPtr_iff HRt.out] at ht
    have HB2:=hide (HB1.out.below hb2)
    have HX2:=hide (HX1.out.below hb2)
    have HR2:=hide (HR1.out.below hb2)
    have hB2:=below_next hB1 hb2
    have hz2:w.heap.size+3≤w2.heap.size:=by have:=hb2.size; omega
    clear hb2 hB1 HB1 HX1 HR1 hz1 x0 x1 x2 x3 y0 y1 y2 y3
    by_cases hP:Points p xs xb
    · have HP:=hide hP
      obtain rfl:t=true:=ht.2 hP
      clear ht hP
      obtain⟨⟨x0,x1⟩,⟨x2,x3⟩⟩:=HB2.out
      obtain⟨⟨y0,y1⟩,⟨y2,y3⟩⟩:=HX2.out
      go_wp2_with fail
      refine(contains_any _ p.hn lo hi p.h _ _ (Hp.out.2.below hB2)).mono ?_
      rintro e w3 ⟨⟨t,rfl,ht⟩,hw3⟩
      subst hw3
      by_cases hH:Has p.hn p.h xs
      · have HH:=hide hH
        obtain rfl:t=true:=ht.2 hH
        clear ht hH
        obtain⟨⟨u0,u1⟩,⟨u2,u3⟩,⟨u4,u5⟩,⟨u6,u7⟩,⟨u8,u9⟩⟩:=HR2.out
        go_wp2
        have HR6:=HR2.out.put (.slice none 0 0) (.slice none 0 0) (.int .i64 0) (.int .i64 0) (.int .i64 4)
        have hpr:=none_ret (R:=w.heap.size+1+1) (u2:=.int .i64 0) (u3:=.int .i64 0) (u4:=.int .i64 4) (by omega) hB2
        rw [hold_none HRt.out (fun h=>h.2 HH.out)]
        exact bodyPost_ret (v:=.agg #[.slice none 0 0,.slice none 0 0,.int .i64 0,.int .i64 0,.int .i64 4]) (by simp [results,Tryz.results151,go_sem,HR6.1.1,HR6.2.1.1,HR6.2.2.1.1,HR6.2.2.2.1.1,HR6.2.2.2.2.1]) rfl ⟨_,_,rfl,hpr.1,hpr.2⟩
      · have HH:=hide hH
        obtain rfl:t=false:=bool_no ht hH
        clear ht hH
        obtain⟨⟨u0,u1⟩,⟨u2,u3⟩,⟨u4,u5⟩,⟨u6,u7⟩,⟨u8,u9⟩⟩:=HR2.out
        have hm2':(p.hn:Int)≤(c':Int):=by omega
        have n0:w.heap.size+1+1≠w.heap.size:=by omega
        have n1:w.heap.size+1+1≠w.heap.size+1:=by omega
        go_wp2_with fail
        go_region_held3 (fun w'=>w'.cell? ⟨w.heap.size,0,none⟩=some (.slice a p.n c)∧w'.cell? ⟨w.heap.size,1,none⟩=some (.slice a' p.hn c')∧w'.cell? ⟨w.heap.size+1,0,none⟩=some (.int .i64 xs)) (go_keep)
          (first
            | (go_at_call 163; refine(cloneSlots_any _ p.n lo hi p.s _ ?_ hm1 Hkn.out).mono ?_; (first | exact Hp.out.1.below hB2.drew | exact Hp.out.1.below (below_next hB2 (below_alloc _ _)).drew); rintro e w5 ⟨v5,bs,kb,kv,rfl,ho5,hap5,hpl5,hb5⟩; obtain⟨_,sa,sc5,rfl,_⟩:=id ho5; (first | (have hnc:w5.cell? ⟨w3.heap.size,0,none⟩=some (.int .i64 xs):=((cell_of_block (i:=0) (v:=.int .i64 xs) (heap_alloc_new w3 (.cells #[.int .i64 xs] 2)) rfl).below (below_undrew hb5)).1) | skip); have hb5':Below w3.heap.size w3 w5:=(by first | exact below_undrew hb5 | exact below_next (below_alloc _ _) (below_undrew hb5)); have hpl5':∀k,SlotsB bs kb p.n p.s k→w3.heap.size≤k∧k<w5.heap.size:=(by first | exact hpl5 | exact fun k hk=>(by have:=hpl5 k hk; simp at this; omega)); have z0:=(HB2.out.below hb5').1.1; have z1:=(HB2.out.below hb5').2.1; have z2:=(HX2.out.below hb5').1.1)
            | (refine step_append_grows rfl (.tmp 33) (.tmp 36) 23 rfl 2 i0 (.int .i64 0) 1 8 (by kernel_rfl) HI.out.1 HI.out.2.1 HI.out.2.2.1 HI.out.2.2.2 rfl (by decide) a' p.hn p.hn (ic p.h p.hn) (by simp [Act.eval]) (none_len Hp.out.2) (ic_len _ _) (olds_at Hp.out.2 (below_next hB2 (below_next hb5' (below_alloc w5 _)))) ⟨w5.heap.size,0,none⟩ 1 1 [.int .i64 xs] (by simp [Act.eval]) rfl (news1 _ _ _) (one1 _) (by omega) (by unfold maxLen; omega) (by omega) ?_
               intro v6 w6 hown6 hgrow6
               obtain⟨a6,c6,rfl,_⟩:=owns_form hown6
               have hb6:Below w5.heap.size w5 w6:=below_next (below_alloc w5 _) (below_of_grown hgrow6)
               have hrow6:w6.ownsRow w5.heap.size 2 1 (.slice a6 (p.hn+1) c6) (p.hn+1) (ic p.h p.hn ++ [.int .i64 xs]):=own_base hown6 (by simp)
               have hb6':=below_next hb5' hb6
               obtain⟨⟨p0,p1⟩,⟨p2,p3⟩⟩:=HB2.out.below hb6'
               obtain⟨⟨p4,p5⟩,⟨p6,p7⟩⟩:=HX2.out.below hb6'
               obtain⟨⟨p8,p9⟩,⟨p10,p11⟩,⟨p12,p13⟩,⟨p14,p15⟩,⟨p16,p17⟩⟩:=HR2.out.below hb6'
               clear hown6 hgrow6)
            | (refine step_append_grows rfl (.tmp 33) (.tmp 36) 23 rfl 2 i0 (.int .i64 0) 1 8 (by kernel_rfl) HI.out.1 HI.out.2.1 HI.out.2.2.1 HI.out.2.2.2 rfl (by decide) a' p.hn p.hn (ic p.h p.hn) (by simp [Act.eval]) (none_len Hp.out.2) (ic_len _ _) (olds_at Hp.out.2 (below_next hB2 hb5')) ⟨w3.heap.size,0,none⟩ 1 1 [.int .i64 xs] (by simp [Act.eval]) rfl (news1_of hnc) (one1 _) (by omega) (by unfold maxLen; omega) (by omega) ?_
               intro v6 w6 hown6 hgrow6
               obtain⟨a6,c6,rfl,_⟩:=owns_form hown6
               have hb6:Below w5.heap.size w5 w6:=below_of_grown hgrow6
               have hrow6:w6.ownsRow w5.heap.size 2 1 (.slice a6 (p.hn+1) c6) (p.hn+1) (ic p.h p.hn ++ [.int .i64 xs]):=own_base hown6 (by simp)
               have hb6':=below_next hb5' hb6
               obtain⟨⟨p0,p1⟩,⟨p2,p3⟩⟩:=HB2.out.below hb6'
               obtain⟨⟨p4,p5⟩,⟨p6,p7⟩⟩:=HX2.out.below hb6'
               obtain⟨⟨p8,p9⟩,⟨p10,p11⟩,⟨p12,p13⟩,⟨p14,p15⟩,⟨p16,p17⟩⟩:=HR2.out.below hb6'
               clear hown6 hgrow6))
        all_goals
          have Hpo:=hide (parts_own (p:=holdD p xs) (B:=w3.heap.size) (M:=w3.heap.size) (ho5.below hb6) hap5 (fun k hk=>by have:=hpl5' k hk; have:=hb6.size; omega) (by show p.hn+1≤maxLen; unfold maxLen; omega) (by rw [←ic_hold] at hrow6; exact hrow6) (fun k e=>by
            have h1:=hrow6.lt k e
            refine⟨by have:=hb5'.size; omega,Or.inr (Or.inr ⟨h1.2,fun hx=>?_⟩)⟩
            have:=hpl5' k hx
            omega) (Nat.le_refl _) (fun e=>absurd e (Nat.succ_ne_zero _)))
          have HR7:=hide (HR2.out.below hb6')
          have hB7:=below_next hB2 hb6'
          clear ho5 hap5 hpl5 hpl5' hb5 hb5' hb6 hb6' hrow6
          go_wp2
          have HR8:=HR7.out.put (.slice sa p.n sc5) (.slice a6 (p.hn+1) c6) (.int .i64 0) (.int .i64 0) (.int .i64 0)
          have hpr:=out_ret (R:=w.heap.size+1+1) (u2:=.int .i64 0) (u3:=.int .i64 0) (u4:=.int .i64 0) Hpo.out (by omega) (by omega) (Nat.le_refl _) hB7
          rw [hold_ok HRt.out HP.out HH.out]
          exact bodyPost_ret (v:=.agg #[.slice sa p.n sc5,.slice a6 (p.hn+1) c6,.int .i64 0,.int .i64 0,.int .i64 0]) (by simp [results,Tryz.results151,go_sem,HR8.1.1,HR8.2.1.1,HR8.2.2.1.1,HR8.2.2.2.1.1,HR8.2.2.2.2.1]) rfl ⟨_,_,rfl,hpr.1,hpr.2⟩
    · have HP:=hide hP
      obtain rfl:t=false:=bool_no ht hP
      clear ht hP
      obtain⟨⟨u0,u1⟩,⟨u2,u3⟩,⟨u4,u5⟩,⟨u6,u7⟩,⟨u8,u9⟩⟩:=HR2.out
      go_wp2
      have HR6:=HR2.out.put (.slice none 0 0) (.slice none 0 0) (.int .i64 0) (.int .i64 0) (.int .i64 4)
      have hpr:=none_ret (R:=w.heap.size+1+1) (u2:=.int .i64 0) (u3:=.int .i64 0) (u4:=.int .i64 4) (by omega) hB2
      rw [hold_none HRt.out (fun h=>HP.out h.1)]
      exact bodyPost_ret (v:=.agg #[.slice none 0 0,.slice none 0 0,.int .i64 0,.int .i64 0,.int .i64 4]) (by simp [results,Tryz.results151,go_sem,HR6.1.1,HR6.2.1.1,HR6.2.2.1.1,HR6.2.2.2.1.1,HR6.2.2.2.2.1]) rfl ⟨_,_,rfl,hpr.1,hpr.2⟩
  · have HRt:=hide hRt
    obtain rfl:t=false:=bool_no ht hRt
    clear ht hRt
    obtain⟨⟨u0,u1⟩,⟨u2,u3⟩,⟨u4,u5⟩,⟨u6,u7⟩,⟨u8,u9⟩⟩:=HR1.out
    go_wp2
    have HR6:=HR1.out.put (.slice none 0 0) (.slice none 0 0) (.int .i64 0) (.int .i64 0) (.int .i64 1)
    have hpr:=none_ret (R:=w.heap.size+1+1) (u2:=.int .i64 0) (u3:=.int .i64 0) (u4:=.int .i64 1) (by omega) hB1
    rw [hold_form HRt.out]
    exact bodyPost_ret (v:=.agg #[.slice none 0 0,.slice none 0 0,.int .i64 0,.int .i64 0,.int .i64 1]) (by simp [results,Tryz.results151,go_sem,HR6.1.1,HR6.2.1.1,HR6.2.2.1.1,HR6.2.2.2.1.1,HR6.2.2.2.2.1]) rfl ⟨_,_,rfl,hpr.1,hpr.2⟩
theorem has_hold{p:PoolD}{xs y:Int}{j:Nat}(hj:j≤p.hn):Has j (holdD p xs).h y↔Has j p.h y:=by
 constructor
 ·rintro⟨k,hk,e⟩
  exact⟨k,hk,by rw [←e]; exact(if_neg (by omega:¬k=p.hn)).symm⟩
 ·rintro⟨k,hk,e⟩
  exact⟨k,hk,by rw [←e]; exact if_neg (by omega:¬k=p.hn)⟩
theorem right_hold{p:PoolD}{xs xb:Int}(hR:Right p)(hP:Points p xs xb)(hH:¬Has p.hn p.h xs):Right (holdD p xs):=by
 refine⟨hR.1,fun j hj=>hR.2.1 j hj,fun j hj=>?_⟩
 by_cases e:j=p.hn
 ·subst e
  have hx:(holdD p xs).h p.hn=xs:=if_pos rfl
  refine⟨?_,?_,?_,?_⟩
  ·rw [hx]; exact hP.2.1
  ·rw [hx]; exact hP.2.2.1
  ·rw [hx]
   intro hf
   have h4:=hP.2.2.2
   have h5:(p.s xs.toNat).birth=0:=hf.1
   have:=hP.1
   omega
  ·rw [hx,has_hold (Nat.le_refl _)]
   exact hH
 ·have hj':j<p.hn:=by have:j<p.hn+1:=hj; omega
  have hx:(holdD p xs).h j=p.h j:=if_neg e
  obtain⟨h1,h2,h3,h4⟩:=hR.2.2 j hj'
  refine⟨?_,?_,?_,?_⟩
  ·rw [hx]; exact h1
  ·rw [hx]; exact h2
  ·rw [hx]; exact h3
  ·rw [hx,has_hold (by omega)]
   exact h4
def LeftIs(t:Nat)(left:Int)(e:Ending):Prop:=∃r:Int,e = .returned (.int .i64 r)∧(0≤r→r+t=left)∧r≤left∧-1≤r
set_option maxRecDepth 20000 in
set_option maxHeartbeats 400000 in
theorem szPtrS_any(v:Value)(n lo hi:Nat)(f g:Nat→Int)(left:Int)(w:World)(h1:PtrsAt w lo hi v n f g)(hl0:0≤left)(hl1:left≤1048576) :
  Calls Tryz.prog 107 #[v,.int .i64 left] w fun e w'=>LeftIs n left e∧Below w.heap.size w w':=by
 obtain⟨m1,a,c,rfl,mc,g1⟩:=h1
 unfold maxLen at m1
 clear g1
 by_cases h:left - (n:Int)<0
 ·go_enter Tryz.func107,Tryz.ntmps107
  go_wp2
  go_ret
  exact⟨⟨-1,rfl,by omega,by omega,by omega⟩,Below.refl _ _⟩
 ·go_enter Tryz.func107,Tryz.ntmps107
  go_wp2
  go_ret
  exact⟨⟨_,rfl,by omega,by omega,by omega⟩,Below.refl _ _⟩
set_option maxRecDepth 20000 in
set_option maxHeartbeats 400000 in
theorem szInt64S_any(v:Value)(n lo hi:Nat)(f:Nat→Int)(left:Int)(w:World)(h1:IntsAt w lo hi v n f)(hl0:0≤left)(hl1:left≤1048576) :
  Calls Tryz.prog 56 #[v,.int .i64 left] w fun e w'=>LeftIs n left e∧Below w.heap.size w w':=by
 obtain⟨m1,a,c,rfl,mc,g1⟩:=h1
 unfold maxLen at m1
 clear g1
 by_cases h:left - (n:Int)<0
 ·go_enter Tryz.func56,Tryz.ntmps56
  go_wp2
  go_ret
  exact⟨⟨-1,rfl,by omega,by omega,by omega⟩,Below.refl _ _⟩
 ·go_enter Tryz.func56,Tryz.ntmps56
  go_wp2
  go_ret
  exact⟨⟨_,rfl,by omega,by omega,by omega⟩,Below.refl _ _⟩
set_option maxRecDepth 20000 in
set_option maxHeartbeats 400000 in
theorem szSlot_any(v0 v1 v2:Value)(lo hi:Nat)(s:SlotD)(left:Int)(w:World)(h1:SlotAt w lo hi v0 v1 v2 s)(hl0:0≤left)(hl1:left≤1048576) :
  Calls Tryz.prog 106 #[.agg #[v0,v1,v2],.int .i64 left] w fun e w'=>LeftIs (slotN s) left e∧Below w.heap.size w w':=by
 obtain⟨rfl,p1,rfl,m1⟩:=h1
 have q1:=p1
 obtain⟨_,a,c,rfl,_⟩:=p1
 unfold maxLen at m1
 go_enter Tryz.func106,Tryz.ntmps106
 go_wp2_with fail
 have hbw:=(Below.refl w.heap.size w).alloc (Nat.le_refl _) (.cells #[.int .i64 s.birth,.slice a s.kn c,.string s.data] 143)
 refine(szPtrS_any _ s.kn lo hi _ _ _ _ (q1.below hbw) hl0 hl1).mono ?_
 rintro e w1 ⟨⟨r,rfl,hr1,hr2,hr3⟩,hb1⟩
 have hb2:=below_next hbw hb1
 have e1:=hb1.cell (p:=⟨w.heap.size,2,none⟩) (by simp)
 simp at e1
 have Hr:Hid (0≤r→r+s.kn=left):=hr1
 clear hr1 hb1 hbw
 by_cases h:r<0
 ·go_wp2
  go_ret
  exact⟨⟨-1,rfl,by omega,by omega,by omega⟩,hb2⟩
 ·by_cases h2:r - (s.data.size:Int)<0
  ·go_wp2
   go_ret
   exact⟨⟨-1,rfl,by omega,by omega,by omega⟩,hb2⟩
  ·go_wp2
   go_ret
   refine⟨⟨_,rfl,fun _=>?_,by omega,by omega⟩,hb2⟩
   have:=Hr.out (by omega)
   unfold slotN
   omega
set_option maxRecDepth 20000 in
set_option maxHeartbeats 400000 in
theorem szSlotS_any(v:Value)(n lo hi:Nat)(f:Nat→SlotD)(left:Int)(w:World)(h1:SlotsAt w lo hi v n f)(hl0:0≤left)(hl1:left≤1048576) :
  Calls Tryz.prog 55 #[v,.int .i64 left] w fun e w'=>LeftIs (n+slotsN f n) left e∧Below w.heap.size w w':=by
 obtain⟨m1,a,c,rfl,mc,g1⟩:=h1
 unfold maxLen at m1
 have G1:Hid (0<n→∃b off,a=some ⟨b,off,none⟩∧lo≤b∧b<hi∧∀i,i<n→∃v0 v1 v2,w.cell? ⟨b,off+i*3,none⟩=some v0∧w.cell? ⟨b,off+i*3+1,none⟩=some v1∧w.cell? ⟨b,off+i*3+2,none⟩=some v2∧SlotAt w lo hi v0 v1 v2 (f i)):=g1
 clear g1
 by_cases h:left - (n:Int)<0
 ·go_enter Tryz.func55,Tryz.ntmps55
  go_wp2
  go_ret
  exact⟨⟨-1,rfl,by omega,by omega,by omega⟩,Below.refl _ _⟩
 ·go_enter Tryz.func55,Tryz.ntmps55
  go_wp2
  go_loopw [1,5] (fun m i wr=>∃(k:Nat) (r:Int),k≤n∧i = .int .i64 k∧m = .int .i64 r∧0≤r∧r+n+slotsN f k=left∧Below w.heap.size w wr) (fun _ i _=>n - (intOf i).toNat)
  case atStart=>exact⟨0,_,Nat.zero_le _,rfl,rfl,by omega,by simp [slotsN],Below.refl _ _⟩
  case round=>
   obtain⟨k,r,hk,rfl,rfl,hr0,hr,hb⟩:=hrel
   have hr1:r≤left:=by omega
   have Hr:Hid (r+n+slotsN f k=left):=hr
   clear hr
   by_cases hlt:k<n
   ·have hlt':(k:Int)<(n:Int):=by omega
    obtain⟨b,off,rfl,_,_,k1⟩:=G1.out (by omega)
    obtain⟨x0,x1,x2,c0,c1,c2,hs⟩:=k1 k hlt
    have hd0:=(hb.cell (lt_of_cell c0)).trans c0
    have hd1:=(hb.cell (lt_of_cell c1)).trans c1
    have hd2:=(hb.cell (lt_of_cell c2)).trans c2
    have hs':=hs.below hb
    have Hs:Hid (SlotAt wr lo hi x0 x1 x2 (f k)):=hs'
    clear k1 G1 c0 c1 c2 hs
    obtain⟨rfl,⟨_,ka,kc,rfl,_⟩,rfl,_⟩:=hs'
    go_wp2_with fail
    refine(szSlot_any _ _ _ lo hi (f k) _ _ Hs.out hr0 (by omega)).mono ?_
    rintro e w1 ⟨⟨r',rfl,hq1,hq2,hq3⟩,hb1⟩
    have hb2:=below_next hb hb1
    have Hq:Hid (0≤r'→r'+slotN (f k)=r):=hq1
    clear hq1 hb1 hd0 hd1 hd2
    by_cases h3:r'<0
    ·go_wp2
     go_ret
     exact⟨⟨-1,rfl,by omega,by omega,by omega⟩,hb2⟩
    ·go_wp2
     go_roundw
     case rel=>
      refine⟨k+1,r',by omega,by go_num,rfl,by omega,?_,hb2⟩
      have e1:=Hq.out (by omega)
      have e2:=Hr.out
      show r'+(n:Int)+((slotsN f k+slotN (f k):Nat):Int)=left
      omega
     case measure=>simp [intOf]; omega
   ·obtain rfl:k=n:=by omega
    go_wp2
    go_ret
    exact⟨⟨r,rfl,fun _=>by have:=Hr.out; omega,hr1,by omega⟩,hb⟩
set_option maxRecDepth 20000 in
set_option maxHeartbeats 400000 in
theorem szPool_any(v0 v1:Value)(lo hi:Nat)(p:PoolD)(left:Int)(w:World)(h1:PoolAt w lo hi v0 v1 p)(hl0:0≤left)(hl1:left≤1048576) :
  Calls Tryz.prog 19 #[.agg #[v0,v1],.int .i64 left] w fun e w'=>LeftIs (poolN p) left e∧Below w.heap.size w w':=by
 have q1:=h1
 obtain⟨⟨_,a,c,rfl,_⟩,⟨_,a',c',rfl,_⟩⟩:=h1
 go_enter Tryz.func19,Tryz.ntmps19
 go_wp2_with fail
 have hbw:=(Below.refl w.heap.size w).alloc (Nat.le_refl _) (.cells #[.slice a p.n c,.slice a' p.hn c'] 25)
 refine(szSlotS_any _ p.n lo hi _ _ _ (q1.1.below hbw) hl0 hl1).mono ?_
 rintro e w1 ⟨⟨r,rfl,hr1,hr2,hr3⟩,hb1⟩
 have hb2:=below_next hbw hb1
 have e1:=hb1.cell (p:=⟨w.heap.size,1,none⟩) (by simp)
 simp at e1
 have Hr:Hid (0≤r→r+(p.n+slotsN p.s p.n:Nat)=left):=hr1
 clear hr1 hb1 hbw
 by_cases h:r<0
 ·go_wp2
  go_ret
  exact⟨⟨-1,rfl,by omega,by omega,by omega⟩,hb2⟩
 ·go_wp2_with fail
  refine(szInt64S_any _ p.hn lo hi _ _ _ (q1.2.below hb2) (by omega) (by omega)).mono ?_
  rintro e w2 ⟨⟨r',rfl,hq1,hq2,hq3⟩,hb3⟩
  have hb4:=below_next hb2 hb3
  have Hq:Hid (0≤r'→r'+p.hn=r):=hq1
  clear hq1 hb3
  by_cases h3:r'<0
  ·go_wp2
   go_ret
   exact⟨⟨-1,rfl,by omega,by omega,by omega⟩,hb4⟩
  ·go_wp2
   go_ret
   refine⟨⟨r',rfl,fun _=>?_,by omega,by omega⟩,hb4⟩
   have e1:=Hq.out (by omega)
   have e2:=Hr.out (by omega)
   unfold poolN
   omega
theorem slots_small{p:PoolD}(h:∀i,i<p.n→Free (p.s i)∨Fits p (p.s i)):∀k,k≤p.n→slotsN p.s k≤24*k
 | 0,_=>Nat.le_refl _
 | k+1,hk=>by
  have ih:=slots_small h k (by omega)
  have hs:slotN (p.s k)≤24:=by
   unfold slotN
   rcases h k (by omega)with hf | hf
   ·have h1:=hf.2.1
    have h2:(p.s k).data.size=0:=by
     have:=hf.2.2
     rw [Go.ByteArray.toList_eq] at this
     have e:(p.s k).data.data=#[]:=by simpa using this
     show(p.s k).data.data.size=0
     rw [e]
     rfl
    omega
   ·rcases hf.2 with h2 | h2
    ·omega
    ·have h3:(p.s k).data.size=0:=by
      have:=h2.2.1
      rw [Go.ByteArray.toList_eq] at this
      have e:(p.s k).data.data=#[]:=by simpa using this
      show(p.s k).data.data.size=0
      rw [e]
      rfl
     omega
  show slotsN p.s k+slotN (p.s k)≤_
  omega
theorem right_small{p:PoolD}(h:Right p):poolN p≤10000:=by
 have h1:=slots_small h.2.1 p.n (Nat.le_refl _)
 have h2:=((right_iff p).2 h).2.1
 have h3:=h.1
 unfold poolN
 omega
def holdAll(p:PoolD):List (Int×Int)→PoolD
 | []=>p
 | x :: l=>holdAll (holdD p x.1) l
def HoldOk(p:PoolD)(l:List (Int×Int)):Prop:=Right p∧(∀x,x∈l→Points p x.1 x.2∧¬Has p.hn p.h x.1)∧(l.map Prod.fst).Nodup
theorem has_holdD{p:PoolD}{xs y:Int}(h:Has (p.hn+1) (holdD p xs).h y):Has p.hn p.h y∨y=xs:=by
 obtain⟨j,hj,e⟩:=h
 by_cases ej:j=p.hn
 ·right
  rw [←e,ej]
  exact if_pos rfl
 ·left
  exact⟨j,by omega,by rw [←e]; exact(if_neg ej).symm⟩
theorem HoldOk.head{p:PoolD}{x:Int×Int}{l:List (Int×Int)}(h:HoldOk p (x :: l)):holdP p x.1 x.2=⟨holdD p x.1,0,0,0⟩∧HoldOk (holdD p x.1) l:=by
 obtain⟨h1,h2,h3⟩:=h
 obtain⟨g1,g2⟩:=h2 x List.mem_cons_self
 rw [List.map_cons,List.nodup_cons] at h3
 refine⟨hold_ok h1 g1 g2,right_hold h1 g1 g2,fun y hy=>?_,h3.2⟩
 obtain⟨k1,k2⟩:=h2 y (List.mem_cons_of_mem _ hy)
 refine⟨k1,fun hh=>?_⟩
 rcases has_holdD hh with e | e
 ·exact k2 e
 ·exact h3.1 (e▸List.mem_map_of_mem hy)
theorem HoldOk.cut{l':List (Int×Int)}:∀{l:List (Int×Int)} {p:PoolD},HoldOk p (l ++ l')→HoldOk (holdAll p l) l'
 | [],_,h=>h
 | x :: l,p,h=>HoldOk.cut (l:=l) (p:=holdD p x.1) (HoldOk.head (p:=p) (x:=x) (l:=l ++ l') h).2
theorem holdAll_snoc(x:Int×Int):∀(l:List (Int×Int)) (p:PoolD),holdAll p (l ++ [x])=holdD (holdAll p l) x.1
 | [],_=>rfl
 | y :: l,p=>holdAll_snoc x l (holdD p y.1)
theorem holdAll_n:∀(l:List (Int×Int)) (p:PoolD),(holdAll p l).n=p.n∧(holdAll p l).s=p.s∧(holdAll p l).hn=p.hn+l.length
 | [],_=>⟨rfl,rfl,rfl⟩
 | y :: l,p=>by
  obtain⟨h1,h2,h3⟩:=holdAll_n l (holdD p y.1)
  refine⟨h1,h2,?_⟩
  show(holdAll (holdD p y.1) l).hn=_
  rw [h3,List.length_cons]
  show p.hn+1+l.length=_
  omega
theorem HoldOk.next{p:PoolD}{l:List (Int×Int)}(h:HoldOk p l){i:Nat}(hi:i<l.length):holdP (holdAll p (l.take i)) l[i].1 l[i].2=⟨holdAll p (l.take (i+1)),0,0,0⟩∧Right (holdAll p (l.take i)):=by
 have e:l=l.take i ++ l[i] :: l.drop (i+1):=by
  rw [List.getElem_cons_drop,List.take_append_drop]
 have h1:HoldOk (holdAll p (l.take i)) (l[i] :: l.drop (i+1)):=HoldOk.cut (l:=l.take i) (by rw [←e]; exact h)
 refine⟨?_,h1.1⟩
 rw [h1.head.1,List.take_succ_eq_append_getElem hi,holdAll_snoc]
theorem young_sub(f g:Nat→Int)(t:Int):∀k,(youngL f g t k).Sublist ((List.range k).map fun i=>(f i,g i))
 | 0=>List.Sublist.refl _
 | k+1=>by
  rw [List.range_succ,List.map_append,List.map_singleton]
  unfold youngL
  split
  ·exact(young_sub f g t k).append (List.Sublist.refl _)
  ·exact(young_sub f g t k).trans (List.sublist_append_left _ _)
theorem HoldOk.sub{p:PoolD}{l l':List (Int×Int)}(h:HoldOk p l)(hs:l'.Sublist l):HoldOk p l':=⟨h.1,fun x hx=>h.2.1 x (hs.subset hx),List.Nodup.sublist (hs.map _) h.2.2⟩
theorem HoldOk.tree{p:PoolD}{rs rb:Int}(hR:Right p)(hT:TreeOk p rs rb):HoldOk p (treeL p rs rb):=by
 refine⟨hR,fun x hx=>?_,?_⟩
 ·have:=tree_mem hR hT hx
  exact⟨this.1,this.2.2⟩
 ·rcases hT with h | h
  ·rw [treeL,if_pos h]; exact List.nodup_nil
  ·exact h.2.2
theorem field_out(v0 v1:Value)(a b c:Int)(w:World):(Instr.field 181 (.agg #[v0,v1,.int .i64 a,.int .i64 b,.int .i64 c]) 0).run Tryz.prog w = .ok (.agg #[v0,v1]) w:=by kernel_rfl
set_option maxRecDepth 20000 in
set_option maxHeartbeats 2000000 in
theorem chHold_any(C lo hi:Nat)(z0 z1 z2 z3 u8:Value)(tm nx id m:Int)(p q:PoolD)(x:Int×Int)(w:World)(hC:Box9 w C z0 z1 (.int .i64 tm) (.int .i64 nx) z2 z3 (.int .i64 id) (.int .i64 m) u8)(hP:PoolAt w lo hi z0 z1 p)(hn:poolN p≤1048576)(hh:holdP p x.1 x.2=⟨q,0,0,0⟩)(hm:0≤m)(hm':m≤1000000) :
  Calls Tryz.prog 123 #[.pointer (some ⟨C,0,none⟩),.agg #[.int .i64 x.1,.int .i64 x.2]] w fun e w'=>(∃v,e = .returned v)∧∃y0 y1,Box9 w' C y0 y1 (.int .i64 tm) (.int .i64 nx) z2 z3 (.int .i64 id) (.int .i64 (m+1)) u8∧PoolOwn w' w.heap.size w'.heap.size y0 y1 q∧Turned (fun j=>j=C) w w':=by
 obtain⟨a0,c0,a1,c1,rfl,rfl⟩:=hP.form
 have hlt:=hC.1.lt
 have hal:=below_alloc w (.cells #[.int .i64 x.1,.int .i64 x.2] 56)
 have HX:=hideW (Box2.new w (.int .i64 x.1) (.int .i64 x.2) 56)
 have HC:=hideW (hC.below hal)
 have hw1:IntKind.i64.wrap (m+1)=m+1:=by first | exact wrap_small (by omega) (by omega) | exact wrap_small _ (by omega) (by omega)
 have hz1:(w.alloc (.cells #[.int .i64 x.1,.int .i64 x.2] 56)).heap.size=w.heap.size+1:=World.size_alloc _ _
 have HCall:=hideW (show ∀w',Below (w.alloc (.cells #[.int .i64 x.1,.int .i64 x.2] 56)).heap.size (w.alloc (.cells #[.int .i64 x.1,.int .i64 x.2] 56)) w'→Calls Tryz.prog 151 #[.agg #[.slice a0 p.n c0,.slice a1 p.hn c1],.agg #[.int .i64 x.1,.int .i64 x.2]] w' fun e w''=>∃b0 d0 b1 d1,e = .returned (.agg #[.slice b0 q.n d0,.slice b1 q.hn d1,.int .i64 0,.int .i64 0,.int .i64 0])∧PoolOwn w'' w'.heap.size w''.heap.size (.slice b0 q.n d0) (.slice b1 q.hn d1) q∧Below w'.heap.size w' w'' from fun w' hb'=>by
  refine(implPoolHold_any _ _ lo hi p x.1 x.2 w' ((hP.below hal).below hb') hn).mono ?_
  rw [hh]
  rintro e w2 ⟨y0,y1,rfl,ho,hb2⟩
  obtain⟨b0,d0,b1,d1,rfl,rfl⟩:=ho.at.form
  exact⟨b0,d0,b1,d1,rfl,ho,hb2⟩)
 clear hP hh hC hn
 go_enter Tryz.func123,Tryz.ntmps123
 go_wp2_with fail
 generalize w.alloc (.cells #[.int .i64 x.1,.int .i64 x.2] 56)=w1 at hal HX HC hz1 HCall ⊢
 have hb0:Below w1.heap.size w1 w1.drew:=(Below.refl _ _).drew
 have HKP:=hideW (show ∀w',Below w1.drew.heap.size w1.drew w'→(fun w':World=>w'.cell? ⟨w.heap.size,0,none⟩=some (.int .i64 x.1)∧w'.cell? ⟨w.heap.size,1,none⟩=some (.int .i64 x.2)) w' from fun w' hb=>by
  have h:=(HX.out.below hb0).below hb
  exact⟨h.1.1,h.2.1⟩)
 obtain⟨⟨x0,-⟩,⟨x1,-⟩,-⟩:=HC.out.below hb0
 refine wp_region_held_drew (S:=(fun w':World=>w'.cell? ⟨w.heap.size,0,none⟩=some (.int .i64 x.1)∧w'.cell? ⟨w.heap.size,1,none⟩=some (.int .i64 x.2))) (by kernel_rfl) (HKP.out _ (Below.refl _ _)) (fun hHeld=>?_)
 have hq0:=hb0
 generalize w1.drew=q0 at hHeld HKP x0 x1 hb0 hq0 ⊢
 refine tk 0 (h:=tk 1 (h:=tk 2 (h:=tk 3 (h:=tk 4 (h:=tk 6 (h:=?_))))))
 refine rd [5] (rc (fun K hK=>?_) .nil)
 go_simp
 (try go_wp2_with fail)
 refine hK.out _ _ (HKP.out _ (Below.refl _ _)) ?_
 clear hK K
 intro hHeld
 try simp only [Act.put,s1,s2,s3]
 refine rd [7] (rc (fun K hK=>?_) .nil)
 go_simp
 go_at_call 151
 refine(HCall.out q0 hq0).mono ?_
 rintro e w3 ⟨b0,d0,b1,d1,rfl,hO3,hb3⟩
 have HO3:=hideW hO3
 have hb3':Below w1.heap.size w1 w3:=below_next hq0 hb3
 have HC3:=hideW (HC.out.below hb3')
 have HX3:=hideW (HX.out.below hb3')
 clear hO3
 (try go_wp2_with fail)
 refine hK.out _ _ ⟨HX3.out.1.1,HX3.out.2.1⟩ ?_
 clear hK K hHeld
 intro hHeld
 try simp only [Act.put,s1,s2,s3]
 have hfo:=field_out (.slice b0 q.n d0) (.slice b1 q.hn d1) 0 0 0
 refine tk 8 (h:=tk 9 (h:=tk 10 (h:=tk 11 (h:=?_))))
 refine rd [12] (rc (fun K hK=>?_) .nil)
 obtain⟨⟨t0,t0'⟩,⟨t1,t1'⟩,-⟩:=HC3.out
 go_simp
 (try go_wp2_with fail)
 have hT:=(Turned.put w3 C 0 (.slice b0 q.n d0)).trans (Turned.put (w3.setCell ⟨C,0,none⟩ (.slice b0 q.n d0)) C 1 (.slice b1 q.hn d1))
 have hX4:=HX3.out.turned hT (fun h=>by omega)
 refine hK.out _ _ ⟨hX4.1.1,hX4.2.1⟩ ?_
 clear hK K hHeld t0 t0' t1 t1'
 intro hHeld
 try simp only [Act.put,s1,s2,s3]
 refine wpAnyH_done (by kernel_rfl) ?_ _
 have HC4:=hideW (show Box9 ((w3.setCell ⟨C,0,none⟩ (.slice b0 q.n d0)).setCell ⟨C,1,none⟩ (.slice b1 q.hn d1)) C (.slice b0 q.n d0) (.slice b1 q.hn d1) (.int .i64 tm) (.int .i64 nx) z2 z3 (.int .i64 id) (.int .i64 m) u8 from⟨(HC3.out.1.set _).other _ (Or.inr (by decide)),(HC3.out.2.1.other _ (Or.inr (by decide))).set _,(HC3.out.2.2.1.other _ (Or.inr (by decide))).other _ (Or.inr (by decide)),(HC3.out.2.2.2.1.other _ (Or.inr (by decide))).other _ (Or.inr (by decide)),(HC3.out.2.2.2.2.1.other _ (Or.inr (by decide))).other _ (Or.inr (by decide)),(HC3.out.2.2.2.2.2.1.other _ (Or.inr (by decide))).other _ (Or.inr (by decide)),(HC3.out.2.2.2.2.2.2.1.other _ (Or.inr (by decide))).other _ (Or.inr (by decide)),(HC3.out.2.2.2.2.2.2.2.1.other _ (Or.inr (by decide))).other _ (Or.inr (by decide)),(HC3.out.2.2.2.2.2.2.2.2.other _ (Or.inr (by decide))).other _ (Or.inr (by decide))⟩)
 have hb4:Below w.heap.size w w3:=below_next hal hb3'
 have HT4:=hideW (show Turned (fun j=>j=C) w ((w3.setCell ⟨C,0,none⟩ (.slice b0 q.n d0)).setCell ⟨C,1,none⟩ (.slice b1 q.hn d1))from(Turned.of_below hb4).trans hT)
 have hz3:=hb3.size
 have hz0:=hq0.size
 have HO4:=hideW ((HO3.out.turned hT (fun k e=>by omega)).wide (show w.heap.size≤q0.heap.size by omega) hT.size)
 clear hX4 hT hfo HC3 HX3 HO3
 generalize ((w3.setCell ⟨C,0,none⟩ (.slice b0 q.n d0)).setCell ⟨C,1,none⟩ (.slice b1 q.hn d1))=w4 at HC4 HT4 HO4 ⊢
 obtain⟨y7,y7'⟩:=HC4.out.2.2.2.2.2.2.2.1
 go_wp2_with fail
 have hT5:=Turned.put w4 C 7 (.int .i64 (m+1))
 go_end0
 refine⟨⟨_,rfl⟩,_,_,⟨HC4.out.1.other _ (Or.inr (by decide)),HC4.out.2.1.other _ (Or.inr (by decide)),HC4.out.2.2.1.other _ (Or.inr (by decide)),HC4.out.2.2.2.1.other _ (Or.inr (by decide)),HC4.out.2.2.2.2.1.other _ (Or.inr (by decide)),HC4.out.2.2.2.2.2.1.other _ (Or.inr (by decide)),HC4.out.2.2.2.2.2.2.1.other _ (Or.inr (by decide)),HC4.out.2.2.2.2.2.2.2.1.set _,HC4.out.2.2.2.2.2.2.2.2.other _ (Or.inr (by decide))⟩,?_,HT4.out.trans hT5⟩
 exact(HO4.out.turned hT5 (fun k e=>by omega)).wide (Nat.le_refl _) hT5.size
set_option maxRecDepth 20000 in
set_option maxHeartbeats 2000000 in
theorem letGo_any(C lo hi n:Nat)(P:Nat→Prop)(z0 z1 z2 z3 u8 v:Value)(tm nx id m t:Int)(p:PoolD)(f g:Nat→Int)(w:World)(hv:PtrsAt w lo hi v n f g)(hok:PtrsOk n f g)(ht:TimeOk t)(hH:HoldOk p (youngL f g t n))(hC:Box9 w C z0 z1 (.int .i64 tm) (.int .i64 nx) z2 z3 (.int .i64 id) (.int .i64 m) u8)(hP:PoolIn w P z0 z1 p)(hPl:∀k,P k→C<k∧k<w.heap.size)(hm:0≤m)(hm':m≤900000) :
  Calls Tryz.prog 121 #[v,.int .i64 t,.func (.func 123) #[.pointer (some ⟨C,0,none⟩)] #[]] w fun e w'=>∃vo y0 y1,e = .returned vo∧RowL w' w.heap.size vo (oldL f g t n)∧Box9 w' C y0 y1 (.int .i64 tm) (.int .i64 nx) z2 z3 (.int .i64 id) (.int .i64 (m+((youngL f g t n).length:Int))) u8∧PoolIn w' (fun j=>P j∨(w.heap.size≤j∧j<w'.heap.size)) y0 y1 (holdAll p (youngL f g t n))∧Turned (fun j=>j=C) w w':=by
 have hlt:=hC.1.lt
 have hlen:(youngL f g t n).length≤200:=by have:=young_len f g t n; have:=hok.1; omega
 have HS:=hideW (show Calls Tryz.prog 148 #[v,.int .i64 t] w fun e w'=>∃vy vo,e = .returned (.agg #[vy,vo])∧NewTwo (youngL f g t n) (oldL f g t n) w w' vy vo by
  refine(implSplit_any v n lo hi f g t w hv).mono ?_
  rintro e w1 ⟨vy,vo,l,l',rfl,hy,ho,hr⟩
  rw [hy.1 ⟨hok,ht⟩,ho.1 ⟨hok,ht⟩] at hr
  exact⟨vy,vo,rfl,hr⟩)
 have HC:=hideW hC
 have HP:=hideW hP
 have HH:=hideW hH
 obtain⟨-,av,cv,rfl,-,-⟩:=(show PtrsAt w lo hi v n f g from hv)
 clear hv hok ht hC hP hH
 generalize youngL f g t n=l at HS HH hlen ⊢
 generalize oldL f g t n=l' at HS ⊢
 go_enter Tryz.func121,Tryz.ntmps121
 go_wp2_with fail
 refine HS.out.mono ?_
 clear HS
 rintro e w1 ⟨vy,vo,rfl,hr1,hr2,-,hb1⟩
 obtain⟨ay,cy,rfl,-⟩:=owns_form hr1
 obtain⟨ao,co,rfl,-⟩:=owns_form hr2
 obtain⟨bo,hown,hbo⟩:=hr1.own (by unfold maxLen; omega)
 have hal:=below_alloc w1 (.cells #[.slice ay l.length cy,.slice ao l'.length co] 177)
 have HX:=hideW (Box2.new w1 (.slice ay l.length cy) (.slice ao l'.length co) 177)
 have hb2:=below_next hb1 hal
 have HC2:=hideW (HC.out.below hb2)
 have HP2:=hideW (HP.out.below hb2)
 have HR2:=hideW (RowL.below hr2 hal)
 have HOw:=hideW (hown.below hal)
 have Hbo:=hideW hbo
 have hz1:=hb1.size
 have hz2:(w1.alloc (.cells #[.slice ay l.length cy,.slice ao l'.length co] 177)).heap.size=w1.heap.size+1:=World.size_alloc _ _
 obtain⟨⟨x0,-⟩,⟨x1,-⟩⟩:=HX.out
 clear hr1 hr2 hown hbo HC HP
 go_wp2_with fail
 clear x0 x1
 generalize w1.alloc (.cells #[.slice ay l.length cy,.slice ao l'.length co] 177)=w2 at hal HX hb2 HC2 HP2 HR2 HOw hz2 ⊢
 go_loopw [16] (fun i wr=>∃(k:Nat) (y0 y1:Value),k≤l.length∧i = .int .i64 k∧Box9 wr C y0 y1 (.int .i64 tm) (.int .i64 nx) z2 z3 (.int .i64 id) (.int .i64 (m+(k:Int))) u8∧PoolIn wr (fun j=>P j∨(w.heap.size≤j∧j<wr.heap.size)) y0 y1 (holdAll p (l.take k))∧Turned (fun j=>j=C) w2 wr) (fun i _=>l.length - (intOf i).toNat)
 case atStart=>exact⟨0,_,_,Nat.zero_le _,rfl,by simpa using HC2.out,HP2.out.mono (fun j h=>Or.inl h),Turned.refl _ _⟩
 case round=>
  obtain⟨k,y0,y1,hk,rfl,hCk,hPk,hTk⟩:=hrel
  have HCk:=hideW hCk
  have HPk:=hideW hPk
  have HTk:=hideW hTk
  have hzk:=hTk.size
  have hX:=HX.out.turned hTk (fun h=>by omega)
  obtain⟨⟨x0,-⟩,⟨x1,-⟩⟩:=hX
  clear hCk hPk hTk
  by_cases hlt2:k<l.length
  ·have hlt':(k:Int)<(l.length:Int):=by omega
   have hown:=HOw.out.turned HTk.out (fun h0 e=>by
    obtain⟨_,h,_⟩:=Hbo.out h0
    omega)
   obtain⟨_,a,c,e1,_,hx⟩:=hown
   obtain⟨off,rfl,hcell⟩:=hx (by omega)
   simp only [Value.slice.injEq,true_and] at e1
   obtain⟨rfl,rfl⟩:=e1
   obtain⟨⟨q0,-⟩,⟨q1,-⟩⟩:=hcell k hlt2
   have hn:=HH.out.next hlt2
   have e0:l[k]=(fstL l k,sndL l k):=by
    unfold fstL sndL
    rw [List.getD_eq_getElem?_getD,List.getElem?_eq_getElem hlt2]
    rfl
   rw [e0] at hn
   have HN:=hideW hn
   clear hn e0 hcell hx
   have hal3:=below_alloc wr (.cells #[.int .i64 (fstL l k),.int .i64 (sndL l k)] 56)
   obtain⟨⟨r0,-⟩,⟨r1,-⟩⟩:=Box2.new wr (.int .i64 (fstL l k)) (.int .i64 (sndL l k)) 56
   go_wp2_with fail
   have hz3:=hal3.size
   refine(chHold_any C 0 wr.heap.size y0 y1 z2 z3 u8 tm nx id (m+(k:Int)) (holdAll p (l.take k)) (holdAll p (l.take (k+1))) (fstL l k,sndL l k) _ (HCk.out.below hal3) (((HPk.out.at (lo:=0) (hi:=wr.heap.size) (fun j h=>⟨Nat.zero_le _,by
    rcases h with h | h
    ·have:=hPl j h; omega
    ·omega⟩))).below hal3) (by have:=right_small HN.out.2; omega) HN.out.1 (by omega) (by omega)).mono ?_
   rintro e w4 ⟨⟨ve,rfl⟩,t0,t1,hC4,hP4,hT4⟩
   have HC4:=hideW hC4
   have HP4:=hideW hP4
   have HT4:=hideW hT4
   clear r0 r1 q0 q1 x0 x1 hC4 hP4 hT4
   go_wp2_with fail
   go_roundw
   case rel=>
    have hz4:=HT4.out.size
    refine⟨k+1,t0,t1,by omega,by go_num,?_,HP4.out.isIn (fun j h1 h2=>Or.inr ⟨by omega,h2⟩),HTk.out.trans ((Turned.of_below hal3).trans HT4.out)⟩
    have e:m+((k+1:Nat):Int)=m+(k:Int)+1:=by omega
    rw [e]
    exact HC4.out
   case measure=>simp [intOf]; omega
  ·obtain rfl:k=l.length:=by omega
   go_wp2_with fail
   rw [List.take_length] at HPk
   go_ret
   refine⟨_,y0,y1,rfl,?_,HCk.out,HPk.out,((Turned.of_below hb2).trans HTk.out)⟩
   exact HR2.out.turned (row:=some C) ⟨HTk.out.os,HTk.out.tape,HTk.out.output,HTk.out.size,fun k hk hn=>HTk.out.block k hk (fun e=>hn (by rw [e]))⟩ (fun q hq e=>by
    injection e with e
    have:=RowL.lt HR2.out hq
    omega)
set_option maxRecDepth 20000 in
set_option maxHeartbeats 1000000 in
theorem implTreeRight_any(v0 v1:Value)(lo hi:Nat)(p:PoolD)(xs xb:Int)(w:World)(h1:PoolAt w lo hi v0 v1 p) :
  Calls Tryz.prog 149 #[.agg #[v0,v1],.agg #[.int .i64 xs,.int .i64 xb]] w fun e w'=>BoolIs (TreeR p xs xb) e∧Below w.heap.size w w':=by
 have Hp:=hideT h1
 obtain⟨a,c,a',c',rfl,rfl⟩:∃a c a' c',v0 = .slice a p.n c∧v1 = .slice a' p.hn c':=by
  obtain⟨⟨_,a,c,h1,_⟩,⟨_,a',c',h3,_⟩⟩:=h1
  exact⟨a,c,a',c',h1,h3⟩
 clear h1
 have hst:=start22 w (.slice a p.n c) (.slice a' p.hn c') (.int .i64 xs) (.int .i64 xb) 33 56
 go_enter Tryz.func149,Tryz.ntmps149
 go_wp2_with fail
 generalize (w.alloc (.cells #[.slice a p.n c,.slice a' p.hn c'] 33)).alloc (.cells #[.int .i64 xs,.int .i64 xb] 56)=W at hst ⊢
 obtain⟨hB,hX,hba,hz⟩:=hst
 refine(implPoolRight_any _ _ lo hi p _ (Hp.out.below hba)).mono ?_
 rintro e w1 ⟨⟨t,rfl,ht⟩,hb1⟩
 have HB1:=hideT (hB.below hb1)
 have HX1:=hideT (hX.below hb1)
 have hB1:=below_next hba hb1
 clear hB hX hba hb1
 by_cases hR:Right p
 ·obtain rfl:t=true:=ht.2 hR
  have HR:=hideT hR
  clear ht hR
  obtain⟨⟨x0,x1⟩,⟨x2,x3⟩⟩:=HB1.out
  obtain⟨⟨y0,y1⟩,⟨y2,y3⟩⟩:=HX1.out
  go_wp2_with fail
  refine(treeThere_any _ _ lo hi p xs xb _ (Hp.out.below hB1) HR.out).mono ?_
  rintro e w2 ⟨⟨t2,rfl,ht2⟩,hb2⟩
  have HT:=hideT ht2
  have hB2:=below_next hB1 hb2
  clear ht2 hb2 x0 x1 x2 x3 y0 y1 y2 y3
  go_wp2
  go_ret
  exact⟨⟨t2,rfl,HT.out.trans ((tree_iff HR.out).trans ⟨fun h=>⟨HR.out,h⟩,fun h=>h.2⟩)⟩,hB2⟩
 ·obtain rfl:t=false:=bool_no ht hR
  have HR:=hideT hR
  clear ht hR
  go_wp2
  go_ret
  exact⟨BoolIs.no fun h=>HR.out h.1,hB1⟩
end Go.Proofs.YtihdcanckbkgfaaGreatDoor
