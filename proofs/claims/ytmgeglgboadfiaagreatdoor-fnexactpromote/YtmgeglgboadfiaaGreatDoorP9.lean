/- What spec.l02Ptrs leaves of a right tree: a new row of all its pointers. -/
import Derived.Test.YtmgeglgboadfiaaGreatDoorP8
import Derived.Test.YtmgeglgboadfiaaGreatDoorP2
import Derived.Test.YtmgeglgboadfiaaGreatDoorP3
import Derived.Test.YtmgeglgboadfiaaGreatDoorP5
import Derived.Test.YtmgeglgboadfiaaGreatDoorP6
namespace Go.Proofs.YtmgeglgboadfiaaGreatDoor
open Go.RowKit
set_option linter.unusedVariables false
def topL(p:PoolD)(rs rb:Int)(s:SlotD)(j:Nat):List (Int×Int):=(rs,rb) :: subUp p s j
def midP(p:PoolD)(rs rb:Int)(s:SlotD)(j i:Nat):List (Int×Int):=topL p rs rb s j ++ ((kidS s j,kidB s j) :: kidsUp (kidS (p.s (kidS s j).toNat)) (kidB (p.s (kidS s j).toNat)) i)
theorem tree_top{p:PoolD}{rs rb:Int}(hz:¬Nil rs rb):treeL p rs rb=topL p rs rb (p.s rs.toNat) 8:=if_neg hz
theorem top_next{p:PoolD}{rs rb:Int}{s:SlotD}{j:Nat}(hn:¬Nil (kidS s j) (kidB s j)):topL p rs rb s (j+1)=midP p rs rb s j 8:=by
 unfold topL midP topL
 rw [subUp,midL_yes hn]
 rfl
theorem top_stay{p:PoolD}{rs rb:Int}{s:SlotD}{j:Nat}(hn:Nil (kidS s j) (kidB s j)):topL p rs rb s (j+1)=topL p rs rb s j:=by
 unfold topL
 rw [subUp,show midL p (kidS s j) (kidB s j) = [] from if_pos hn,List.append_nil]
theorem midP_start(p:PoolD)(rs rb:Int)(s:SlotD)(j:Nat):midP p rs rb s j 0=topL p rs rb s j ++ [(kidS s j,kidB s j)]:=rfl
theorem midP_stay{p:PoolD}{rs rb:Int}{s:SlotD}{j i:Nat}(hn:Nil (kidS (p.s (kidS s j).toNat) i) (kidB (p.s (kidS s j).toNat) i)):midP p rs rb s j (i+1)=midP p rs rb s j i:=by
 unfold midP
 rw [kidsUp,show one (kidS (p.s (kidS s j).toNat) i) (kidB (p.s (kidS s j).toNat) i) = [] from if_pos hn,List.append_nil]
theorem midP_next{p:PoolD}{rs rb:Int}{s:SlotD}{j i:Nat}(hn:¬Nil (kidS (p.s (kidS s j).toNat) i) (kidB (p.s (kidS s j).toNat) i)):midP p rs rb s j (i+1)=midP p rs rb s j i ++ [(kidS (p.s (kidS s j).toNat) i,kidB (p.s (kidS s j).toNat) i)]:=by
 unfold midP
 rw [kidsUp,show one (kidS (p.s (kidS s j).toNat) i) (kidB (p.s (kidS s j).toNat) i) = [(kidS (p.s (kidS s j).toNat) i,kidB (p.s (kidS s j).toNat) i)] from if_neg hn,List.append_assoc]
 rfl
theorem top_len(p:PoolD)(rs rb:Int)(s:SlotD){j:Nat}(hj:j≤8):(topL p rs rb s j).length≤73:=by
 have:=subUp_len p s j
 simp only [topL,List.length_cons]
 omega
theorem midP_len(p:PoolD)(rs rb:Int)(s:SlotD){j i:Nat}(hj:j≤8)(hi:i≤8):(midP p rs rb s j i).length≤90:=by
 have h1:=top_len p rs rb s hj
 have h2:=kidsUp_len (kidS (p.s (kidS s j).toNat)) (kidB (p.s (kidS s j).toNat)) i
 simp only [midP,List.length_append,List.length_cons]
 omega
theorem RowL.next{w2:World}{base g cap:Nat}{l:List (Int×Int)}{x y:Int}(h:w2.ownsRow base 61 2 (.slice (some ⟨g,0,none⟩) (l.length+1) cap) (l.length+1) (pcl l ++ [.int .i64 x,.int .i64 y])):RowL w2 base (.slice (some ⟨g,0,none⟩) (l.length+1) cap) (l ++ [(x,y)]):=by
 unfold RowL
 rw [pcl_append,List.length_append]
 exact h
set_option maxRecDepth 20000 in
set_option maxHeartbeats 8000000 in
theorem l02Ptrs_any(v0 v1:Value)(lo hi:Nat)(p:PoolD)(xs xb:Int)(w:World)(h1:PoolAt w lo hi v0 v1 p)(hR:Right p)(hT:TreeOk p xs xb) :
  Calls Tryz.prog 141 #[.agg #[v0,v1],.agg #[.int .i64 xs,.int .i64 xb]] w fun e w'=>∃v,e = .returned v∧RowL w' w.heap.size v (treeL p xs xb)∧Below w.heap.size w w':=by
 have Hp:=hideT h1
 have HR:=hideT hR
 have HT:=hideT hT
 obtain⟨a,c,a',c',rfl,rfl⟩:∃a c a' c',v0 = .slice a p.n c∧v1 = .slice a' p.hn c':=by
  obtain⟨⟨_,a,c,h1,_⟩,⟨_,a',c',h3,_⟩⟩:=h1
  exact⟨a,c,a',c',h1,h3⟩
 clear h1 hR hT
 have hst:=start22 w (.slice a p.n c) (.slice a' p.hn c') (.int .i64 xs) (.int .i64 xb) 33 61
 obtain⟨i0,hi0,hzz⟩:=Option.map_eq_some_iff.1 infoPtrL
 simp only [Prod.mk.injEq] at hzz
 have HI:=hideT (And.intro hi0 hzz)
 clear hi0 hzz
 go_enter Tryz.func141,Tryz.ntmps141
 have hlit:=World.ownsRow_lit (e:=61) (size:=2) (base:=w.heap.size+2) ((w.alloc (.cells #[.slice a p.n c,.slice a' p.hn c'] 33)).alloc (.cells #[.int .i64 xs,.int .i64 xb] 61)) #[] 0 (by rw [hst.2.2.2]; omega) (by unfold maxLen; omega) rfl
 rw [hst.2.2.2] at hlit
 have HXn:=hst.2.1.below (below_alloc _ (.cells #[] 61))
 obtain⟨⟨y0,y1⟩,⟨y2,y3⟩⟩:=HXn
 go_wp2_with fail
 clear y0 y1 y2 y3
 generalize (w.alloc (.cells #[.slice a p.n c,.slice a' p.hn c'] 33)).alloc (.cells #[.int .i64 xs,.int .i64 xb] 61)=W at hst hlit ⊢
 obtain⟨hB,hX,hba,hz⟩:=hst
 have hal:=below_alloc W (.cells #[] 61)
 have HS0:=hideT (show RowL (W.alloc (.cells #[] 61)) (w.heap.size+2) (.slice (some ⟨w.heap.size+2,0,none⟩) 0 0) [] from hlit)
 have hB0:=hB.below hal
 have hX0:=hX.below hal
 have hb0:=below_next hba hal
 have hz0:(W.alloc (.cells #[] 61)).heap.size=w.heap.size+3:=by rw [World.size_alloc,hz]
 clear hlit hB hX hba hal
 generalize W.alloc (.cells #[] 61)=W0 at HS0 hB0 hX0 hb0 hz0 ⊢
 refine(l01None_any xs xb W0).mono ?_
 rintro e w1 ⟨⟨t,rfl,ht⟩,hb1⟩
 have HB1:=hideT (hB0.below hb1)
 have HX1:=hideT (hX0.below hb1)
 have HS1:=hideT (HS0.out.below hb1)
 have hB1:=below_next hb0 hb1
 have hz1:w.heap.size+3≤w1.heap.size:=by have:=hb1.size; omega
 clear hB0 hX0 hb0 hb1 HS0 hz0 hz
 by_cases hn:Nil xs xb
 ·have HN:=hideT hn
  obtain rfl:t=true:=ht.2 hn
  clear ht hn
  go_wp2
  go_ret
  refine⟨_,rfl,?_,hB1⟩
  rw [show treeL p xs xb = [] from if_pos HN.out]
  exact HS1.out.mono (by omega)
 ·have HN:=hideT hn
  obtain rfl:t=false:=bool_no ht hn
  clear ht hn
  have hNd:NodeAt p xs xb:=(HT.out.resolve_left HN.out).1
  have Hmid:=hideT (HT.out.resolve_left HN.out).2.1.1
  have h8:(p.s xs.toNat).kn=8:=by rcases points_kn HR.out hNd.1 with h | h; (have:=hNd.2.1; omega); exact h
  obtain⟨k,rfl⟩:=Int.eq_ofNat_of_zero_le hNd.1.2.1
  have hk:k<p.n:=by have:=hNd.1.2.2.1; omega
  have hk':(k:Int)<(p.n:Int):=by omega
  rw [Int.toNat_natCast] at h8 Hmid
  have H8:=hideT h8
  clear hNd
  obtain⟨b,off,ka,kc,rfl,hsc⟩:=Hp.out.1.cells hk
  have Hkw:Hid (PtrsAt w lo hi (.slice ka 8 kc) 8 (p.s k).ks (p.s k).kb):=by have:=hsc.slot.2.1; rw [h8] at this; exact this
  have Hscw:=hideT hsc
  clear hsc h8
  obtain⟨⟨x0,x1⟩,⟨x2,x3⟩⟩:=HB1.out
  obtain⟨⟨y0,y1⟩,⟨y2,y3⟩⟩:=HX1.out
  have hal:=below_alloc w1 (.cells #[.int .i64 (k:Int),.int .i64 xb] 61)
  have Hrb:=hideT (HS1.out.below hal)
  have HBb:=hideT (HB1.out.below hal)
  have HXb:=hideT (HX1.out.below hal)
  have hBa:=below_next hB1 hal
  have hza:(w1.alloc (.cells #[.int .i64 (k:Int),.int .i64 xb] 61)).heap.size=w1.heap.size+1:=World.size_alloc _ _
  have HNw:=hideT (World.news_of_block (heap_alloc_last w1 (.cells #[.int .i64 (k:Int),.int .i64 xb] 61)))
  clear hal HS1 HB1 HX1 hB1
  go_wp2_with (first
   | (at_builtin; refine wpList_append_lies _ rfl _ _ 62 rfl (w.heap.size+2) 61 i0 (.agg #[.int .i64 0,.int .i64 0]) 2 16 (by kernel_rfl) HI.out.1 HI.out.2.1 HI.out.2.2.1 HI.out.2.2.2 rfl (by decide) (.slice (some ⟨w.heap.size+2,0,none⟩) 0 0) 0 [] rfl Hrb.out ⟨w1.heap.size,0,none⟩ 1 1 [.int .i64 (k:Int),.int .i64 xb] rfl rfl HNw.out (by simp [Value.oneCell']) (by decide) (by unfold maxLen; omega) (by omega) (by omega) _ rfl ?_; intro g4 cap4 w4 hown4 hgrow4 hat4 hlt4; have hB4:Below w.heap.size w w4:=hBa.grown hgrow4 hBa.size (fun q hq=>(by have:=(Hrb.out.lt hq).1; omega)); have HB4:=hideT (HBb.out.grownT hgrow4 (fun q hq=>by have:=(Hrb.out.lt hq).1; omega)); have HX4:=hideT (HXb.out.grownT hgrow4 (fun q hq=>by have:=(Hrb.out.lt hq).1; omega)); have z0:=HB4.out.1.1; have z1:=HX4.out.1.1; have z2:=(Hscw.out.below hB4).c1; rw [H8.out] at z2)
   | go_in)
  have Hr4:=hideT (show RowL w4 (w.heap.size+2) (.slice (some ⟨g4,0,none⟩) 1 cap4) (topL p k xb (p.s k) 0)from hown4)
  have hz4:w.heap.size+2≤w4.heap.size:=by have:=hgrow4.size; omega
  clear hown4 hgrow4 hat4 hlt4 Hrb HBb HXb hBa HNw hza hz1
  go_loopw [5,7] (fun sv i wr=>∃(j:Nat) (sa:Option Addr) (sc:Nat),j≤8∧i = .int .i64 j∧sv = .slice sa (topL p k xb (p.s k) j).length sc∧RowL wr (w.heap.size+2) sv (topL p k xb (p.s k) j)∧Box2 wr w.heap.size (.slice (some ⟨b,off,none⟩) p.n c) (.slice a' p.hn c')∧Below w.heap.size w wr∧w.heap.size+2≤wr.heap.size) (fun _ i _=>8 - (intOf i).toNat)
  case atStart=>exact⟨0,some ⟨g4,0,none⟩,cap4,Nat.zero_le _,rfl,rfl,Hr4.out,HB4.out,hB4,hz4⟩
  case round=>
   obtain⟨j,sa,sc,hj,rfl,rfl,hrow,hbox,hbr,hzr⟩:=hrel
   have Hrow:=hideT hrow
   have Hbox:=hideT hbox
   have hlen:=top_len p k xb (p.s k) hj
   clear hrow hbox Hr4 HB4 HX4 hB4 z0 z1 z2 x0 x1 x2 x3 y0 y1 y2 y3 hz4
   by_cases hlt:j<8
   ·have hlt':(j:Int)<8:=by omega
    obtain⟨tb,tof,rfl,q0,q1⟩:=(Hkw.out.below hbr).cellsT hlt
    rw [←kidS_at H8.out hlt] at q0
    rw [←kidB_at H8.out hlt] at q1
    go_wp2_with fail
    refine(l01None_any (kidS (p.s k) j) (kidB (p.s k) j) wr).mono ?_
    rintro e W ⟨⟨t,rfl,ht⟩,hb⟩
    have hbW:=below_next hbr hb
    have HBW:=hideT (Hbox.out.below hb)
    have HsW:=hideT (Hrow.out.below hb)
    have hzW:w.heap.size+2≤W.heap.size:=by have:=hb.size; omega
    have q0W:=(hb.cell (lt_of_cell q0)).trans q0
    have q1W:=(hb.cell (lt_of_cell q1)).trans q1
    clear q0 q1 hbr hb Hrow Hbox hzr
    by_cases hnl:Nil (kidS (p.s k) j) (kidB (p.s k) j)
    ·have HNl:=hideT hnl
     obtain rfl:t=true:=ht.2 hnl
     clear ht hnl
     go_wp2
     go_roundw
     case rel=>exact⟨j+1,sa,sc,by omega,by go_num,by rw [top_stay HNl.out],by rw [top_stay HNl.out]; exact HsW.out,HBW.out,hbW,hzW⟩
     case measure=>simp [intOf]; omega
    ·have HNl:=hideT hnl
     obtain rfl:t=false:=bool_no ht hnl
     clear ht hnl
     have hNo:NodeAt p (kidS (p.s k) j) (kidB (p.s k) j):=by
      rcases Hmid.out j hlt with h | h
      ·exact absurd h HNl.out
      ·exact h.1
     obtain⟨m,hm⟩:=Int.eq_ofNat_of_zero_le hNo.1.2.1
     have hmp:m<p.n:=by have:=hNo.1.2.2.1; omega
     have hmp':(m:Int)<(p.n:Int):=by omega
     have hmt:(kidS (p.s k) j).toNat=m:=by rw [hm]; rfl
     have h8m:(p.s m).kn=8:=by
      have h0:=hNo.2.1
      have h1:=points_kn HR.out hNo.1
      rw [hmt] at h0 h1
      rcases h1 with h | h
      ·omega
      ·exact h
     have H8m:=hideT h8m
     obtain⟨_,_,ua,uc,ha,hsm⟩:=Hp.out.1.cells hmp
     simp only [Option.some.injEq,Addr.mk.injEq,and_true] at ha
     obtain⟨rfl,rfl⟩:=ha
     have Huw:Hid (PtrsAt w lo hi (.slice ua 8 uc) 8 (p.s m).ks (p.s m).kb):=by have:=hsm.slot.2.1; rw [h8m] at this; exact this
     have Hsm:=hideT hsm
     have Hm:=hideT hm
     have Hmt:=hideT hmt
     have hal:=below_alloc W (.cells #[.int .i64 (kidS (p.s k) j),.int .i64 (kidB (p.s k) j)] 61)
     have Hrb:=hideT (HsW.out.below hal)
     have HBb:=hideT (HBW.out.below hal)
     have hBa:=below_next hbW hal
     have hza:(W.alloc (.cells #[.int .i64 (kidS (p.s k) j),.int .i64 (kidB (p.s k) j)] 61)).heap.size=W.heap.size+1:=World.size_alloc _ _
     have HNw:=hideT (World.news_of_block (heap_alloc_last W (.cells #[.int .i64 (kidS (p.s k) j),.int .i64 (kidB (p.s k) j)] 61)))
     clear hsm h8m hm hmt hal HsW HBW hbW hNo
     go_wp2_with (first
      | (at_builtin; refine wpList_append_lies _ rfl _ _ 62 rfl (w.heap.size+2) 61 i0 (.agg #[.int .i64 0,.int .i64 0]) 2 16 (by kernel_rfl) HI.out.1 HI.out.2.1 HI.out.2.2.1 HI.out.2.2.2 rfl (by decide) (.slice sa (topL p k xb (p.s k) j).length sc) (topL p k xb (p.s k) j).length (pcl (topL p k xb (p.s k) j)) rfl Hrb.out ⟨W.heap.size,0,none⟩ 1 1 [.int .i64 (kidS (p.s k) j),.int .i64 (kidB (p.s k) j)] rfl rfl HNw.out (by simp [Value.oneCell']) (by decide) (by unfold maxLen; omega) (by omega) (by omega) _ rfl ?_; intro g4 cap4 w4 hown4 hgrow4 hat4 hlt4)
      | fail)
     have Hr4:Hid (RowL w4 (w.heap.size+2) (.slice (some ⟨g4,0,none⟩) ((topL p k xb (p.s k) j).length+1) cap4) (midP p k xb (p.s k) j 0)):=by
      rw [midP_start]
      exact RowL.next hown4
     have hB4:Below w.heap.size w w4:=hBa.grown hgrow4 hBa.size (fun q hq=>by have:=(Hrb.out.lt hq).1; omega)
     have HB4:=hideT (HBb.out.grownT hgrow4 (fun q hq=>by have:=(Hrb.out.lt hq).1; omega))
     have hz4:w.heap.size+2≤w4.heap.size:=by have:=hgrow4.size; omega
     clear hown4 hgrow4 hat4 hlt4 Hrb HBb hBa HNw q0W q1W hza
     obtain⟨_,_,ha,q0,q1⟩:=(Hkw.out.below hB4).cellsT hlt
     simp only [Option.some.injEq,Addr.mk.injEq,and_true] at ha
     obtain⟨rfl,rfl⟩:=ha
     rw [←kidS_at H8.out hlt,Hm.out] at q0
     obtain⟨r0,r1,r2,_⟩:=Hsm.out.below hB4
     rw [H8m.out] at r1
     obtain⟨⟨x0,x1⟩,⟨x2,x3⟩⟩:=HB4.out
     go_quiet (fail)
     go_wp2
     go_loopw [5,9] (fun sv i wr=>∃(i':Nat) (sa:Option Addr) (sc:Nat),i'≤8∧i = .int .i64 i'∧sv = .slice sa (midP p k xb (p.s k) j i').length sc∧RowL wr (w.heap.size+2) sv (midP p k xb (p.s k) j i')∧Box2 wr w.heap.size (.slice (some ⟨b,off,none⟩) p.n c) (.slice a' p.hn c')∧Below w.heap.size w wr∧w.heap.size+2≤wr.heap.size) (fun _ i _=>8 - (intOf i).toNat)
     case atStart=>exact⟨0,some ⟨g4,0,none⟩,cap4,Nat.zero_le _,rfl,by rw [midP_start,List.length_append]; rfl,Hr4.out.below (below_drewN (Below.refl _ _) _),HB4.out.below (below_drewN (Below.refl _ _) _),below_drewN hB4 _,hz4⟩
     case round=>
      obtain⟨i,sa,sc,hi8,rfl,rfl,hrow,hbox,hbr,hzr⟩:=hrel
      have Hrow:=hideT hrow
      have Hbox:=hideT hbox
      have hlen1:=midP_len p k xb (p.s k) (show j≤8 by omega) hi8
      clear hrow hbox Hr4 HB4 hB4 x0 x1 x2 x3 q0 q1 r0 r1 r2 hz4
      by_cases hli:i<8
      ·have hli':(i:Int)<8:=by omega
       obtain⟨ub,uof,rfl,q0,q1⟩:=(Huw.out.below hbr).cellsT hli
       rw [←kidS_at H8m.out hli] at q0
       rw [←kidB_at H8m.out hli] at q1
       go_wp2_with fail
       refine(l01None_any (kidS (p.s m) i) (kidB (p.s m) i) wr).mono ?_
       rintro e W ⟨⟨t,rfl,ht⟩,hb⟩
       have hbW:=below_next hbr hb
       have HBW:=hideT (Hbox.out.below hb)
       have HsW:=hideT (Hrow.out.below hb)
       have hzW:w.heap.size+2≤W.heap.size:=by have:=hb.size; omega
       have q0W:=(hb.cell (lt_of_cell q0)).trans q0
       have q1W:=(hb.cell (lt_of_cell q1)).trans q1
       clear q0 q1 hbr hb Hrow Hbox hzr
       by_cases hnl:Nil (kidS (p.s m) i) (kidB (p.s m) i)
       ·have HNi:=hideT hnl
        obtain rfl:t=true:=ht.2 hnl
        clear ht hnl
        have es:midP p k xb (p.s k) j (i+1)=midP p k xb (p.s k) j i:=midP_stay (by rw [Hmt.out]; exact HNi.out)
        have Hes:=hideT es
        clear es
        go_wp2
        go_roundw
        case rel=>exact⟨i+1,sa,sc,by omega,by go_num,by rw [Hes.out],by rw [Hes.out]; exact HsW.out,HBW.out,hbW,hzW⟩
        case measure=>simp [intOf]; omega
       ·have HNi:=hideT hnl
        obtain rfl:t=false:=bool_no ht hnl
        clear ht hnl
        have es:midP p k xb (p.s k) j (i+1)=midP p k xb (p.s k) j i ++ [(kidS (p.s m) i,kidB (p.s m) i)]:=by have:=midP_next (p:=p) (rs:=(k:Int)) (rb:=xb) (s:=p.s k) (j:=j) (i:=i) (by rw [Hmt.out]; exact HNi.out); rw [Hmt.out] at this; exact this
        have Hes:=hideT es
        clear es
        have hal:=below_alloc W (.cells #[.int .i64 (kidS (p.s m) i),.int .i64 (kidB (p.s m) i)] 61)
        have Hrb:=hideT (HsW.out.below hal)
        have HBb:=hideT (HBW.out.below hal)
        have hBa:=below_next hbW hal
        have hza:(W.alloc (.cells #[.int .i64 (kidS (p.s m) i),.int .i64 (kidB (p.s m) i)] 61)).heap.size=W.heap.size+1:=World.size_alloc _ _
        have HNw:=hideT (World.news_of_block (heap_alloc_last W (.cells #[.int .i64 (kidS (p.s m) i),.int .i64 (kidB (p.s m) i)] 61)))
        clear hal HsW HBW hbW
        go_wp2_with (first
         | (at_builtin; refine wpList_append_lies _ rfl _ _ 62 rfl (w.heap.size+2) 61 i0 (.agg #[.int .i64 0,.int .i64 0]) 2 16 (by kernel_rfl) HI.out.1 HI.out.2.1 HI.out.2.2.1 HI.out.2.2.2 rfl (by decide) (.slice sa (midP p k xb (p.s k) j i).length sc) (midP p k xb (p.s k) j i).length (pcl (midP p k xb (p.s k) j i)) rfl Hrb.out ⟨W.heap.size,0,none⟩ 1 1 [.int .i64 (kidS (p.s m) i),.int .i64 (kidB (p.s m) i)] rfl rfl HNw.out (by simp [Value.oneCell']) (by decide) (by unfold maxLen; omega) (by omega) (by omega) _ rfl ?_; intro g4 cap4 w4 hown4 hgrow4 hat4 hlt4)
         | go_in)
        go_roundw
        case rel=>exact⟨i+1,some ⟨g4,0,none⟩,cap4,by omega,by go_num,by rw [Hes.out,List.length_append]; rfl,by rw [Hes.out]; exact RowL.next hown4,HBb.out.grownT hgrow4 (fun q hq=>by have:=(Hrb.out.lt hq).1; omega),hBa.grown hgrow4 hBa.size (fun q hq=>by have:=(Hrb.out.lt hq).1; omega),by have:=hgrow4.size; omega⟩
        case measure=>simp [intOf]; omega
      ·obtain rfl:i=8:=by omega
       go_wp2
       go_roundw
       case rel=>exact⟨j+1,sa,sc,by omega,by go_num,by rw [top_next HNl.out],by rw [top_next HNl.out]; exact Hrow.out,Hbox.out,hbr,hzr⟩
       case measure=>simp [intOf]; omega
   ·obtain rfl:j=8:=by omega
    go_wp2
    go_ret
    exact⟨_,rfl,by rw [tree_top HN.out]; exact Hrow.out.mono (by omega),hbr⟩
open Classical in
noncomputable def roomN(f:Nat→SlotD):Nat→Nat
 | 0=>0
 | k+1=>roomN f k+(if Free (f k)then 1 else 0)
theorem roomN_yes{f:Nat→SlotD}{k:Nat}(h:Free (f k)):roomN f (k+1)=roomN f k+1:=by simp [roomN,h]
theorem roomN_no{f:Nat→SlotD}{k:Nat}(h:¬Free (f k)):roomN f (k+1)=roomN f k:=by simp [roomN,h]
theorem roomN_le(f:Nat→SlotD):∀k,roomN f k≤k
 | 0=>Nat.le_refl _
 | k+1=>by
  have:=roomN_le f k
  by_cases h:Free (f k)
  ·rw [roomN_yes h]; omega
  ·rw [roomN_no h]; omega
open Classical in
noncomputable def roomP(p:PoolD):Int:=if Right p then(roomN p.s p.n:Int)else 0
structure MemD where
 prev:Int
 time:Int
 rs:Int
 rb:Int
 dn:Nat
 ds:Nat→Int
 db:Nat→Int
def memS(s:SnapD):MemD:=⟨s.prev,s.time,s.rs,s.rb,s.dn,s.ds,s.db⟩
def memT(t:Int)(s:SetD):MemD:=⟨s.prev,t,s.rs,s.rb,s.dn,s.ds,s.db⟩
def memOf(W:WorldD)(i:Nat):MemD:=if i<W.pn then memS (W.snaps i)else memT W.time (W.sets (i - W.pn))
def memN(W:WorldD):Nat:=W.pn+W.sn
theorem memOf_snap{W:WorldD}{i:Nat}(h:i<W.pn):memOf W i=memS (W.snaps i):=if_pos h
theorem memOf_set(W:WorldD)(i:Nat):memOf W (W.pn+i)=memT W.time (W.sets i):=by
 unfold memOf
 rw [if_neg (by omega),show W.pn+i - W.pn=i by omega]
def zeroSnap:SnapD:=⟨0,ByteArray.empty,ByteArray.empty,0,0,0,0,0,fun _=>0,fun _=>0⟩
open Classical in
noncomputable def aheadOf(W:WorldD)(x:Int):SnapD:=if h:∃k,SnapNo W x k then W.snaps h.choose else zeroSnap
theorem aheadOf_at{W:WorldD}{x:Int}{k:Nat}(h:SnapNo W x k):aheadOf W x=W.snaps k:=by
 unfold aheadOf
 rw [dif_pos ⟨k,h⟩,SnapNo.uniq (Exists.choose_spec (⟨k,h⟩:∃k,SnapNo W x k)) h]
theorem aheadOf_no{W:WorldD}{x:Int}(h:∀k,k<W.pn→(W.snaps k).id≠x):aheadOf W x=zeroSnap:=by
 unfold aheadOf
 rw [dif_neg]
 rintro⟨k,hk⟩
 exact h k hk.1 hk.2.1
theorem snapNo_of{W:WorldD}{x:Int}:∀{n:Nat},n≤W.pn→(∃k,k<n∧(W.snaps k).id=x)→∃k,SnapNo W x k
 | 0,_,⟨k,hk,_⟩=>absurd hk (Nat.not_lt_zero _)
 | n+1,hn,⟨k,hk,e⟩=>by
  by_cases h:∃j,j<n∧(W.snaps j).id=x
  ·exact snapNo_of (by omega) h
  ·have:k=n:=by
    by_cases h':k<n
    ·exact absurd ⟨k,h',e⟩ h
    ·omega
   subst this
   exact⟨k,by omega,e,fun j hj he=>h ⟨j,hj,he⟩⟩
def treeM(W:WorldD)(m:MemD):List (Int×Int):=treeL W.pool m.rs m.rb
noncomputable def oldM(W:WorldD)(m:MemD):List (Int×Int):=treeL W.pool (aheadOf W m.prev).rs (aheadOf W m.prev).rb
def lack(l m:List (Int×Int)):List (Int×Int):=l.filter (fun x=>decide (x∉m))
def inBoth(l m:List (Int×Int)):List (Int×Int):=l.filter (fun x=>decide (x∈m))
def youngF(l:List (Int×Int))(t:Int):List (Int×Int):=l.filter (fun x=>decide (t<x.2))
noncomputable def ownM(W:WorldD)(m:MemD):List (Int×Int):=lack (treeM W m) (oldM W m)
noncomputable def youngM(W:WorldD)(m:MemD):List (Int×Int):=youngF (treeM W m) (aheadOf W m.prev).time
def PSameL(n:Nat)(f g:Nat→Int)(l:List (Int×Int)):Prop:=PSame n f g l.length (fstL l) (sndL l)
def BornL(now old:List (Int×Int))(t tm:Int):Prop:=∀x,x∈now→x.2≤tm∧(x∈old↔x.2≤t)
def SpecM(W:WorldD)(m:MemD):Prop:=PSameL m.dn m.ds m.db (lack (oldM W m) (treeM W m))∧BornL (treeM W m) (oldM W m) (aheadOf W m.prev).time m.time
def ImplM(W:WorldD)(m:MemD):Prop:=m.rb≤m.time∧PSameL (youngM W m).length (fstL (youngM W m)) (sndL (youngM W m)) (ownM W m)∧PSameL m.dn m.ds m.db (lack (oldM W m) (inBoth (treeM W m) (oldM W m)))
theorem lack_both(l m:List (Int×Int)):lack m (inBoth l m)=lack m l:=by
 unfold lack inBoth
 refine List.filter_congr fun x hx=>?_
 rw [decide_eq_decide]
 simp only [List.mem_filter,decide_eq_true_eq]
 exact⟨fun h h'=>h ⟨h',hx⟩,fun h h'=>h h'.1⟩
theorem getD_lt{l:List (Int×Int)}{i:Nat}(h:i<l.length):l.getD i (0,0)=l[i]:=by
 rw [List.getD_eq_getElem?_getD,List.getElem?_eq_getElem h,Option.getD_some]
theorem pin_list{l:List (Int×Int)}{x y:Int}:PIn l.length (fstL l) (sndL l) x y↔(x,y)∈l:=by
 constructor
 ·rintro⟨j,hj,e1,e2⟩
  unfold fstL at e1
  unfold sndL at e2
  rw [getD_lt hj] at e1 e2
  have:l[j]=(x,y):=Prod.ext e1 e2
  exact this▸List.getElem_mem hj
 ·intro h
  obtain⟨j,hj,e⟩:=List.getElem_of_mem h
  exact⟨j,hj,by unfold fstL; rw [getD_lt hj,e],by unfold sndL; rw [getD_lt hj,e]⟩
structure Trees (W:WorldD):Prop where
 right:Right W.pool
 ids:∀k,k<W.pn→(W.snaps k).prev<(W.snaps k).id
 tree:∀i,i<memN W→TreeOk W.pool (memOf W i).rs (memOf W i).rb
 time:∀i,i<memN W→0≤(memOf W i).time
theorem tree_mem{p:PoolD}{rs rb:Int}(hR:Right p)(hT:TreeOk p rs rb){x:Int×Int}(hx:x∈treeL p rs rb):Points p x.1 x.2∧x.2≤rb∧¬Has p.hn p.h x.1:=by
 rcases(tree_iff hR).2 hT with hz | ⟨hP,_,hA⟩
 ·rw [treeL,if_pos hz] at hx; simp at hx
 ·have:=tree_points hR hP x hx
  exact⟨this.1,this.2,hA.2 x hx⟩
theorem tree_nodup'{p:PoolD}{rs rb:Int}(hR:Right p)(hT:TreeOk p rs rb):(treeL p rs rb).Nodup:=by
 rcases(tree_iff hR).2 hT with hz | ⟨hP,_,hA⟩
 ·rw [treeL,if_pos hz]; exact List.nodup_nil
 ·exact hA.1
theorem Trees.old{W:WorldD}(h:Trees W)(x:Int):TreeOk W.pool (aheadOf W x).rs (aheadOf W x).rb:=by
 by_cases hx:∃k,SnapNo W x k
 ·obtain⟨k,hk⟩:=hx
  rw [aheadOf_at hk]
  have:=h.tree k (by unfold memN; have:=hk.1; omega)
  rw [memOf_snap hk.1] at this
  exact this
 ·have:aheadOf W x=zeroSnap:=by
   unfold aheadOf
   rw [dif_neg hx]
  rw [this]
  exact Or.inl ⟨rfl,rfl⟩
theorem points_ok{p:PoolD}{x y:Int}(hR:Right p)(h:Points p x y):PtrOk x y:=by
 have hf:=points_fits hR h
 have h1:=hR.1
 obtain⟨a,b,c,d⟩:=h
 have:=hf.1.2
 exact⟨b,by omega,a,by omega⟩
theorem ptrsOk_list{p:PoolD}(hR:Right p){l:List (Int×Int)}(h:∀x,x∈l→Points p x.1 x.2)(hn:l.Nodup)(hl:l.length≤200):PtrsOk l.length (fstL l) (sndL l):=by
 have hs:=(nodup_iff h).2 hn
 refine⟨hl,fun i hi=>?_,fun i hi k hk=>?_⟩
 ·unfold fstL sndL
  rw [getD_lt hi]
  exact points_ok hR (h _ (List.getElem_mem hi))
 ·unfold fstL
  rw [getD_lt hi,getD_lt (show k<l.length by omega)]
  unfold slotsL List.Nodup at hs
  rw [List.pairwise_map] at hs
  exact List.pairwise_iff_getElem.1 hs k i (by omega) hi hk
theorem psame_filter{p:PoolD}(hR:Right p){T:List (Int×Int)}(hT:∀x,x∈T→Points p x.1 x.2)(hn:T.Nodup)(hl:T.length≤200)(P Q:Int×Int→Bool) :
  PSameL (T.filter P).length (fstL (T.filter P)) (sndL (T.filter P)) (T.filter Q)↔∀x,x∈T→P x=Q x:=by
 constructor
 ·rintro⟨_,_,hlen,hin⟩
  have h1:∀x,x∈T→P x=true→Q x=true:=fun x hx hp=>by
   have hm:x∈T.filter P:=List.mem_filter.2 ⟨hx,hp⟩
   obtain⟨j,hj,e⟩:=List.getElem_of_mem hm
   have:=hin j hj
   rw [pin_list] at this
   unfold fstL sndL at this
   rw [getD_lt hj,e] at this
   exact(List.mem_filter.1 this).2
  have h2:(T.filter Q).filter P=T.filter P:=by
   rw [List.filter_filter]
   refine List.filter_congr fun x hx=>?_
   cases hp:P x
   ·rfl
   ·rw [h1 x hx hp]; rfl
  have h3:((T.filter Q).filter P).length=(T.filter Q).length:=by rw [h2,hlen]
  rw [List.length_filter_eq_length_iff] at h3
  intro x hx
  cases hq:Q x
  ·cases hp:P x
   ·rfl
   ·rw [h1 x hx hp] at hq; exact absurd hq (by simp)
  ·exact h3 x (List.mem_filter.2 ⟨hx,hq⟩)
 ·intro h
  have e:T.filter P=T.filter Q:=List.filter_congr h
  rw [e]
  have hok:PtrsOk (T.filter Q).length (fstL (T.filter Q)) (sndL (T.filter Q)):=ptrsOk_list hR (fun x hx=>hT x (List.mem_filter.1 hx).1) (hn.filter _) (Nat.le_trans (List.length_filter_le _ _) hl)
  exact⟨hok,hok,rfl,fun i hi=>⟨i,hi,rfl,rfl⟩⟩
theorem member_iff{W:WorldD}(h:Trees W){i:Nat}(hi:i<memN W):ImplM W (memOf W i)↔SpecM W (memOf W i):=by
 generalize hm:memOf W i=m
 have hT:=h.tree i hi
 have htm:=h.time i hi
 rw [hm] at hT htm
 have hlen:(treeM W m).length≤200:=by have:=treeL_len W.pool m.rs m.rb; unfold treeM; omega
 have hpt:∀x,x∈treeM W m→Points W.pool x.1 x.2:=fun x hx=>(tree_mem h.right hT hx).1
 unfold ImplM SpecM
 rw [lack_both]
 have key:PSameL (youngM W m).length (fstL (youngM W m)) (sndL (youngM W m)) (ownM W m)↔∀x,x∈treeM W m→(x∈oldM W m↔x.2≤(aheadOf W m.prev).time):=by
  unfold youngM ownM youngF lack
  rw [psame_filter h.right hpt (tree_nodup' h.right hT) hlen]
  refine⟨fun hh x hx=>?_,fun hh x hx=>?_⟩
  ·have:=hh x hx
   rw [decide_eq_decide] at this
   constructor
   ·intro hin
    by_cases hlt:(aheadOf W m.prev).time<x.2
    ·exact absurd hin (this.1 hlt)
    ·omega
   ·intro hle
    by_cases hin:x∈oldM W m
    ·exact hin
    ·have:=this.2 hin; omega
  ·rw [decide_eq_decide]
   have:=hh x hx
   constructor
   ·intro hlt hin
    have:=this.1 hin
    omega
   ·intro hin
    by_cases hle:x.2≤(aheadOf W m.prev).time
    ·exact absurd (this.2 hle) hin
    ·omega
 rw [key]
 constructor
 ·rintro⟨h1,h2,h3⟩
  exact⟨h3,fun x hx=>⟨by have:=(tree_mem h.right hT hx).2.1; omega,h2 x hx⟩⟩
 ·rintro⟨h1,h2⟩
  refine⟨?_,fun x hx=>(h2 x hx).2,h1⟩
  by_cases hz:Nil m.rs m.rb
  ·rw [hz.2]; exact htm
  ·have hr:(m.rs,m.rb)∈treeM W m:=by unfold treeM treeL; rw [if_neg hz]; simp
   exact(h2 _ hr).1
theorem young_own{W:WorldD}{m:MemD}(hS:SpecM W m):youngM W m=ownM W m:=by
 unfold youngM ownM youngF lack
 refine List.filter_congr fun x hx=>?_
 rw [decide_eq_decide]
 have:=(hS.2 x hx).2
 constructor
 ·intro h1 h2
  have:=this.1 h2
  omega
 ·intro h1
  by_cases h2:x.2≤(aheadOf W m.prev).time
  ·exact absurd (this.2 h2) h1
  ·omega
open Classical in
noncomputable def cnt(P:Nat→Prop):Nat→Nat
 | 0=>0
 | k+1=>cnt P k+(if P k then 1 else 0)
theorem cnt_congr{P Q:Nat→Prop}:∀{n:Nat},(∀i,i<n→(P i↔Q i))→cnt P n=cnt Q n
 | 0,_=>rfl
 | n+1,h=>by
  unfold cnt
  rw [cnt_congr (fun i hi=>h i (by omega))]
  by_cases hp:P n
  ·rw [if_pos hp,if_pos ((h n (by omega)).1 hp)]
  ·rw [if_neg hp,if_neg (fun hq=>hp ((h n (by omega)).2 hq))]
theorem cnt_le{P Q:Nat→Prop}:∀{n:Nat},(∀i,i<n→P i→Q i)→cnt P n≤cnt Q n
 | 0,_=>Nat.le_refl _
 | n+1,h=>by
  unfold cnt
  have:=cnt_le (n:=n) (fun i hi=>h i (by omega))
  by_cases hp:P n
  ·rw [if_pos hp,if_pos (h n (by omega) hp)]; omega
  ·rw [if_neg hp]; omega
theorem cnt_eq_iff{P Q:Nat→Prop}:∀{n:Nat},(∀i,i<n→P i→Q i)→(cnt P n=cnt Q n↔∀i,i<n→(P i↔Q i))
 | 0,_=>⟨fun _ i hi=>absurd hi (Nat.not_lt_zero _),fun _=>rfl⟩
 | n+1,h=>by
  refine⟨fun e=>?_,fun e=>cnt_congr e⟩
  have hle:=cnt_le (n:=n) (fun i hi=>h i (by omega))
  have ih:=cnt_eq_iff (n:=n) (fun i hi=>h i (by omega))
  unfold cnt at e
  have hn:P n↔Q n:=by
   refine⟨h n (by omega),fun hq=>?_⟩
   by_cases hp:P n
   ·exact hp
   ·rw [if_neg hp,if_pos hq] at e; omega
  have e':cnt P n=cnt Q n:=by
   by_cases hp:P n
   ·rw [if_pos hp,if_pos (hn.1 hp)] at e; omega
   ·rw [if_neg hp,if_neg (fun hq=>hp (hn.2 hq))] at e; omega
  intro i hi
  by_cases e2:i=n
  ·subst e2; exact hn
  ·exact ih.1 e' i (by omega)
theorem cnt_or{P Q:Nat→Prop}:∀{n:Nat},(∀i,i<n→P i→¬Q i)→cnt (fun i=>P i∨Q i) n=cnt P n+cnt Q n
 | 0,_=>rfl
 | n+1,h=>by
  unfold cnt
  rw [cnt_or (fun i hi=>h i (by omega))]
  by_cases hp:P n
  ·rw [if_pos (Or.inl hp),if_pos hp,if_neg (h n (by omega) hp)]; omega
  ·by_cases hq:Q n
   ·rw [if_pos (Or.inr hq),if_neg hp,if_pos hq]; omega
   ·rw [if_neg (fun h=>h.elim hp hq),if_neg hp,if_neg hq]; omega
theorem cnt_not(P:Nat→Prop):∀n,cnt P n+cnt (fun i=>¬P i) n=n
 | 0=>rfl
 | n+1=>by
  have:=cnt_not P n
  unfold cnt
  by_cases hp:P n
  ·rw [if_pos hp,if_neg (fun h=>h hp)]; omega
  ·rw [if_neg hp,if_pos hp]; omega
theorem cnt_none{P:Nat→Prop}:∀{n:Nat},(∀i,i<n→¬P i)→cnt P n=0
 | 0,_=>rfl
 | n+1,h=>by
  unfold cnt
  rw [cnt_none (fun i hi=>h i (by omega)),if_neg (h n (by omega))]
theorem cnt_one:∀{n a:Nat},a<n→cnt (fun i=>i=a) n=1
 | 0,a,h=>absurd h (Nat.not_lt_zero _)
 | n+1,a,h=>by
  unfold cnt
  by_cases e:n=a
  ·subst e
   rw [if_pos rfl,cnt_none (fun i hi=>by omega)]
  ·rw [if_neg e,cnt_one (by omega)]
theorem cnt_list{n:Nat}:∀{l:List Nat},l.Nodup→(∀x,x∈l→x<n)→cnt (fun i=>i∈l) n=l.length
 | [],_,_=>cnt_none (fun i hi=>by simp)
 | a :: l,hn,hl=>by
  obtain⟨h1,h2⟩:=List.nodup_cons.1 hn
  have e1:cnt (fun i=>i∈a :: l) n=cnt (fun i=>i=a∨i∈l) n:=cnt_congr (fun i _=>List.mem_cons)
  have e2:cnt (fun i=>i=a∨i∈l) n=cnt (fun i=>i=a) n+cnt (fun i=>i∈l) n:=cnt_or (fun i _ (e:i=a) hi=>h1 (e▸hi))
  rw [e1,e2,cnt_one (hl a (by simp)),cnt_list h2 (fun x hx=>hl x (by simp [hx])),List.length_cons]
  omega
theorem cnt_room(f:Nat→SlotD):∀n,roomN f n=cnt (fun i=>Free (f i)) n
 | 0=>rfl
 | n+1=>by unfold roomN cnt; rw [cnt_room f n]
theorem cnt_held{p:PoolD}(hR:Right p):cnt (fun i=>Has p.hn p.h i) p.n=p.hn:=by
 have h:=hR.2.2
 have hl:∀x,x∈(List.range p.hn).map (fun j=>(p.h j).toNat)→x<p.n:=by
  intro x hx
  obtain⟨j,hj,rfl⟩:=List.mem_map.1 hx
  have:=h j (List.mem_range.1 hj)
  have h1:=this.1
  have h2:=this.2.1
  omega
 have hn:((List.range p.hn).map (fun j=>(p.h j).toNat)).Nodup:=by
  unfold List.Nodup
  rw [List.pairwise_map]
  refine List.Pairwise.imp_of_mem ?_ (List.pairwise_lt_range)
  intro a b ha hb hab e
  have h1:=h a (List.mem_range.1 ha)
  have h2:=h b (List.mem_range.1 hb)
  have:=h1.1
  have:=h2.1
  exact h2.2.2.2 ⟨a,hab,by omega⟩
 have:=cnt_list hn hl
 rw [List.length_map,List.length_range] at this
 refine Eq.trans (cnt_congr (fun i hi=>?_)) this
 constructor
 ·rintro⟨j,hj,e⟩
  exact List.mem_map.2 ⟨j,List.mem_range.2 hj,by rw [e]; simp⟩
 ·intro hx
  obtain⟨j,hj,e⟩:=List.mem_map.1 hx
  have:=(h j (List.mem_range.1 hj)).1
  exact⟨j,List.mem_range.1 hj,by omega⟩
theorem cnt_rest{p:PoolD}(hR:Right p):cnt (fun i=>¬Free (p.s i)∧¬Has p.hn p.h i) p.n+roomN p.s p.n+p.hn=p.n:=by
 have h1:=cnt_not (fun i=>Free (p.s i)∨Has p.hn p.h i) p.n
 have h2:cnt (fun i=>Free (p.s i)∨Has p.hn p.h i) p.n=cnt (fun i=>Free (p.s i)) p.n+cnt (fun i=>Has p.hn p.h i) p.n:=cnt_or (fun i hi hf=>by
  rintro⟨j,hj,e⟩
  have:=(hR.2.2 j hj).2.2.1
  rw [e] at this
  simp only [Int.toNat_natCast] at this
  exact this hf)
 rw [cnt_held hR,←cnt_room] at h2
 have h3:cnt (fun i=>¬(Free (p.s i)∨Has p.hn p.h i)) p.n=cnt (fun i=>¬Free (p.s i)∧¬Has p.hn p.h i) p.n:=cnt_congr (fun i _=>not_or)
 omega
def ReachEq(W:WorldD):Prop:=∀i,i<W.pool.n→((∃m,m<memN W∧∃b,((i:Int),b)∈treeM W (memOf W m))↔(¬Free (W.pool.s i)∧¬Has W.pool.hn W.pool.h i))
def ApartM(W:WorldD):Prop:=∀i,i<memN W→∀j,j<i→∀x,x∈ownM W (memOf W i)→∀y,y∈ownM W (memOf W j)→x.1≠y.1
noncomputable def homesL(W:WorldD):Nat→List (Int×Int)
 | 0=>[]
 | k+1=>homesL W k ++ youngM W (memOf W k)
def HomesOk(W:WorldD):Prop:=(homesL W (memN W)).Nodup∧(homesL W (memN W)).length+roomN W.pool.s W.pool.n+W.pool.hn=W.pool.n
theorem mem_homes{W:WorldD}{x:Int×Int}:∀{k:Nat},x∈homesL W k↔∃i,i<k∧x∈youngM W (memOf W i)
 | 0=>by simp [homesL]
 | k+1=>by
  unfold homesL
  rw [List.mem_append,mem_homes]
  constructor
  ·rintro(⟨i,hi,h⟩ | h)
   ·exact⟨i,by omega,h⟩
   ·exact⟨k,by omega,h⟩
  ·rintro⟨i,hi,h⟩
   by_cases e:i=k
   ·subst e; exact Or.inr h
   ·exact Or.inl ⟨i,by omega,h⟩
theorem homes_nodup{W:WorldD}:∀{k:Nat},(∀i,i<k→(youngM W (memOf W i)).Nodup)→((homesL W k).Nodup↔∀i,i<k→∀j,j<i→∀x,x∈youngM W (memOf W i)→x∉youngM W (memOf W j))
 | 0,_=>⟨fun _ i hi=>absurd hi (Nat.not_lt_zero _),fun _=>List.nodup_nil⟩
 | k+1,hy=>by
  unfold homesL
  rw [List.nodup_append,homes_nodup (fun i hi=>hy i (by omega))]
  constructor
  ·rintro⟨h1,h2,h3⟩ i hi j hj x hx hx'
   by_cases e:i=k
   ·subst e
    exact h3 x (mem_homes.2 ⟨j,hj,hx'⟩) x hx rfl
   ·exact h1 i (by omega) j hj x hx hx'
  ·intro h
   refine⟨fun i hi=>h i (by omega),hy k (by omega),fun x hx y hy' e=>?_⟩
   subst e
   obtain⟨i,hi,hx⟩:=mem_homes.1 hx
   exact h k (by omega) i hi x hy' hx
theorem has_home{W:WorldD}(h:Trees W){x:Int×Int}:∀(N:Nat) (k:Nat),k<W.pn→(W.snaps k).id<N→0≤(W.snaps k).id→(∀j,j<W.pn→0≤(W.snaps j).id)→x∈treeM W (memOf W k)→∃i,i<memN W∧x∈ownM W (memOf W i)
 | 0,k,hk,h1,h2,_,_=>by omega
 | N+1,k,hk,h1,h2,h0,hx=>by
  by_cases ho:x∈oldM W (memOf W k)
  ·have hex:∃j,SnapNo W (memOf W k).prev j:=by
    refine Classical.byContradiction fun hne=>?_
    have:aheadOf W (memOf W k).prev=zeroSnap:=by unfold aheadOf; rw [dif_neg hne]
    unfold oldM at ho
    rw [this,treeL,if_pos ⟨rfl,rfl⟩] at ho
    simp at ho
   obtain⟨j,hj⟩:=hex
   unfold oldM at ho
   rw [aheadOf_at hj] at ho
   have e1:(memOf W k).prev=(W.snaps k).prev:=by rw [memOf_snap hk]; rfl
   have:=h.ids k hk
   have:=hj.2.1
   exact has_home h N j hj.1 (by omega) (h0 j hj.1) h0 (by rw [memOf_snap hj.1]; exact ho)
  ·exact⟨k,by unfold memN; omega,List.mem_filter.2 ⟨hx,by simpa using ho⟩⟩
theorem home_any{W:WorldD}(h:Trees W)(h0:∀j,j<W.pn→0≤(W.snaps j).id){x:Int×Int}{m:Nat}(hm:m<memN W)(hx:x∈treeM W (memOf W m)):∃i,i<memN W∧x∈ownM W (memOf W i):=by
 by_cases ho:x∈oldM W (memOf W m)
 ·have hex:∃j,SnapNo W (memOf W m).prev j:=by
   refine Classical.byContradiction fun hne=>?_
   have:aheadOf W (memOf W m).prev=zeroSnap:=by unfold aheadOf; rw [dif_neg hne]
   unfold oldM at ho
   rw [this,treeL,if_pos ⟨rfl,rfl⟩] at ho
   simp at ho
  obtain⟨j,hj⟩:=hex
  unfold oldM at ho
  rw [aheadOf_at hj] at ho
  have:=h0 j hj.1
  exact has_home h ((W.snaps j).id.toNat+1) j hj.1 (by omega) (h0 j hj.1) h0 (by rw [memOf_snap hj.1]; exact ho)
 ·exact⟨m,hm,List.mem_filter.2 ⟨hx,by simpa using ho⟩⟩
theorem homes_iff{W:WorldD}(h:Trees W)(h0:∀j,j<W.pn→0≤(W.snaps j).id)(hM:∀i,i<memN W→SpecM W (memOf W i)):HomesOk W↔ReachEq W∧ApartM W:=by
 have hy:∀i,i<memN W→youngM W (memOf W i)=ownM W (memOf W i):=fun i hi=>young_own (hM i hi)
 have hnd:∀i,i<memN W→(youngM W (memOf W i)).Nodup:=fun i hi=>(tree_nodup' h.right (h.tree i hi)).filter _
 have hin:∀i,i<memN W→∀x,x∈ownM W (memOf W i)→x∈treeM W (memOf W i):=fun i _ x hx=>(List.mem_filter.1 hx).1
 have hpt:∀i,i<memN W→∀x,x∈treeM W (memOf W i)→Points W.pool x.1 x.2∧¬Has W.pool.hn W.pool.h x.1:=fun i hi x hx=>⟨(tree_mem h.right (h.tree i hi) hx).1,(tree_mem h.right (h.tree i hi) hx).2.2⟩
 have hone:∀x y:Int×Int,Points W.pool x.1 x.2→Points W.pool y.1 y.2→x.1=y.1→x=y:=fun x y hx hy' e=>by
  have a1:=hx.2.2.2
  have a2:=hy'.2.2.2
  rw [e] at a1
  exact Prod.ext e (a1.symm.trans a2)
 have hA:(homesL W (memN W)).Nodup↔ApartM W:=by
  rw [homes_nodup hnd]
  unfold ApartM
  constructor
  ·intro hh i hi j hj x hx y hy' e
   have hxy:=hone x y (hpt i hi x (hin i hi x hx)).1 (hpt j (by omega) y (hin j (by omega) y hy')).1 e
   subst hxy
   exact hh i hi j hj x (by rw [hy i hi]; exact hx) (by rw [hy j (by omega)]; exact hy')
  ·intro hh i hi j hj x hx hx'
   exact hh i hi j hj x (by rw [←hy i hi]; exact hx) x (by rw [←hy j (by omega)]; exact hx') rfl
 have hhome:∀x,x∈homesL W (memN W)↔∃m,m<memN W∧x∈treeM W (memOf W m):=fun x=>by
  rw [mem_homes]
  constructor
  ·rintro⟨i,hi,hx⟩
   rw [hy i hi] at hx
   exact⟨i,hi,hin i hi x hx⟩
  ·rintro⟨m,hm,hx⟩
   obtain⟨i,hi,hx⟩:=home_any h h0 hm hx
   exact⟨i,hi,by rw [hy i hi]; exact hx⟩
 unfold HomesOk
 rw [hA]
 constructor
 ·rintro⟨ha,hlen⟩
  refine⟨?_,ha⟩
  have hnodup:=hA.2 ha
  have hpL:∀x,x∈homesL W (memN W)→Points W.pool x.1 x.2:=fun x hx=>by
   obtain⟨m,hm,hx⟩:=(hhome x).1 hx
   exact(hpt m hm x hx).1
  have hl:∀x,x∈(homesL W (memN W)).map (fun x=>x.1.toNat)→x<W.pool.n:=by
   intro x hx
   obtain⟨y,hy',rfl⟩:=List.mem_map.1 hx
   have:=hpL y hy'
   have h1:=this.2.1
   have h2:=this.2.2.1
   omega
  have hnl:((homesL W (memN W)).map (fun x=>x.1.toNat)).Nodup:=by
   unfold List.Nodup
   rw [List.pairwise_map]
   refine List.Pairwise.imp_of_mem ?_ hnodup
   intro a b ha' hb' hne e
   have p1:=hpL a ha'
   have p2:=hpL b hb'
   have:=p1.2.1
   have:=p2.2.1
   exact hne (hone a b p1 p2 (by omega))
  have hc:=cnt_list hnl hl
  rw [List.length_map] at hc
  have hr:=cnt_rest h.right
  have hmem:∀i,i<W.pool.n→(i∈(homesL W (memN W)).map (fun x=>x.1.toNat)↔∃m,m<memN W∧∃b,((i:Int),b)∈treeM W (memOf W m)):=by
   intro i hi
   rw [List.mem_map]
   constructor
   ·rintro⟨x,hx,e⟩
    have:=(hpL x hx).2.1
    obtain⟨m,hm,hx⟩:=(hhome x).1 hx
    exact⟨m,hm,x.2,by rw [show(i:Int)=x.1 by omega]; exact hx⟩
   ·rintro⟨m,hm,b,hx⟩
    exact⟨(i,b),(hhome _).2 ⟨m,hm,hx⟩,by simp⟩
  have himp:∀i,i<W.pool.n→i∈(homesL W (memN W)).map (fun x=>x.1.toNat)→¬Free (W.pool.s i)∧¬Has W.pool.hn W.pool.h i:=by
   intro i hi hx
   obtain⟨m,hm,b,hx⟩:=(hmem i hi).1 hx
   have:=hpt m hm _ hx
   refine⟨fun hf=>?_,this.2⟩
   have h1:=this.1.1
   have h2:=this.1.2.2.2
   simp only [Int.toNat_natCast] at h2
   rw [hf.1] at h2
   simp only at h1 h2
   omega
  have:=(cnt_eq_iff himp).1 (by rw [hc]; omega)
  intro i hi
  rw [←hmem i hi]
  exact this i hi
 ·rintro⟨hre,ha⟩
  refine⟨ha,?_⟩
  have hnodup:=hA.2 ha
  have hpL:∀x,x∈homesL W (memN W)→Points W.pool x.1 x.2:=fun x hx=>by
   obtain⟨m,hm,hx⟩:=(hhome x).1 hx
   exact(hpt m hm x hx).1
  have hl:∀x,x∈(homesL W (memN W)).map (fun x=>x.1.toNat)→x<W.pool.n:=by
   intro x hx
   obtain⟨y,hy',rfl⟩:=List.mem_map.1 hx
   have:=hpL y hy'
   have h1:=this.2.1
   have h2:=this.2.2.1
   omega
  have hnl:((homesL W (memN W)).map (fun x=>x.1.toNat)).Nodup:=by
   unfold List.Nodup
   rw [List.pairwise_map]
   refine List.Pairwise.imp_of_mem ?_ hnodup
   intro a b ha' hb' hne e
   have p1:=hpL a ha'
   have p2:=hpL b hb'
   have:=p1.2.1
   have:=p2.2.1
   exact hne (hone a b p1 p2 (by omega))
  have hc:=cnt_list hnl hl
  rw [List.length_map] at hc
  have hr:=cnt_rest h.right
  have hmem:∀i,i<W.pool.n→(i∈(homesL W (memN W)).map (fun x=>x.1.toNat)↔∃m,m<memN W∧∃b,((i:Int),b)∈treeM W (memOf W m)):=by
   intro i hi
   rw [List.mem_map]
   constructor
   ·rintro⟨x,hx,e⟩
    have:=(hpL x hx).2.1
    obtain⟨m,hm,hx⟩:=(hhome x).1 hx
    exact⟨m,hm,x.2,by rw [show(i:Int)=x.1 by omega]; exact hx⟩
   ·rintro⟨m,hm,b,hx⟩
    exact⟨(i,b),(hhome _).2 ⟨m,hm,hx⟩,by simp⟩
  have:=cnt_congr (P:=fun i=>i∈(homesL W (memN W)).map (fun x=>x.1.toNat)) (Q:=fun i=>¬Free (W.pool.s i)∧¬Has W.pool.hn W.pool.h i) (n:=W.pool.n) (fun i hi=>(hmem i hi).trans (hre i hi))
  omega
end Go.Proofs.YtmgeglgboadfiaaGreatDoor
