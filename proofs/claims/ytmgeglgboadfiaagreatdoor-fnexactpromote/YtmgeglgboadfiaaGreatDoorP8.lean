/- What spec.l02Right and spec.TreeRight answer. -/
import Derived.Test.YtmgeglgboadfiaaGreatDoorP4
import Derived.Test.YtmgeglgboadfiaaGreatDoorP7
import Derived.Deep.RegionHeld3
import Derived.BigQuiet
namespace Go.Proofs.YtmgeglgboadfiaaGreatDoor
open Go.RowKit
set_option linter.unusedVariables false
theorem infoIntL:(Tryz.prog.info? 2).map (fun i=>(i.zero,i.size,i.bytes))=some (some (.int .i64 0),1,8):=by kernel_rfl
def RowI(w:World)(base:Nat)(v:Value)(l:List Int):Prop:=w.ownsRow base 2 1 v l.length (icl l)
theorem RowI.below{w w1:World}{base:Nat}{v:Value}{l:List Int}(h:RowI w base v l)(hb:Below w.heap.size w w1):RowI w1 base v l:=
 World.ownsRow.kept h (grownL hb none) (by cases v.ownBlock <;> simp)
theorem RowI.at'{w:World}{base:Nat}{v:Value}{l:List Int}(h:RowI w base v l)(hm:l.length≤100):IntsAt w 0 w.heap.size v l.length (fun i=>l.getD i 0):=row_ints (by unfold maxLen; omega) h
theorem RowI.next{w2:World}{base g cap:Nat}{l:List Int}{x:Int}(h:w2.ownsRow base 2 1 (.slice (some ⟨g,0,none⟩) (l.length+1) cap) (l.length+1) (icl l ++ [.int .i64 x])):RowI w2 base (.slice (some ⟨g,0,none⟩) (l.length+1) cap) (l ++ [x]):=by
 unfold RowI
 rw [icl_append,List.length_append]
 exact h
theorem RowI.lt{w:World}{base:Nat}{v:Value}{l:List Int}(h:RowI w base v l){q:Nat}(hq:v.ownBlock=some q):base≤q:=by
 rcases h.2 with⟨rfl,_⟩ | ⟨g,cap,cur,rfl,hb,hg,_⟩
 ·simp [Value.ownBlock] at hq
 ·simp only [Value.ownBlock,Option.some.injEq] at hq
  subst hq
  exact hb
theorem Box2.grownT{w w1:World}{b:Nat}{x y:Value}{row:Option Nat}(h:Box2 w b x y)(hg:w.grownBy w1 row)(hne:∀q,row=some q→b<q):Box2 w1 b x y:=
 h.turned (S:=fun k=>row=some k) ⟨hg.os,hg.tape,hg.output,hg.size,fun k hk hne=>hg.block k hk (fun e=>hne e.symm)⟩ (fun e=>by have:=hne b e; omega)
set_option maxRecDepth 20000 in
set_option maxHeartbeats 8000000 in
theorem l02Right_any(v0 v1:Value)(lo hi:Nat)(p:PoolD)(xs xb:Int)(w:World)(h1:PoolAt w lo hi v0 v1 p)(hR:Right p) :
  Calls Tryz.prog 71 #[.agg #[v0,v1],.agg #[.int .i64 xs,.int .i64 xb]] w fun e w'=>BoolIs (TreeOk p xs xb) e∧Below w.heap.size w w':=by
 have Hp:=hideT h1
 have HR:=hideT hR
 obtain⟨a,c,a',c',rfl,rfl⟩:∃a c a' c',v0 = .slice a p.n c∧v1 = .slice a' p.hn c':=by
  obtain⟨⟨_,a,c,h1,_⟩,⟨_,a',c',h3,_⟩⟩:=h1
  exact⟨a,c,a',c',h1,h3⟩
 clear h1 hR
 have hst:=start22 w (.slice a p.n c) (.slice a' p.hn c') (.int .i64 xs) (.int .i64 xb) 33 61
 obtain⟨i0,hi0,hzz⟩:=Option.map_eq_some_iff.1 infoIntL
 simp only [Prod.mk.injEq] at hzz
 have HI:=hideT (And.intro hi0 hzz)
 clear hi0 hzz
 go_enter Tryz.func71,Tryz.ntmps71
 go_wp2_with fail
 generalize (w.alloc (.cells #[.slice a p.n c,.slice a' p.hn c'] 33)).alloc (.cells #[.int .i64 xs,.int .i64 xb] 61)=W at hst ⊢
 obtain⟨hB,hX,hba,hz⟩:=hst
 refine(l01None_any xs xb W).mono ?_
 rintro e w1 ⟨⟨t,rfl,ht⟩,hb1⟩
 have HB1:=hideT (hB.below hb1)
 have HX1:=hideT (hX.below hb1)
 have hB1:=below_next hba hb1
 have hz1:=hb1.size
 clear hB hX hba hb1
 by_cases hn:Nil xs xb
 ·have HN:=hideT hn
  obtain rfl:t=true:=ht.2 hn
  clear ht hn
  go_wp2
  go_ret
  exact⟨BoolIs.yes (Or.inl HN.out),hB1⟩
 ·have HN:=hideT hn
  obtain rfl:t=false:=bool_no ht hn
  clear ht hn
  obtain⟨⟨x0,x1⟩,⟨x2,x3⟩⟩:=HB1.out
  obtain⟨⟨y0,y1⟩,⟨y2,y3⟩⟩:=HX1.out
  go_wp2_with fail
  refine(l02Node_any _ _ lo hi p xs xb _ (Hp.out.below hB1)).mono ?_
  rintro e w2 ⟨⟨t,rfl,ht⟩,hb2⟩
  have HB2:=hideT (HB1.out.below hb2)
  have HX2:=hideT (HX1.out.below hb2)
  have hB2:=below_next hB1 hb2
  have hz2:w.heap.size+2≤w2.heap.size:=by have:=hb2.size; omega
  clear hb2 hB1 HB1 HX1 x0 x1 x2 x3 y0 y1 y2 y3 hz hz1
  by_cases hNd:NodeAt p xs xb
  ·have HNd:=hideT hNd
   obtain rfl:t=true:=ht.2 hNd
   have Hf:=hideT (points_fits HR.out hNd.1)
   have h8:(p.s xs.toNat).kn=8:=by rcases points_kn HR.out hNd.1 with h | h; (have:=hNd.2.1; omega); exact h
   obtain⟨k,rfl⟩:=Int.eq_ofNat_of_zero_le hNd.1.2.1
   have hk:k<p.n:=by have:=hNd.1.2.2.1; omega
   have hk':(k:Int)<(p.n:Int):=by omega
   rw [Int.toNat_natCast] at Hf h8
   have H8:=hideT h8
   clear ht hNd
   obtain⟨b,off,ka,kc,rfl,hsc⟩:=Hp.out.1.cells hk
   have Hkw:Hid (PtrsAt w lo hi (.slice ka 8 kc) 8 (p.s k).ks (p.s k).kb):=by have:=hsc.slot.2.1; rw [h8] at this; exact this
   obtain⟨q0,q1,q2,_⟩:=hsc.below hB2
   rw [h8] at q1
   clear h8 hsc
   obtain⟨⟨x0,x1⟩,⟨x2,x3⟩⟩:=HB2.out
   obtain⟨⟨y0,y1⟩,⟨y2,y3⟩⟩:=HX2.out
   have hal:=below_alloc w2 (.cells #[.int .i64 (k:Int)] 2)
   have HS0:=hideT (show RowI (w2.alloc (.cells #[.int .i64 (k:Int)] 2)) (w.heap.size+2) (.slice (some ⟨w2.heap.size,0,none⟩) 1 1) (seenL p k (p.s k) 0)from World.ownsRow_lit (e:=2) (size:=1) w2 #[.int .i64 (k:Int)] 1 hz2 (by unfold maxLen; omega) rfl)
   have HB3:=hideT (HB2.out.below hal)
   have hB3:=below_next hB2 hal
   have c0:=(hal.cell (lt_of_cell q0)).trans q0
   have c1:=(hal.cell (lt_of_cell q1)).trans q1
   obtain⟨⟨z0,z1⟩,⟨z2,z3⟩⟩:=HB3.out
   obtain⟨⟨z4,z5⟩,⟨z6,z7⟩⟩:=HX2.out.below hal
   clear hal
   go_wp2
   go_loopw [5,6,8] (fun sv nv i wr=>∃(j m:Nat) (sa:Option Addr) (sc:Nat),j≤8∧i = .int .i64 j∧nv = .int .i64 m∧m≤j∧(0<m↔∃i,i<j∧¬Nil (kidS (p.s k) i) (kidB (p.s k) i))∧sv = .slice sa (seenL p k (p.s k) j).length sc∧RowI wr (w.heap.size+2) sv (seenL p k (p.s k) j)∧(∀i,i<j→MidOk p (p.s k) i)∧(seenL p k (p.s k) j).Nodup∧Box2 wr w.heap.size (.slice (some ⟨b,off,none⟩) p.n c) (.slice a' p.hn c')∧Below w.heap.size w wr∧w.heap.size+2≤wr.heap.size) (fun _ _ i _=>8 - (intOf i).toNat)
   case atStart=>exact⟨0,0,_,_,Nat.zero_le _,rfl,rfl,Nat.le_refl _,⟨fun h=>absurd h (Nat.lt_irrefl _),fun ⟨i,hi,_⟩=>absurd hi (Nat.not_lt_zero _)⟩,rfl,HS0.out,fun i hi=>absurd hi (Nat.not_lt_zero _),by simp [seenL,subUp,slotsL],HB3.out,hB3,by rw [World.size_alloc]; omega⟩
   case round=>
    obtain⟨j,m0,sa,sc,hj,rfl,rfl,hm0,hcnt,rfl,hrow,hmid,hnod,hbox,hbr,hzr⟩:=hrel
    have Hcnt:=hideT hcnt
    have Hrow:=hideT hrow
    have Hmid:=hideT hmid
    have Hnod:=hideT hnod
    have Hbox:=hideT hbox
    have hlen:=seen_len p k (p.s k) hj
    clear hcnt hrow hmid hnod hbox HS0 HB3 hB3 c0 c1 z0 z1 z2 z3 z4 z5 z6 z7 x0 x1 x2 x3 y0 y1 y2 y3 q0 q1 q2 HB2 HX2
    by_cases hlt:j<8
    ·have hlt':(j:Int)<8:=by omega
     obtain⟨tb,tof,rfl,q0,q1⟩:=(Hkw.out.below hbr).cellsT hlt
     rw [←kidS_at H8.out hlt] at q0
     rw [←kidB_at H8.out hlt] at q1
     go_wp2_with fail
     refine(l01None_any (kidS (p.s k) j) (kidB (p.s k) j) wr).mono ?_
     rintro e W ⟨⟨t,rfl,ht⟩,hb⟩
     have hbW:=below_next hbr hb
     have HBW:=hideT (Hbox.out.below hb)
     have HsW:=hideT (Hrow.out.below hb)
     have hzW:w.heap.size+2≤W.heap.size:=by have:=hb.size; omega
     have q0W:=(hb.cell (lt_of_cell q0)).trans q0
     have q1W:=(hb.cell (lt_of_cell q1)).trans q1
     clear q0 q1 hbr hb Hrow Hbox hzr
     have q0:=q0W
     have q1:=q1W
     clear q0W q1W
     by_cases hnl:Nil (kidS (p.s k) j) (kidB (p.s k) j)
     ·have HNl:=hideT hnl
      obtain rfl:t=true:=ht.2 hnl
      clear ht hnl
      go_wp2
      go_roundw
      case rel=>
       refine⟨j+1,m0,sa,sc,by omega,by go_num,rfl,by omega,?_,by rw [seen_stay HNl.out],by rw [seen_stay HNl.out]; exact HsW.out,relNext hlt Hmid.out (Or.inl HNl.out),by rw [seen_stay HNl.out]; exact Hnod.out,HBW.out,hbW,hzW⟩
       exact Hcnt.out.trans ⟨fun ⟨i,hi,h⟩=>⟨i,by omega,h⟩,fun ⟨i,hi,h⟩=>by
        by_cases e:i=j
        ·subst e; exact absurd HNl.out h
        ·exact⟨i,by omega,h⟩⟩
      case measure=>simp [intOf]; omega
     ·have HNl:=hideT hnl
      obtain rfl:t=false:=bool_no ht hnl
      clear ht hnl
      have HlenW:=hideT (show(seenL p k (p.s k) j).length≤maxLen by unfold maxLen; omega)
      obtain⟨⟨x0,x1⟩,⟨x2,x3⟩⟩:=HBW.out
      by_cases hNo:NodeAt p (kidS (p.s k) j) (kidB (p.s k) j)
      ·have HNo:=hideT hNo
       clear hNo
       by_cases hIn:kidS (p.s k) j∈seenL p k (p.s k) j
       ·have HIn:=hideT hIn
        clear hIn
        go_wp2_with fail
        refine wp_region_held_drew (S:=(fun w'=>w'.cell? ⟨w.heap.size,0,none⟩=some (.slice (some ⟨b,off,none⟩) p.n c)∧w'.cell? ⟨w.heap.size,1,none⟩=some (.slice a' p.hn c')∧w'.cell? ⟨tb,tof+j*2,none⟩=some (.int .i64 (kidS (p.s k) j))∧w'.cell? ⟨tb,tof+j*2+1,none⟩=some (.int .i64 (kidB (p.s k) j)))) (by kernel_rfl) ?_ (fun hHeld=>?_)
        ·(try dsimp only)
         go_keep
        refine tk 0 (h:=tk 1 (h:=tk 2 (h:=tk 3 (h:=tk 4 (h:=?_)))))
        refine rd [5] (rc (fun K hK=>?_) .nil)
        go_simp
        go_at_call 139
        refine(l02Node_any _ _ lo hi p (kidS (p.s k) j) (kidB (p.s k) j) _ ?_).mono ?_
        ·first | exact Hp.out.below hbW | exact Hp.out.below hbW.drew
        rintro e wa ⟨⟨ta,rfl,hta⟩,hba⟩
        obtain rfl:ta=true:=hta.2 HNo.out
        clear hta
        have hCa:Below W.heap.size W wa:=(by first | exact hba | exact below_undrew hba)
        obtain⟨⟨k0,_⟩,⟨k1,_⟩⟩:=HBW.out.below hCa
        have k2:=(hCa.cell (lt_of_cell q0)).trans q0
        have k3:=(hCa.cell (lt_of_cell q1)).trans q1
        (try go_wp2_with fail)
        refine hK.out _ _ (by(try dsimp only); go_keep) ?_
        clear hK K hHeld
        intro hHeld
        try simp only [Act.put,s1,s2,s3]
        refine tk 6 (h:=tk 7 (h:=tk 8 (h:=tk 9 (h:=tk 10 (h:=tk 11 (h:=tk 12 (h:=tk 13 (h:=?_))))))))
        refine rd [14] (rc (fun K hK=>?_) .nil)
        go_simp
        go_at_call 75
        refine(l01Has_any _ _ 0 _ _ (kidS (p.s k) j) _ (row_ints HlenW.out (HsW.out.kept (grownL hCa none) (by rcases Value.ownBlock _ <;> simp)))).mono ?_
        rintro e wb ⟨⟨tb2,rfl,htb2⟩,rfl⟩
        rw [has_list] at htb2
        obtain rfl:tb2=true:=htb2.2 HIn.out
        clear htb2
        (try go_wp2_with fail)
        refine hK.out _ _ (by(try dsimp only); go_keep) ?_
        clear hK K hHeld
        intro hHeld
        try simp only [Act.put,s1,s2,s3]
        refine tk 15 (h:=?_)
        refine wpAnyH_done (by kernel_rfl) ?_ _
        have hBb:=below_next hbW hCa
        go_wp2
        go_ret
        refine⟨BoolIs.no fun h=>?_,hBb⟩
        have hd:=nodup_low HN.out (h.resolve_left HN.out).2.2 hlt (Nat.zero_le _) HNl.out
        exact(snoc_nodup.1 (show(seenL p k (p.s k) j ++ [kidS (p.s k) j]).Nodup from hd)).2 HIn.out
       ·have HIn:=hideT hIn
        clear hIn
        go_wp2_with fail
        refine wp_region_held_drew (S:=(fun w'=>w'.cell? ⟨w.heap.size,0,none⟩=some (.slice (some ⟨b,off,none⟩) p.n c)∧w'.cell? ⟨w.heap.size,1,none⟩=some (.slice a' p.hn c')∧w'.cell? ⟨tb,tof+j*2,none⟩=some (.int .i64 (kidS (p.s k) j))∧w'.cell? ⟨tb,tof+j*2+1,none⟩=some (.int .i64 (kidB (p.s k) j)))) (by kernel_rfl) ?_ (fun hHeld=>?_)
        ·(try dsimp only)
         go_keep
        refine tk 0 (h:=tk 1 (h:=tk 2 (h:=tk 3 (h:=tk 4 (h:=?_)))))
        refine rd [5] (rc (fun K hK=>?_) .nil)
        go_simp
        go_at_call 139
        refine(l02Node_any _ _ lo hi p (kidS (p.s k) j) (kidB (p.s k) j) _ ?_).mono ?_
        ·first | exact Hp.out.below hbW | exact Hp.out.below hbW.drew
        rintro e wa ⟨⟨ta,rfl,hta⟩,hba⟩
        obtain rfl:ta=true:=hta.2 HNo.out
        clear hta
        have hCa:Below W.heap.size W wa:=(by first | exact hba | exact below_undrew hba)
        obtain⟨⟨k0,_⟩,⟨k1,_⟩⟩:=HBW.out.below hCa
        have k2:=(hCa.cell (lt_of_cell q0)).trans q0
        have k3:=(hCa.cell (lt_of_cell q1)).trans q1
        (try go_wp2_with fail)
        refine hK.out _ _ (by(try dsimp only); go_keep) ?_
        clear hK K hHeld
        intro hHeld
        try simp only [Act.put,s1,s2,s3]
        refine tk 6 (h:=tk 7 (h:=tk 8 (h:=tk 9 (h:=tk 10 (h:=tk 11 (h:=tk 12 (h:=tk 13 (h:=?_))))))))
        refine rd [14] (rc (fun K hK=>?_) .nil)
        go_simp
        go_at_call 75
        refine(l01Has_any _ _ 0 _ _ (kidS (p.s k) j) _ (row_ints HlenW.out (HsW.out.kept (grownL hCa none) (by rcases Value.ownBlock _ <;> simp)))).mono ?_
        rintro e wb ⟨⟨tb2,rfl,htb2⟩,rfl⟩
        rw [has_list] at htb2
        obtain rfl:tb2=false:=bool_no htb2 HIn.out
        clear htb2
        (try go_wp2_with fail)
        refine hK.out _ _ (by(try dsimp only); go_keep) ?_
        clear hK K hHeld
        intro hHeld
        try simp only [Act.put,s1,s2,s3]
        refine tk 15 (h:=?_)
        refine wpAnyH_done (by kernel_rfl) ?_ _
        have hBb:=below_next hbW hCa
        have hzb:w.heap.size+2≤wb.heap.size:=by have:=hCa.size; omega
        obtain⟨m,hm⟩:=Int.eq_ofNat_of_zero_le HNo.out.1.2.1
        have hmp:m<p.n:=by have:=HNo.out.1.2.2.1; omega
        have hmp':(m:Int)<(p.n:Int):=by omega
        have hmt:(kidS (p.s k) j).toNat=m:=by rw [hm]; rfl
        have Hfm:=hideT (points_fits HR.out HNo.out.1)
        rw [hmt] at Hfm
        have h8m:(p.s m).kn=8:=by
         have h0:=HNo.out.2.1
         rw [hmt] at h0
         rcases fits_kn Hfm.out with h | h
         ·omega
         ·exact h
        have H8m:=hideT h8m
        obtain⟨_,_,ua,uc,ha,hsm⟩:=Hp.out.1.cells hmp
        simp only [Option.some.injEq,Addr.mk.injEq,and_true] at ha
        obtain⟨rfl,rfl⟩:=ha
        have Huw:Hid (PtrsAt w lo hi (.slice ua 8 uc) 8 (p.s m).ks (p.s m).kb):=by have:=hsm.slot.2.1; rw [h8m] at this; exact this
        have Hsm:=hideT hsm
        have Hm:=hideT hm
        have Hmt:=hideT hmt
        have hal:=below_alloc wb (.cells #[.int .i64 (kidS (p.s k) j)] 2)
        have Hrb:=hideT ((HsW.out.below hCa).below hal)
        have HBb:=hideT ((HBW.out.below hCa).below hal)
        have hBa:=below_next hBb hal
        have hza:(wb.alloc (.cells #[.int .i64 (kidS (p.s k) j)] 2)).heap.size=wb.heap.size+1:=World.size_alloc _ _
        have HNw:=hideT (World.news_of_block (heap_alloc_last wb (.cells #[.int .i64 (kidS (p.s k) j)] 2)))
        have hm9:(m0:Int)<9:=by omega
        clear hsm h8m hm hmt hal HsW HBW hbW hCa q0 q1 k0 k1 k3 x0 x1 x2 x3
        go_wp2_with (first
         | (at_builtin; refine wpList_append_lies _ rfl _ _ 23 rfl (w.heap.size+2) 2 i0 (.int .i64 0) 1 8 (by kernel_rfl) HI.out.1 HI.out.2.1 HI.out.2.2.1 HI.out.2.2.2 rfl (by decide) (.slice sa (seenL p k (p.s k) j).length sc) (seenL p k (p.s k) j).length (icl (seenL p k (p.s k) j)) rfl Hrb.out ⟨wb.heap.size,0,none⟩ 1 1 [.int .i64 (kidS (p.s k) j)] rfl rfl HNw.out (by simp [Value.oneCell']) (by decide) (by unfold maxLen; omega) (by omega) (by omega) _ rfl ?_; intro g4 cap4 w4 hown4 hgrow4 hat4 hlt4)
         | fail)
        have Hr4:Hid (RowI w4 (w.heap.size+2) (.slice (some ⟨g4,0,none⟩) ((seenL p k (p.s k) j).length+1) cap4) (midS p k (p.s k) j 0)):=by
         rw [mid_start]
         exact RowI.next hown4
        have hB4:Below w.heap.size w w4:=hBa.grown hgrow4 hBa.size (fun q hq=>by have:=Hrb.out.lt hq; omega)
        have HB4:=hideT (HBb.out.grownT hgrow4 (fun q hq=>by have:=Hrb.out.lt hq; omega))
        have hz4:w.heap.size+2≤w4.heap.size:=by have:=hgrow4.size; omega
        have hn4:(midS p k (p.s k) j 0).Nodup:=by rw [mid_start]; exact snoc_nodup.2 ⟨Hnod.out,HIn.out⟩
        have Hn4:=hideT hn4
        clear hown4 hgrow4 hat4 hlt4 Hrb HBb hBa hBb HNw hn4 k2
        obtain⟨_,_,ha,q0,q1⟩:=(Hkw.out.below hB4).cellsT hlt
        simp only [Option.some.injEq,Addr.mk.injEq,and_true] at ha
        obtain⟨rfl,rfl⟩:=ha
        rw [←kidS_at H8.out hlt,Hm.out] at q0
        obtain⟨r0,r1,r2,_⟩:=Hsm.out.below hB4
        rw [H8m.out] at r1
        obtain⟨⟨x0,x1⟩,⟨x2,x3⟩⟩:=HB4.out
        go_quiet (fail)
        go_wp2
        go_loopw [5,9,11] (fun sv nv i wr=>∃(i' m1:Nat) (sa:Option Addr) (sc:Nat),i'≤8∧i = .int .i64 i'∧nv = .int .i64 m1∧m1≤i'∧(0<m1↔∃i,i<i'∧¬Nil (kidS (p.s m) i) (kidB (p.s m) i))∧sv = .slice sa (midS p k (p.s k) j i').length sc∧RowI wr (w.heap.size+2) sv (midS p k (p.s k) j i')∧(∀i,i<i'→Nil (kidS (p.s m) i) (kidB (p.s m) i)∨PageAt p (kidS (p.s m) i) (kidB (p.s m) i))∧(midS p k (p.s k) j i').Nodup∧Box2 wr w.heap.size (.slice (some ⟨b,off,none⟩) p.n c) (.slice a' p.hn c')∧Below w.heap.size w wr∧w.heap.size+2≤wr.heap.size) (fun _ _ i _=>8 - (intOf i).toNat)
        case atStart=>exact⟨0,0,some ⟨g4,0,none⟩,cap4,Nat.zero_le _,rfl,rfl,Nat.le_refl _,⟨fun h=>absurd h (Nat.lt_irrefl _),fun ⟨i,hi,_⟩=>absurd hi (Nat.not_lt_zero _)⟩,by rw [mid_start,List.length_append]; rfl,Hr4.out.below (below_drewN (Below.refl _ _) _),fun i hi=>absurd hi (Nat.not_lt_zero _),Hn4.out,HB4.out.below (below_drewN (Below.refl _ _) _),below_drewN hB4 _,hz4⟩
        case round=>
         obtain⟨i,m1,sa,sc,hi8,rfl,rfl,hm1,hcnt1,rfl,hrow,hpg,hnod,hbox,hbr,hzr⟩:=hrel
         have Hcnt1:=hideT hcnt1
         have Hrow:=hideT hrow
         have Hpg:=hideT hpg
         have Hnod1:=hideT hnod
         have Hbox:=hideT hbox
         have hlen1:=mid_len p k (p.s k) (show j≤8 by omega) hi8
         clear hcnt1 hrow hpg hnod hbox Hr4 HB4 hB4 Hn4 x0 x1 x2 x3 q0 q1 r0 r1 r2 hz4
         by_cases hli:i<8
         ·have hli':(i:Int)<8:=by omega
          obtain⟨ub,uof,rfl,q0,q1⟩:=(Huw.out.below hbr).cellsT hli
          rw [←kidS_at H8m.out hli] at q0
          rw [←kidB_at H8m.out hli] at q1
          go_wp2_with fail
          refine(l01None_any (kidS (p.s m) i) (kidB (p.s m) i) wr).mono ?_
          rintro e W ⟨⟨t,rfl,ht⟩,hb⟩
          have hbW:=below_next hbr hb
          have HBW:=hideT (Hbox.out.below hb)
          have HsW:=hideT (Hrow.out.below hb)
          have hzW:w.heap.size+2≤W.heap.size:=by have:=hb.size; omega
          have q0W:=(hb.cell (lt_of_cell q0)).trans q0
          have q1W:=(hb.cell (lt_of_cell q1)).trans q1
          clear q0 q1 hbr hb Hrow Hbox hzr
          have q0:=q0W
          have q1:=q1W
          clear q0W q1W
          by_cases hnl:Nil (kidS (p.s m) i) (kidB (p.s m) i)
          ·have HNi:=hideT hnl
           obtain rfl:t=true:=ht.2 hnl
           clear ht hnl
           have es:midS p k (p.s k) j (i+1)=midS p k (p.s k) j i:=mid_stay (by rw [Hmt.out]; exact HNi.out)
           go_wp2
           go_roundw
           case rel=>
            refine⟨i+1,m1,sa,sc,by omega,by go_num,rfl,by omega,?_,by rw [es],by rw [es]; exact HsW.out,relNext hli Hpg.out (Or.inl HNi.out),by rw [es]; exact Hnod1.out,HBW.out,hbW,hzW⟩
            exact Hcnt1.out.trans ⟨fun ⟨i,hi,h⟩=>⟨i,by omega,h⟩,fun ⟨i',hi,h⟩=>by
             by_cases e:i'=i
             ·subst e; exact absurd HNi.out h
             ·exact⟨i',by omega,h⟩⟩
           case measure=>simp [intOf]; omega
          ·have HNi:=hideT hnl
           obtain rfl:t=false:=bool_no ht hnl
           clear ht hnl
           have HlenW:=hideT (show(midS p k (p.s k) j i).length≤maxLen by unfold maxLen; omega)
           obtain⟨⟨x0,x1⟩,⟨x2,x3⟩⟩:=HBW.out
           have es:midS p k (p.s k) j (i+1)=midS p k (p.s k) j i ++ [kidS (p.s m) i]:=by have:=mid_next (p:=p) (rs:=(k:Int)) (s:=p.s k) (j:=j) (i:=i) (by rw [Hmt.out]; exact HNi.out); rw [Hmt.out] at this; exact this
           have Hes:=hideT es
           clear es
           by_cases hP:PageAt p (kidS (p.s m) i) (kidB (p.s m) i)
           ·have HPg:=hideT hP
            clear hP
            by_cases hIn2:kidS (p.s m) i∈midS p k (p.s k) j i
            ·have HIn2:=hideT hIn2
             clear hIn2
             go_wp2_with fail
             refine wp_region_held_drew (S:=(fun w'=>w'.cell? ⟨w.heap.size,0,none⟩=some (.slice (some ⟨b,off,none⟩) p.n c)∧w'.cell? ⟨w.heap.size,1,none⟩=some (.slice a' p.hn c')∧w'.cell? ⟨ub,uof+i*2,none⟩=some (.int .i64 (kidS (p.s m) i))∧w'.cell? ⟨ub,uof+i*2+1,none⟩=some (.int .i64 (kidB (p.s m) i)))) (by kernel_rfl) ?_ (fun hHeld=>?_)
             ·(try dsimp only)
              go_keep
             refine tk 0 (h:=tk 1 (h:=tk 2 (h:=tk 3 (h:=tk 4 (h:=?_)))))
             refine rd [5] (rc (fun K hK=>?_) .nil)
             go_simp
             go_at_call 140
             refine(l02Page_any _ _ lo hi p (kidS (p.s m) i) (kidB (p.s m) i) _ ?_).mono ?_
             ·first | exact Hp.out.below hbW | exact Hp.out.below hbW.drew
             rintro e wa ⟨⟨ta,rfl,hta⟩,hba⟩
             obtain rfl:ta=true:=hta.2 HPg.out
             clear hta
             have hCa:Below W.heap.size W wa:=(by first | exact hba | exact below_undrew hba)
             obtain⟨⟨k0,_⟩,⟨k1,_⟩⟩:=HBW.out.below hCa
             have k2:=(hCa.cell (lt_of_cell q0)).trans q0
             have k3:=(hCa.cell (lt_of_cell q1)).trans q1
             (try go_wp2_with fail)
             refine hK.out _ _ (by(try dsimp only); go_keep) ?_
             clear hK K hHeld
             intro hHeld
             try simp only [Act.put,s1,s2,s3]
             refine tk 6 (h:=tk 7 (h:=tk 8 (h:=tk 9 (h:=tk 10 (h:=tk 11 (h:=tk 12 (h:=tk 13 (h:=?_))))))))
             refine rd [14] (rc (fun K hK=>?_) .nil)
             go_simp
             go_at_call 75
             refine(l01Has_any _ _ 0 _ _ (kidS (p.s m) i) _ (row_ints HlenW.out (HsW.out.kept (grownL hCa none) (by rcases Value.ownBlock _ <;> simp)))).mono ?_
             rintro e wb ⟨⟨tb2,rfl,htb2⟩,rfl⟩
             rw [has_list] at htb2
             obtain rfl:tb2=true:=htb2.2 HIn2.out
             clear htb2
             (try go_wp2_with fail)
             refine hK.out _ _ (by(try dsimp only); go_keep) ?_
             clear hK K hHeld
             intro hHeld
             try simp only [Act.put,s1,s2,s3]
             refine tk 15 (h:=?_)
             refine wpAnyH_done (by kernel_rfl) ?_ _
             have hBb:=below_next hbW hCa
             go_wp2
             go_ret
             refine⟨BoolIs.no fun h=>?_,hBb⟩
             have hd:=nodup_low HN.out (h.resolve_left HN.out).2.2 hlt (show i+1≤8 by omega) HNl.out
             have hd':(midS p k (p.s k) j (i+1)).Nodup:=hd
             rw [Hes.out] at hd'
             exact(snoc_nodup.1 hd').2 HIn2.out
            ·have HIn2:=hideT hIn2
             clear hIn2
             go_wp2_with fail
             refine wp_region_held_drew (S:=(fun w'=>w'.cell? ⟨w.heap.size,0,none⟩=some (.slice (some ⟨b,off,none⟩) p.n c)∧w'.cell? ⟨w.heap.size,1,none⟩=some (.slice a' p.hn c')∧w'.cell? ⟨ub,uof+i*2,none⟩=some (.int .i64 (kidS (p.s m) i))∧w'.cell? ⟨ub,uof+i*2+1,none⟩=some (.int .i64 (kidB (p.s m) i)))) (by kernel_rfl) ?_ (fun hHeld=>?_)
             ·(try dsimp only)
              go_keep
             refine tk 0 (h:=tk 1 (h:=tk 2 (h:=tk 3 (h:=tk 4 (h:=?_)))))
             refine rd [5] (rc (fun K hK=>?_) .nil)
             go_simp
             go_at_call 140
             refine(l02Page_any _ _ lo hi p (kidS (p.s m) i) (kidB (p.s m) i) _ ?_).mono ?_
             ·first | exact Hp.out.below hbW | exact Hp.out.below hbW.drew
             rintro e wa ⟨⟨ta,rfl,hta⟩,hba⟩
             obtain rfl:ta=true:=hta.2 HPg.out
             clear hta
             have hCa:Below W.heap.size W wa:=(by first | exact hba | exact below_undrew hba)
             obtain⟨⟨k0,_⟩,⟨k1,_⟩⟩:=HBW.out.below hCa
             have k2:=(hCa.cell (lt_of_cell q0)).trans q0
             have k3:=(hCa.cell (lt_of_cell q1)).trans q1
             (try go_wp2_with fail)
             refine hK.out _ _ (by(try dsimp only); go_keep) ?_
             clear hK K hHeld
             intro hHeld
             try simp only [Act.put,s1,s2,s3]
             refine tk 6 (h:=tk 7 (h:=tk 8 (h:=tk 9 (h:=tk 10 (h:=tk 11 (h:=tk 12 (h:=tk 13 (h:=?_))))))))
             refine rd [14] (rc (fun K hK=>?_) .nil)
             go_simp
             go_at_call 75
             refine(l01Has_any _ _ 0 _ _ (kidS (p.s m) i) _ (row_ints HlenW.out (HsW.out.kept (grownL hCa none) (by rcases Value.ownBlock _ <;> simp)))).mono ?_
             rintro e wb ⟨⟨tb2,rfl,htb2⟩,rfl⟩
             rw [has_list] at htb2
             obtain rfl:tb2=false:=bool_no htb2 HIn2.out
             clear htb2
             (try go_wp2_with fail)
             refine hK.out _ _ (by(try dsimp only); go_keep) ?_
             clear hK K hHeld
             intro hHeld
             try simp only [Act.put,s1,s2,s3]
             refine tk 15 (h:=?_)
             refine wpAnyH_done (by kernel_rfl) ?_ _
             have hBb:=below_next hbW hCa
             have hzb:w.heap.size+2≤wb.heap.size:=by have:=hCa.size; omega
             have hal:=below_alloc wb (.cells #[.int .i64 (kidS (p.s m) i)] 2)
             have Hrb:=hideT ((HsW.out.below hCa).below hal)
             have HBb:=hideT ((HBW.out.below hCa).below hal)
             have hBa:=below_next hBb hal
             have hza:(wb.alloc (.cells #[.int .i64 (kidS (p.s m) i)] 2)).heap.size=wb.heap.size+1:=World.size_alloc _ _
             have HNw:=hideT (World.news_of_block (heap_alloc_last wb (.cells #[.int .i64 (kidS (p.s m) i)] 2)))
             have hm9':(m1:Int)<9:=by omega
             clear hal HsW HBW hbW hCa q0 q1 k0 k1 k3 x0 x1 x2 x3
             go_wp2_with (first
              | (at_builtin; refine wpList_append_lies _ rfl _ _ 23 rfl (w.heap.size+2) 2 i0 (.int .i64 0) 1 8 (by kernel_rfl) HI.out.1 HI.out.2.1 HI.out.2.2.1 HI.out.2.2.2 rfl (by decide) (.slice sa (midS p k (p.s k) j i).length sc) (midS p k (p.s k) j i).length (icl (midS p k (p.s k) j i)) rfl Hrb.out ⟨wb.heap.size,0,none⟩ 1 1 [.int .i64 (kidS (p.s m) i)] rfl rfl HNw.out (by simp [Value.oneCell']) (by decide) (by unfold maxLen; omega) (by omega) (by omega) _ rfl ?_; intro g4 cap4 w4 hown4 hgrow4 hat4 hlt4)
              | go_in)
             go_roundw
             case rel=>
              refine⟨i+1,m1+1,some ⟨g4,0,none⟩,cap4,by omega,by go_num,by go_num,by omega,⟨fun _=>⟨i,by omega,HNi.out⟩,fun _=>by omega⟩,by rw [Hes.out,List.length_append]; rfl,by rw [Hes.out]; exact RowI.next hown4,relNext hli Hpg.out (Or.inr HPg.out),by rw [Hes.out]; exact snoc_nodup.2 ⟨Hnod1.out,HIn2.out⟩,HBb.out.grownT hgrow4 (fun q hq=>by have:=Hrb.out.lt hq; omega),hBa.grown hgrow4 hBa.size (fun q hq=>by have:=Hrb.out.lt hq; omega),by have:=hgrow4.size; omega⟩
             case measure=>simp [intOf]; omega
           ·have HPg:=hideT hP
            clear hP
            go_wp2_with fail
            refine wp_region_held_drew (S:=(fun w'=>w'.cell? ⟨w.heap.size,0,none⟩=some (.slice (some ⟨b,off,none⟩) p.n c)∧w'.cell? ⟨w.heap.size,1,none⟩=some (.slice a' p.hn c')∧w'.cell? ⟨ub,uof+i*2,none⟩=some (.int .i64 (kidS (p.s m) i))∧w'.cell? ⟨ub,uof+i*2+1,none⟩=some (.int .i64 (kidB (p.s m) i)))) (by kernel_rfl) ?_ (fun hHeld=>?_)
            ·(try dsimp only)
             go_keep
            refine tk 0 (h:=tk 1 (h:=tk 2 (h:=tk 3 (h:=tk 4 (h:=?_)))))
            refine rd [5] (rc (fun K hK=>?_) .nil)
            go_simp
            go_at_call 140
            refine(l02Page_any _ _ lo hi p (kidS (p.s m) i) (kidB (p.s m) i) _ ?_).mono ?_
            ·first | exact Hp.out.below hbW | exact Hp.out.below hbW.drew
            rintro e wa ⟨⟨ta,rfl,hta⟩,hba⟩
            obtain rfl:ta=false:=bool_no hta HPg.out
            clear hta
            have hCa:Below W.heap.size W wa:=(by first | exact hba | exact below_undrew hba)
            obtain⟨⟨k0,_⟩,⟨k1,_⟩⟩:=HBW.out.below hCa
            have k2:=(hCa.cell (lt_of_cell q0)).trans q0
            have k3:=(hCa.cell (lt_of_cell q1)).trans q1
            (try go_wp2_with fail)
            refine hK.out _ _ (by(try dsimp only); go_keep) ?_
            clear hK K hHeld
            intro hHeld
            try simp only [Act.put,s1,s2,s3]
            refine tk 6 (h:=tk 7 (h:=ts 8 (h:=ts 9 (h:=ts 10 (h:=ts 11 (h:=ts 12 (h:=ts 13 (h:=?_))))))))
            refine rd [14] (rc (fun K hK=>?_) .nil)
            split
            ·rename_i hwt
             exact absurd (show false=true from hwt) Bool.false_ne_true
            refine hK.out _ _ (by assumption) (fun hHeld=>?_)
            clear hK K
            try simp only [Act.put,s1,s2,s3]
            refine tk 15 (h:=?_)
            refine wpAnyH_done (by kernel_rfl) ?_ _
            have hBb:=below_next hbW hCa
            go_wp2
            go_ret
            refine⟨BoolIs.no fun h=>?_,hBb⟩
            rcases(h.resolve_left HN.out).2.1.1 j hlt with h | h
            ·exact HNl.out h
            ·have h2:Nil (kidS (p.s (kidS (p.s k) j).toNat) i) (kidB (p.s (kidS (p.s k) j).toNat) i)∨PageAt p (kidS (p.s (kidS (p.s k) j).toNat) i) (kidB (p.s (kidS (p.s k) j).toNat) i):=h.2.1 i hli
             rw [Hmt.out] at h2
             rcases h2 with h2 | h2
             ·exact HNi.out h2
             ·exact HPg.out h2
         ·obtain rfl:i=8:=by omega
          by_cases hz0:m1=0
          ·subst hz0
           have e0:((0:Nat):Int)=0:=rfl
           go_wp2
           go_ret
           refine⟨BoolIs.no fun h=>?_,hbr⟩
           rcases(h.resolve_left HN.out).2.1.1 j hlt with h | h
           ·exact HNl.out h
           ·have h2:∃i,i<8∧¬Nil (kidS (p.s (kidS (p.s k) j).toNat) i) (kidB (p.s (kidS (p.s k) j).toNat) i):=h.2.2
            rw [Hmt.out] at h2
            have:=Hcnt1.out.2 h2
            omega
          ·have e0:((m1:Int) == 0)=false:=by simp; omega
           have Hz0:=hideT (show 0<m1 by omega)
           have Hlow:Hid (LowOk p (p.s (kidS (p.s k) j).toNat)):=by rw [Hmt.out]; exact⟨Hpg.out,Hcnt1.out.1 Hz0.out⟩
           clear hz0
           go_wp2
           go_roundw
           case rel=>
            refine⟨j+1,m0+1,sa,sc,by omega,by go_num,by go_num,by omega,⟨fun _=>⟨j,by omega,HNl.out⟩,fun _=>by omega⟩,by rw [seen_next HNl.out],by rw [seen_next HNl.out]; exact Hrow.out,relNext hlt Hmid.out (Or.inr ⟨HNo.out,Hlow.out⟩),by rw [seen_next HNl.out]; exact Hnod1.out,Hbox.out,hbr,hzr⟩
           case measure=>simp [intOf]; omega
      ·have HNo:=hideT hNo
       clear hNo
       go_wp2_with fail
       refine wp_region_held_drew (S:=(fun w'=>w'.cell? ⟨w.heap.size,0,none⟩=some (.slice (some ⟨b,off,none⟩) p.n c)∧w'.cell? ⟨w.heap.size,1,none⟩=some (.slice a' p.hn c')∧w'.cell? ⟨tb,tof+j*2,none⟩=some (.int .i64 (kidS (p.s k) j))∧w'.cell? ⟨tb,tof+j*2+1,none⟩=some (.int .i64 (kidB (p.s k) j)))) (by kernel_rfl) ?_ (fun hHeld=>?_)
       ·(try dsimp only)
        go_keep
       refine tk 0 (h:=tk 1 (h:=tk 2 (h:=tk 3 (h:=tk 4 (h:=?_)))))
       refine rd [5] (rc (fun K hK=>?_) .nil)
       go_simp
       go_at_call 139
       refine(l02Node_any _ _ lo hi p (kidS (p.s k) j) (kidB (p.s k) j) _ ?_).mono ?_
       ·first | exact Hp.out.below hbW | exact Hp.out.below hbW.drew
       rintro e wa ⟨⟨ta,rfl,hta⟩,hba⟩
       obtain rfl:ta=false:=bool_no hta HNo.out
       clear hta
       have hCa:Below W.heap.size W wa:=(by first | exact hba | exact below_undrew hba)
       obtain⟨⟨k0,_⟩,⟨k1,_⟩⟩:=HBW.out.below hCa
       have k2:=(hCa.cell (lt_of_cell q0)).trans q0
       have k3:=(hCa.cell (lt_of_cell q1)).trans q1
       (try go_wp2_with fail)
       refine hK.out _ _ (by(try dsimp only); go_keep) ?_
       clear hK K hHeld
       intro hHeld
       try simp only [Act.put,s1,s2,s3]
       refine tk 6 (h:=tk 7 (h:=ts 8 (h:=ts 9 (h:=ts 10 (h:=ts 11 (h:=ts 12 (h:=ts 13 (h:=?_))))))))
       refine rd [14] (rc (fun K hK=>?_) .nil)
       split
       ·rename_i hwt
        exact absurd (show false=true from hwt) Bool.false_ne_true
       refine hK.out _ _ (by assumption) (fun hHeld=>?_)
       clear hK K
       try simp only [Act.put,s1,s2,s3]
       refine tk 15 (h:=?_)
       refine wpAnyH_done (by kernel_rfl) ?_ _
       have hBb:=below_next hbW hCa
       go_wp2
       go_ret
       refine⟨BoolIs.no fun h=>?_,hBb⟩
       rcases(h.resolve_left HN.out).2.1.1 j hlt with h | h
       ·exact HNl.out h
       ·exact HNo.out h.1
    ·obtain rfl:j=8:=by omega
     go_wp2
     go_ret
     refine⟨⟨_,rfl,?_⟩,hbr⟩
     have hc:=Hcnt.out
     constructor
     ·intro h
      refine Or.inr ⟨HNd.out,⟨Hmid.out,hc.1 (by simpa using h)⟩,?_⟩
      rw [tree_slots HN.out]
      exact Hnod.out
     ·intro h
      have:=hc.2 (h.resolve_left HN.out).2.1.2
      simpa using this
  ·have HNd:=hideT hNd
   obtain rfl:t=false:=bool_no ht hNd
   clear ht hNd
   go_wp2
   go_ret
   exact⟨BoolIs.no fun h=>(h.resolve_left HN.out).1 |> HNd.out,hB2⟩
end Go.Proofs.YtmgeglgboadfiaaGreatDoor
