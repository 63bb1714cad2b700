/- What impl.cloneWorld answers: a new world that holds the same. -/
import Derived.Test.YtmgeglgboadfiaaGreatDoorP4
import Derived.Test.YtmgeglgboadfiaaGreatDoorP20
import Derived.Test.YtmgeglgboadfiaaGreatDoorP21
import Derived.Test.YtmgeglgboadfiaaGreatDoorP12
import Derived.Deep.DeepCutAuto
import Derived.Deep.RegionHeld3
namespace Go.Proofs.YtmgeglgboadfiaaGreatDoor
open Go.RowKit Go.Maps
set_option linter.unusedVariables false
set_option maxRecDepth 20000 in
set_option maxHeartbeats 400000 in
theorem cloneSets_row(a:Option Addr)(n c:Nat)(xs:List Value)(w:World)(hl:xs.length=n*6)(hone:∀u∈xs,u.oneCell'=true)(hn:n≤1048576)
    (hc:0<n→∃b off,a=some ⟨b,off,none⟩∧∀j u,xs[j]?=some u→w.cell? ⟨b,off+j,none⟩=some u) :
    Calls Tryz.prog 169 #[.slice a n c] w fun e w'=>∃v',e = .returned v'∧w'.ownsRow w.heap.size 67 6 v' n xs∧Below w.heap.size w w'∧(n=0→∃a,v' = .slice a 0 0):=by
  have Hc:Hid (0<n→∃b off,a=some ⟨b,off,none⟩∧∀j u,xs[j]?=some u→w.cell? ⟨b,off+j,none⟩=some u):=hc
  have Hl:Hid (xs.length=n*6∧∀u∈xs,u.oneCell'=true):=⟨hl,hone⟩
  clear hc hl hone
  have heq:=fun w=>Lib.run_eql_slice_nil (P:=Tryz.prog) w 34 67 a n c 0 0 (by kernel_rfl)
  cases a with
  | none=>
    have hn0:n=0:=by
      by_cases h:0<n
      · obtain⟨b,off,ha,_⟩:=Hc.out h; simp at ha
      · omega
    subst hn0
    have hx0:xs = []:=List.eq_nil_of_length_eq_zero (by simpa using Hl.out.1)
    subst hx0
    go_enter Tryz.func169,Tryz.ntmps169
    go_wp2
    go_ret
    exact⟨_,rfl,World.ownsRow_nil _ _ _ _,Below.refl _ _,fun _=>⟨_,rfl⟩⟩
  | some ad=>
    obtain⟨i0,hi,hzz⟩:=Option.map_eq_some_iff.1 infoSetT
    simp only [Prod.mk.injEq] at hzz
    obtain⟨hz,hs,hby⟩:=hzz
    have HI:Hid (Tryz.prog.info? 67=some i0∧i0.zero=some (.agg #[.string ⟨#[]⟩,.int .i64 0,.int .i64 0,.int .i64 0,.int .i64 0,.slice none 0 0])∧i0.size=6∧i0.bytes=72):=⟨hi,hz,hs,hby⟩
    have Hown0:Hid ((w.alloc (.cells #[] 67)).ownsRow w.heap.size 67 6 (.slice (some ⟨w.heap.size,0,none⟩) 0 0) 0 []):=World.ownsRow_made w #[] 0 (Nat.le_refl _) (Nat.zero_le _) (by simp)
    clear hi hz hs hby
    go_enter Tryz.func169,Tryz.ntmps169
    go_wp2_with (first
      | (at_builtin; refine wpList_append_opt rfl _ _ 34 rfl w.heap.size 67 i0 (.agg #[.string ⟨#[]⟩,.int .i64 0,.int .i64 0,.int .i64 0,.int .i64 0,.slice none 0 0]) 6 72 (by kernel_rfl) HI.out.1 HI.out.2.1 HI.out.2.2.1 HI.out.2.2.2 rfl (by decide) _ _ _ rfl Hown0.out (some ad) n c xs rfl Hl.out.1 Hl.out.2 ?c1 ?c3 ?c4 ?c5 ?_))
    case c1=>
      intro h0
      obtain⟨b,off,ha,hcell⟩:=Hc.out h0
      exact⟨b,off,ha,fun j u hj=>(((Below.refl _ _).alloc (Nat.le_refl _) _).cell (lt_of_cell (hcell j u hj))).trans (hcell j u hj)⟩
    case c3=>unfold maxLen; omega
    case c4=>omega
    case c5=>simp
    intro v' w1 hown' hgrow hnil
    have hb1:Below w.heap.size w w1:=((Below.refl _ _).alloc (Nat.le_refl _) _).grown hgrow (by simp) (fun q hq=>by have:=Hown0.out.lt q hq; omega)
    have hown2:w1.ownsRow w.heap.size 67 6 v' n xs:=by simpa using hown'
    have Hown2:Hid (w1.ownsRow w.heap.size 67 6 v' n xs):=hown2
    have Hnil:Hid (n=0→v' = .slice (some ⟨w.heap.size,0,none⟩) 0 0):=hnil
    clear hown' hown2 hgrow hnil
    go_wp2
    go_ret
    exact⟨v',rfl,Hown2.out,hb1,fun e=>⟨_,Hnil.out e⟩⟩
set_option maxRecDepth 20000 in
set_option maxHeartbeats 400000 in
theorem cloneSnaps_row(a:Option Addr)(n c:Nat)(xs:List Value)(w:World)(hl:xs.length=n*8)(hone:∀u∈xs,u.oneCell'=true)(hn:n≤1048576)
    (hc:0<n→∃b off,a=some ⟨b,off,none⟩∧∀j u,xs[j]?=some u→w.cell? ⟨b,off+j,none⟩=some u) :
    Calls Tryz.prog 170 #[.slice a n c] w fun e w'=>∃v',e = .returned v'∧w'.ownsRow w.heap.size 99 8 v' n xs∧Below w.heap.size w w'∧(n=0→∃a,v' = .slice a 0 0):=by
  have Hc:Hid (0<n→∃b off,a=some ⟨b,off,none⟩∧∀j u,xs[j]?=some u→w.cell? ⟨b,off+j,none⟩=some u):=hc
  have Hl:Hid (xs.length=n*8∧∀u∈xs,u.oneCell'=true):=⟨hl,hone⟩
  clear hc hl hone
  have heq:=fun w=>Lib.run_eql_slice_nil (P:=Tryz.prog) w 35 99 a n c 0 0 (by kernel_rfl)
  cases a with
  | none=>
    have hn0:n=0:=by
      by_cases h:0<n
      · obtain⟨b,off,ha,_⟩:=Hc.out h; simp at ha
      · omega
    subst hn0
    have hx0:xs = []:=List.eq_nil_of_length_eq_zero (by simpa using Hl.out.1)
    subst hx0
    go_enter Tryz.func170,Tryz.ntmps170
    go_wp2
    go_ret
    exact⟨_,rfl,World.ownsRow_nil _ _ _ _,Below.refl _ _,fun _=>⟨_,rfl⟩⟩
  | some ad=>
    obtain⟨i0,hi,hzz⟩:=Option.map_eq_some_iff.1 infoSnapT
    simp only [Prod.mk.injEq] at hzz
    obtain⟨hz,hs,hby⟩:=hzz
    have HI:Hid (Tryz.prog.info? 99=some i0∧i0.zero=some (.agg #[.int .i64 0,.string ⟨#[]⟩,.string ⟨#[]⟩,.int .i64 0,.int .i64 0,.int .i64 0,.int .i64 0,.slice none 0 0])∧i0.size=8∧i0.bytes=96):=⟨hi,hz,hs,hby⟩
    have Hown0:Hid ((w.alloc (.cells #[] 99)).ownsRow w.heap.size 99 8 (.slice (some ⟨w.heap.size,0,none⟩) 0 0) 0 []):=World.ownsRow_made w #[] 0 (Nat.le_refl _) (Nat.zero_le _) (by simp)
    clear hi hz hs hby
    go_enter Tryz.func170,Tryz.ntmps170
    go_wp2_with (first
      | (at_builtin; refine wpList_append_opt rfl _ _ 35 rfl w.heap.size 99 i0 (.agg #[.int .i64 0,.string ⟨#[]⟩,.string ⟨#[]⟩,.int .i64 0,.int .i64 0,.int .i64 0,.int .i64 0,.slice none 0 0]) 8 96 (by kernel_rfl) HI.out.1 HI.out.2.1 HI.out.2.2.1 HI.out.2.2.2 rfl (by decide) _ _ _ rfl Hown0.out (some ad) n c xs rfl Hl.out.1 Hl.out.2 ?c1 ?c3 ?c4 ?c5 ?_))
    case c1=>
      intro h0
      obtain⟨b,off,ha,hcell⟩:=Hc.out h0
      exact⟨b,off,ha,fun j u hj=>(((Below.refl _ _).alloc (Nat.le_refl _) _).cell (lt_of_cell (hcell j u hj))).trans (hcell j u hj)⟩
    case c3=>unfold maxLen; omega
    case c4=>omega
    case c5=>simp
    intro v' w1 hown' hgrow hnil
    have hb1:Below w.heap.size w w1:=((Below.refl _ _).alloc (Nat.le_refl _) _).grown hgrow (by simp) (fun q hq=>by have:=Hown0.out.lt q hq; omega)
    have hown2:w1.ownsRow w.heap.size 99 8 v' n xs:=by simpa using hown'
    have Hown2:Hid (w1.ownsRow w.heap.size 99 8 v' n xs):=hown2
    have Hnil:Hid (n=0→v' = .slice (some ⟨w.heap.size,0,none⟩) 0 0):=hnil
    clear hown' hown2 hgrow hnil
    go_wp2
    go_ret
    exact⟨v',rfl,Hown2.out,hb1,fun e=>⟨_,Hnil.out e⟩⟩
set_option maxRecDepth 20000 in
set_option maxHeartbeats 4000000 in
theorem cloneWorldR_any(v0 v1 v2 v3:Value)(lo hi:Nat)(W:WorldD)(w:World)(h:WorldAt w lo hi v0 v1 v2 v3 W)(hpn:poolN W.pool≤1048576)(hSn:W.sn≤1048576)(hZn:W.pn≤1048576)(hDn:DeadsN W):Calls Tryz.prog 106 #[worldV v0 v1 v2 v3 W] w (NewWorldR W w):=by
  obtain⟨a0,c0,a1,c1,a2,c2,a3,c3,rfl,rfl,rfl,rfl⟩:=h.form
  have Hp:=hide h
  obtain⟨cvS,h1S,h2S⟩:=h.sets.values
  obtain⟨cvZ,h1Z,h2Z⟩:=h.snaps.values
  have HcvS:=hide h1S
  have HcvZ:=hide h1Z
  have H1S:=hide (show ∀i,i<W.sn→(cvS i).oneCell'=true from fun i hi=>by obtain⟨-,a,c,e,-⟩:=(h1S i hi).1; rw [e]; rfl)
  have H1Z:=hide (show ∀i,i<W.pn→(cvZ i).oneCell'=true from fun i hi=>by obtain⟨-,a,c,e,-⟩:=(h1Z i hi).1; rw [e]; rfl)
  have H2S:=hide h2S
  have H2Z:=hide h2Z
  have HDnS:=hide hDn.1
  have HDnZ:=hide hDn.2
  have HMx:=hide (show W.sn≤maxLen∧W.pn≤maxLen from⟨h.sets.1,h.snaps.1⟩)
  clear h h1S h1Z h2S h2Z hDn
  have hst:∀A B:World,A=w.alloc (.cells #[.slice a0 W.pool.n c0,.slice a1 W.pool.hn c1,.int .i64 W.time,.int .i64 W.next,.slice a2 W.sn c2,.slice a3 W.pn c3] 37)→B=A.alloc (.cells #[.slice none 0 0,.slice none 0 0,.int .i64 0,.int .i64 0,.slice none 0 0,.slice none 0 0] 37)→Box6 B w.heap.size (.slice a0 W.pool.n c0) (.slice a1 W.pool.hn c1) (.int .i64 W.time) (.int .i64 W.next) (.slice a2 W.sn c2) (.slice a3 W.pn c3)∧Box6 B (w.heap.size+1) (.slice none 0 0) (.slice none 0 0) (.int .i64 0) (.int .i64 0) (.slice none 0 0) (.slice none 0 0)∧Below w.heap.size w B∧B.heap.size=w.heap.size+2:=by
    rintro A B ea eb
    have b1:=below_alloc w (.cells #[.slice a0 W.pool.n c0,.slice a1 W.pool.hn c1,.int .i64 W.time,.int .i64 W.next,.slice a2 W.sn c2,.slice a3 W.pn c3] 37)
    have x1:=Box6.new w (.slice a0 W.pool.n c0) (.slice a1 W.pool.hn c1) (.int .i64 W.time) (.int .i64 W.next) (.slice a2 W.sn c2) (.slice a3 W.pn c3) 37
    have z1:A.heap.size=w.heap.size+1:=by rw [ea]; exact World.size_alloc _ _
    rw [←ea] at b1 x1
    have b2:=below_alloc A (.cells #[.slice none 0 0,.slice none 0 0,.int .i64 0,.int .i64 0,.slice none 0 0,.slice none 0 0] 37)
    have x2:=Box6.new A (.slice none 0 0) (.slice none 0 0) (.int .i64 0) (.int .i64 0) (.slice none 0 0) (.slice none 0 0) 37
    have z2:B.heap.size=w.heap.size+2:=by rw [eb,World.size_alloc,z1]
    rw [←eb,z1] at x2
    rw [←eb] at b2
    exact⟨x1.below b2,x2,below_next b1 b2,z2⟩
  obtain⟨hx,hr,hbw,hsz⟩:=hst _ _ rfl rfl
  have HX:=hide hx
  have HR:=hide hr
  have HSZ:=hide hsz
  clear hst hx hr hsz
  go_enter Tryz.func106,Tryz.ntmps106
  go_upto_region 1 with fail
  generalize (w.alloc (.cells #[.slice a0 W.pool.n c0,.slice a1 W.pool.hn c1,.int .i64 W.time,.int .i64 W.next,.slice a2 W.sn c2,.slice a3 W.pn c3] 37)).alloc (.cells #[.slice none 0 0,.slice none 0 0,.int .i64 0,.int .i64 0,.slice none 0 0,.slice none 0 0] 37)=W0 at HX HR HSZ hbw ⊢
  go_cut [3] (fun v wc=>∃(X:Nat) (b0:Option Addr) (d0:Nat) (b1:Option Addr) (d1:Nat) (aS:Option Addr) (cS:Nat) (aZ:Option Addr) (cZ:Nat) (l h bS bZ:Nat),v = .pointer (some ⟨X,0,none⟩)∧Box6 wc X (.slice b0 W.pool.n d0) (.slice b1 W.pool.hn d1) (.int .i64 W.time) (.int .i64 W.next) (.slice aS W.sn cS) (.slice aZ W.pn cZ)∧PoolOwn wc l h (.slice b0 W.pool.n d0) (.slice b1 W.pool.hn d1) W.pool∧(0<W.sn→aS=some ⟨bS,0,none⟩∧h≤bS)∧(0<W.pn→aZ=some ⟨bZ,0,none⟩∧h≤bZ∧(0<W.sn→bS<bZ))∧W.sn≤cS∧W.pn≤cZ∧HalfSet wc bS wc.heap.size W.sn 0 W.sets (fun _=>0) cvS cvS∧HalfSnap wc bZ wc.heap.size W.pn 0 W.snaps (fun _=>0) cvZ cvZ∧(X<l∨h≤X)∧(0<W.sn→X≠bS)∧(0<W.pn→X≠bZ)∧W0.heap.size≤X∧W0.heap.size≤l∧l≤h∧X<wc.heap.size∧h≤wc.heap.size∧RowB wc 67 6 (.slice aS W.sn cS) W.sn∧RowB wc 99 8 (.slice aZ W.pn cZ) W.pn∧Below W0.heap.size W0 wc)
  case first=>
    obtain⟨⟨x0,-⟩,⟨x1,-⟩,⟨x2,-⟩,⟨x3,-⟩,⟨x4,-⟩,⟨x5,-⟩⟩:=HX.out
    refine wp_region_held_drew (S:=(fun w'=>w'.cell? ⟨w.heap.size,0,none⟩=some (.slice a0 W.pool.n c0)∧w'.cell? ⟨w.heap.size,1,none⟩=some (.slice a1 W.pool.hn c1)∧w'.cell? ⟨w.heap.size,2,none⟩=some (.int .i64 W.time)∧w'.cell? ⟨w.heap.size,3,none⟩=some (.int .i64 W.next)∧w'.cell? ⟨w.heap.size,4,none⟩=some (.slice a2 W.sn c2)∧w'.cell? ⟨w.heap.size,5,none⟩=some (.slice a3 W.pn c3))) (by kernel_rfl) ?_ (fun hHeld=>?_)
    · (try dsimp only)
      go_keep
    have hb0:Below W0.heap.size W0 W0.drew:=(Below.refl _ _).drew
    clear x0 x1 x2 x3 x4 x5
    generalize W0.drew=q0 at hb0 hHeld ⊢
    refine tk 0 (h:=tk 1 (h:=tk 3 (h:=tk 4 (h:=tk 5 (h:=tk 6 (h:=tk 7 (h:=tk 8 (h:=tk 10 (h:=tk 11 (h:=?_))))))))))
    refine rd [2,14] (rc (fun K hK=>?_) (rc (fun K hK=>?_) .nil))
    · go_simp
      go_at_call 168
      refine(clonePool_any _ _ lo hi W.pool _ ((Hp.out.pool.below hbw).below hb0) hpn).mono ?_
      rintro e q1 ⟨u0,u1,rfl,kP1,hc1⟩
      obtain⟨b0,d0,b1,d1,rfl,rfl⟩:=kP1.form
      have zP:W0.heap.size≤q0.heap.size∧q0.heap.size≤q1.heap.size:=⟨hb0.size,hc1.size⟩
      have hb1:Below W0.heap.size W0 q1:=below_next hb0 hc1
      have y1:=hc1.size
      obtain⟨⟨x0,-⟩,⟨x1,-⟩,⟨x2,-⟩,⟨x3,-⟩,⟨x4,-⟩,⟨x5,-⟩⟩:=HX.out.below hb1
      (try go_wp2_with fail)
      refine hK.out _ _ (by(try dsimp only); go_keep) ?_
      clear hK K hHeld
      intro hHeld
      try simp only [Act.put,s1,s2,s3]
      clear x0 x1 x2 x3 x4 x5
      refine rd [9,14] (rc (fun K hK=>?_) (rc (fun K hK=>?_) .nil))
      · go_simp
        go_at_call 169
        refine(cloneSets_row a2 W.sn c2 (clSet W.sets cvS W.sn) _ (clSet_len _ _ _) (clSet_one _ _ _ H1S.out) hSn (fun h0=>?_)).mono ?_
        · obtain⟨b,off,ha,hc⟩:=H2S.out h0
          exact⟨b,off,ha,fun j u hj=>((below_next hbw hb1).cell (lt_of_cell (hc j u hj))).trans (hc j u hj)⟩
        rintro e q2 ⟨v2,rfl,ho2,hc2,hzz2⟩
        have hb2:Below W0.heap.size W0 q2:=below_next hb1 hc2
        obtain⟨bS,aSn,cSn,rfl,nS,lS,kS2⟩:=halfSet_start ho2 q2.heap.size (Nat.le_refl _)
        have zS:q1.heap.size≤q2.heap.size:=hc2.size
        have kA2:=rowB_of_owns ho2 hzz2
        have kP2:=kP1.below hc2
        have y2:=hc2.size
        obtain⟨⟨x0,-⟩,⟨x1,-⟩,⟨x2,-⟩,⟨x3,-⟩,⟨x4,-⟩,⟨x5,-⟩⟩:=HX.out.below hb2
        (try go_wp2_with fail)
        refine hK.out _ _ (by(try dsimp only); go_keep) ?_
        clear hK K hHeld
        intro hHeld
        try simp only [Act.put,s1,s2,s3]
        clear x0 x1 x2 x3 x4 x5
        refine rd [12,14] (rc (fun K hK=>?_) (rc (fun K hK=>?_) .nil))
        · go_simp
          go_at_call 170
          refine(cloneSnaps_row a3 W.pn c3 (clSnap W.snaps cvZ W.pn) _ (clSnap_len _ _ _) (clSnap_one _ _ _ H1Z.out) hZn (fun h0=>?_)).mono ?_
          · obtain⟨b,off,ha,hc⟩:=H2Z.out h0
            exact⟨b,off,ha,fun j u hj=>((below_next hbw hb2).cell (lt_of_cell (hc j u hj))).trans (hc j u hj)⟩
          rintro e q3 ⟨v3,rfl,ho3,hc3,hzz3⟩
          have hb3:Below W0.heap.size W0 q3:=below_next hb2 hc3
          obtain⟨bZ,aZn,cZn,rfl,nZ,lZ,kZ3⟩:=halfSnap_start ho3 q3.heap.size (Nat.le_refl _)
          have zZ:q2.heap.size≤q3.heap.size:=hc3.size
          have kB3:=rowB_of_owns ho3 hzz3
          have kP3:=kP2.below hc3
          have kS3:=kS2.below hc3
          have kA3:=kA2.below hc3
          have y3:=hc3.size
          obtain⟨⟨x0,-⟩,⟨x1,-⟩,⟨x2,-⟩,⟨x3,-⟩,⟨x4,-⟩,⟨x5,-⟩⟩:=HX.out.below hb3
          (try go_wp2_with fail)
          refine hK.out _ _ (by(try dsimp only); go_keep) ?_
          clear hK K hHeld
          intro hHeld
          try simp only [Act.put,s1,s2,s3]
          clear x0 x1 x2 x3 x4 x5
          refine tk 13 (h:=?_)
          refine rd [14] (rc (fun K hK=>?_) .nil)
          go_simp
          have hc4:=below_alloc q3 (.cells #[.slice none 0 0,.slice none 0 0,.int .i64 0,.int .i64 0,.slice none 0 0,.slice none 0 0] 37)
          have hb4:Below W0.heap.size W0 (q3.alloc (.cells #[.slice none 0 0,.slice none 0 0,.int .i64 0,.int .i64 0,.slice none 0 0,.slice none 0 0] 37)):=below_next hb3 hc4
          have kV4:Box6 (q3.alloc (.cells #[.slice none 0 0,.slice none 0 0,.int .i64 0,.int .i64 0,.slice none 0 0,.slice none 0 0] 37)) q3.heap.size (.slice none 0 0) (.slice none 0 0) (.int .i64 0) (.int .i64 0) (.slice none 0 0) (.slice none 0 0):=Box6.new _ _ _ _ _ _ _ _
          have zV:W0.heap.size≤q3.heap.size∧q3.heap.size+1=(q3.alloc (.cells #[.slice none 0 0,.slice none 0 0,.int .i64 0,.int .i64 0,.slice none 0 0,.slice none 0 0] 37)).heap.size:=⟨hb3.size,(World.size_alloc _ _).symm⟩
          have kP4:=kP3.below hc4
          have kS4:=kS3.below hc4
          have kZ4:=kZ3.below hc4
          have kA4:=kA3.below hc4
          have kB4:=kB3.below hc4
          obtain⟨⟨x0,-⟩,⟨x1,-⟩,⟨x2,-⟩,⟨x3,-⟩,⟨x4,-⟩,⟨x5,-⟩⟩:=HX.out.below hb4
          (try go_wp2_with fail)
          refine hK.out _ _ (by(try dsimp only); go_keep) ?_
          clear hK K hHeld
          intro hHeld
          try simp only [Act.put,s1,s2,s3]
          clear x0 x1 x2 x3 x4 x5
          generalize q3.alloc (.cells #[.slice none 0 0,.slice none 0 0,.int .i64 0,.int .i64 0,.slice none 0 0,.slice none 0 0] 37)=q4 at hb4 zV kP4 kS4 kZ4 kV4 kA4 kB4 hHeld hc4 ⊢
          refine rd [15] (rc (fun K hK=>?_) .nil)
          have hT:=Turned.put6 q4 (q3.heap.size) (.slice b0 W.pool.n d0) (.slice b1 W.pool.hn d1) (.int .i64 W.time) (.int .i64 W.next) (.slice aSn W.sn cSn) (.slice aZn W.pn cZn)
          have hbZ:Below W0.heap.size W0 (put6 q4 (q3.heap.size) (.slice b0 W.pool.n d0) (.slice b1 W.pool.hn d1) (.int .i64 W.time) (.int .i64 W.next) (.slice aSn W.sn cSn) (.slice aZn W.pn cZn)):=hb4.trans (hT.below (B:=W0.heap.size) hb4.size (fun k e=>by omega))
          have kV:=kV4.put (.slice b0 W.pool.n d0) (.slice b1 W.pool.hn d1) (.int .i64 W.time) (.int .i64 W.next) (.slice aSn W.sn cSn) (.slice aZn W.pn cZn)
          obtain⟨⟨y0,y0'⟩,⟨y1,y1'⟩,⟨y2,y2'⟩,⟨y3,y3'⟩,⟨y4,y4'⟩,⟨y5,y5'⟩⟩:=kV4
          obtain⟨⟨x0,-⟩,⟨x1,-⟩,⟨x2,-⟩,⟨x3,-⟩,⟨x4,-⟩,⟨x5,-⟩⟩:=HX.out.below hbZ
          go_simp
          (try go_wp2_with fail)
          refine hK.out _ _ (by(try dsimp only); go_keep) ?_
          clear hK K hHeld
          intro hHeld
          try simp only [Act.put,s1,s2,s3]
          clear x0 x1 x2 x3 x4 x5
          refine wpAnyH_done (by kernel_rfl) ?_ _
          have hs6:(put6 q4 (q3.heap.size) (.slice b0 W.pool.n d0) (.slice b1 W.pool.hn d1) (.int .i64 W.time) (.int .i64 W.next) (.slice aSn W.sn cSn) (.slice aZn W.pn cZn)).heap.size=q4.heap.size:=by simp only [World.size_setCell]
          go_wp2_with fail
          go_meet
          case rel=>
            refine⟨_,_,_,_,_,_,_,_,_,_,_,bS,bZ,rfl,kV,kP4.turned hT (fun k e=>by omega),fun h0=>⟨(lS h0).1,by have:=lS h0; omega⟩,fun h0=>⟨(lZ h0).1,by have:=lZ h0; omega,fun h1=>by have:=lZ h0; have:=lS h1; omega⟩,nS,nZ,(kS4.turned0 hT (fun q e h0 e2=>by have:=lS h0; omega)).weak (by rw [hs6]; omega),(kZ4.turned0 hT (fun q e h0 e2=>by have:=lZ h0; omega)).weak (by rw [hs6]; omega),by omega,fun h0=>by have:=lS h0; omega,fun h0=>by have:=lZ h0; omega,by omega,by omega,by omega,by rw [hs6]; omega,by rw [hs6]; omega,((((((kA4.set _ _).set _ _).set _ _).set _ _).set _ _).set _ _),((((((kB4.set _ _).set _ _).set _ _).set _ _).set _ _).set _ _),hbZ⟩
        · go_simp
          have hc6:=below_alloc q2 (.cells #[.slice none 0 0,.slice none 0 0,.int .i64 0,.int .i64 0,.slice none 0 0,.slice none 0 0] 37)
          have hb6:Below W0.heap.size W0 (q2.alloc (.cells #[.slice none 0 0,.slice none 0 0,.int .i64 0,.int .i64 0,.slice none 0 0,.slice none 0 0] 37)):=below_next hb2 hc6
          have kV6:Box6 (q2.alloc (.cells #[.slice none 0 0,.slice none 0 0,.int .i64 0,.int .i64 0,.slice none 0 0,.slice none 0 0] 37)) q2.heap.size (.slice none 0 0) (.slice none 0 0) (.int .i64 0) (.int .i64 0) (.slice none 0 0) (.slice none 0 0):=Box6.new _ _ _ _ _ _ _ _
          have zV:W0.heap.size≤q2.heap.size∧q2.heap.size+1=(q2.alloc (.cells #[.slice none 0 0,.slice none 0 0,.int .i64 0,.int .i64 0,.slice none 0 0,.slice none 0 0] 37)).heap.size:=⟨hb2.size,(World.size_alloc _ _).symm⟩
          have kP6:=kP2.below hc6
          have kS6:=kS2.below hc6
          have kA6:=kA2.below hc6
          obtain⟨⟨x0,-⟩,⟨x1,-⟩,⟨x2,-⟩,⟨x3,-⟩,⟨x4,-⟩,⟨x5,-⟩⟩:=HX.out.below hb6
          (try go_wp2_with fail)
          refine hK.out _ _ (by(try dsimp only); go_keep) ?_
          clear hK K hHeld
          intro hHeld
          try simp only [Act.put,s1,s2,s3]
          clear x0 x1 x2 x3 x4 x5
          generalize q2.alloc (.cells #[.slice none 0 0,.slice none 0 0,.int .i64 0,.int .i64 0,.slice none 0 0,.slice none 0 0] 37)=q6 at hb6 zV kP6 kS6 kV6 kA6 hHeld hc6 ⊢
          refine rd [12] (rc (fun K hK=>?_) .nil)
          go_simp
          go_at_call 170
          refine(cloneSnaps_row a3 W.pn c3 (clSnap W.snaps cvZ W.pn) _ (clSnap_len _ _ _) (clSnap_one _ _ _ H1Z.out) hZn (fun h0=>?_)).mono ?_
          · obtain⟨b,off,ha,hc⟩:=H2Z.out h0
            exact⟨b,off,ha,fun j u hj=>((below_next hbw hb6).cell (lt_of_cell (hc j u hj))).trans (hc j u hj)⟩
          rintro e q7 ⟨v7,rfl,ho7,hc7,hzz7⟩
          have hb7:Below W0.heap.size W0 q7:=below_next hb6 hc7
          obtain⟨bZ,aZn,cZn,rfl,nZ,lZ,kZ7⟩:=halfSnap_start ho7 q7.heap.size (Nat.le_refl _)
          have zZ:q6.heap.size≤q7.heap.size:=hc7.size
          have kB7:=rowB_of_owns ho7 hzz7
          have kP7:=kP6.below hc7
          have kS7:=kS6.below hc7
          have kV7:=kV6.below hc7
          have kA7:=kA6.below hc7
          have y7:=hc7.size
          obtain⟨⟨x0,-⟩,⟨x1,-⟩,⟨x2,-⟩,⟨x3,-⟩,⟨x4,-⟩,⟨x5,-⟩⟩:=HX.out.below hb7
          (try go_wp2_with fail)
          refine hK.out _ _ (by(try dsimp only); go_keep) ?_
          clear hK K hHeld
          intro hHeld
          try simp only [Act.put,s1,s2,s3]
          clear x0 x1 x2 x3 x4 x5
          refine tk 13 (h:=?_)
          refine rd [15] (rc (fun K hK=>?_) .nil)
          have hT:=Turned.put6 q7 (q2.heap.size) (.slice b0 W.pool.n d0) (.slice b1 W.pool.hn d1) (.int .i64 W.time) (.int .i64 W.next) (.slice aSn W.sn cSn) (.slice aZn W.pn cZn)
          have hbZ:Below W0.heap.size W0 (put6 q7 (q2.heap.size) (.slice b0 W.pool.n d0) (.slice b1 W.pool.hn d1) (.int .i64 W.time) (.int .i64 W.next) (.slice aSn W.sn cSn) (.slice aZn W.pn cZn)):=hb7.trans (hT.below (B:=W0.heap.size) hb7.size (fun k e=>by omega))
          have kV:=kV7.put (.slice b0 W.pool.n d0) (.slice b1 W.pool.hn d1) (.int .i64 W.time) (.int .i64 W.next) (.slice aSn W.sn cSn) (.slice aZn W.pn cZn)
          obtain⟨⟨y0,y0'⟩,⟨y1,y1'⟩,⟨y2,y2'⟩,⟨y3,y3'⟩,⟨y4,y4'⟩,⟨y5,y5'⟩⟩:=kV7
          obtain⟨⟨x0,-⟩,⟨x1,-⟩,⟨x2,-⟩,⟨x3,-⟩,⟨x4,-⟩,⟨x5,-⟩⟩:=HX.out.below hbZ
          go_simp
          (try go_wp2_with fail)
          refine hK.out _ _ (by(try dsimp only); go_keep) ?_
          clear hK K hHeld
          intro hHeld
          try simp only [Act.put,s1,s2,s3]
          clear x0 x1 x2 x3 x4 x5
          refine wpAnyH_done (by kernel_rfl) ?_ _
          have hs6:(put6 q7 (q2.heap.size) (.slice b0 W.pool.n d0) (.slice b1 W.pool.hn d1) (.int .i64 W.time) (.int .i64 W.next) (.slice aSn W.sn cSn) (.slice aZn W.pn cZn)).heap.size=q7.heap.size:=by simp only [World.size_setCell]
          go_wp2_with fail
          go_meet
          case rel=>
            refine⟨_,_,_,_,_,_,_,_,_,_,_,bS,bZ,rfl,kV,kP7.turned hT (fun k e=>by omega),fun h0=>⟨(lS h0).1,by have:=lS h0; omega⟩,fun h0=>⟨(lZ h0).1,by have:=lZ h0; omega,fun h1=>by have:=lZ h0; have:=lS h1; omega⟩,nS,nZ,(kS7.turned0 hT (fun q e h0 e2=>by have:=lS h0; omega)).weak (by rw [hs6]; omega),(kZ7.turned0 hT (fun q e h0 e2=>by have:=lZ h0; omega)).weak (by rw [hs6]; omega),by omega,fun h0=>by have:=lS h0; omega,fun h0=>by have:=lZ h0; omega,by omega,by omega,by omega,by rw [hs6]; omega,by rw [hs6]; omega,((((((kA7.set _ _).set _ _).set _ _).set _ _).set _ _).set _ _),((((((kB7.set _ _).set _ _).set _ _).set _ _).set _ _).set _ _),hbZ⟩
      · go_simp
        have hc9:=below_alloc q1 (.cells #[.slice none 0 0,.slice none 0 0,.int .i64 0,.int .i64 0,.slice none 0 0,.slice none 0 0] 37)
        have hb9:Below W0.heap.size W0 (q1.alloc (.cells #[.slice none 0 0,.slice none 0 0,.int .i64 0,.int .i64 0,.slice none 0 0,.slice none 0 0] 37)):=below_next hb1 hc9
        have kV9:Box6 (q1.alloc (.cells #[.slice none 0 0,.slice none 0 0,.int .i64 0,.int .i64 0,.slice none 0 0,.slice none 0 0] 37)) q1.heap.size (.slice none 0 0) (.slice none 0 0) (.int .i64 0) (.int .i64 0) (.slice none 0 0) (.slice none 0 0):=Box6.new _ _ _ _ _ _ _ _
        have zV:W0.heap.size≤q1.heap.size∧q1.heap.size+1=(q1.alloc (.cells #[.slice none 0 0,.slice none 0 0,.int .i64 0,.int .i64 0,.slice none 0 0,.slice none 0 0] 37)).heap.size:=⟨hb1.size,(World.size_alloc _ _).symm⟩
        have kP9:=kP1.below hc9
        obtain⟨⟨x0,-⟩,⟨x1,-⟩,⟨x2,-⟩,⟨x3,-⟩,⟨x4,-⟩,⟨x5,-⟩⟩:=HX.out.below hb9
        (try go_wp2_with fail)
        refine hK.out _ _ (by(try dsimp only); go_keep) ?_
        clear hK K hHeld
        intro hHeld
        try simp only [Act.put,s1,s2,s3]
        clear x0 x1 x2 x3 x4 x5
        generalize q1.alloc (.cells #[.slice none 0 0,.slice none 0 0,.int .i64 0,.int .i64 0,.slice none 0 0,.slice none 0 0] 37)=q9 at hb9 zV kP9 kV9 hHeld hc9 ⊢
        refine rd [9] (rc (fun K hK=>?_) .nil)
        go_simp
        go_at_call 169
        refine(cloneSets_row a2 W.sn c2 (clSet W.sets cvS W.sn) _ (clSet_len _ _ _) (clSet_one _ _ _ H1S.out) hSn (fun h0=>?_)).mono ?_
        · obtain⟨b,off,ha,hc⟩:=H2S.out h0
          exact⟨b,off,ha,fun j u hj=>((below_next hbw hb9).cell (lt_of_cell (hc j u hj))).trans (hc j u hj)⟩
        rintro e q10 ⟨v10,rfl,ho10,hc10,hzz10⟩
        have hb10:Below W0.heap.size W0 q10:=below_next hb9 hc10
        obtain⟨bS,aSn,cSn,rfl,nS,lS,kS10⟩:=halfSet_start ho10 q10.heap.size (Nat.le_refl _)
        have zS:q9.heap.size≤q10.heap.size:=hc10.size
        have kA10:=rowB_of_owns ho10 hzz10
        have kP10:=kP9.below hc10
        have kV10:=kV9.below hc10
        have y10:=hc10.size
        obtain⟨⟨x0,-⟩,⟨x1,-⟩,⟨x2,-⟩,⟨x3,-⟩,⟨x4,-⟩,⟨x5,-⟩⟩:=HX.out.below hb10
        (try go_wp2_with fail)
        refine hK.out _ _ (by(try dsimp only); go_keep) ?_
        clear hK K hHeld
        intro hHeld
        try simp only [Act.put,s1,s2,s3]
        clear x0 x1 x2 x3 x4 x5
        refine rd [12] (rc (fun K hK=>?_) .nil)
        go_simp
        go_at_call 170
        refine(cloneSnaps_row a3 W.pn c3 (clSnap W.snaps cvZ W.pn) _ (clSnap_len _ _ _) (clSnap_one _ _ _ H1Z.out) hZn (fun h0=>?_)).mono ?_
        · obtain⟨b,off,ha,hc⟩:=H2Z.out h0
          exact⟨b,off,ha,fun j u hj=>((below_next hbw hb10).cell (lt_of_cell (hc j u hj))).trans (hc j u hj)⟩
        rintro e q11 ⟨v11,rfl,ho11,hc11,hzz11⟩
        have hb11:Below W0.heap.size W0 q11:=below_next hb10 hc11
        obtain⟨bZ,aZn,cZn,rfl,nZ,lZ,kZ11⟩:=halfSnap_start ho11 q11.heap.size (Nat.le_refl _)
        have zZ:q10.heap.size≤q11.heap.size:=hc11.size
        have kB11:=rowB_of_owns ho11 hzz11
        have kP11:=kP10.below hc11
        have kS11:=kS10.below hc11
        have kV11:=kV10.below hc11
        have kA11:=kA10.below hc11
        have y11:=hc11.size
        obtain⟨⟨x0,-⟩,⟨x1,-⟩,⟨x2,-⟩,⟨x3,-⟩,⟨x4,-⟩,⟨x5,-⟩⟩:=HX.out.below hb11
        (try go_wp2_with fail)
        refine hK.out _ _ (by(try dsimp only); go_keep) ?_
        clear hK K hHeld
        intro hHeld
        try simp only [Act.put,s1,s2,s3]
        clear x0 x1 x2 x3 x4 x5
        refine tk 13 (h:=?_)
        refine rd [15] (rc (fun K hK=>?_) .nil)
        have hT:=Turned.put6 q11 (q1.heap.size) (.slice b0 W.pool.n d0) (.slice b1 W.pool.hn d1) (.int .i64 W.time) (.int .i64 W.next) (.slice aSn W.sn cSn) (.slice aZn W.pn cZn)
        have hbZ:Below W0.heap.size W0 (put6 q11 (q1.heap.size) (.slice b0 W.pool.n d0) (.slice b1 W.pool.hn d1) (.int .i64 W.time) (.int .i64 W.next) (.slice aSn W.sn cSn) (.slice aZn W.pn cZn)):=hb11.trans (hT.below (B:=W0.heap.size) hb11.size (fun k e=>by omega))
        have kV:=kV11.put (.slice b0 W.pool.n d0) (.slice b1 W.pool.hn d1) (.int .i64 W.time) (.int .i64 W.next) (.slice aSn W.sn cSn) (.slice aZn W.pn cZn)
        obtain⟨⟨y0,y0'⟩,⟨y1,y1'⟩,⟨y2,y2'⟩,⟨y3,y3'⟩,⟨y4,y4'⟩,⟨y5,y5'⟩⟩:=kV11
        obtain⟨⟨x0,-⟩,⟨x1,-⟩,⟨x2,-⟩,⟨x3,-⟩,⟨x4,-⟩,⟨x5,-⟩⟩:=HX.out.below hbZ
        go_simp
        (try go_wp2_with fail)
        refine hK.out _ _ (by(try dsimp only); go_keep) ?_
        clear hK K hHeld
        intro hHeld
        try simp only [Act.put,s1,s2,s3]
        clear x0 x1 x2 x3 x4 x5
        refine wpAnyH_done (by kernel_rfl) ?_ _
        have hs6:(put6 q11 (q1.heap.size) (.slice b0 W.pool.n d0) (.slice b1 W.pool.hn d1) (.int .i64 W.time) (.int .i64 W.next) (.slice aSn W.sn cSn) (.slice aZn W.pn cZn)).heap.size=q11.heap.size:=by simp only [World.size_setCell]
        go_wp2_with fail
        go_meet
        case rel=>
          refine⟨_,_,_,_,_,_,_,_,_,_,_,bS,bZ,rfl,kV,kP11.turned hT (fun k e=>by omega),fun h0=>⟨(lS h0).1,by have:=lS h0; omega⟩,fun h0=>⟨(lZ h0).1,by have:=lZ h0; omega,fun h1=>by have:=lZ h0; have:=lS h1; omega⟩,nS,nZ,(kS11.turned0 hT (fun q e h0 e2=>by have:=lS h0; omega)).weak (by rw [hs6]; omega),(kZ11.turned0 hT (fun q e h0 e2=>by have:=lZ h0; omega)).weak (by rw [hs6]; omega),by omega,fun h0=>by have:=lS h0; omega,fun h0=>by have:=lZ h0; omega,by omega,by omega,by omega,by rw [hs6]; omega,by rw [hs6]; omega,((((((kA11.set _ _).set _ _).set _ _).set _ _).set _ _).set _ _),((((((kB11.set _ _).set _ _).set _ _).set _ _).set _ _).set _ _),hbZ⟩
    · go_simp
      have hc13:=below_alloc q0 (.cells #[.slice none 0 0,.slice none 0 0,.int .i64 0,.int .i64 0,.slice none 0 0,.slice none 0 0] 37)
      have hb13:Below W0.heap.size W0 (q0.alloc (.cells #[.slice none 0 0,.slice none 0 0,.int .i64 0,.int .i64 0,.slice none 0 0,.slice none 0 0] 37)):=below_next hb0 hc13
      have kV13:Box6 (q0.alloc (.cells #[.slice none 0 0,.slice none 0 0,.int .i64 0,.int .i64 0,.slice none 0 0,.slice none 0 0] 37)) q0.heap.size (.slice none 0 0) (.slice none 0 0) (.int .i64 0) (.int .i64 0) (.slice none 0 0) (.slice none 0 0):=Box6.new _ _ _ _ _ _ _ _
      have zV:W0.heap.size≤q0.heap.size∧q0.heap.size+1=(q0.alloc (.cells #[.slice none 0 0,.slice none 0 0,.int .i64 0,.int .i64 0,.slice none 0 0,.slice none 0 0] 37)).heap.size:=⟨hb0.size,(World.size_alloc _ _).symm⟩
      obtain⟨⟨x0,-⟩,⟨x1,-⟩,⟨x2,-⟩,⟨x3,-⟩,⟨x4,-⟩,⟨x5,-⟩⟩:=HX.out.below hb13
      (try go_wp2_with fail)
      refine hK.out _ _ (by(try dsimp only); go_keep) ?_
      clear hK K hHeld
      intro hHeld
      try simp only [Act.put,s1,s2,s3]
      clear x0 x1 x2 x3 x4 x5
      generalize q0.alloc (.cells #[.slice none 0 0,.slice none 0 0,.int .i64 0,.int .i64 0,.slice none 0 0,.slice none 0 0] 37)=q13 at hb13 zV kV13 hHeld hc13 ⊢
      refine rd [2] (rc (fun K hK=>?_) .nil)
      go_simp
      go_at_call 168
      refine(clonePool_any _ _ lo hi W.pool _ ((Hp.out.pool.below hbw).below hb13) hpn).mono ?_
      rintro e q14 ⟨u0,u1,rfl,kP14,hc14⟩
      obtain⟨b0,d0,b1,d1,rfl,rfl⟩:=kP14.form
      have zP:W0.heap.size≤q13.heap.size∧q13.heap.size≤q14.heap.size:=⟨hb13.size,hc14.size⟩
      have hb14:Below W0.heap.size W0 q14:=below_next hb13 hc14
      have kV14:=kV13.below hc14
      have y14:=hc14.size
      obtain⟨⟨x0,-⟩,⟨x1,-⟩,⟨x2,-⟩,⟨x3,-⟩,⟨x4,-⟩,⟨x5,-⟩⟩:=HX.out.below hb14
      (try go_wp2_with fail)
      refine hK.out _ _ (by(try dsimp only); go_keep) ?_
      clear hK K hHeld
      intro hHeld
      try simp only [Act.put,s1,s2,s3]
      clear x0 x1 x2 x3 x4 x5
      refine rd [9] (rc (fun K hK=>?_) .nil)
      go_simp
      go_at_call 169
      refine(cloneSets_row a2 W.sn c2 (clSet W.sets cvS W.sn) _ (clSet_len _ _ _) (clSet_one _ _ _ H1S.out) hSn (fun h0=>?_)).mono ?_
      · obtain⟨b,off,ha,hc⟩:=H2S.out h0
        exact⟨b,off,ha,fun j u hj=>((below_next hbw hb14).cell (lt_of_cell (hc j u hj))).trans (hc j u hj)⟩
      rintro e q15 ⟨v15,rfl,ho15,hc15,hzz15⟩
      have hb15:Below W0.heap.size W0 q15:=below_next hb14 hc15
      obtain⟨bS,aSn,cSn,rfl,nS,lS,kS15⟩:=halfSet_start ho15 q15.heap.size (Nat.le_refl _)
      have zS:q14.heap.size≤q15.heap.size:=hc15.size
      have kA15:=rowB_of_owns ho15 hzz15
      have kP15:=kP14.below hc15
      have kV15:=kV14.below hc15
      have y15:=hc15.size
      obtain⟨⟨x0,-⟩,⟨x1,-⟩,⟨x2,-⟩,⟨x3,-⟩,⟨x4,-⟩,⟨x5,-⟩⟩:=HX.out.below hb15
      (try go_wp2_with fail)
      refine hK.out _ _ (by(try dsimp only); go_keep) ?_
      clear hK K hHeld
      intro hHeld
      try simp only [Act.put,s1,s2,s3]
      clear x0 x1 x2 x3 x4 x5
      refine rd [12] (rc (fun K hK=>?_) .nil)
      go_simp
      go_at_call 170
      refine(cloneSnaps_row a3 W.pn c3 (clSnap W.snaps cvZ W.pn) _ (clSnap_len _ _ _) (clSnap_one _ _ _ H1Z.out) hZn (fun h0=>?_)).mono ?_
      · obtain⟨b,off,ha,hc⟩:=H2Z.out h0
        exact⟨b,off,ha,fun j u hj=>((below_next hbw hb15).cell (lt_of_cell (hc j u hj))).trans (hc j u hj)⟩
      rintro e q16 ⟨v16,rfl,ho16,hc16,hzz16⟩
      have hb16:Below W0.heap.size W0 q16:=below_next hb15 hc16
      obtain⟨bZ,aZn,cZn,rfl,nZ,lZ,kZ16⟩:=halfSnap_start ho16 q16.heap.size (Nat.le_refl _)
      have zZ:q15.heap.size≤q16.heap.size:=hc16.size
      have kB16:=rowB_of_owns ho16 hzz16
      have kP16:=kP15.below hc16
      have kS16:=kS15.below hc16
      have kV16:=kV15.below hc16
      have kA16:=kA15.below hc16
      have y16:=hc16.size
      obtain⟨⟨x0,-⟩,⟨x1,-⟩,⟨x2,-⟩,⟨x3,-⟩,⟨x4,-⟩,⟨x5,-⟩⟩:=HX.out.below hb16
      (try go_wp2_with fail)
      refine hK.out _ _ (by(try dsimp only); go_keep) ?_
      clear hK K hHeld
      intro hHeld
      try simp only [Act.put,s1,s2,s3]
      clear x0 x1 x2 x3 x4 x5
      refine tk 13 (h:=?_)
      refine rd [15] (rc (fun K hK=>?_) .nil)
      have hT:=Turned.put6 q16 (q0.heap.size) (.slice b0 W.pool.n d0) (.slice b1 W.pool.hn d1) (.int .i64 W.time) (.int .i64 W.next) (.slice aSn W.sn cSn) (.slice aZn W.pn cZn)
      have hbZ:Below W0.heap.size W0 (put6 q16 (q0.heap.size) (.slice b0 W.pool.n d0) (.slice b1 W.pool.hn d1) (.int .i64 W.time) (.int .i64 W.next) (.slice aSn W.sn cSn) (.slice aZn W.pn cZn)):=hb16.trans (hT.below (B:=W0.heap.size) hb16.size (fun k e=>by omega))
      have kV:=kV16.put (.slice b0 W.pool.n d0) (.slice b1 W.pool.hn d1) (.int .i64 W.time) (.int .i64 W.next) (.slice aSn W.sn cSn) (.slice aZn W.pn cZn)
      obtain⟨⟨y0,y0'⟩,⟨y1,y1'⟩,⟨y2,y2'⟩,⟨y3,y3'⟩,⟨y4,y4'⟩,⟨y5,y5'⟩⟩:=kV16
      obtain⟨⟨x0,-⟩,⟨x1,-⟩,⟨x2,-⟩,⟨x3,-⟩,⟨x4,-⟩,⟨x5,-⟩⟩:=HX.out.below hbZ
      go_simp
      (try go_wp2_with fail)
      refine hK.out _ _ (by(try dsimp only); go_keep) ?_
      clear hK K hHeld
      intro hHeld
      try simp only [Act.put,s1,s2,s3]
      clear x0 x1 x2 x3 x4 x5
      refine wpAnyH_done (by kernel_rfl) ?_ _
      have hs6:(put6 q16 (q0.heap.size) (.slice b0 W.pool.n d0) (.slice b1 W.pool.hn d1) (.int .i64 W.time) (.int .i64 W.next) (.slice aSn W.sn cSn) (.slice aZn W.pn cZn)).heap.size=q16.heap.size:=by simp only [World.size_setCell]
      go_wp2_with fail
      go_meet
      case rel=>
        refine⟨_,_,_,_,_,_,_,_,_,_,_,bS,bZ,rfl,kV,kP16.turned hT (fun k e=>by omega),fun h0=>⟨(lS h0).1,by have:=lS h0; omega⟩,fun h0=>⟨(lZ h0).1,by have:=lZ h0; omega,fun h1=>by have:=lZ h0; have:=lS h1; omega⟩,nS,nZ,(kS16.turned0 hT (fun q e h0 e2=>by have:=lS h0; omega)).weak (by rw [hs6]; omega),(kZ16.turned0 hT (fun q e h0 e2=>by have:=lZ h0; omega)).weak (by rw [hs6]; omega),by omega,fun h0=>by have:=lS h0; omega,fun h0=>by have:=lZ h0; omega,by omega,by omega,by omega,by rw [hs6]; omega,by rw [hs6]; omega,((((((kA16.set _ _).set _ _).set _ _).set _ _).set _ _).set _ _),((((((kB16.set _ _).set _ _).set _ _).set _ _).set _ _).set _ _),hbZ⟩
  case rest=>
    obtain⟨X,b0,d0,b1,d1,aS,cS,aZ,cZ,l,h,bS,bZ,rfl,kV,kP,hS,hZ,nS,nZ,kS,kZ,hXl,hXS,hXZ,z1,z2,z3,z4,z5,rA,rB,hbc⟩:=hcut
    have HBX:=hide kV
    have HPL:=hide kP
    have HSa:=hide hS
    have HZa:=hide hZ
    have hbWz:=hbw.size
    have hRw:=HSZ.out
    have HS:=hide kS
    have HZ:=hide kZ
    have hltS:=kS.lt
    have hltZ:=kZ.lt
    clear kV kP hS hZ kS kZ HX hpn H1S H1Z H2S H2Z
    obtain⟨⟨x0,-⟩,⟨x1,-⟩,⟨x2,-⟩,⟨x3,-⟩,⟨x4,-⟩,⟨x5,-⟩⟩:=HBX.out
    go_wp2
    clear x0 x1 x2 x3 x4 x5
    go_loopw [4,5,25] (fun _ _ i wr=>∃(k:Nat) (kb:Nat→Nat) (kv:Nat→Value),k≤W.sn∧i = .int .i64 k∧HalfSet wr bS wc.heap.size W.sn k W.sets kb kv cvS∧Box6 wr X (.slice b0 W.pool.n d0) (.slice b1 W.pool.hn d1) (.int .i64 W.time) (.int .i64 W.next) (.slice aS W.sn cS) (.slice aZ W.pn cZ)∧wc.heap.size≤wr.heap.size∧PoolOwn wr l h (.slice b0 W.pool.n d0) (.slice b1 W.pool.hn d1) W.pool∧HalfSnap wr bZ wc.heap.size W.pn 0 W.snaps (fun _=>0) cvZ cvZ∧(Below W0.heap.size W0 wr∧RowB wr 67 6 (.slice aS W.sn cS) W.sn∧RowB wr 99 8 (.slice aZ W.pn cZ) W.pn∧∀j,j<k→RowB wr 61 2 (kv j) (W.sets j).dn)) (fun _ _ i _=>W.sn - (intOf i).toNat)
    case atStart=>exact⟨0,_,_,Nat.zero_le _,rfl,HS.out,HBX.out,Nat.le_refl _,HPL.out,HZ.out,hbc,rA,rB,fun j hj=>absurd hj (Nat.not_lt_zero _)⟩
    case round=>
      obtain⟨k,kb,kv,hk,rfl,hh,hI⟩:=hrel
      have Hh:=hide hh
      have HI:=hide hI
      clear hh hI
      by_cases hlt:k<W.sn
      · have hlt':(k:Int)<(W.sn:Int):=by omega
        have hL0:=HI.out.2.1
        have hLT:=Hh.out.lt (by omega)
        obtain rfl:=(HSa.out (by omega)).1
        obtain⟨-,da,dc,hcv,-⟩:=id (HcvS.out k hlt).1
        have hD:=(HcvS.out k hlt).1
        rw [hcv] at hD
        have HD:=hide hD
        clear hD
        obtain⟨⟨h0,g0⟩,⟨h1,g1⟩,⟨h2,g2⟩,⟨h3,g3⟩,⟨h4,g4⟩,⟨h5,g5⟩⟩:=Hh.out.heads k hlt
        rw [if_neg (by omega),hcv] at h5
        obtain⟨⟨x0,-⟩,⟨x1,-⟩,⟨x2,-⟩,⟨x3,-⟩,⟨x4,-⟩,⟨x5,-⟩⟩:=HI.out.1
        have ha:=below_alloc wr (.cells #[.string (W.sets k).name,.int .i64 (W.sets k).origin,.int .i64 (W.sets k).prev,.int .i64 (W.sets k).rs,.int .i64 (W.sets k).rb,.slice da (W.sets k).dn dc] 67)
        have hy:=Box6.new wr (.string (W.sets k).name) (.int .i64 (W.sets k).origin) (.int .i64 (W.sets k).prev) (.int .i64 (W.sets k).rs) (.int .i64 (W.sets k).rb) (.slice da (W.sets k).dn dc) 67
        have hz1:(wr.alloc (.cells #[.string (W.sets k).name,.int .i64 (W.sets k).origin,.int .i64 (W.sets k).prev,.int .i64 (W.sets k).rs,.int .i64 (W.sets k).rb,.slice da (W.sets k).dn dc] 67)).heap.size=wr.heap.size+1:=World.size_alloc _ _
        have HY:=hide hy
        have HA:=hide ha
        clear hy
        go_wp2_with fail
        clear h0 g0 h1 g1 h2 g2 h3 g3 h4 g4 h5 g5 x0 x1 x2 x3 x4 x5
        have Hh1:=hide (Hh.out.below HA.out)
        have hw1:=below_next hbw (below_next HI.out.2.2.2.2.1 HA.out)
        have HD1:=hide (HD.out.below hw1)
        have HX1:=hide (HI.out.1.below HA.out)
        have hV:wr.heap.size<wr.heap.size+1:=by omega
        generalize wr.alloc (.cells #[.string (W.sets k).name,.int .i64 (W.sets k).origin,.int .i64 (W.sets k).prev,.int .i64 (W.sets k).rs,.int .i64 (W.sets k).rb,.slice da (W.sets k).dn dc] 67)=W1 at HY HA Hh1 hw1 HD1 HX1 hz1 ⊢
        obtain⟨⟨x0,-⟩,⟨x1,-⟩,⟨x2,-⟩,⟨x3,-⟩,⟨x4,-⟩,⟨x5,-⟩⟩:=HX1.out
        obtain⟨⟨y0,-⟩,⟨y1,-⟩,⟨y2,-⟩,⟨y3,-⟩,⟨y4,-⟩,⟨y5,-⟩⟩:=HY.out
        obtain⟨⟨h0,g0⟩,⟨h1,g1⟩,⟨h2,g2⟩,⟨h3,g3⟩,⟨h4,g4⟩,⟨h5,g5⟩⟩:=Hh1.out.heads k hlt
        rw [if_neg (by omega),hcv] at h5
        have e1:X≠bS:=hXS (by omega)
        have e1':=e1.symm
        have e2:wr.heap.size≠bS:=by omega
        have e2':=e2.symm
        go_region_held3 (fun w'=>w'.cell? ⟨X,4,none⟩=some (.slice (some ⟨bS,0,none⟩) W.sn cS)∧w'.cell? ⟨wr.heap.size,5,none⟩=some (.slice da (W.sets k).dn dc)) (go_keep)
          (first
            | (go_at_call 171
               refine(clonePtrsR_any _ (W.sets k).dn lo hi (W.sets k).ds (W.sets k).db _ (HD1.out.below (Below.refl _ _).drew) (HDnS.out k hlt)).mono ?_
               rintro e w2 ⟨⟨nv,nb,rfl,hrb2,hp2,hpl2⟩,hb2⟩
               have hb2':=below_undrew hb2
               obtain⟨_,na,nc,rfl,_⟩:=id hp2
               obtain⟨⟨z0,-⟩,⟨z1,-⟩,⟨z2,-⟩,⟨z3,-⟩,⟨z4,-⟩,⟨z5,-⟩⟩:=HX1.out.below hb2'
               obtain⟨⟨v0,-⟩,⟨v1,-⟩,⟨v2,-⟩,⟨v3,-⟩,⟨v4,-⟩,⟨v5,-⟩⟩:=HY.out.below hb2'
               obtain⟨⟨p0,p0'⟩,⟨p1,p1'⟩,⟨p2,p2'⟩,⟨p3,p3'⟩,⟨p4,p4'⟩,⟨p5,p5'⟩⟩:=(Hh1.out.below hb2').heads k hlt
               rw [if_neg (by omega),hcv] at p5))
        have hz2:=hb2'.size
        have Hn2:=hide (Hh1.out.next hlt (by omega) hb2' hp2 (fun h0=>by have:=hpl2 h0; have hd:W1.drew.heap.size=W1.heap.size:=rfl; omega))
        have hT:=Turned.put w2 bS (k*6+5) (.slice na (W.sets k).dn nc)
        have hB:=below_next HA.out hb2'
        have HKn:=hide (HI.out.2.2.2.1)
        have HEx:=hide (HI.out.2.2.2.2.2)
        have HRn:=hide hrb2
        clear hrb2
        go_wp2
        go_roundw
        case rel=>
          refine⟨k+1,_,_,by omega,by go_num,Hn2.out,(HX1.out.below hb2').turned hT (fun e=>(hXS (by omega)) e),by simp only [World.size_setCell]; omega,(HI.out.2.2.1.below hB).turned hT (fun q e=>by have:=(HSa.out (by omega)).2; omega),(HKn.out.below hB).turned hT (fun q e=>⟨fun h0 e2=>by have:=(HZa.out h0).2.2 (by omega); omega,by omega⟩) (Nat.zero_le _),(below_next HI.out.2.2.2.2.1 hB).setCell (by show W0.heap.size≤bS; have:=(HSa.out (by omega)).2; omega) _,(HEx.out.1.below hB).set _ _,(HEx.out.2.1.below hB).set _ _,fun j hj=>?_⟩
          by_cases e:j=k
          · subst e
            simp only [if_true]
            exact HRn.out.set _ _
          · simp only [if_neg e]
            exact((HEx.out.2.2 j (by omega)).below hB).set _ _
        case measure=>simp [intOf]; omega
      · obtain rfl:k=W.sn:=by omega
        generalize wr=wA at Hh HI ⊢
        generalize kb=kbS at Hh
        generalize kv=kvS at Hh HI
        have hLA:=HI.out.2.1
        have HS2:=hide Hh.out
        have HPl:=hide (show ∀j,j<W.sn→0<(W.sets j).dn→wc.heap.size≤kbS j∧kbS j<wA.heap.size from Hh.out.place)
        have HBX2:=hide HI.out.1
        have HPL2:=hide HI.out.2.2.1
        have HZ':=hide (HI.out.2.2.2.1.weak hLA)
        have hbc2:=HI.out.2.2.2.2.1
        have HRow:=hide HI.out.2.2.2.2.2
        clear Hh HI HZ HS HBX HPL hbc
        have HZ:=HZ'
        clear HZ'
        obtain⟨⟨x0,-⟩,⟨x1,-⟩,⟨x2,-⟩,⟨x3,-⟩,⟨x4,-⟩,⟨x5,-⟩⟩:=HBX2.out
        go_wp2
        clear x0 x1 x2 x3 x4 x5
        go_loopw [6,7,42] (fun _ _ i wr=>∃(k:Nat) (kb:Nat→Nat) (kv:Nat→Value),k≤W.pn∧i = .int .i64 k∧HalfSnap wr bZ wA.heap.size W.pn k W.snaps kb kv cvZ∧Box6 wr X (.slice b0 W.pool.n d0) (.slice b1 W.pool.hn d1) (.int .i64 W.time) (.int .i64 W.next) (.slice aS W.sn cS) (.slice aZ W.pn cZ)∧wA.heap.size≤wr.heap.size∧PoolOwn wr l h (.slice b0 W.pool.n d0) (.slice b1 W.pool.hn d1) W.pool∧HalfSet wr bS wc.heap.size W.sn W.sn W.sets kbS kvS cvS∧(Below W0.heap.size W0 wr∧RowB wr 67 6 (.slice aS W.sn cS) W.sn∧RowB wr 99 8 (.slice aZ W.pn cZ) W.pn∧(∀j,j<W.sn→RowB wr 61 2 (kvS j) (W.sets j).dn)∧∀j,j<k→RowB wr 61 2 (kv j) (W.snaps j).dn)) (fun _ _ i _=>W.pn - (intOf i).toNat)
        case atStart=>exact⟨0,_,_,Nat.zero_le _,rfl,HZ.out,HBX2.out,Nat.le_refl _,HPL2.out,HS2.out,hbc2,HRow.out.1,HRow.out.2.1,HRow.out.2.2,fun j hj=>absurd hj (Nat.not_lt_zero _)⟩
        case round=>
          obtain⟨k,kb,kv,hk,rfl,hh,hI⟩:=hrel
          have Hh:=hide hh
          have HI:=hide hI
          clear hh hI
          by_cases hlt:k<W.pn
          · have hlt':(k:Int)<(W.pn:Int):=by omega
            have hL0:=HI.out.2.1
            have hLT:=Hh.out.lt (by omega)
            obtain rfl:=(HZa.out (by omega)).1
            obtain⟨-,da,dc,hcv,-⟩:=id (HcvZ.out k hlt).1
            have hD:=(HcvZ.out k hlt).1
            rw [hcv] at hD
            have HD:=hide hD
            clear hD
            obtain⟨⟨h0,g0⟩,⟨h1,g1⟩,⟨h2,g2⟩,⟨h3,g3⟩,⟨h4,g4⟩,⟨h5,g5⟩,⟨h6,g6⟩,⟨h7,g7⟩⟩:=Hh.out.heads k hlt
            rw [if_neg (by omega),hcv] at h7
            obtain⟨⟨x0,-⟩,⟨x1,-⟩,⟨x2,-⟩,⟨x3,-⟩,⟨x4,-⟩,⟨x5,-⟩⟩:=HI.out.1
            have ha:=below_alloc wr (.cells #[.int .i64 (W.snaps k).id,.string (W.snaps k).name,.string (W.snaps k).set,.int .i64 (W.snaps k).prev,.int .i64 (W.snaps k).time,.int .i64 (W.snaps k).rs,.int .i64 (W.snaps k).rb,.slice da (W.snaps k).dn dc] 99)
            have hy:=Row8.new wr (.int .i64 (W.snaps k).id) (.string (W.snaps k).name) (.string (W.snaps k).set) (.int .i64 (W.snaps k).prev) (.int .i64 (W.snaps k).time) (.int .i64 (W.snaps k).rs) (.int .i64 (W.snaps k).rb) (.slice da (W.snaps k).dn dc) 99
            have hz1:(wr.alloc (.cells #[.int .i64 (W.snaps k).id,.string (W.snaps k).name,.string (W.snaps k).set,.int .i64 (W.snaps k).prev,.int .i64 (W.snaps k).time,.int .i64 (W.snaps k).rs,.int .i64 (W.snaps k).rb,.slice da (W.snaps k).dn dc] 99)).heap.size=wr.heap.size+1:=World.size_alloc _ _
            have HY:=hide hy
            have HA:=hide ha
            clear hy
            go_wp2_with fail
            clear h0 g0 h1 g1 h2 g2 h3 g3 h4 g4 h5 g5 h6 g6 h7 g7 x0 x1 x2 x3 x4 x5
            have Hh1:=hide (Hh.out.below HA.out)
            have hw1:=below_next hbw (below_next HI.out.2.2.2.2.1 HA.out)
            have HD1:=hide (HD.out.below hw1)
            have HX1:=hide (HI.out.1.below HA.out)
            have hV:wr.heap.size<wr.heap.size+1:=by omega
            generalize wr.alloc (.cells #[.int .i64 (W.snaps k).id,.string (W.snaps k).name,.string (W.snaps k).set,.int .i64 (W.snaps k).prev,.int .i64 (W.snaps k).time,.int .i64 (W.snaps k).rs,.int .i64 (W.snaps k).rb,.slice da (W.snaps k).dn dc] 99)=W1 at HY HA Hh1 hw1 HD1 HX1 hz1 ⊢
            obtain⟨⟨x0,-⟩,⟨x1,-⟩,⟨x2,-⟩,⟨x3,-⟩,⟨x4,-⟩,⟨x5,-⟩⟩:=HX1.out
            obtain⟨⟨y0,-⟩,⟨y1,-⟩,⟨y2,-⟩,⟨y3,-⟩,⟨y4,-⟩,⟨y5,-⟩,⟨y6,-⟩,⟨y7,-⟩⟩:=HY.out
            obtain⟨⟨h0,g0⟩,⟨h1,g1⟩,⟨h2,g2⟩,⟨h3,g3⟩,⟨h4,g4⟩,⟨h5,g5⟩,⟨h6,g6⟩,⟨h7,g7⟩⟩:=Hh1.out.heads k hlt
            rw [if_neg (by omega),hcv] at h7
            have e1:X≠bZ:=hXZ (by omega)
            have e1':=e1.symm
            have e2:wr.heap.size≠bZ:=by omega
            have e2':=e2.symm
            go_region_held3 (fun w'=>w'.cell? ⟨X,5,none⟩=some (.slice (some ⟨bZ,0,none⟩) W.pn cZ)∧w'.cell? ⟨wr.heap.size,7,none⟩=some (.slice da (W.snaps k).dn dc)) (go_keep)
              (first
                | (go_at_call 171
                   refine(clonePtrsR_any _ (W.snaps k).dn lo hi (W.snaps k).ds (W.snaps k).db _ (HD1.out.below (Below.refl _ _).drew) (HDnZ.out k hlt)).mono ?_
                   rintro e w2 ⟨⟨nv,nb,rfl,hrb2,hp2,hpl2⟩,hb2⟩
                   have hb2':=below_undrew hb2
                   obtain⟨_,na,nc,rfl,_⟩:=id hp2
                   obtain⟨⟨z0,-⟩,⟨z1,-⟩,⟨z2,-⟩,⟨z3,-⟩,⟨z4,-⟩,⟨z5,-⟩⟩:=HX1.out.below hb2'
                   obtain⟨⟨v0,-⟩,⟨v1,-⟩,⟨v2,-⟩,⟨v3,-⟩,⟨v4,-⟩,⟨v5,-⟩,⟨v6,-⟩,⟨v7,-⟩⟩:=HY.out.below hb2'
                   obtain⟨⟨p0,p0'⟩,⟨p1,p1'⟩,⟨p2,p2'⟩,⟨p3,p3'⟩,⟨p4,p4'⟩,⟨p5,p5'⟩,⟨p6,p6'⟩,⟨p7,p7'⟩⟩:=(Hh1.out.below hb2').heads k hlt
                   rw [if_neg (by omega),hcv] at p7))
            have hz2:=hb2'.size
            have Hn2:=hide (Hh1.out.next hlt (by omega) hb2' hp2 (fun h0=>by have:=hpl2 h0; have hd:W1.drew.heap.size=W1.heap.size:=rfl; omega))
            have hT:=Turned.put w2 bZ (k*8+7) (.slice na (W.snaps k).dn nc)
            have hB:=below_next HA.out hb2'
            have HKn:=hide (HI.out.2.2.2.1)
            have HEx:=hide (HI.out.2.2.2.2.2)
            have HRn:=hide hrb2
            clear hrb2
            go_wp2
            go_roundw
            case rel=>
              refine⟨k+1,_,_,by omega,by go_num,Hn2.out,(HX1.out.below hb2').turned hT (fun e=>(hXZ (by omega)) e),by simp only [World.size_setCell]; omega,(HI.out.2.2.1.below hB).turned hT (fun q e=>by have:=(HZa.out (by omega)).2; omega),(HKn.out.below hB).turned hT (fun q e=>⟨fun h0 e2=>by have:=(HZa.out (by omega)).2.2 h0; omega,by omega⟩) (Nat.le_refl _),(below_next HI.out.2.2.2.2.1 hB).setCell (by show W0.heap.size≤bZ; have:=(HZa.out (by omega)).2; omega) _,(HEx.out.1.below hB).set _ _,(HEx.out.2.1.below hB).set _ _,fun j hj=>((HEx.out.2.2.1 j hj).below hB).set _ _,fun j hj=>?_⟩
              by_cases e:j=k
              · subst e
                simp only [if_true]
                exact HRn.out.set _ _
              · simp only [if_neg e]
                exact((HEx.out.2.2.2 j (by omega)).below hB).set _ _
            case measure=>simp [intOf]; omega
          · obtain rfl:k=W.pn:=by omega
            have hbc3:=HI.out.2.2.2.2.1
            have HRr:=hide (HR.out.below hbc3)
            obtain⟨⟨x0,-⟩,⟨x1,-⟩,⟨x2,-⟩,⟨x3,-⟩,⟨x4,-⟩,⟨x5,-⟩⟩:=HI.out.1
            obtain⟨⟨r0,r0'⟩,⟨r1,r1'⟩,⟨r2,r2'⟩,⟨r3,r3'⟩,⟨r4,r4'⟩,⟨r5,r5'⟩⟩:=HRr.out
            go_wp2
            have hT:=Turned.put6 wr (w.heap.size+1) (.slice b0 W.pool.n d0) (.slice b1 W.pool.hn d1) (.int .i64 W.time) (.int .i64 W.next) (.slice aS W.sn cS) (.slice aZ W.pn cZ)
            have HRp:=HRr.out.put (.slice b0 W.pool.n d0) (.slice b1 W.pool.hn d1) (.int .i64 W.time) (.int .i64 W.next) (.slice aS W.sn cS) (.slice aZ W.pn cZ)
            have hS1:=(HI.out.2.2.2.1.own HMx.out.1 (fun h0=>(HSa.out h0).1) nS (fun i hi=>(HcvS.out i hi).2))
            have hZ1:=(Hh.out.own HMx.out.2 (fun h0=>(HZa.out h0).1) nZ (fun i hi=>(HcvZ.out i hi).2))
            have hpz:=Hh.out.place
            have hsz:(put6 wr (w.heap.size+1) (.slice b0 W.pool.n d0) (.slice b1 W.pool.hn d1) (.int .i64 W.time) (.int .i64 W.next) (.slice aS W.sn cS) (.slice aZ W.pn cZ)).heap.size=wr.heap.size:=by simp only [World.size_setCell]
            have hLr:=HI.out.2.1
            have zS:∀q,SetsB bS kbS W.sn W.sets q→h≤q∧q<wA.heap.size∧(q<wc.heap.size→0<W.sn∧q=bS):=by
              rintro q (⟨h0,rfl⟩ | ⟨i,hi,h0,rfl⟩)
              · exact⟨(HSa.out h0).2,by have:=hltS h0; omega,fun _=>⟨h0,rfl⟩⟩
              · have:=HPl.out i hi h0; exact⟨by omega,by omega,fun hx=>by omega⟩
            have zZ:∀q,SnapsB bZ kb W.pn W.snaps q→h≤q∧q<wr.heap.size∧(q<wA.heap.size→0<W.pn∧q=bZ):=by
              rintro q (⟨h0,rfl⟩ | ⟨i,hi,h0,rfl⟩)
              · exact⟨(HZa.out h0).2.1,by have:=hltZ h0; omega,fun _=>⟨h0,rfl⟩⟩
              · have:=hpz i hi h0; exact⟨by omega,by omega,fun hx=>by omega⟩
            refine bodyPost_ret (v:=.agg #[.slice b0 W.pool.n d0,.slice b1 W.pool.hn d1,.int .i64 W.time,.int .i64 W.next,.slice aS W.sn cS,.slice aZ W.pn cZ]) (by simp [results,Tryz.results106,go_sem,HRp.1.1,HRp.2.1.1,HRp.2.2.1.1,HRp.2.2.2.1.1,HRp.2.2.2.2.1.1,HRp.2.2.2.2.2.1]) rfl ⟨_,_,_,_,rfl,?_,?_⟩
            · refine⟨fun q=>l≤q∧q<h,fun q=>SetsB bS kbS W.sn W.sets q,fun q=>SnapsB bZ kb W.pn W.snaps q,⟨?_,?_,?_,?_,?_,?_⟩,?_⟩
              · exact(HI.out.2.2.1.isIn (S:=fun q=>l≤q∧q<h) (fun k h1 h2=>⟨h1,h2⟩)).turned hT (fun k hk e=>by omega)
              · exact SetsInR.put6 ⟨bS,kbS,kvS,hS1,HI.out.2.2.2.1.apart,fun q hq=>hq,HI.out.2.2.2.2.2.1,HI.out.2.2.2.2.2.2.2.1⟩ _ _ _ _ _ _ _ (fun e=>by have:=zS _ e; omega)
              · exact SnapsInR.put6 ⟨bZ,kb,kv,hZ1,Hh.out.apart,fun q hq=>hq,HI.out.2.2.2.2.2.2.1,HI.out.2.2.2.2.2.2.2.2⟩ _ _ _ _ _ _ _ (fun e=>by have:=zZ _ e; omega)
              · exact fun k hk e=>by have:=zS k e; omega
              · exact fun k hk e=>by have:=zZ k e; omega
              · intro k hk e
                have h1:=zS k hk
                have h2:=(zZ k e).2.2 h1.2.1
                have h3:=h1.2.2 (by have:=hltZ h2.1; omega)
                have:=(HZa.out h2.1).2.2 h3.1
                omega
              · intro k hk
                rw [hsz]
                rcases hk with hk | hk | hk
                · omega
                · have:=zS k hk; omega
                · have:=zZ k hk; omega
            · exact(below_next hbw hbc3).trans (hT.below (B:=w.heap.size) (below_next hbw hbc3).size (fun k e=>by omega))
end Go.Proofs.YtmgeglgboadfiaaGreatDoor
