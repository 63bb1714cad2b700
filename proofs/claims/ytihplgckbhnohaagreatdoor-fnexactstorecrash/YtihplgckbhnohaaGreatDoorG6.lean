/- New pools that hold the same: what spec.l01Copy and impl.clonePool leave. -/
import Derived.Test.YtihplgckbhnohaaGreatDoorG5
import Derived.Deep.AppendLies
import Derived.Deep.RegionHeld3
import Derived.Deep.RegionLaw
import Derived.Test.YtihplgckbhnohaaGreatDoorG1
import Derived.Maps.OwnSet
namespace Go.Proofs.YtihplgckbhnohaaGreatDoor
open Go.RowKit
set_option linter.unusedVariables false
set_option maxRecDepth 20000 in
set_option maxHeartbeats 400000 in
theorem cloneInts_row(a:Option Addr)(n c:Nat)(xs:List Value)(w:World)(hl:xs.length=n*1)(hone:∀u∈xs,u.oneCell'=true)(hn:n≤1048576)
    (hc:0<n→∃b off,a=some ⟨b,off,none⟩∧∀j u,xs[j]?=some u→w.cell? ⟨b,off+j,none⟩=some u) :
    Calls Tryz.prog 147 #[.slice a n c] w fun e w'=>∃v',e = .returned v'∧w'.ownsRow w.heap.size 2 1 v' n xs∧Below w.heap.size w w'∧(n=0→∃a,v' = .slice a 0 0):=by
  have Hc:Hid (0<n→∃b off,a=some ⟨b,off,none⟩∧∀j u,xs[j]?=some u→w.cell? ⟨b,off+j,none⟩=some u):=hc
  have Hl:Hid (xs.length=n*1∧∀u∈xs,u.oneCell'=true):=⟨hl,hone⟩
  clear hc hl hone
  have heq:=fun w=>Lib.run_eql_slice_nil (P:=Tryz.prog) w 23 2 a n c 0 0 (by kernel_rfl)
  cases a with
  | none=>
    have hn0:n=0:=by
      by_cases h:0<n
      · obtain⟨b,off,ha,_⟩:=Hc.out h; simp at ha
      · omega
    subst hn0
    have hx0:xs = []:=List.eq_nil_of_length_eq_zero (by simpa using Hl.out.1)
    subst hx0
    go_enter Tryz.func147,Tryz.ntmps147
    go_wp2
    go_ret
    exact⟨_,rfl,World.ownsRow_nil _ _ _ _,Below.refl _ _,fun _=>⟨_,rfl⟩⟩
  | some ad=>
    obtain⟨i0,hi,hzz⟩:=Option.map_eq_some_iff.1 infoInt64
    simp only [Prod.mk.injEq] at hzz
    obtain⟨hz,hs,hby⟩:=hzz
    have HI:Hid (Tryz.prog.info? 2=some i0∧i0.zero=some (.int .i64 0)∧i0.size=1∧i0.bytes=8):=⟨hi,hz,hs,hby⟩
    have Hown0:Hid ((w.alloc (.cells #[] 2)).ownsRow w.heap.size 2 1 (.slice (some ⟨w.heap.size,0,none⟩) 0 0) 0 []):=World.ownsRow_made w #[] 0 (Nat.le_refl _) (Nat.zero_le _) (by simp)
    clear hi hz hs hby
    go_enter Tryz.func147,Tryz.ntmps147
    go_wp2_with (first
      | (at_builtin; refine wpList_append_opt rfl _ _ 23 rfl w.heap.size 2 i0 (.int .i64 0) 1 8 (by kernel_rfl) HI.out.1 HI.out.2.1 HI.out.2.2.1 HI.out.2.2.2 rfl (by decide) _ _ _ rfl Hown0.out (some ad) n c xs rfl Hl.out.1 Hl.out.2 ?c1 ?c3 ?c4 ?c5 ?_))
    case c1=>
      intro h0
      obtain⟨b,off,ha,hcell⟩:=Hc.out h0
      exact⟨b,off,ha,fun j u hj=>(((Below.refl _ _).alloc (Nat.le_refl _) _).cell (lt_of_cell (hcell j u hj))).trans (hcell j u hj)⟩
    case c3=>unfold maxLen; omega
    case c4=>omega
    case c5=>simp
    intro v' w1 hown' hgrow hnil
    have hb1:Below w.heap.size w w1:=((Below.refl _ _).alloc (Nat.le_refl _) _).grown hgrow (by simp) (fun q hq=>by have:=Hown0.out.lt q hq; omega)
    have hown2:w1.ownsRow w.heap.size 2 1 v' n xs:=by simpa using hown'
    have Hown2:Hid (w1.ownsRow w.heap.size 2 1 v' n xs):=hown2
    have Hnil:Hid (n=0→v' = .slice (some ⟨w.heap.size,0,none⟩) 0 0):=hnil
    clear hown' hown2 hgrow hnil
    go_wp2
    go_ret
    exact⟨v',rfl,Hown2.out,hb1,fun e=>⟨_,Hnil.out e⟩⟩
set_option maxRecDepth 20000 in
set_option maxHeartbeats 400000 in
theorem cloneSlots_row(a:Option Addr)(n c:Nat)(xs:List Value)(w:World)(hl:xs.length=n*3)(hone:∀u∈xs,u.oneCell'=true)(hn:n≤1048576)
    (hc:0<n→∃b off,a=some ⟨b,off,none⟩∧∀j u,xs[j]?=some u→w.cell? ⟨b,off+j,none⟩=some u) :
    Calls Tryz.prog 169 #[.slice a n c] w fun e w'=>∃v',e = .returned v'∧w'.ownsRow w.heap.size 66 3 v' n xs∧Below w.heap.size w w'∧(n=0→∃a,v' = .slice a 0 0):=by
  have Hc:Hid (0<n→∃b off,a=some ⟨b,off,none⟩∧∀j u,xs[j]?=some u→w.cell? ⟨b,off+j,none⟩=some u):=hc
  have Hl:Hid (xs.length=n*3∧∀u∈xs,u.oneCell'=true):=⟨hl,hone⟩
  clear hc hl hone
  have heq:=fun w=>Lib.run_eql_slice_nil (P:=Tryz.prog) w 33 66 a n c 0 0 (by kernel_rfl)
  cases a with
  | none=>
    have hn0:n=0:=by
      by_cases h:0<n
      · obtain⟨b,off,ha,_⟩:=Hc.out h; simp at ha
      · omega
    subst hn0
    have hx0:xs = []:=List.eq_nil_of_length_eq_zero (by simpa using Hl.out.1)
    subst hx0
    go_enter Tryz.func169,Tryz.ntmps169
    go_wp2
    go_ret
    exact⟨_,rfl,World.ownsRow_nil _ _ _ _,Below.refl _ _,fun _=>⟨_,rfl⟩⟩
  | some ad=>
    obtain⟨i0,hi,hzz⟩:=Option.map_eq_some_iff.1 infoSlotT
    simp only [Prod.mk.injEq] at hzz
    obtain⟨hz,hs,hby⟩:=hzz
    have HI:Hid (Tryz.prog.info? 66=some i0∧i0.zero=some (.agg #[.int .i64 0,.slice none 0 0,.string ⟨#[]⟩])∧i0.size=3∧i0.bytes=48):=⟨hi,hz,hs,hby⟩
    have Hown0:Hid ((w.alloc (.cells #[] 66)).ownsRow w.heap.size 66 3 (.slice (some ⟨w.heap.size,0,none⟩) 0 0) 0 []):=World.ownsRow_made w #[] 0 (Nat.le_refl _) (Nat.zero_le _) (by simp)
    clear hi hz hs hby
    go_enter Tryz.func169,Tryz.ntmps169
    go_wp2_with (first
      | (at_builtin; refine wpList_append_opt rfl _ _ 33 rfl w.heap.size 66 i0 (.agg #[.int .i64 0,.slice none 0 0,.string ⟨#[]⟩]) 3 48 (by kernel_rfl) HI.out.1 HI.out.2.1 HI.out.2.2.1 HI.out.2.2.2 rfl (by decide) _ _ _ rfl Hown0.out (some ad) n c xs rfl Hl.out.1 Hl.out.2 ?c1 ?c3 ?c4 ?c5 ?_))
    case c1=>
      intro h0
      obtain⟨b,off,ha,hcell⟩:=Hc.out h0
      exact⟨b,off,ha,fun j u hj=>(((Below.refl _ _).alloc (Nat.le_refl _) _).cell (lt_of_cell (hcell j u hj))).trans (hcell j u hj)⟩
    case c3=>unfold maxLen; omega
    case c4=>omega
    case c5=>simp
    intro v' w1 hown' hgrow hnil
    have hb1:Below w.heap.size w w1:=((Below.refl _ _).alloc (Nat.le_refl _) _).grown hgrow (by simp) (fun q hq=>by have:=Hown0.out.lt q hq; omega)
    have hown2:w1.ownsRow w.heap.size 66 3 v' n xs:=by simpa using hown'
    have Hown2:Hid (w1.ownsRow w.heap.size 66 3 v' n xs):=hown2
    have Hnil:Hid (n=0→v' = .slice (some ⟨w.heap.size,0,none⟩) 0 0):=hnil
    clear hown' hown2 hgrow hnil
    go_wp2
    go_ret
    exact⟨v',rfl,Hown2.out,hb1,fun e=>⟨_,Hnil.out e⟩⟩
set_option maxRecDepth 20000 in
set_option maxHeartbeats 1000000 in
theorem l01Copy_parts(v0 v1:Value)(lo hi:Nat)(p:PoolD)(w:World)(h1:PoolAt w lo hi v0 v1 p)(hn:poolN p≤1048576):Calls Tryz.prog 44 #[.agg #[v0,v1]] w (NewParts p w):=by
  have Hp:=hide h1
  obtain⟨⟨m1,a,c,rfl,mc,g1⟩,⟨m2,a',c',rfl,mc',g2⟩⟩:=h1
  have Hm:=hide (And.intro m1 m2)
  clear g1 g2 m1 m2
  unfold poolN at hn
  have Hn:Hid (∀j,j<p.n→(p.s j).kn≤1048576):=fun j hj=>by have h2:=slotN_le p.s hj; unfold slotN at h2; omega
  have hn1:p.n≤1048576:=by omega
  have hn2:p.hn≤1048576:=by omega
  clear hn
  obtain⟨i0,hi0,hzz⟩:=Option.map_eq_some_iff.1 infoInt64
  simp only [Prod.mk.injEq] at hzz
  have HI:=hide (And.intro hi0 hzz)
  obtain⟨i1,hi1,hzz1⟩:=Option.map_eq_some_iff.1 infoSlotT
  simp only [Prod.mk.injEq] at hzz1
  have HI1:=hide (And.intro hi1 hzz1)
  clear hi0 hzz hi1 hzz1
  have ha1:=below_alloc w (.cells #[.slice a p.n c,.slice a' p.hn c'] 35)
  have ha2:=below_next ha1 (below_alloc _ (.cells #[.slice none 0 0,.slice none 0 0] 35))
  have Hb3:=hide (below_next ha2 (below_alloc _ (.cells #[] 2)))
  have hown0:=World.ownsRow_made (base:=w.heap.size+1+1) (e:=2) (size:=1) ((w.alloc (.cells #[.slice a p.n c,.slice a' p.hn c'] 35)).alloc (.cells #[.slice none 0 0,.slice none 0 0] 35)) #[] 0 (by simp) (Nat.zero_le _) (by simp)
  rw [World.size_alloc,World.size_alloc] at hown0
  have Hown0:=hide hown0
  have HB3:=hide (((Box2.new w (.slice a p.n c) (.slice a' p.hn c') 35).below (below_alloc _ (.cells #[.slice none 0 0,.slice none 0 0] 35))).below (below_alloc _ (.cells #[] 2)))
  have hr3:=(Box2.new (w.alloc (.cells #[.slice a p.n c,.slice a' p.hn c'] 35)) (.slice none 0 0) (.slice none 0 0) 35).below (below_alloc _ (.cells #[] 2))
  rw [World.size_alloc] at hr3
  have HR3:=hide hr3
  clear ha1 ha2 hown0 hr3
  go_enter Tryz.func44,Tryz.ntmps44
  go_wp2_with (first
    | (at_builtin; refine wpList_append_opt rfl _ _ 23 rfl (w.heap.size+1+1) 2 i0 (.int .i64 0) 1 8 (by kernel_rfl) HI.out.1 HI.out.2.1 HI.out.2.2.1 HI.out.2.2.2 rfl (by decide) (.slice (some ⟨w.heap.size+1+1,0,none⟩) 0 0) 0 [] rfl ?c0 a' p.hn c' (ic p.h p.hn) rfl (ic_len _ _) (ic_one _ _) ?c1 ?c3 ?c4 ?c5 ?_))
  case c0=>exact Hown0.out
  case c1=>exact news_at Hp.out.2 rfl Hb3.out
  case c3=>unfold maxLen; omega
  case c4=>omega
  case c5=>simp
  intro v' w1 hown' hgrow hzero
  have hown2:w1.ownsRow (w.heap.size+1+1) 2 1 v' p.hn (ic p.h p.hn):=by simpa using hown'
  obtain⟨ha,hc,rfl,_⟩:=owns_form hown2
  have Hz0:Hid (p.hn=0→∃a,Value.slice ha p.hn hc = .slice a 0 0):=fun e=>⟨_,hzero e⟩
  clear hzero
  have Hrow:=hide hown2
  have HB4:=hide (HB3.out.grown hgrow Hown0.out (by omega))
  have HR4:=hide (HR3.out.grown hgrow Hown0.out (by omega))
  have hb1:Below w.heap.size w w1:=Hb3.out.grown hgrow (by simp; omega) (fun q hq=>by have:=Hown0.out.lt q hq; omega)
  have hz1:w.heap.size+3≤w1.heap.size:=by have:=hgrow.size; simp at this; omega
  clear hown' hown2 hgrow HB3 HR3 Hown0 Hb3
  have Hst:=hide (And.intro ((HB4.out.below (below_alloc w1 (.cells #[.slice none 0 0,.slice ha p.hn hc] 35)))) (And.intro (Box2.new w1 (.slice none 0 0) (.slice ha p.hn hc) 35) (below_alloc w1 (.cells #[.slice none 0 0,.slice ha p.hn hc] 35))))
  go_wp2
  go_loopw [4] (fun i wr=>∃(k:Nat) (va:Option Addr) (vc:Nat) (kb:Nat→Nat) (kv:Nat→Value),k≤p.n∧i = .int .i64 k∧Box2 wr w.heap.size (.slice a p.n c) (.slice a' p.hn c')∧Box2 wr w1.heap.size (.slice va k vc) (.slice ha p.hn hc)∧Laid wr (w1.heap.size+1) k p.s kb kv (.slice va k vc)∧Below w1.heap.size w1 wr∧w1.heap.size+1≤wr.heap.size) (fun i _=>p.n - (intOf i).toNat)
  case atStart=>exact⟨0,none,0,_,_,Nat.zero_le _,rfl,Hst.out.1,Hst.out.2.1,Laid.nil _ _ _,Hst.out.2.2,by simp⟩
  case round=>
    obtain⟨k,va,vc,kb,kv,hk,rfl,hx,ho,hl,hbr,hzr⟩:=hrel
    have Hx:=hide hx
    have Ho:=hide ho
    have Hl:=hide hl
    have hbw:=below_next hb1 hbr
    clear hx ho hl
    by_cases hlt:k<p.n
    · have hlt':(k:Int)<(p.n:Int):=by omega
      obtain⟨b,off,ka,kc,rfl,hs⟩:=(Hp.out.1.below hbw).cells hlt
      have Hs:=hide hs
      obtain⟨q0,q1,q2,_⟩:=hs
      obtain⟨⟨x0,x1⟩,⟨x2,x3⟩⟩:=Hx.out
      obtain⟨⟨y0,y1⟩,⟨y2,y3⟩⟩:=Ho.out
      have hb0:b<w.heap.size:=by
        obtain⟨b',off',_,_,he,hs0⟩:=Hp.out.1.cells hlt
        simp only [Option.some.injEq,Addr.mk.injEq,and_true] at he
        rw [he.1]; exact lt_of_cell hs0.c0
      have n0:w1.heap.size≠w.heap.size:=by omega
      have n1:w1.heap.size≠b:=by omega
      go_wp2_with fail
      go_region_law
        (first
          | (refine step_append_lies _ rfl (.tmp 18) (.tmp 25) 33 rfl (w1.heap.size+1) 66 i1 (.agg #[.int .i64 0,.slice none 0 0,.string ⟨#[]⟩]) 3 48 (by kernel_rfl) HI1.out.1 HI1.out.2.1 HI1.out.2.2.1 HI1.out.2.2.2 rfl (by decide) (.slice va k vc) k (sc p.s kv k) (by simp [Act.eval]) ?_ ⟨w2.heap.size,0,none⟩ 1 1 [.int .i64 (p.s k).birth,.slice na (p.s k).kn nc,.string (p.s k).data] (by simp [Act.eval]) rfl ?_ ?_ (by decide) ?_ ?_ ?_ _ rfl ?_
             exact((Hl.out.below hb2').below (below_alloc w2 _)).row
             exact news3 _ _ _ _ _
             exact one3 _ _ _ _ _
             (unfold maxLen; omega)
             omega
             (have:=hb2'.size; rw [World.size_alloc]; omega)
             intro g cap w3 hown3 hgrow3 hat3 hlt3
             have hlW:=(Hl.out.below hb2').below (below_alloc w2 (.cells #[.int .i64 (p.s k).birth,.slice na (p.s k).kn nc,.string (p.s k).data] 66))
             have t3:=turned_of_grown hgrow3
             have hne:∀b,b<w1.heap.size+1→¬(Value.slice va k vc).ownBlock=some b:=fun b hb e=>by have:=hlW.row.lt b e; omega
             have hX3:=((Hx.out.below hb2').below (below_alloc w2 (.cells #[.int .i64 (p.s k).birth,.slice na (p.s k).kn nc,.string (p.s k).data] 66))).turned t3 (hne _ (by omega))
             have hO3:=((Ho.out.below hb2').below (below_alloc w2 (.cells #[.int .i64 (p.s k).birth,.slice na (p.s k).kn nc,.string (p.s k).data] 66))).turned t3 (hne _ (by omega))
             have hS3:=(Hs.out.below hb2').below (below_alloc w2 (.cells #[.int .i64 (p.s k).birth,.slice na (p.s k).kn nc,.string (p.s k).data] 66))
             have z5:=(t3.cell (lt_of_cell hS3.c0) (hne _ (by omega))).trans hS3.c0
             have z6:=(t3.cell (lt_of_cell hS3.c1) (hne _ (by omega))).trans hS3.c1
             have z7:=(t3.cell (lt_of_cell hS3.c2) (hne _ (by omega))).trans hS3.c2
             have HX3:=hide hX3
             have HO3:=hide hO3
             obtain⟨⟨z8,z9⟩,⟨z10,z11⟩⟩:=hX3
             obtain⟨⟨z12,z13⟩,⟨z14,z15⟩⟩:=hO3
             have HL3:=hide (hlW.next (hp2.below (below_alloc w2 _)) (laid_fresh Hl.out hzr (fun h0=>by have:=hpl2 h0; rw [World.size_alloc]; exact⟨this.1,by omega⟩)) Hs.out.slot.2.2.2 hown3 hgrow3 hat3)
             have hB3:Below w1.heap.size w1 w3:=(below_next (below_next hbr hb2') (below_alloc w2 _)).grown hgrow3 (by have:=hb2'.size; rw [World.size_alloc]; omega) (fun q hq=>by have:=hlW.row.lt q hq; omega)
             have hZ3:w1.heap.size+1≤w3.heap.size:=by have:=hgrow3.size; have:=hb2'.size; rw [World.size_alloc] at *; omega
             clear hlW t3 hne hS3 hown3 hgrow3 hat3 hlt3 hp2 hpl2)
          | (go_simp; go_at_call 29; refine(l01Slot_any _ _ _ lo hi (p.s k) _ ?_ (Hn.out k hlt)).mono ?_; (first | exact Hs.out.slot | exact Hs.out.slot.below (Below.refl _ _).drew); rintro e w2 ⟨nv,nb,rfl,hp2,hpl2,hb2⟩; obtain⟨_,na,nc,rfl,_⟩:=id hp2; have hb2':Below wr.heap.size wr w2:=(by first | exact hb2 | exact below_undrew hb2); have z16:=((Ho.out.below hb2').below (below_alloc w2 (.cells #[.int .i64 (p.s k).birth,.slice na (p.s k).kn nc,.string (p.s k).data] 66))).1.1; have z0:=(Hx.out.below hb2').1.1; have z1:=(Ho.out.below hb2').1.1; have z2:=(Hs.out.below hb2').c0; have z3:=(Hs.out.below hb2').c1; have z4:=(Hs.out.below hb2').c2))
      all_goals
        go_wp2
        go_roundw
        case rel=>exact⟨k+1,some ⟨g,0,none⟩,cap,_,_,by omega,by go_num,HX3.out.other _ (by omega),⟨HO3.out.1.set _,HO3.out.2.other _ (Or.inr (by omega))⟩,HL3.out.put (by omega) _,hB3.setCell (Nat.le_refl _) _,by rw [World.size_setCell]; exact hZ3⟩
        case measure=>simp [intOf]; omega
    · obtain rfl:k=p.n:=by omega
      obtain⟨⟨x0,x1⟩,⟨x2,x3⟩⟩:=Hx.out
      obtain⟨⟨y0,y1⟩,⟨y2,y3⟩⟩:=Ho.out
      have HR5:=hide (HR4.out.below hbr)
      obtain⟨⟨u0,u1⟩,⟨u2,u3⟩⟩:=HR5.out
      go_wp2
      have HR6:=HR5.out.put (.slice va p.n vc) (.slice ha p.hn hc)
      have t:=(Turned.put wr (w.heap.size+1) 0 (.slice va p.n vc)).trans (Turned.put _ (w.heap.size+1) 1 (.slice ha p.hn hc))
      have hz:=t.size
      obtain⟨bs,hso,hspl⟩:=Hl.out.own Hm.out.1
      have hrow:=Hrow.out.kept (grown_of_below hbr none) (by cases hv:(Value.slice ha p.hn hc).ownBlock <;> simp)
      refine bodyPost_ret (v:=.agg #[.slice va p.n vc,.slice ha p.hn hc]) (by simp [results,Tryz.results44,go_sem,HR6.1.1,HR6.2.1]) rfl ⟨_,_,w1.heap.size+1,bs,kb,kv,rfl,?_,Hl.out.apart,?_,?_,?_,by omega,by omega,?_,Hz0.out⟩
      · exact hso.turned t (fun h0 e=>by have:=hspl bs (Or.inl ⟨h0,rfl⟩); omega) (fun i hi h0 e=>by have:=hspl _ (Or.inr ⟨i,hi,h0,rfl⟩); omega)
      · intro k hk
        have:=hspl k hk
        omega
      · exact own_base (ownsRow_setCell_below (ownsRow_setCell_below hrow (by show w.heap.size+1<_; omega) _) (by show w.heap.size+1<_; omega) _) (by omega)
      · intro k hk
        have:=Hrow.out.lt k hk
        omega
      · exact(hbw.setCell (by show _≤w.heap.size+1; omega) _).setCell (by show _≤w.heap.size+1; omega) _
theorem l01Copy_any(v0 v1:Value)(lo hi:Nat)(p:PoolD)(w:World)(h1:PoolAt w lo hi v0 v1 p)(hn:poolN p≤1048576):Calls Tryz.prog 44 #[.agg #[v0,v1]] w (NewPool p w):=by
  refine(l01Copy_parts v0 v1 lo hi p w h1 hn).mono ?_
  rintro e w' ⟨u0,u1,M,bs,kb,kv,rfl,g1,g2,g3,g4,g5,g6,g7,g8,g9⟩
  exact⟨u0,u1,rfl,parts_own g1 g2 g3 h1.2.1 g4 (fun k hk=>⟨(g5 k hk).1,Or.inl (g5 k hk).2⟩) g6 g9,g8⟩
end Go.Proofs.YtihplgckbhnohaaGreatDoor

namespace Go.Proofs.YtihplgckbhnohaaGreatDoor
open Go.RowKit
set_option linter.unusedVariables false
theorem sc_cells{w:World}{b off n:Nat}{f:Nat→SlotD}{cv:Nat→Value}(h:∀i,i<n→w.cell? ⟨b,off+i*3,none⟩=some (.int .i64 (f i).birth)∧w.cell? ⟨b,off+i*3+1,none⟩=some (cv i)∧w.cell? ⟨b,off+i*3+2,none⟩=some (.string (f i).data)) :
  ∀j u,(sc f cv n)[j]?=some u→w.cell? ⟨b,off+j,none⟩=some u:=by
 intro j u hj
 have hlt:j<n*3:=by
  have:=(List.getElem?_eq_some_iff.1 hj).1
  rwa [sc_len] at this
 obtain⟨c0,c1,c2⟩:=h (j / 3) (by omega)
 have e:=sc_at f cv n (j / 3) (j % 3) (by omega) (by omega)
 rw [show j / 3*3+j % 3=j by omega,hj] at e
 rcases(by omega:j % 3=0∨j % 3=1∨j % 3=2)with hm | hm | hm
 ·rw [hm] at e
  simp at e
  subst e
  rw [show off+j=off+j / 3*3 by omega]
  exact c0
 ·rw [hm] at e
  simp at e
  subst e
  rw [show off+j=off+j / 3*3+1 by omega]
  exact c1
 ·rw [hm] at e
  simp at e
  subst e
  rw [show off+j=off+j / 3*3+2 by omega]
  exact c2
theorem SlotsAt.values{w:World}{lo hi:Nat}{a:Option Addr}{n c:Nat}{f:Nat→SlotD}(h:SlotsAt w lo hi (.slice a n c) n f) :
  ∃cv:Nat→Value,(∀i,i<n→SlotAt w lo hi (.int .i64 (f i).birth) (cv i) (.string (f i).data) (f i))∧
   (0<n→∃b off,a=some ⟨b,off,none⟩∧lo≤b∧b<hi∧∀j u,(sc f cv n)[j]?=some u→w.cell? ⟨b,off+j,none⟩=some u):=by
 obtain⟨_,a0,c0,h0,_,g⟩:=h
 simp only [Value.slice.injEq,true_and] at h0
 obtain⟨rfl,rfl⟩:=h0
 by_cases hn:0<n
 ·obtain⟨b,off,ha,hb1,hb2,hc⟩:=g hn
  have hex:∀i,∃x,i<n→(w.cell? ⟨b,off+i*3,none⟩=some (.int .i64 (f i).birth)∧w.cell? ⟨b,off+i*3+1,none⟩=some x∧w.cell? ⟨b,off+i*3+2,none⟩=some (.string (f i).data))∧SlotAt w lo hi (.int .i64 (f i).birth) x (.string (f i).data) (f i):=fun i=>by
   by_cases hi:i<n
   ·obtain⟨v0,v1,v2,q0,q1,q2,hs⟩:=hc i hi
    have hs':=hs
    obtain⟨rfl,_,rfl,_⟩:=hs'
    exact⟨v1,fun _=>⟨⟨q0,q1,q2⟩,hs⟩⟩
   ·exact⟨.slice none 0 0,fun h=>absurd h hi⟩
  obtain⟨cv,hcv⟩:=Classical.axiomOfChoice hex
  exact⟨cv,fun i hi=>(hcv i hi).2,fun _=>⟨b,off,ha,hb1,hb2,sc_cells fun i hi=>(hcv i hi).1⟩⟩
 ·exact⟨fun _=>.slice none 0 0,fun i hi=>absurd hi (by omega),fun h=>absurd h hn⟩
theorem SlotAt.form{w:World}{lo hi:Nat}{v0 v1 v2:Value}{s:SlotD}(h:SlotAt w lo hi v0 v1 v2 s):∃ka kc,v1 = .slice ka s.kn kc:=by
 obtain⟨_,⟨_,ka,kc,h,_⟩,_⟩:=h
 exact⟨ka,kc,h⟩
structure Half (wr:World) (bs n k:Nat) (f:Nat→SlotD) (kb:Nat→Nat) (kv cv:Nat→Value):Prop where
 cells:∀j,j<n→Cell wr bs (j*3) (.int .i64 (f j).birth)∧Cell wr bs (j*3+1) (if j<k then kv j else cv j)∧Cell wr bs (j*3+2) (.string (f j).data)
 kids:∀j,j<k→PtrsOwn wr (kb j) (kv j) (f j).kn (f j).ks (f j).kb
 place:∀j,j<k→0<(f j).kn→bs<kb j∧kb j<wr.heap.size
 apart:KidsApart kb k f
theorem Half.below{wr w':World}{bs n k:Nat}{f:Nat→SlotD}{kb:Nat→Nat}{kv cv:Nat→Value}(h:Half wr bs n k f kb kv cv)(t:Below wr.heap.size wr w'):Half w' bs n k f kb kv cv:=
 ⟨fun j hj=>⟨(h.cells j hj).1.below t,(h.cells j hj).2.1.below t,(h.cells j hj).2.2.below t⟩,fun j hj=>(h.kids j hj).below t,fun j hj h0=>by have:=h.place j hj h0; have:=t.size; omega,h.apart⟩
theorem Half.next{wr w1:World}{bs n k b:Nat}{f:Nat→SlotD}{kb:Nat→Nat}{kv cv:Nat→Value}{v:Value}(h:Half wr bs n k f kb kv cv)(hk:k<n)(hbs:bs<wr.heap.size)(t:Below wr.heap.size wr w1)
  (hp:PtrsOwn w1 b v (f k).kn (f k).ks (f k).kb) (hb:0<(f k).kn→wr.heap.size≤b∧b<w1.heap.size) :
  Half (((w1.setCell ⟨bs,k*3,none⟩ (.int .i64 (f k).birth)).setCell ⟨bs,k*3+1,none⟩ v).setCell ⟨bs,k*3+2,none⟩ (.string (f k).data)) bs n (k+1) f (fun j=>if j=k then b else kb j) (fun j=>if j=k then v else kv j) cv:=by
 have h':=h.below t
 refine⟨fun j hj=>?_,fun j hj=>?_,fun j hj h0=>?_,fun i j hi hj hij h1 h2=>?_⟩
 ·obtain⟨c0,c1,c2⟩:=h'.cells j hj
  by_cases e:j=k
  ·subst e
   rw [if_pos (by omega),if_pos rfl]
   exact⟨((c0.set _).other _ (Or.inr (by omega))).other _ (Or.inr (by omega)),((c1.other _ (Or.inr (by omega))).set _).other _ (Or.inr (by omega)),((c2.other _ (Or.inr (by omega))).other _ (Or.inr (by omega))).set _⟩
  ·rw [if_neg e]
   have es:(if j<k+1 then kv j else cv j)=if j<k then kv j else cv j:=by
    by_cases e2:j<k
    ·rw [if_pos e2,if_pos (by omega)]
    ·rw [if_neg e2,if_neg (by omega)]
   rw [es]
   exact⟨((c0.other _ (Or.inr (by omega))).other _ (Or.inr (by omega))).other _ (Or.inr (by omega)),((c1.other _ (Or.inr (by omega))).other _ (Or.inr (by omega))).other _ (Or.inr (by omega)),((c2.other _ (Or.inr (by omega))).other _ (Or.inr (by omega))).other _ (Or.inr (by omega))⟩
 ·by_cases e:j=k
  ·subst e
   simp only [if_true]
   refine((hp.turned (Turned.put _ _ _ _) ?_).turned (Turned.put _ _ _ _) ?_).turned (Turned.put _ _ _ _) ?_
   all_goals exact fun h0 hx=>by have:=hb h0; omega
  ·simp only [if_neg e]
   refine(((h'.kids j (by omega)).turned (Turned.put _ _ _ _) ?_).turned (Turned.put _ _ _ _) ?_).turned (Turned.put _ _ _ _) ?_
   all_goals exact fun h0 hx=>by have:=h'.place j (by omega) h0; omega
 ·simp only [World.size_setCell]
  by_cases e:j=k
  ·subst e
   rw [if_pos rfl]
   have:=hb h0
   omega
  ·rw [if_neg e]
   have:=h'.place j (by omega) h0
   omega
 ·show(if i=k then b else kb i)≠(if j=k then b else kb j)
  by_cases e1:i=k
  ·by_cases e2:j=k
   ·omega
   ·rw [if_pos e1,if_neg e2]
    subst e1
    have:=hb h1
    have:=h.place j (by omega) h2
    omega
  ·by_cases e2:j=k
   ·rw [if_neg e1,if_pos e2]
    subst e2
    have:=hb h2
    have:=h.place i (by omega) h1
    omega
   ·rw [if_neg e1,if_neg e2]
    exact h.apart i j (by omega) (by omega) hij h1 h2
theorem Half.own{wr:World}{bs n:Nat}{f:Nat→SlotD}{kb:Nat→Nat}{kv cv:Nat→Value}{a:Option Addr}{c:Nat}(h:Half wr bs n n f kb kv cv)(hm:n≤maxLen)(ha:0<n→a=some ⟨bs,0,none⟩)(hc:n≤c)(hs:∀j,j<n→(f j).data.size≤maxLen):SlotsOwn wr bs kb kv (.slice a n c) n f:=
 ⟨hm,a,c,rfl,hc,fun h0=>⟨0,ha h0,fun i hi=>by
  obtain⟨c0,c1,c2⟩:=h.cells i hi
  rw [if_pos hi] at c1
  rw [Nat.zero_add]
  exact⟨c0,c1,c2,h.kids i hi,hs i hi,fun hk e=>by have:=h.place i hi hk; omega⟩⟩⟩
set_option maxRecDepth 20000 in
set_option maxHeartbeats 1000000 in
theorem cloneSlots_any(v:Value)(n lo hi:Nat)(f:Nat→SlotD)(w:World)(h1:SlotsAt w lo hi v n f)(hn:n≤1048576)(hk:∀j,j<n→(f j).kn≤1048576) :
  Calls Tryz.prog 146 #[v] w fun e w'=>∃v' bs kb kv,e = .returned v'∧SlotsOwn w' bs kb kv v' n f∧KidsApart kb n f∧(∀k,SlotsB bs kb n f k→w.heap.size≤k∧k<w'.heap.size)∧Below w.heap.size w w':=by
 have Hm:=hide h1.1
 have q1:=h1
 obtain⟨_,a,c,rfl,_,_⟩:=h1
 obtain⟨cv,hcv,hsrc⟩:=q1.values
 have Hcv:=hide hcv
 have Hk:=hide hk
 have hsrc':0<n→∃b off,a=some ⟨b,off,none⟩∧∀j u,(sc f cv n)[j]?=some u→w.cell? ⟨b,off+j,none⟩=some u:=fun h0=>by
  obtain⟨b,off,h2,_,_,h3⟩:=hsrc h0
  exact⟨b,off,h2,h3⟩
 have hone:=sc_one f cv n (fun i hi=>by obtain⟨ka,kc,e⟩:=(hcv i hi).form; rw [e]; rfl)
 clear hcv hk q1 hsrc
 go_enter Tryz.func146,Tryz.ntmps146
 go_wp2_with fail
 refine(cloneSlots_row a n c (sc f cv n) w (sc_len _ _ _) hone hn hsrc').mono ?_
 rintro e w1 ⟨v',rfl,hown,hb1,_⟩
 obtain⟨a1,c1,rfl,hnc⟩:=owns_form hown
 clear hone hsrc'
 have hbs:∃bs,(0<n→a1=some ⟨bs,0,none⟩∧w.heap.size≤bs∧bs<w1.heap.size)∧Half w1 bs n 0 f (fun _=>0) cv cv:=by
  by_cases h0:0<n
  ·obtain⟨g,cap,hv,_,hg1,hg2,hcell⟩:=owns_cell hown h0
   simp only [Value.slice.injEq,true_and] at hv
   obtain⟨rfl,rfl⟩:=hv
   refine⟨g,fun _=>⟨rfl,hg1,hg2⟩,fun j hj=>⟨?_,?_,?_⟩,fun j hj=>absurd hj (Nat.not_lt_zero _),fun j hj=>absurd hj (Nat.not_lt_zero _),fun i j hi=>absurd hi (Nat.not_lt_zero _)⟩
   ·have:=hcell (j*3+0) _ (sc_at f cv n j 0 hj (by omega)); simpa using this
   ·have:=hcell (j*3+1) _ (sc_at f cv n j 1 hj (by omega)); simpa using this
   ·have:=hcell (j*3+2) _ (sc_at f cv n j 2 hj (by omega)); simpa using this
  ·exact⟨0,fun h=>absurd h h0,fun j hj=>absurd hj (by omega),fun j hj=>absurd hj (Nat.not_lt_zero _),fun j hj=>absurd hj (Nat.not_lt_zero _),fun i j hi=>absurd hi (Nat.not_lt_zero _)⟩
 obtain⟨bs,hbs,hhalf⟩:=hbs
 have Hbs:=hide hbs
 have Hhalf:=hide hhalf
 clear hown hbs hhalf
 go_wp2
 go_loopw [4,5,10] (fun _ _ i wr=>∃(k:Nat) (kb:Nat→Nat) (kv:Nat→Value),k≤n∧i = .int .i64 k∧Half wr bs n k f kb kv cv∧Below w.heap.size w wr∧w1.heap.size≤wr.heap.size) (fun _ _ i _=>n - (intOf i).toNat)
 case atStart=>exact⟨0,_,_,Nat.zero_le _,rfl,Hhalf.out,hb1,Nat.le_refl _⟩
 case round=>
  obtain⟨k,kb,kv,hk,rfl,hh,hb,hz⟩:=hrel
  have Hh:=hide hh
  clear hh
  by_cases hlt:k<n
  ·have hlt':(k:Int)<(n:Int):=by omega
   obtain⟨rfl,hg1,hg2⟩:=Hbs.out (by omega)
   obtain⟨ka,kc,hcv⟩:=(Hcv.out k hlt).form
   have Hsl:Hid (SlotAt wr lo hi (.int .i64 (f k).birth) (.slice ka (f k).kn kc) (.string (f k).data) (f k)):=by
    have:=(Hcv.out k hlt).below hb
    rw [hcv] at this
    exact this
   obtain⟨⟨q0,r0⟩,q1,⟨q2,r2⟩⟩:=Hh.out.cells k hlt
   rw [if_neg (by omega),hcv] at q1
   obtain⟨q1,r1⟩:=q1
   go_wp2_with fail
   have ha:=below_alloc wr (.cells #[.int .i64 (f k).birth,.slice ka (f k).kn kc,.string (f k).data] 66)
   refine(cloneSlot_any _ _ _ lo hi (f k) _ (Hsl.out.below ha) (Hk.out k hlt)).mono ?_
   rintro e w2 ⟨nv,nb,rfl,hp2,hpl2,hb2⟩
   obtain⟨_,na,nc,rfl,_⟩:=id hp2
   have hbx:=below_next ha hb2
   have Hn2:=hide (Hh.out.next hlt (by omega) hbx hp2 (fun h0=>by have:=hpl2 h0; rw [World.size_alloc] at this; omega))
   have hbn:=below_next hb hbx
   have hzn:=hbx.size
   clear q0 q1 q2 r0 r1 r2
   obtain⟨⟨q0,r0⟩,q1,⟨q2,r2⟩⟩:=(Hh.out.below hbx).cells k hlt
   rw [if_neg (by omega),hcv] at q1
   obtain⟨q1,r1⟩:=q1
   clear hp2 hpl2 hb2 ha hbx hcv
   go_wp2
   go_roundw
   case rel=>exact⟨k+1,_,_,by omega,by go_num,Hn2.out,((hbn.setCell hg1 _).setCell hg1 _).setCell hg1 _,by simp only [World.size_setCell]; omega⟩
   case measure=>simp [intOf]; omega
  ·obtain rfl:k=n:=by omega
   go_wp2
   go_ret
   refine⟨_,bs,kb,kv,rfl,Hh.out.own Hm.out (fun h0=>(Hbs.out h0).1) hnc (fun j hj=>(Hcv.out j hj).2.2.2),Hh.out.apart,fun j hj=>?_,hb⟩
   rcases hj with⟨h0,rfl⟩ | ⟨i,hi,h0,rfl⟩
   ·have:=Hbs.out h0; omega
   ·have:=Hbs.out (by omega); have:=Hh.out.place i hi h0; omega
set_option maxRecDepth 20000 in
set_option maxHeartbeats 1000000 in
theorem clonePool_any(v0 v1:Value)(lo hi:Nat)(p:PoolD)(w:World)(h1:PoolAt w lo hi v0 v1 p)(hn:poolN p≤1048576):Calls Tryz.prog 127 #[.agg #[v0,v1]] w (NewPool p w):=by
 have Hp:=hide h1
 obtain⟨⟨m1,a,c,rfl,mc,g1⟩,⟨m2,a',c',rfl,mc',g2⟩⟩:=h1
 have Hm:=hide (And.intro m1 m2)
 clear g1 g2 m1 m2
 unfold poolN at hn
 have Hn:Hid (∀j,j<p.n→(p.s j).kn≤1048576):=fun j hj=>by have h2:=slotN_le p.s hj; unfold slotN at h2; omega
 have hn1:p.n≤1048576:=by omega
 have hn2:p.hn≤1048576:=by omega
 clear hn
 have ha1:=below_alloc w (.cells #[.slice a p.n c,.slice a' p.hn c'] 35)
 have hba:=below_next ha1 (below_alloc _ (.cells #[.slice none 0 0,.slice none 0 0] 35))
 have HB:=hide ((Box2.new w (.slice a p.n c) (.slice a' p.hn c') 35).below (below_alloc _ (.cells #[.slice none 0 0,.slice none 0 0] 35)))
 have hr3:=Box2.new (w.alloc (.cells #[.slice a p.n c,.slice a' p.hn c'] 35)) (.slice none 0 0) (.slice none 0 0) 35
 rw [World.size_alloc] at hr3
 have HR:=hide hr3
 clear ha1 hr3
 go_enter Tryz.func127,Tryz.ntmps127
 go_wp2_with fail
 generalize hW:(w.alloc (.cells #[.slice a p.n c,.slice a' p.hn c'] 35)).alloc (.cells #[.slice none 0 0,.slice none 0 0] 35)=W at HB HR hba ⊢
 have hz:W.heap.size=w.heap.size+2:=by rw [←hW,World.size_alloc,World.size_alloc]
 clear hW
 obtain⟨⟨x0,x1⟩,⟨x2,x3⟩⟩:=HB.out
 obtain⟨⟨y0,y1⟩,⟨y2,y3⟩⟩:=HR.out
 go_region_held3 (fun w'=>w'.cell? ⟨w.heap.size,0,none⟩=some (.slice a p.n c)∧w'.cell? ⟨w.heap.size,1,none⟩=some (.slice a' p.hn c')) (go_keep)
  (first
   | (go_at_call 146; refine(cloneSlots_any _ p.n lo hi p.s _ ?_ hn1 Hn.out).mono ?_; (exact Hp.out.1.below hba.drew); rintro e w1 ⟨v',bs,kb,kv,rfl,ho,hap,hpl,hb1⟩; obtain⟨_,sa,sc',rfl,_⟩:=id ho; have hb1':=below_undrew hb1; obtain⟨⟨z0,z1⟩,⟨z2,z3⟩⟩:=HB.out.below hb1')
   | (go_at_call 147; refine(cloneInts_row _ _ _ (ic p.h p.hn) _ (ic_len _ _) (ic_one _ _) hn2 ?_).mono ?_; (exact news_at Hp.out.2 rfl (below_next hba hb1')); rintro e w2 ⟨v',rfl,hown,hb2,hz0⟩; obtain⟨ia,ic',rfl,_⟩:=owns_form hown; have hb2':=below_next hb1' hb2; obtain⟨⟨z4,z5⟩,⟨z6,z7⟩⟩:=HB.out.below hb2'; have HR2:=hide (HR.out.below hb2'); obtain⟨⟨z8,z9⟩,⟨z10,z11⟩⟩:=HR.out.below hb2'))
 obtain⟨hb,hint,hipl⟩:=ints_of_owns Hm.out.2 hown hz0
 have hz1:W.heap.size≤w1.heap.size:=hb1'.size
 have hz2:w1.heap.size≤w2.heap.size:=hb2.size
 have hpl':∀k,SlotsB bs kb p.n p.s k→W.heap.size≤k∧k<w1.heap.size:=hpl
 have Hpo:Hid (PoolOwn w2 (w.heap.size+2) w2.heap.size (.slice sa p.n sc') (.slice ia p.hn ic') p):=by
  refine⟨bs,hb,kb,kv,ho.below hb2,hap,hint,fun h0 hx=>?_,fun k hk=>?_⟩
  ·have:=hpl' _ hx; have:=hipl h0; omega
  ·rcases hk with hk | ⟨h0,rfl⟩
   ·have:=hpl' _ hk; omega
   ·have:=hipl h0; omega
 have hbw:=below_next hba hb2'
 clear hint hipl hpl hpl' ho hap hown hb1 hb1' hb2 hb2'
 go_wp2
 have HR6:=HR2.out.put (.slice sa p.n sc') (.slice ia p.hn ic')
 refine bodyPost_ret (v:=.agg #[.slice sa p.n sc',.slice ia p.hn ic']) (by simp [results,Tryz.results127,go_sem,HR6.1.1,HR6.2.1]) rfl ⟨_,_,rfl,?_,?_⟩
 ·have t:=(Turned.put w2 (w.heap.size+1) 0 (.slice sa p.n sc')).trans (Turned.put _ (w.heap.size+1) 1 (.slice ia p.hn ic'))
  have hz:=t.size
  exact(Hpo.out.turned t (fun k hk=>by omega)).wide (by omega) hz
 ·exact(hbw.setCell (by show _≤w.heap.size+1; omega) _).setCell (by show _≤w.heap.size+1; omega) _
end Go.Proofs.YtihplgckbhnohaaGreatDoor

namespace Go.Proofs.YtihplgckbhnohaaGreatDoor
open Go Go.RowKit
set_option linter.unusedVariables false
def Row8(w:World)(b:Nat)(v0 v1 v2 v3 v4 v5 v6 v7:Value):Prop:=Cell w b 0 v0∧Cell w b 1 v1∧Cell w b 2 v2∧Cell w b 3 v3∧Cell w b 4 v4∧Cell w b 5 v5∧Cell w b 6 v6∧Cell w b 7 v7
theorem Row8.below{w w':World}{b:Nat}{v0 v1 v2 v3 v4 v5 v6 v7:Value}(h:Row8 w b v0 v1 v2 v3 v4 v5 v6 v7)(t:Below w.heap.size w w'):Row8 w' b v0 v1 v2 v3 v4 v5 v6 v7:=⟨h.1.below t,h.2.1.below t,h.2.2.1.below t,h.2.2.2.1.below t,h.2.2.2.2.1.below t,h.2.2.2.2.2.1.below t,h.2.2.2.2.2.2.1.below t,h.2.2.2.2.2.2.2.below t⟩
theorem Row8.turned{S:Nat→Prop}{w w':World}{b:Nat}{v0 v1 v2 v3 v4 v5 v6 v7:Value}(h:Row8 w b v0 v1 v2 v3 v4 v5 v6 v7)(t:Turned S w w')(hs:¬S b):Row8 w' b v0 v1 v2 v3 v4 v5 v6 v7:=⟨h.1.turned t hs,h.2.1.turned t hs,h.2.2.1.turned t hs,h.2.2.2.1.turned t hs,h.2.2.2.2.1.turned t hs,h.2.2.2.2.2.1.turned t hs,h.2.2.2.2.2.2.1.turned t hs,h.2.2.2.2.2.2.2.turned t hs⟩
theorem Row8.new(w:World)(v0 v1 v2 v3 v4 v5 v6 v7:Value)(t:TypeId):Row8 (w.alloc (.cells #[v0,v1,v2,v3,v4,v5,v6,v7] t)) w.heap.size v0 v1 v2 v3 v4 v5 v6 v7:=by
 have hb:(w.alloc (.cells #[v0,v1,v2,v3,v4,v5,v6,v7] t)).heap[w.heap.size]?=some (.cells #[v0,v1,v2,v3,v4,v5,v6,v7] t):=heap_alloc_new _ _
 exact⟨cell_of_block hb rfl,cell_of_block hb rfl,cell_of_block hb rfl,cell_of_block hb rfl,cell_of_block hb rfl,cell_of_block hb rfl,cell_of_block hb rfl,cell_of_block hb rfl⟩
abbrev putR8(w:World)(b:Nat)(u0 u1 u2 u3 u4 u5 u6 u7:Value):World:=(((((((w.setCell ⟨b,0,none⟩ u0).setCell ⟨b,1,none⟩ u1).setCell ⟨b,2,none⟩ u2).setCell ⟨b,3,none⟩ u3).setCell ⟨b,4,none⟩ u4).setCell ⟨b,5,none⟩ u5).setCell ⟨b,6,none⟩ u6).setCell ⟨b,7,none⟩ u7
theorem Row8.put{w:World}{b:Nat}{v0 v1 v2 v3 v4 v5 v6 v7:Value}(h:Row8 w b v0 v1 v2 v3 v4 v5 v6 v7)(u0 u1 u2 u3 u4 u5 u6 u7:Value):Row8 (putR8 w b u0 u1 u2 u3 u4 u5 u6 u7) b u0 u1 u2 u3 u4 u5 u6 u7:=by
 obtain⟨h0,h1,h2,h3,h4,h5,h6,h7⟩:=h
 refine⟨?_,?_,?_,?_,?_,?_,?_,?_⟩
 ·exact(((((((h0.set _).other _ (Or.inr (by omega))).other _ (Or.inr (by omega))).other _ (Or.inr (by omega))).other _ (Or.inr (by omega))).other _ (Or.inr (by omega))).other _ (Or.inr (by omega))).other _ (Or.inr (by omega))
 ·exact(((((((h1.other _ (Or.inr (by omega))).set _).other _ (Or.inr (by omega))).other _ (Or.inr (by omega))).other _ (Or.inr (by omega))).other _ (Or.inr (by omega))).other _ (Or.inr (by omega))).other _ (Or.inr (by omega))
 ·exact(((((((h2.other _ (Or.inr (by omega))).other _ (Or.inr (by omega))).set _).other _ (Or.inr (by omega))).other _ (Or.inr (by omega))).other _ (Or.inr (by omega))).other _ (Or.inr (by omega))).other _ (Or.inr (by omega))
 ·exact(((((((h3.other _ (Or.inr (by omega))).other _ (Or.inr (by omega))).other _ (Or.inr (by omega))).set _).other _ (Or.inr (by omega))).other _ (Or.inr (by omega))).other _ (Or.inr (by omega))).other _ (Or.inr (by omega))
 ·exact(((((((h4.other _ (Or.inr (by omega))).other _ (Or.inr (by omega))).other _ (Or.inr (by omega))).other _ (Or.inr (by omega))).set _).other _ (Or.inr (by omega))).other _ (Or.inr (by omega))).other _ (Or.inr (by omega))
 ·exact(((((((h5.other _ (Or.inr (by omega))).other _ (Or.inr (by omega))).other _ (Or.inr (by omega))).other _ (Or.inr (by omega))).other _ (Or.inr (by omega))).set _).other _ (Or.inr (by omega))).other _ (Or.inr (by omega))
 ·exact(((((((h6.other _ (Or.inr (by omega))).other _ (Or.inr (by omega))).other _ (Or.inr (by omega))).other _ (Or.inr (by omega))).other _ (Or.inr (by omega))).other _ (Or.inr (by omega))).set _).other _ (Or.inr (by omega))
 ·exact(((((((h7.other _ (Or.inr (by omega))).other _ (Or.inr (by omega))).other _ (Or.inr (by omega))).other _ (Or.inr (by omega))).other _ (Or.inr (by omega))).other _ (Or.inr (by omega))).other _ (Or.inr (by omega))).set _
theorem Turned.putR8(w:World)(b:Nat)(u0 u1 u2 u3 u4 u5 u6 u7:Value):Turned (fun k=>k=b) w (putR8 w b u0 u1 u2 u3 u4 u5 u6 u7):=
 (((((((Turned.put w b 0 u0).trans (Turned.put _ b 1 u1)).trans (Turned.put _ b 2 u2)).trans (Turned.put _ b 3 u3)).trans (Turned.put _ b 4 u4)).trans (Turned.put _ b 5 u5)).trans (Turned.put _ b 6 u6)).trans (Turned.put _ b 7 u7)
theorem Row8.off8{w:World}{b:Nat}{v0 v1 v2 v3 v4 v5 v6 v7:Value}(h:Row8 w b v0 v1 v2 v3 v4 v5 v6 v7){b':Nat}(o:Nat)(u:Value)(o':Nat)(u':Value)(hne:b'≠b):Row8 ((w.setCell ⟨b',o,none⟩ u).setCell ⟨b',o',none⟩ u') b v0 v1 v2 v3 v4 v5 v6 v7:=by
 obtain⟨h0,h1,h2,h3,h4,h5,h6,h7⟩:=h
 have hc:∀{j:Nat} {v:Value},Cell w b j v→Cell ((w.setCell ⟨b',o,none⟩ u).setCell ⟨b',o',none⟩ u') b j v:=fun hc=>(hc.other _ (Or.inl hne)).other _ (Or.inl hne)
 exact⟨hc h0,hc h1,hc h2,hc h3,hc h4,hc h5,hc h6,hc h7⟩
theorem Row8.mid8{w:World}{b:Nat}{v0 v1 v2 v3 v4 v5 v6 v7:Value}(h:Row8 w b v0 v1 v2 v3 v4 v5 v6 v7)(u u':Value):Row8 ((w.setCell ⟨b,5,none⟩ u).setCell ⟨b,6,none⟩ u') b v0 v1 v2 v3 v4 u u' v7:=by
 obtain⟨h0,h1,h2,h3,h4,h5,h6,h7⟩:=h
 exact⟨(h0.other _ (Or.inr (by omega))).other _ (Or.inr (by omega)),(h1.other _ (Or.inr (by omega))).other _ (Or.inr (by omega)),(h2.other _ (Or.inr (by omega))).other _ (Or.inr (by omega)),(h3.other _ (Or.inr (by omega))).other _ (Or.inr (by omega)),(h4.other _ (Or.inr (by omega))).other _ (Or.inr (by omega)),(h5.set _).other _ (Or.inr (by omega)),(h6.other _ (Or.inr (by omega))).set _,(h7.other _ (Or.inr (by omega))).other _ (Or.inr (by omega))⟩
end Go.Proofs.YtihplgckbhnohaaGreatDoor

namespace Go.Proofs.YtihplgckbhnohaaGreatDoor
open Go Go.RowKit Go.Maps
set_option linter.unusedVariables false
def rawE(v:Value):Option (DataW Value×List MemPlace):=some (.held v,[])
theorem rawE_inv{v:Value}{d:DataW Value}{ps:List MemPlace}(h:rawE v=some (d,ps)):d = .held v:=by
 unfold rawE at h
 simp only [Option.some.injEq,Prod.mk.injEq] at h
 exact h.1.symm
theorem rawE_mk(v:Value):rawE v=some (.held v,[]):=rfl
theorem wpList_lookup_raw{P:Program}(w:World){ops:Array Oper}{rest:List Oper}{o:Oper}{a:Act}{Q:Exit→Act→World→Prop}
  (hg:o.guard=none) (m x:Operand) (t:TypeId) (hop:o.op=Op.lookup t m x false)
  (k e:TypeId) (K:Keyed P k) (ht:P.underlying t=some (.map k e)) {z:Value} (hz:(zeroValue e).run P w = .ok z w) (b n:Nat) (D:DataW Value)
  (hm:a.eval m = .map (some b)) (hown:w.ownsMap P k rawE b n D) (key:Value) (kl:Lit) (hx:a.eval x=key) (hkey:keyOf P k key=some kl)
  (v:Value) (hat:D.atKey kl (.held z) = .held v) (hK:wpList P ops Q rest (a.put o.dst v) w) :
  wpList P ops Q (o :: rest) a w:=by
 refine wpList_plain hg fun K' hK'=>?_
 obtain⟨v',ps,hrun,hv⟩:=hown.lookup K ht hz (rawE_mk z) hkey
 have e1:=rawE_inv hv
 rw [hat] at e1
 injection e1 with e1
 subst e1
 unfold Oper.wp
 simp [execOp,hop,hm,hx,hrun,Result.andThen]
 exact hK' _ _ hK
theorem wpList_lookup_raw_ok{P:Program}(w:World){ops:Array Oper}{rest:List Oper}{o:Oper}{a:Act}{Q:Exit→Act→World→Prop}
  (hg:o.guard=none) (m x:Operand) (t:TypeId) (hop:o.op=Op.lookup t m x true)
  (k e:TypeId) (K:Keyed P k) (ht:P.underlying t=some (.map k e)) {z:Value} (hz:(zeroValue e).run P w = .ok z w) (b n:Nat) (D:DataW Value)
  (hm:a.eval m = .map (some b)) (hown:w.ownsMap P k rawE b n D) (key:Value) (kl:Lit) (hx:a.eval x=key) (hkey:keyOf P k key=some kl)
  (v:Value) (hat:D.atKey kl (.held z) = .held v) (c:Bool) (hc:Maps.has D kl=c) (hK:wpList P ops Q rest (a.put o.dst (.tuple #[v,.bool c])) w) :
  wpList P ops Q (o :: rest) a w:=by
 refine wpList_lookup_own_ok w hg m x t hop k e K ht rawE hz (.held z) [] (rawE_mk z) b n D hm hown key kl hx hkey (fun v' ps hv=>?_)
 have e1:=rawE_inv hv
 rw [hat] at e1
 injection e1 with e1
 subst e1
 rw [hc]
 exact hK
def putD(key:Nat→Lit)(val:Nat→Value):Nat→DataW Value
 | 0=>.map []
 | k+1=>(putD key val k).put (key k) (.held (val k))
def KeysOk(key:Nat→Lit):Prop:=∀i,WideAt.IsKeyLit (key i)
theorem putD_tidy{key:Nat→Lit}(hk:KeysOk key)(val:Nat→Value):∀k,Tidy (putD key val k)
 | 0=>tidy_empty
 | k+1=>(putD_tidy hk val k).put (hk k) _
theorem putD_has{key:Nat→Lit}(hk:KeysOk key)(val:Nat→Value)(l:Lit):∀k,Maps.has (putD key val k) l=true↔∃i,i<k∧key i=l
 | 0=>by
  constructor
  ·intro h; exact absurd h (by simp [putD,Maps.has])
  ·rintro⟨i,hi,_⟩; omega
 | k+1=>by
  by_cases hx:key k=l
  ·subst hx
   exact⟨fun _=>⟨k,by omega,rfl⟩,fun _=>has_put_same (putD_tidy hk val k).isMap (hk k) _⟩
  ·rw [show Maps.has (putD key val (k+1)) l=Maps.has (putD key val k) l from has_put_other (Ne.symm hx) _,putD_has hk val l k]
   constructor
   ·rintro⟨i,hi,e⟩; exact⟨i,by omega,e⟩
   ·rintro⟨i,hi,e⟩
    by_cases h:i=k
    ·subst h; exact absurd e hx
    ·exact⟨i,by omega,e⟩
theorem putD_none{key:Nat→Lit}(hk:KeysOk key)(val:Nat→Value){l:Lit}{k:Nat}(h:∀i,i<k→key i≠l)(z:DataW Value):(putD key val k).atKey l z=z:=by
 refine atKey_of_not_has ?_ _
 rw [Bool.eq_false_iff]
 intro hh
 obtain⟨i,hi,e⟩:=(putD_has hk val l k).1 hh
 exact h i hi e
theorem putD_at{key:Nat→Lit}(hk:KeysOk key)(val:Nat→Value)(z:DataW Value):∀k i,i<k→(∀j,i<j→j<k→key j≠key i)→(putD key val k).atKey (key i) z = .held (val i)
 | 0,i,hi,_=>absurd hi (Nat.not_lt_zero _)
 | k+1,i,hi,hd=>by
  by_cases e:i=k
  ·subst e; exact atKey_put_same (putD_tidy hk val i).isMap (hk i) _ _
  ·exact(atKey_put_other (Ne.symm (hd k (by omega) (by omega))) _ _).trans (putD_at hk val z k i (by omega) (fun j h1 h2=>hd j h1 (by omega)))
def DistL(n:Nat)(key:Nat→Lit):Prop:=∀i,i<n→∀k,k<i→key k≠key i
theorem distL_succ{k:Nat}{f:Nat→Lit}:DistL (k+1) f↔DistL k f∧∀i,i<k→f i≠f k:=by
 constructor
 ·exact fun h=>⟨fun i hi=>h i (by omega),fun i hi=>h k (by omega) i hi⟩
 ·rintro⟨h1,h2⟩ i hi j hj
  by_cases e:i=k
  ·subst e; exact h2 j hj
  ·exact h1 i (by omega) j hj
theorem putD_size{key:Nat→Lit}(hk:KeysOk key)(val:Nat→Value):∀k,Maps.size (putD key val k)≤k∧(Maps.size (putD key val k)=k↔DistL k key)
 | 0=>⟨Nat.le_refl _,fun _ i hi=>by omega,fun _=>rfl⟩
 | k+1=>by
  obtain⟨h1,h2⟩:=putD_size hk val k
  have e:Maps.size (putD key val (k+1))=if Maps.has (putD key val k) (key k)then Maps.size (putD key val k)else Maps.size (putD key val k)+1:=size_put (putD_tidy hk val k) _
  by_cases hh:Maps.has (putD key val k) (key k)=true
  ·rw [if_pos hh] at e
   rw [e,distL_succ]
   refine⟨by omega,fun h=>by omega,fun h=>?_⟩
   obtain⟨i,hi,he⟩:=(putD_has hk val (key k) k).1 hh
   exact absurd he (h.2 i hi)
  ·rw [if_neg hh] at e
   rw [e,distL_succ,←h2]
   refine⟨by omega,fun h=>⟨by omega,fun i hi he=>hh ((putD_has hk val (key k) k).2 ⟨i,hi,he⟩)⟩,fun h=>by omega⟩
end Go.Proofs.YtihplgckbhnohaaGreatDoor
