/- New slots that hold the same: what spec.l01Slot and impl.cloneSlot leave. -/
import Derived.Test.YtmgeglgboadfiaaGreatDoorP18
import Derived.Test.YtmgeglgboadfiaaGreatDoorP6
import Derived.Deep.AppendLies
import Derived.Deep.RegionHeld3
import Derived.Deep.RegionLaw
import Derived.Test.YtmgeglgboadfiaaGreatDoorP1
namespace Go.Proofs.YtmgeglgboadfiaaGreatDoor
open Go.RowKit
set_option linter.unusedVariables false
set_option maxRecDepth 20000 in
set_option maxHeartbeats 400000 in
theorem cloneSlot_any(v0 v1 v2:Value)(lo hi:Nat)(s:SlotD)(w:World)(h1:SlotAt w lo hi v0 v1 v2 s)(hn:s.kn≤1048576) :
  Calls Tryz.prog 219 #[.agg #[v0,v1,v2]] w (NewSlot s w):=by
 obtain⟨rfl,p1,rfl,m1⟩:=h1
 have q1:=p1
 obtain⟨_,a,c,rfl,_⟩:=p1
 go_enter Tryz.func219,Tryz.ntmps219
 go_wp2_with fail
 have ha1:=below_alloc w (.cells #[.int .i64 s.birth,.slice a s.kn c,.string s.data] 127)
 have ha2:=below_next ha1 (below_alloc _ (.cells #[.int .i64 0,.slice none 0 0,.string ⟨#[]⟩] 127))
 refine(clonePtrs_any _ s.kn lo hi _ _ _ (q1.below ha2) hn).mono ?_
 rintro e w1 ⟨⟨kv,kb,rfl,hp,hk⟩,hb1⟩
 have HB:Hid (Box3 w1 w.heap.size (.int .i64 s.birth) (.slice a s.kn c) (.string s.data)):=((Box3.new w _ _ _ _).below (below_alloc _ _)).below hb1
 have HR:Hid (Box3 w1 (w.heap.size+1) (.int .i64 0) (.slice none 0 0) (.string ⟨#[]⟩)):=by
  have:=((Box3.new (w.alloc (.cells #[.int .i64 s.birth,.slice a s.kn c,.string s.data] 127)) (.int .i64 0) (.slice none 0 0) (.string ⟨#[]⟩) 127).below hb1)
  rw [World.size_alloc] at this
  exact this
 have hb2:=below_next ha2 hb1
 rw [World.size_alloc,World.size_alloc] at hk
 have Hp:Hid (PtrsOwn w1 kb kv s.kn s.ks s.kb∧(0<s.kn→w.heap.size+1+1≤kb∧kb<w1.heap.size)):=⟨hp,hk⟩
 obtain⟨_,ka,kc',rfl,_⟩:=hp
 clear ha1 ha2 hb1 hk
 obtain⟨⟨x0,x1⟩,⟨x2,x3⟩,⟨x4,x5⟩⟩:=HB.out
 obtain⟨⟨y0,y1⟩,⟨y2,y3⟩,⟨y4,y5⟩⟩:=HR.out
 go_wp2
 have HR2:=(HR.out.other (b':=w.heap.size) (o':=1) (.slice ka s.kn kc') (by omega)).put (.int .i64 s.birth) (.slice ka s.kn kc') (.string s.data)
 refine bodyPost_ret (v:=.agg #[.int .i64 s.birth,.slice ka s.kn kc',.string s.data]) (by simp [results,Tryz.results219,go_sem,HR2.1.1,HR2.2.1.1,HR2.2.2.1]) rfl ⟨_,kb,rfl,?_,?_,?_⟩
 ·have hk:=Hp.out.2
  refine(((Hp.out.1.turned (Turned.put _ _ _ _) ?_).turned (Turned.put _ _ _ _) ?_).turned (Turned.put _ _ _ _) ?_).turned (Turned.put _ _ _ _) ?_
  all_goals exact fun h0 e=>by have:=hk h0; omega
 ·intro h0
  have:=Hp.out.2 h0
  simp only [World.size_setCell]
  omega
 ·exact(((hb2.setCell (by show _≤w.heap.size; omega) _).setCell (by show _≤w.heap.size+1; omega) _).setCell (by show _≤w.heap.size+1; omega) _).setCell (by show _≤w.heap.size+1; omega) _
set_option maxRecDepth 20000 in
set_option maxHeartbeats 400000 in
theorem l01Slot_any(v0 v1 v2:Value)(lo hi:Nat)(s:SlotD)(w:World)(h1:SlotAt w lo hi v0 v1 v2 s)(hn:s.kn≤1048576) :
  Calls Tryz.prog 146 #[.agg #[v0,v1,v2]] w (NewSlot s w):=by
 obtain⟨rfl,⟨m1,a,c,rfl,mc,g1⟩,rfl,m2⟩:=h1
 have G1:Hid (0<s.kn→∃b off,a=some ⟨b,off,none⟩∧lo≤b∧b<hi∧∀i,i<s.kn→w.cell? ⟨b,off+i*2,none⟩=some (.int .i64 (s.ks i))∧w.cell? ⟨b,off+i*2+1,none⟩=some (.int .i64 (s.kb i))):=g1
 have Hm:Hid (s.kn≤maxLen):=m1
 clear g1 m1
 obtain⟨i0,hi',hzz⟩:=Option.map_eq_some_iff.1 infoPtrT
 simp only [Prod.mk.injEq] at hzz
 obtain⟨hz,hs,hby⟩:=hzz
 have HI:Hid (Tryz.prog.info? 61=some i0∧i0.zero=some (.agg #[.int .i64 0,.int .i64 0])∧i0.size=2∧i0.bytes=16):=⟨hi',hz,hs,hby⟩
 clear hi' hz hs hby
 have ha1:=below_alloc w (.cells #[.int .i64 s.birth,.slice a s.kn c,.string s.data] 127)
 have ha2:=below_next ha1 (below_alloc _ (.cells #[.int .i64 0,.slice none 0 0,.string ⟨#[]⟩] 127))
 have ha3:=below_next ha2 (below_alloc _ (.cells #[] 61))
 have Hb3:Hid (Below w.heap.size w (((w.alloc (.cells #[.int .i64 s.birth,.slice a s.kn c,.string s.data] 127)).alloc (.cells #[.int .i64 0,.slice none 0 0,.string ⟨#[]⟩] 127)).alloc (.cells #[] 61))):=ha3
 have hown0:=World.ownsRow_made (base:=w.heap.size+1+1) (e:=61) (size:=2) ((w.alloc (.cells #[.int .i64 s.birth,.slice a s.kn c,.string s.data] 127)).alloc (.cells #[.int .i64 0,.slice none 0 0,.string ⟨#[]⟩] 127)) #[] 0 (by simp) (Nat.zero_le _) (by simp)
 rw [World.size_alloc,World.size_alloc] at hown0
 have Hown0:Hid ((((w.alloc (.cells #[.int .i64 s.birth,.slice a s.kn c,.string s.data] 127)).alloc (.cells #[.int .i64 0,.slice none 0 0,.string ⟨#[]⟩] 127)).alloc (.cells #[] 61)).ownsRow (w.heap.size+1+1) 61 2 (.slice (some ⟨w.heap.size+1+1,0,none⟩) 0 0) 0 []):=hown0
 have HB3:Hid (Box3 (((w.alloc (.cells #[.int .i64 s.birth,.slice a s.kn c,.string s.data] 127)).alloc (.cells #[.int .i64 0,.slice none 0 0,.string ⟨#[]⟩] 127)).alloc (.cells #[] 61)) w.heap.size (.int .i64 s.birth) (.slice a s.kn c) (.string s.data)):=((Box3.new w _ _ _ _).below (below_alloc _ _)).below (below_alloc _ _)
 have HR3:Hid (Box3 (((w.alloc (.cells #[.int .i64 s.birth,.slice a s.kn c,.string s.data] 127)).alloc (.cells #[.int .i64 0,.slice none 0 0,.string ⟨#[]⟩] 127)).alloc (.cells #[] 61)) (w.heap.size+1) (.int .i64 0) (.slice none 0 0) (.string ⟨#[]⟩)):=by
  have:=((Box3.new (w.alloc (.cells #[.int .i64 s.birth,.slice a s.kn c,.string s.data] 127)) (.int .i64 0) (.slice none 0 0) (.string ⟨#[]⟩) 127).below (below_alloc _ (.cells #[] 61)))
  rw [World.size_alloc] at this
  exact this
 clear ha1 ha2 ha3 hown0
 go_enter Tryz.func146,Tryz.ntmps146
 cases a with
 | none=>
  have hn0:s.kn=0:=by
   by_cases h:0<s.kn
   ·obtain⟨b,off,ha,_⟩:=G1.out h; simp at ha
   ·omega
  have Hn0:Hid (s.kn=0):=hn0
  clear hn0
  go_wp2_with (first
   | (at_builtin; refine wpList_append_nil rfl _ _ 62 rfl (w.heap.size+1+1) 61 i0 2 c s.kn (by kernel_rfl) HI.out.1 (.slice (some ⟨w.heap.size+1+1,0,none⟩) 0 0) 0 [] rfl ?c0 Hn0.out rfl ?_))
  case c0=>exact Hown0.out
  refine bodyPost_ret (v:=.agg #[.int .i64 s.birth,.slice (some ⟨w.heap.size+1+1,0,none⟩) 0 0,.string s.data]) (by simp [results,Tryz.results146,go_sem]) rfl ⟨_,0,rfl,?_,?_,?_⟩
  ·exact⟨Hm.out,_,0,by rw [Hn0.out],by rw [Hn0.out]; exact Nat.le_refl _,fun h=>absurd h (by rw [Hn0.out]; exact Nat.lt_irrefl _)⟩
  ·exact fun h=>absurd h (by rw [Hn0.out]; exact Nat.lt_irrefl _)
  ·exact below_next (below_next (below_alloc _ _) (below_alloc _ _)) (below_alloc _ _)
 | some ad=>
  have Hsrc:Hid (∀(w':World),Below w.heap.size w w'→∀j u,(kc s.ks s.kb s.kn)[j]?=some u→w'.cell? (ad.add j)=some u):=fun w' hb j u hj=>by
   by_cases h0:0<s.kn
   ·obtain⟨b,off,ha,_,_,hc⟩:=G1.out h0
    simp only [Option.some.injEq] at ha
    subst ha
    have:=kc_cells hc j u hj
    have hadd:(⟨b,off,none⟩:Addr).add j=⟨b,off+j,none⟩:=by unfold Addr.add; split <;> simp_all
    rw [hadd] at this ⊢
    exact(hb.cell (lt_of_cell this)).trans this
   ·have h00:s.kn=0:=by omega
    rw [h00] at hj
    simp [kc] at hj
  go_wp2_with (first
   | (at_builtin; refine wpList_append_own _ rfl _ _ 62 rfl (w.heap.size+1+1) 61 i0 (.agg #[.int .i64 0,.int .i64 0]) 2 16 (by kernel_rfl) HI.out.1 HI.out.2.1 HI.out.2.2.1 HI.out.2.2.2 rfl (by decide) _ 0 [] rfl ?c0 ad s.kn c (kc s.ks s.kb s.kn) rfl (kc_len _ _ _) ?c1 (kc_one _ _ _) ?c3 ?c4 ?c5 ?_))
  case c0=>exact Hown0.out
  case c1=>exact Hsrc.out _ Hb3.out
  case c3=>unfold maxLen; omega
  case c4=>omega
  case c5=>simp
  intro v' w1 hown' hgrow hnil
  have hown2:w1.ownsRow (w.heap.size+1+1) 61 2 v' s.kn (kc s.ks s.kb s.kn):=by simpa using hown'
  have hb1:Below w.heap.size w w1:=Hb3.out.grown hgrow (by simp; omega) (fun q hq=>by have:=Hown0.out.lt q hq; omega)
  have hbl:∀b,b<w.heap.size+1+1→∀o x,Cell (((w.alloc (.cells #[.int .i64 s.birth,.slice (some ad) s.kn c,.string s.data] 127)).alloc (.cells #[.int .i64 0,.slice none 0 0,.string ⟨#[]⟩] 127)).alloc (.cells #[] 61)) b o x→Cell w1 b o x:=fun b hb o x hx=>by
   have e:=grown_block hgrow Hown0.out hb hx.lt
   exact⟨(World.cell?_of_block (a:=⟨b,o,none⟩) e).trans hx.1,(World.frozen?_of_block (a:=⟨b,o,none⟩) e).trans hx.2⟩
  have HB4:Hid (Box3 w1 w.heap.size (.int .i64 s.birth) (.slice (some ad) s.kn c) (.string s.data)):=⟨hbl _ (by omega) _ _ HB3.out.1,hbl _ (by omega) _ _ HB3.out.2.1,hbl _ (by omega) _ _ HB3.out.2.2⟩
  have HR4:Hid (Box3 w1 (w.heap.size+1) (.int .i64 0) (.slice none 0 0) (.string ⟨#[]⟩)):=⟨hbl _ (by omega) _ _ HR3.out.1,hbl _ (by omega) _ _ HR3.out.2.1,hbl _ (by omega) _ _ HR3.out.2.2⟩
  obtain⟨kb,hp,hk⟩:=ptrs_of_owns Hm.out hown2
  have Hp:Hid (PtrsOwn w1 kb v' s.kn s.ks s.kb∧(0<s.kn→w.heap.size+1+1≤kb∧kb<w1.heap.size)):=⟨hp,hk⟩
  obtain⟨_,ka,kc',rfl,_⟩:=hp
  clear hk hown' hown2 hgrow hnil hbl HB3 HR3 Hown0 Hb3
  obtain⟨⟨x0,x1⟩,⟨x2,x3⟩,⟨x4,x5⟩⟩:=HB4.out
  obtain⟨⟨y0,y1⟩,⟨y2,y3⟩,⟨y4,y5⟩⟩:=HR4.out
  go_wp2
  have HR2:=(HR4.out.other (b':=w.heap.size) (o':=1) (.slice ka s.kn kc') (by omega)).put (.int .i64 s.birth) (.slice ka s.kn kc') (.string s.data)
  refine bodyPost_ret (v:=.agg #[.int .i64 s.birth,.slice ka s.kn kc',.string s.data]) (by simp [results,Tryz.results146,go_sem,HR2.1.1,HR2.2.1.1,HR2.2.2.1]) rfl ⟨_,kb,rfl,?_,?_,?_⟩
  ·have hk:=Hp.out.2
   refine(((Hp.out.1.turned (Turned.put _ _ _ _) ?_).turned (Turned.put _ _ _ _) ?_).turned (Turned.put _ _ _ _) ?_).turned (Turned.put _ _ _ _) ?_
   all_goals exact fun h0 e=>by have:=hk h0; omega
  ·intro h0
   have:=Hp.out.2 h0
   simp only [World.size_setCell]
   omega
  ·exact(((hb1.setCell (by show _≤w.heap.size; omega) _).setCell (by show _≤w.heap.size+1; omega) _).setCell (by show _≤w.heap.size+1; omega) _).setCell (by show _≤w.heap.size+1; omega) _
set_option maxRecDepth 20000 in
set_option maxHeartbeats 400000 in
theorem cloneInts_row(a:Option Addr)(n c:Nat)(xs:List Value)(w:World)(hl:xs.length=n*1)(hone:∀u∈xs,u.oneCell'=true)(hn:n≤1048576)
    (hc:0<n→∃b off,a=some ⟨b,off,none⟩∧∀j u,xs[j]?=some u→w.cell? ⟨b,off+j,none⟩=some u) :
    Calls Tryz.prog 211 #[.slice a n c] w fun e w'=>∃v',e = .returned v'∧w'.ownsRow w.heap.size 2 1 v' n xs∧Below w.heap.size w w'∧(n=0→∃a,v' = .slice a 0 0):=by
  have Hc:Hid (0<n→∃b off,a=some ⟨b,off,none⟩∧∀j u,xs[j]?=some u→w.cell? ⟨b,off+j,none⟩=some u):=hc
  have Hl:Hid (xs.length=n*1∧∀u∈xs,u.oneCell'=true):=⟨hl,hone⟩
  clear hc hl hone
  have heq:=fun w=>Lib.run_eql_slice_nil (P:=Tryz.prog) w 23 2 a n c 0 0 (by kernel_rfl)
  cases a with
  | none=>
    have hn0:n=0:=by
      by_cases h:0<n
      · obtain⟨b,off,ha,_⟩:=Hc.out h; simp at ha
      · omega
    subst hn0
    have hx0:xs = []:=List.eq_nil_of_length_eq_zero (by simpa using Hl.out.1)
    subst hx0
    go_enter Tryz.func211,Tryz.ntmps211
    go_wp2
    go_ret
    exact⟨_,rfl,World.ownsRow_nil _ _ _ _,Below.refl _ _,fun _=>⟨_,rfl⟩⟩
  | some ad=>
    obtain⟨i0,hi,hzz⟩:=Option.map_eq_some_iff.1 infoInt64
    simp only [Prod.mk.injEq] at hzz
    obtain⟨hz,hs,hby⟩:=hzz
    have HI:Hid (Tryz.prog.info? 2=some i0∧i0.zero=some (.int .i64 0)∧i0.size=1∧i0.bytes=8):=⟨hi,hz,hs,hby⟩
    have Hown0:Hid ((w.alloc (.cells #[] 2)).ownsRow w.heap.size 2 1 (.slice (some ⟨w.heap.size,0,none⟩) 0 0) 0 []):=World.ownsRow_made w #[] 0 (Nat.le_refl _) (Nat.zero_le _) (by simp)
    clear hi hz hs hby
    go_enter Tryz.func211,Tryz.ntmps211
    go_wp2_with (first
      | (at_builtin; refine wpList_append_opt rfl _ _ 23 rfl w.heap.size 2 i0 (.int .i64 0) 1 8 (by kernel_rfl) HI.out.1 HI.out.2.1 HI.out.2.2.1 HI.out.2.2.2 rfl (by decide) _ _ _ rfl Hown0.out (some ad) n c xs rfl Hl.out.1 Hl.out.2 ?c1 ?c3 ?c4 ?c5 ?_))
    case c1=>
      intro h0
      obtain⟨b,off,ha,hcell⟩:=Hc.out h0
      exact⟨b,off,ha,fun j u hj=>(((Below.refl _ _).alloc (Nat.le_refl _) _).cell (lt_of_cell (hcell j u hj))).trans (hcell j u hj)⟩
    case c3=>unfold maxLen; omega
    case c4=>omega
    case c5=>simp
    intro v' w1 hown' hgrow hnil
    have hb1:Below w.heap.size w w1:=((Below.refl _ _).alloc (Nat.le_refl _) _).grown hgrow (by simp) (fun q hq=>by have:=Hown0.out.lt q hq; omega)
    have hown2:w1.ownsRow w.heap.size 2 1 v' n xs:=by simpa using hown'
    have Hown2:Hid (w1.ownsRow w.heap.size 2 1 v' n xs):=hown2
    have Hnil:Hid (n=0→v' = .slice (some ⟨w.heap.size,0,none⟩) 0 0):=hnil
    clear hown' hown2 hgrow hnil
    go_wp2
    go_ret
    exact⟨v',rfl,Hown2.out,hb1,fun e=>⟨_,Hnil.out e⟩⟩
set_option maxRecDepth 20000 in
set_option maxHeartbeats 400000 in
theorem cloneSlots_row(a:Option Addr)(n c:Nat)(xs:List Value)(w:World)(hl:xs.length=n*3)(hone:∀u∈xs,u.oneCell'=true)(hn:n≤1048576)
    (hc:0<n→∃b off,a=some ⟨b,off,none⟩∧∀j u,xs[j]?=some u→w.cell? ⟨b,off+j,none⟩=some u) :
    Calls Tryz.prog 218 #[.slice a n c] w fun e w'=>∃v',e = .returned v'∧w'.ownsRow w.heap.size 127 3 v' n xs∧Below w.heap.size w w'∧(n=0→∃a,v' = .slice a 0 0):=by
  have Hc:Hid (0<n→∃b off,a=some ⟨b,off,none⟩∧∀j u,xs[j]?=some u→w.cell? ⟨b,off+j,none⟩=some u):=hc
  have Hl:Hid (xs.length=n*3∧∀u∈xs,u.oneCell'=true):=⟨hl,hone⟩
  clear hc hl hone
  have heq:=fun w=>Lib.run_eql_slice_nil (P:=Tryz.prog) w 31 127 a n c 0 0 (by kernel_rfl)
  cases a with
  | none=>
    have hn0:n=0:=by
      by_cases h:0<n
      · obtain⟨b,off,ha,_⟩:=Hc.out h; simp at ha
      · omega
    subst hn0
    have hx0:xs = []:=List.eq_nil_of_length_eq_zero (by simpa using Hl.out.1)
    subst hx0
    go_enter Tryz.func218,Tryz.ntmps218
    go_wp2
    go_ret
    exact⟨_,rfl,World.ownsRow_nil _ _ _ _,Below.refl _ _,fun _=>⟨_,rfl⟩⟩
  | some ad=>
    obtain⟨i0,hi,hzz⟩:=Option.map_eq_some_iff.1 infoSlotT
    simp only [Prod.mk.injEq] at hzz
    obtain⟨hz,hs,hby⟩:=hzz
    have HI:Hid (Tryz.prog.info? 127=some i0∧i0.zero=some (.agg #[.int .i64 0,.slice none 0 0,.string ⟨#[]⟩])∧i0.size=3∧i0.bytes=48):=⟨hi,hz,hs,hby⟩
    have Hown0:Hid ((w.alloc (.cells #[] 127)).ownsRow w.heap.size 127 3 (.slice (some ⟨w.heap.size,0,none⟩) 0 0) 0 []):=World.ownsRow_made w #[] 0 (Nat.le_refl _) (Nat.zero_le _) (by simp)
    clear hi hz hs hby
    go_enter Tryz.func218,Tryz.ntmps218
    go_wp2_with (first
      | (at_builtin; refine wpList_append_opt rfl _ _ 31 rfl w.heap.size 127 i0 (.agg #[.int .i64 0,.slice none 0 0,.string ⟨#[]⟩]) 3 48 (by kernel_rfl) HI.out.1 HI.out.2.1 HI.out.2.2.1 HI.out.2.2.2 rfl (by decide) _ _ _ rfl Hown0.out (some ad) n c xs rfl Hl.out.1 Hl.out.2 ?c1 ?c3 ?c4 ?c5 ?_))
    case c1=>
      intro h0
      obtain⟨b,off,ha,hcell⟩:=Hc.out h0
      exact⟨b,off,ha,fun j u hj=>(((Below.refl _ _).alloc (Nat.le_refl _) _).cell (lt_of_cell (hcell j u hj))).trans (hcell j u hj)⟩
    case c3=>unfold maxLen; omega
    case c4=>omega
    case c5=>simp
    intro v' w1 hown' hgrow hnil
    have hb1:Below w.heap.size w w1:=((Below.refl _ _).alloc (Nat.le_refl _) _).grown hgrow (by simp) (fun q hq=>by have:=Hown0.out.lt q hq; omega)
    have hown2:w1.ownsRow w.heap.size 127 3 v' n xs:=by simpa using hown'
    have Hown2:Hid (w1.ownsRow w.heap.size 127 3 v' n xs):=hown2
    have Hnil:Hid (n=0→v' = .slice (some ⟨w.heap.size,0,none⟩) 0 0):=hnil
    clear hown' hown2 hgrow hnil
    go_wp2
    go_ret
    exact⟨v',rfl,Hown2.out,hb1,fun e=>⟨_,Hnil.out e⟩⟩
set_option maxRecDepth 20000 in
set_option maxHeartbeats 1000000 in
theorem l01Copy_parts(v0 v1:Value)(lo hi:Nat)(p:PoolD)(w:World)(h1:PoolAt w lo hi v0 v1 p)(hn:poolN p≤1048576):Calls Tryz.prog 82 #[.agg #[v0,v1]] w (NewParts p w):=by
  have Hp:=hide h1
  obtain⟨⟨m1,a,c,rfl,mc,g1⟩,⟨m2,a',c',rfl,mc',g2⟩⟩:=h1
  have Hm:=hide (And.intro m1 m2)
  clear g1 g2 m1 m2
  unfold poolN at hn
  have Hn:Hid (∀j,j<p.n→(p.s j).kn≤1048576):=fun j hj=>by have h2:=slotN_le p.s hj; unfold slotN at h2; omega
  have hn1:p.n≤1048576:=by omega
  have hn2:p.hn≤1048576:=by omega
  clear hn
  obtain⟨i0,hi0,hzz⟩:=Option.map_eq_some_iff.1 infoInt64
  simp only [Prod.mk.injEq] at hzz
  have HI:=hide (And.intro hi0 hzz)
  obtain⟨i1,hi1,hzz1⟩:=Option.map_eq_some_iff.1 infoSlotT
  simp only [Prod.mk.injEq] at hzz1
  have HI1:=hide (And.intro hi1 hzz1)
  clear hi0 hzz hi1 hzz1
  have ha1:=below_alloc w (.cells #[.slice a p.n c,.slice a' p.hn c'] 33)
  have ha2:=below_next ha1 (below_alloc _ (.cells #[.slice none 0 0,.slice none 0 0] 33))
  have Hb3:=hide (below_next ha2 (below_alloc _ (.cells #[] 2)))
  have hown0:=World.ownsRow_made (base:=w.heap.size+1+1) (e:=2) (size:=1) ((w.alloc (.cells #[.slice a p.n c,.slice a' p.hn c'] 33)).alloc (.cells #[.slice none 0 0,.slice none 0 0] 33)) #[] 0 (by simp) (Nat.zero_le _) (by simp)
  rw [World.size_alloc,World.size_alloc] at hown0
  have Hown0:=hide hown0
  have HB3:=hide (((Box2.new w (.slice a p.n c) (.slice a' p.hn c') 33).below (below_alloc _ (.cells #[.slice none 0 0,.slice none 0 0] 33))).below (below_alloc _ (.cells #[] 2)))
  have hr3:=(Box2.new (w.alloc (.cells #[.slice a p.n c,.slice a' p.hn c'] 33)) (.slice none 0 0) (.slice none 0 0) 33).below (below_alloc _ (.cells #[] 2))
  rw [World.size_alloc] at hr3
  have HR3:=hide hr3
  clear ha1 ha2 hown0 hr3
  go_enter Tryz.func82,Tryz.ntmps82
  go_wp2_with (first
    | (at_builtin; refine wpList_append_opt rfl _ _ 23 rfl (w.heap.size+1+1) 2 i0 (.int .i64 0) 1 8 (by kernel_rfl) HI.out.1 HI.out.2.1 HI.out.2.2.1 HI.out.2.2.2 rfl (by decide) (.slice (some ⟨w.heap.size+1+1,0,none⟩) 0 0) 0 [] rfl ?c0 a' p.hn c' (ic p.h p.hn) rfl (ic_len _ _) (ic_one _ _) ?c1 ?c3 ?c4 ?c5 ?_))
  case c0=>exact Hown0.out
  case c1=>exact news_at Hp.out.2 rfl Hb3.out
  case c3=>unfold maxLen; omega
  case c4=>omega
  case c5=>simp
  intro v' w1 hown' hgrow hzero
  have hown2:w1.ownsRow (w.heap.size+1+1) 2 1 v' p.hn (ic p.h p.hn):=by simpa using hown'
  obtain⟨ha,hc,rfl,_⟩:=owns_form hown2
  have Hz0:Hid (p.hn=0→∃a,Value.slice ha p.hn hc = .slice a 0 0):=fun e=>⟨_,hzero e⟩
  clear hzero
  have Hrow:=hide hown2
  have HB4:=hide (HB3.out.grown hgrow Hown0.out (by omega))
  have HR4:=hide (HR3.out.grown hgrow Hown0.out (by omega))
  have hb1:Below w.heap.size w w1:=Hb3.out.grown hgrow (by simp; omega) (fun q hq=>by have:=Hown0.out.lt q hq; omega)
  have hz1:w.heap.size+3≤w1.heap.size:=by have:=hgrow.size; simp at this; omega
  clear hown' hown2 hgrow HB3 HR3 Hown0 Hb3
  have Hst:=hide (And.intro ((HB4.out.below (below_alloc w1 (.cells #[.slice none 0 0,.slice ha p.hn hc] 33)))) (And.intro (Box2.new w1 (.slice none 0 0) (.slice ha p.hn hc) 33) (below_alloc w1 (.cells #[.slice none 0 0,.slice ha p.hn hc] 33))))
  go_wp2
  go_loopw [4] (fun i wr=>∃(k:Nat) (va:Option Addr) (vc:Nat) (kb:Nat→Nat) (kv:Nat→Value),k≤p.n∧i = .int .i64 k∧Box2 wr w.heap.size (.slice a p.n c) (.slice a' p.hn c')∧Box2 wr w1.heap.size (.slice va k vc) (.slice ha p.hn hc)∧Laid wr (w1.heap.size+1) k p.s kb kv (.slice va k vc)∧Below w1.heap.size w1 wr∧w1.heap.size+1≤wr.heap.size) (fun i _=>p.n - (intOf i).toNat)
  case atStart=>exact⟨0,none,0,_,_,Nat.zero_le _,rfl,Hst.out.1,Hst.out.2.1,Laid.nil _ _ _,Hst.out.2.2,by simp⟩
  case round=>
    obtain⟨k,va,vc,kb,kv,hk,rfl,hx,ho,hl,hbr,hzr⟩:=hrel
    have Hx:=hide hx
    have Ho:=hide ho
    have Hl:=hide hl
    have hbw:=below_next hb1 hbr
    clear hx ho hl
    by_cases hlt:k<p.n
    · have hlt':(k:Int)<(p.n:Int):=by omega
      obtain⟨b,off,ka,kc,rfl,hs⟩:=(Hp.out.1.below hbw).cells hlt
      have Hs:=hide hs
      obtain⟨q0,q1,q2,_⟩:=hs
      obtain⟨⟨x0,x1⟩,⟨x2,x3⟩⟩:=Hx.out
      obtain⟨⟨y0,y1⟩,⟨y2,y3⟩⟩:=Ho.out
      have hb0:b<w.heap.size:=by
        obtain⟨b',off',_,_,he,hs0⟩:=Hp.out.1.cells hlt
        simp only [Option.some.injEq,Addr.mk.injEq,and_true] at he
        rw [he.1]; exact lt_of_cell hs0.c0
      have n0:w1.heap.size≠w.heap.size:=by omega
      have n1:w1.heap.size≠b:=by omega
      go_wp2_with fail
      go_region_law
        (first
          | (refine step_append_lies _ rfl (.tmp 18) (.tmp 25) 31 rfl (w1.heap.size+1) 127 i1 (.agg #[.int .i64 0,.slice none 0 0,.string ⟨#[]⟩]) 3 48 (by kernel_rfl) HI1.out.1 HI1.out.2.1 HI1.out.2.2.1 HI1.out.2.2.2 rfl (by decide) (.slice va k vc) k (sc p.s kv k) (by simp [Act.eval]) ?_ ⟨w2.heap.size,0,none⟩ 1 1 [.int .i64 (p.s k).birth,.slice na (p.s k).kn nc,.string (p.s k).data] (by simp [Act.eval]) rfl ?_ ?_ (by decide) ?_ ?_ ?_ _ rfl ?_
             exact((Hl.out.below hb2').below (below_alloc w2 _)).row
             exact news3 _ _ _ _ _
             exact one3 _ _ _ _ _
             (unfold maxLen; omega)
             omega
             (have:=hb2'.size; rw [World.size_alloc]; omega)
             intro g cap w3 hown3 hgrow3 hat3 hlt3
             have hlW:=(Hl.out.below hb2').below (below_alloc w2 (.cells #[.int .i64 (p.s k).birth,.slice na (p.s k).kn nc,.string (p.s k).data] 127))
             have t3:=turned_of_grown hgrow3
             have hne:∀b,b<w1.heap.size+1→¬(Value.slice va k vc).ownBlock=some b:=fun b hb e=>by have:=hlW.row.lt b e; omega
             have hX3:=((Hx.out.below hb2').below (below_alloc w2 (.cells #[.int .i64 (p.s k).birth,.slice na (p.s k).kn nc,.string (p.s k).data] 127))).turned t3 (hne _ (by omega))
             have hO3:=((Ho.out.below hb2').below (below_alloc w2 (.cells #[.int .i64 (p.s k).birth,.slice na (p.s k).kn nc,.string (p.s k).data] 127))).turned t3 (hne _ (by omega))
             have hS3:=(Hs.out.below hb2').below (below_alloc w2 (.cells #[.int .i64 (p.s k).birth,.slice na (p.s k).kn nc,.string (p.s k).data] 127))
             have z5:=(t3.cell (lt_of_cell hS3.c0) (hne _ (by omega))).trans hS3.c0
             have z6:=(t3.cell (lt_of_cell hS3.c1) (hne _ (by omega))).trans hS3.c1
             have z7:=(t3.cell (lt_of_cell hS3.c2) (hne _ (by omega))).trans hS3.c2
             have HX3:=hide hX3
             have HO3:=hide hO3
             obtain⟨⟨z8,z9⟩,⟨z10,z11⟩⟩:=hX3
             obtain⟨⟨z12,z13⟩,⟨z14,z15⟩⟩:=hO3
             have HL3:=hide (hlW.next (hp2.below (below_alloc w2 _)) (laid_fresh Hl.out hzr (fun h0=>by have:=hpl2 h0; rw [World.size_alloc]; exact⟨this.1,by omega⟩)) Hs.out.slot.2.2.2 hown3 hgrow3 hat3)
             have hB3:Below w1.heap.size w1 w3:=(below_next (below_next hbr hb2') (below_alloc w2 _)).grown hgrow3 (by have:=hb2'.size; rw [World.size_alloc]; omega) (fun q hq=>by have:=hlW.row.lt q hq; omega)
             have hZ3:w1.heap.size+1≤w3.heap.size:=by have:=hgrow3.size; have:=hb2'.size; rw [World.size_alloc] at *; omega
             clear hlW t3 hne hS3 hown3 hgrow3 hat3 hlt3 hp2 hpl2)
          | (go_simp; go_at_call 146; refine(l01Slot_any _ _ _ lo hi (p.s k) _ ?_ (Hn.out k hlt)).mono ?_; (first | exact Hs.out.slot | exact Hs.out.slot.below (Below.refl _ _).drew); rintro e w2 ⟨nv,nb,rfl,hp2,hpl2,hb2⟩; obtain⟨_,na,nc,rfl,_⟩:=id hp2; have hb2':Below wr.heap.size wr w2:=(by first | exact hb2 | exact below_undrew hb2); have z16:=((Ho.out.below hb2').below (below_alloc w2 (.cells #[.int .i64 (p.s k).birth,.slice na (p.s k).kn nc,.string (p.s k).data] 127))).1.1; have z0:=(Hx.out.below hb2').1.1; have z1:=(Ho.out.below hb2').1.1; have z2:=(Hs.out.below hb2').c0; have z3:=(Hs.out.below hb2').c1; have z4:=(Hs.out.below hb2').c2))
      all_goals
        go_wp2
        go_roundw
        case rel=>exact⟨k+1,some ⟨g,0,none⟩,cap,_,_,by omega,by go_num,HX3.out.other _ (by omega),⟨HO3.out.1.set _,HO3.out.2.other _ (Or.inr (by omega))⟩,HL3.out.put (by omega) _,hB3.setCell (Nat.le_refl _) _,by rw [World.size_setCell]; exact hZ3⟩
        case measure=>simp [intOf]; omega
    · obtain rfl:k=p.n:=by omega
      obtain⟨⟨x0,x1⟩,⟨x2,x3⟩⟩:=Hx.out
      obtain⟨⟨y0,y1⟩,⟨y2,y3⟩⟩:=Ho.out
      have HR5:=hide (HR4.out.below hbr)
      obtain⟨⟨u0,u1⟩,⟨u2,u3⟩⟩:=HR5.out
      go_wp2
      have HR6:=HR5.out.put (.slice va p.n vc) (.slice ha p.hn hc)
      have t:=(Turned.put wr (w.heap.size+1) 0 (.slice va p.n vc)).trans (Turned.put _ (w.heap.size+1) 1 (.slice ha p.hn hc))
      have hz:=t.size
      obtain⟨bs,hso,hspl⟩:=Hl.out.own Hm.out.1
      have hrow:=Hrow.out.kept (grown_of_below hbr none) (by cases hv:(Value.slice ha p.hn hc).ownBlock <;> simp)
      refine bodyPost_ret (v:=.agg #[.slice va p.n vc,.slice ha p.hn hc]) (by simp [results,Tryz.results82,go_sem,HR6.1.1,HR6.2.1]) rfl ⟨_,_,w1.heap.size+1,bs,kb,kv,rfl,?_,Hl.out.apart,?_,?_,?_,by omega,by omega,?_,Hz0.out⟩
      · exact hso.turned t (fun h0 e=>by have:=hspl bs (Or.inl ⟨h0,rfl⟩); omega) (fun i hi h0 e=>by have:=hspl _ (Or.inr ⟨i,hi,h0,rfl⟩); omega)
      · intro k hk
        have:=hspl k hk
        omega
      · exact own_base (ownsRow_setCell_below (ownsRow_setCell_below hrow (by show w.heap.size+1<_; omega) _) (by show w.heap.size+1<_; omega) _) (by omega)
      · intro k hk
        have:=Hrow.out.lt k hk
        omega
      · exact(hbw.setCell (by show _≤w.heap.size+1; omega) _).setCell (by show _≤w.heap.size+1; omega) _
theorem l01Copy_any(v0 v1:Value)(lo hi:Nat)(p:PoolD)(w:World)(h1:PoolAt w lo hi v0 v1 p)(hn:poolN p≤1048576):Calls Tryz.prog 82 #[.agg #[v0,v1]] w (NewPool p w):=by
  refine(l01Copy_parts v0 v1 lo hi p w h1 hn).mono ?_
  rintro e w' ⟨u0,u1,M,bs,kb,kv,rfl,g1,g2,g3,g4,g5,g6,g7,g8,g9⟩
  exact⟨u0,u1,rfl,parts_own g1 g2 g3 h1.2.1 g4 (fun k hk=>⟨(g5 k hk).1,Or.inl (g5 k hk).2⟩) g6 g9,g8⟩
structure PoolVar (w:World) (b lo hi:Nat) (v0 v1:Value) (q:PoolD):Prop where
 box:Box2 w b v0 v1
 own:PoolOwn w lo hi v0 v1 q
theorem PoolVar.below{w w':World}{b lo hi:Nat}{v0 v1:Value}{q:PoolD}(h:PoolVar w b lo hi v0 v1 q)(t:Below w.heap.size w w'):PoolVar w' b lo hi v0 v1 q:=⟨h.box.below t,h.own.below t⟩
theorem PoolVar.turned{S:Nat→Prop}{w w':World}{b lo hi:Nat}{v0 v1:Value}{q:PoolD}(h:PoolVar w b lo hi v0 v1 q)(t:Turned S w w')(hb:¬S b)(hs:∀k,S k→k<lo∨hi≤k):PoolVar w' b lo hi v0 v1 q:=⟨h.box.turned t hb,h.own.turned t hs⟩
def Box5(w:World)(b:Nat)(v0 v1 v2 v3 v4:Value):Prop:=Cell w b 0 v0∧Cell w b 1 v1∧Cell w b 2 v2∧Cell w b 3 v3∧Cell w b 4 v4
theorem Box5.below{w w':World}{b:Nat}{v0 v1 v2 v3 v4:Value}(h:Box5 w b v0 v1 v2 v3 v4)(t:Below w.heap.size w w'):Box5 w' b v0 v1 v2 v3 v4:=⟨h.1.below t,h.2.1.below t,h.2.2.1.below t,h.2.2.2.1.below t,h.2.2.2.2.below t⟩
theorem Box5.turned{S:Nat→Prop}{w w':World}{b:Nat}{v0 v1 v2 v3 v4:Value}(h:Box5 w b v0 v1 v2 v3 v4)(t:Turned S w w')(hs:¬S b):Box5 w' b v0 v1 v2 v3 v4:=⟨h.1.turned t hs,h.2.1.turned t hs,h.2.2.1.turned t hs,h.2.2.2.1.turned t hs,h.2.2.2.2.turned t hs⟩
theorem Box5.new(w:World)(v0 v1 v2 v3 v4:Value)(t:TypeId):Box5 (w.alloc (.cells #[v0,v1,v2,v3,v4] t)) w.heap.size v0 v1 v2 v3 v4:=by
 have hb:(w.alloc (.cells #[v0,v1,v2,v3,v4] t)).heap[w.heap.size]?=some (.cells #[v0,v1,v2,v3,v4] t):=heap_alloc_new _ _
 exact⟨cell_of_block hb rfl,cell_of_block hb rfl,cell_of_block hb rfl,cell_of_block hb rfl,cell_of_block hb rfl⟩
abbrev put5(w:World)(b:Nat)(u0 u1 u2 u3 u4:Value):World:=((((w.setCell ⟨b,0,none⟩ u0).setCell ⟨b,1,none⟩ u1).setCell ⟨b,2,none⟩ u2).setCell ⟨b,3,none⟩ u3).setCell ⟨b,4,none⟩ u4
theorem Box5.put{w:World}{b:Nat}{v0 v1 v2 v3 v4:Value}(h:Box5 w b v0 v1 v2 v3 v4)(u0 u1 u2 u3 u4:Value):Box5 (put5 w b u0 u1 u2 u3 u4) b u0 u1 u2 u3 u4:=by
 obtain⟨h0,h1,h2,h3,h4⟩:=h
 refine⟨?_,?_,?_,?_,?_⟩
 ·exact((((h0.set _).other _ (Or.inr (by omega))).other _ (Or.inr (by omega))).other _ (Or.inr (by omega))).other _ (Or.inr (by omega))
 ·exact((((h1.other _ (Or.inr (by omega))).set _).other _ (Or.inr (by omega))).other _ (Or.inr (by omega))).other _ (Or.inr (by omega))
 ·exact((((h2.other _ (Or.inr (by omega))).other _ (Or.inr (by omega))).set _).other _ (Or.inr (by omega))).other _ (Or.inr (by omega))
 ·exact((((h3.other _ (Or.inr (by omega))).other _ (Or.inr (by omega))).other _ (Or.inr (by omega))).set _).other _ (Or.inr (by omega))
 ·exact((((h4.other _ (Or.inr (by omega))).other _ (Or.inr (by omega))).other _ (Or.inr (by omega))).other _ (Or.inr (by omega))).set _
theorem Turned.put5(w:World)(b:Nat)(u0 u1 u2 u3 u4:Value):Turned (fun k=>k=b) w (put5 w b u0 u1 u2 u3 u4):=
 ((((Turned.put w b 0 u0).trans (Turned.put _ b 1 u1)).trans (Turned.put _ b 2 u2)).trans (Turned.put _ b 3 u3)).trans (Turned.put _ b 4 u4)
structure OutD where
 pool:PoolD
 ps:Int
 pb:Int
 code:Int
theorem none_own{w:World}{lo hi:Nat}:PoolOwn w lo hi (.slice none 0 0) (.slice none 0 0) (newP 0):=
 newP_own (g:=0) (Nat.zero_le _) ⟨none,0,rfl,Nat.le_refl _,fun h=>absurd h (Nat.lt_irrefl _)⟩ (fun i h=>absurd h (Nat.not_lt_zero _))
structure OutVar (w:World) (b lo hi:Nat) (v0 v1:Value) (o:OutD):Prop where
 box:Box5 w b v0 v1 (.int .i64 o.ps) (.int .i64 o.pb) (.int .i64 o.code)
 own:PoolOwn w lo hi v0 v1 o.pool
theorem OutVar.below{w w':World}{b lo hi:Nat}{v0 v1:Value}{o:OutD}(h:OutVar w b lo hi v0 v1 o)(t:Below w.heap.size w w'):OutVar w' b lo hi v0 v1 o:=⟨h.box.below t,h.own.below t⟩
theorem OutVar.turned{S:Nat→Prop}{w w':World}{b lo hi:Nat}{v0 v1:Value}{o:OutD}(h:OutVar w b lo hi v0 v1 o)(t:Turned S w w')(hb:¬S b)(hs:∀k,S k→k<lo∨hi≤k):OutVar w' b lo hi v0 v1 o:=⟨h.box.turned t hb,h.own.turned t hs⟩
def Box13(w:World)(b:Nat)(v0 v1 v2 v3 v4 v5 v6 v7 v8 v9 v10 v11 v12:Value):Prop:=Cell w b 0 v0∧Cell w b 1 v1∧Cell w b 2 v2∧Cell w b 3 v3∧Cell w b 4 v4∧Cell w b 5 v5∧Cell w b 6 v6∧Cell w b 7 v7∧Cell w b 8 v8∧Cell w b 9 v9∧Cell w b 10 v10∧Cell w b 11 v11∧Cell w b 12 v12
theorem Box13.below{w w':World}{b:Nat}{v0 v1 v2 v3 v4 v5 v6 v7 v8 v9 v10 v11 v12:Value}(h:Box13 w b v0 v1 v2 v3 v4 v5 v6 v7 v8 v9 v10 v11 v12)(t:Below w.heap.size w w'):Box13 w' b v0 v1 v2 v3 v4 v5 v6 v7 v8 v9 v10 v11 v12:=⟨h.1.below t,h.2.1.below t,h.2.2.1.below t,h.2.2.2.1.below t,h.2.2.2.2.1.below t,h.2.2.2.2.2.1.below t,h.2.2.2.2.2.2.1.below t,h.2.2.2.2.2.2.2.1.below t,h.2.2.2.2.2.2.2.2.1.below t,h.2.2.2.2.2.2.2.2.2.1.below t,h.2.2.2.2.2.2.2.2.2.2.1.below t,h.2.2.2.2.2.2.2.2.2.2.2.1.below t,h.2.2.2.2.2.2.2.2.2.2.2.2.below t⟩
theorem Box13.turned{S:Nat→Prop}{w w':World}{b:Nat}{v0 v1 v2 v3 v4 v5 v6 v7 v8 v9 v10 v11 v12:Value}(h:Box13 w b v0 v1 v2 v3 v4 v5 v6 v7 v8 v9 v10 v11 v12)(t:Turned S w w')(hs:¬S b):Box13 w' b v0 v1 v2 v3 v4 v5 v6 v7 v8 v9 v10 v11 v12:=⟨h.1.turned t hs,h.2.1.turned t hs,h.2.2.1.turned t hs,h.2.2.2.1.turned t hs,h.2.2.2.2.1.turned t hs,h.2.2.2.2.2.1.turned t hs,h.2.2.2.2.2.2.1.turned t hs,h.2.2.2.2.2.2.2.1.turned t hs,h.2.2.2.2.2.2.2.2.1.turned t hs,h.2.2.2.2.2.2.2.2.2.1.turned t hs,h.2.2.2.2.2.2.2.2.2.2.1.turned t hs,h.2.2.2.2.2.2.2.2.2.2.2.1.turned t hs,h.2.2.2.2.2.2.2.2.2.2.2.2.turned t hs⟩
theorem Box13.new(w:World)(v0 v1 v2 v3 v4 v5 v6 v7 v8 v9 v10 v11 v12:Value)(t:TypeId):Box13 (w.alloc (.cells #[v0,v1,v2,v3,v4,v5,v6,v7,v8,v9,v10,v11,v12] t)) w.heap.size v0 v1 v2 v3 v4 v5 v6 v7 v8 v9 v10 v11 v12:=by
 have hb:(w.alloc (.cells #[v0,v1,v2,v3,v4,v5,v6,v7,v8,v9,v10,v11,v12] t)).heap[w.heap.size]?=some (.cells #[v0,v1,v2,v3,v4,v5,v6,v7,v8,v9,v10,v11,v12] t):=heap_alloc_new _ _
 exact⟨cell_of_block hb rfl,cell_of_block hb rfl,cell_of_block hb rfl,cell_of_block hb rfl,cell_of_block hb rfl,cell_of_block hb rfl,cell_of_block hb rfl,cell_of_block hb rfl,cell_of_block hb rfl,cell_of_block hb rfl,cell_of_block hb rfl,cell_of_block hb rfl,cell_of_block hb rfl⟩
abbrev put13(w:World)(b:Nat)(u0 u1 u2 u3 u4 u5 u6 u7 u8 u9 u10 u11 u12:Value):World:=((((((((((((w.setCell ⟨b,0,none⟩ u0).setCell ⟨b,1,none⟩ u1).setCell ⟨b,2,none⟩ u2).setCell ⟨b,3,none⟩ u3).setCell ⟨b,4,none⟩ u4).setCell ⟨b,5,none⟩ u5).setCell ⟨b,6,none⟩ u6).setCell ⟨b,7,none⟩ u7).setCell ⟨b,8,none⟩ u8).setCell ⟨b,9,none⟩ u9).setCell ⟨b,10,none⟩ u10).setCell ⟨b,11,none⟩ u11).setCell ⟨b,12,none⟩ u12
theorem Box13.put{w:World}{b:Nat}{v0 v1 v2 v3 v4 v5 v6 v7 v8 v9 v10 v11 v12:Value}(h:Box13 w b v0 v1 v2 v3 v4 v5 v6 v7 v8 v9 v10 v11 v12)(u0 u1 u2 u3 u4 u5 u6 u7 u8 u9 u10 u11 u12:Value):Box13 (put13 w b u0 u1 u2 u3 u4 u5 u6 u7 u8 u9 u10 u11 u12) b u0 u1 u2 u3 u4 u5 u6 u7 u8 u9 u10 u11 u12:=by
 obtain⟨h0,h1,h2,h3,h4,h5,h6,h7,h8,h9,h10,h11,h12⟩:=h
 exact⟨(((((((((((((h0.set _).other _ (Or.inr (by omega))).other _ (Or.inr (by omega))).other _ (Or.inr (by omega))).other _ (Or.inr (by omega))).other _ (Or.inr (by omega))).other _ (Or.inr (by omega))).other _ (Or.inr (by omega))).other _ (Or.inr (by omega))).other _ (Or.inr (by omega))).other _ (Or.inr (by omega))).other _ (Or.inr (by omega))).other _ (Or.inr (by omega))),
  (((((((((((((h1.other _ (Or.inr (by omega))).set _).other _ (Or.inr (by omega))).other _ (Or.inr (by omega))).other _ (Or.inr (by omega))).other _ (Or.inr (by omega))).other _ (Or.inr (by omega))).other _ (Or.inr (by omega))).other _ (Or.inr (by omega))).other _ (Or.inr (by omega))).other _ (Or.inr (by omega))).other _ (Or.inr (by omega))).other _ (Or.inr (by omega))),
  (((((((((((((h2.other _ (Or.inr (by omega))).other _ (Or.inr (by omega))).set _).other _ (Or.inr (by omega))).other _ (Or.inr (by omega))).other _ (Or.inr (by omega))).other _ (Or.inr (by omega))).other _ (Or.inr (by omega))).other _ (Or.inr (by omega))).other _ (Or.inr (by omega))).other _ (Or.inr (by omega))).other _ (Or.inr (by omega))).other _ (Or.inr (by omega))),
  (((((((((((((h3.other _ (Or.inr (by omega))).other _ (Or.inr (by omega))).other _ (Or.inr (by omega))).set _).other _ (Or.inr (by omega))).other _ (Or.inr (by omega))).other _ (Or.inr (by omega))).other _ (Or.inr (by omega))).other _ (Or.inr (by omega))).other _ (Or.inr (by omega))).other _ (Or.inr (by omega))).other _ (Or.inr (by omega))).other _ (Or.inr (by omega))),
  (((((((((((((h4.other _ (Or.inr (by omega))).other _ (Or.inr (by omega))).other _ (Or.inr (by omega))).other _ (Or.inr (by omega))).set _).other _ (Or.inr (by omega))).other _ (Or.inr (by omega))).other _ (Or.inr (by omega))).other _ (Or.inr (by omega))).other _ (Or.inr (by omega))).other _ (Or.inr (by omega))).other _ (Or.inr (by omega))).other _ (Or.inr (by omega))),
  (((((((((((((h5.other _ (Or.inr (by omega))).other _ (Or.inr (by omega))).other _ (Or.inr (by omega))).other _ (Or.inr (by omega))).other _ (Or.inr (by omega))).set _).other _ (Or.inr (by omega))).other _ (Or.inr (by omega))).other _ (Or.inr (by omega))).other _ (Or.inr (by omega))).other _ (Or.inr (by omega))).other _ (Or.inr (by omega))).other _ (Or.inr (by omega))),
  (((((((((((((h6.other _ (Or.inr (by omega))).other _ (Or.inr (by omega))).other _ (Or.inr (by omega))).other _ (Or.inr (by omega))).other _ (Or.inr (by omega))).other _ (Or.inr (by omega))).set _).other _ (Or.inr (by omega))).other _ (Or.inr (by omega))).other _ (Or.inr (by omega))).other _ (Or.inr (by omega))).other _ (Or.inr (by omega))).other _ (Or.inr (by omega))),
  (((((((((((((h7.other _ (Or.inr (by omega))).other _ (Or.inr (by omega))).other _ (Or.inr (by omega))).other _ (Or.inr (by omega))).other _ (Or.inr (by omega))).other _ (Or.inr (by omega))).other _ (Or.inr (by omega))).set _).other _ (Or.inr (by omega))).other _ (Or.inr (by omega))).other _ (Or.inr (by omega))).other _ (Or.inr (by omega))).other _ (Or.inr (by omega))),
  (((((((((((((h8.other _ (Or.inr (by omega))).other _ (Or.inr (by omega))).other _ (Or.inr (by omega))).other _ (Or.inr (by omega))).other _ (Or.inr (by omega))).other _ (Or.inr (by omega))).other _ (Or.inr (by omega))).other _ (Or.inr (by omega))).set _).other _ (Or.inr (by omega))).other _ (Or.inr (by omega))).other _ (Or.inr (by omega))).other _ (Or.inr (by omega))),
  (((((((((((((h9.other _ (Or.inr (by omega))).other _ (Or.inr (by omega))).other _ (Or.inr (by omega))).other _ (Or.inr (by omega))).other _ (Or.inr (by omega))).other _ (Or.inr (by omega))).other _ (Or.inr (by omega))).other _ (Or.inr (by omega))).other _ (Or.inr (by omega))).set _).other _ (Or.inr (by omega))).other _ (Or.inr (by omega))).other _ (Or.inr (by omega))),
  (((((((((((((h10.other _ (Or.inr (by omega))).other _ (Or.inr (by omega))).other _ (Or.inr (by omega))).other _ (Or.inr (by omega))).other _ (Or.inr (by omega))).other _ (Or.inr (by omega))).other _ (Or.inr (by omega))).other _ (Or.inr (by omega))).other _ (Or.inr (by omega))).other _ (Or.inr (by omega))).set _).other _ (Or.inr (by omega))).other _ (Or.inr (by omega))),
  (((((((((((((h11.other _ (Or.inr (by omega))).other _ (Or.inr (by omega))).other _ (Or.inr (by omega))).other _ (Or.inr (by omega))).other _ (Or.inr (by omega))).other _ (Or.inr (by omega))).other _ (Or.inr (by omega))).other _ (Or.inr (by omega))).other _ (Or.inr (by omega))).other _ (Or.inr (by omega))).other _ (Or.inr (by omega))).set _).other _ (Or.inr (by omega))),
  (((((((((((((h12.other _ (Or.inr (by omega))).other _ (Or.inr (by omega))).other _ (Or.inr (by omega))).other _ (Or.inr (by omega))).other _ (Or.inr (by omega))).other _ (Or.inr (by omega))).other _ (Or.inr (by omega))).other _ (Or.inr (by omega))).other _ (Or.inr (by omega))).other _ (Or.inr (by omega))).other _ (Or.inr (by omega))).other _ (Or.inr (by omega))).set _)⟩
theorem Turned.put13(w:World)(b:Nat)(u0 u1 u2 u3 u4 u5 u6 u7 u8 u9 u10 u11 u12:Value):Turned (fun k=>k=b) w (put13 w b u0 u1 u2 u3 u4 u5 u6 u7 u8 u9 u10 u11 u12):=((((((((((((Turned.put w b 0 u0).trans (Turned.put _ b 1 u1)).trans (Turned.put _ b 2 u2)).trans (Turned.put _ b 3 u3)).trans (Turned.put _ b 4 u4)).trans (Turned.put _ b 5 u5)).trans (Turned.put _ b 6 u6)).trans (Turned.put _ b 7 u7)).trans (Turned.put _ b 8 u8)).trans (Turned.put _ b 9 u9)).trans (Turned.put _ b 10 u10)).trans (Turned.put _ b 11 u11)).trans (Turned.put _ b 12 u12)
end Go.Proofs.YtmgeglgboadfiaaGreatDoor
