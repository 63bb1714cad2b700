/- What impl.synced is refused for. -/
import Derived.Test.YtihplgckbhnohaaGreatDoorG1
import Derived.Test.YtihplgckbhnohaaGreatDoorG2
import Derived.Test.YtihplgckbhnohaaGreatDoorG3
import Derived.Test.YtihplgckbhnohaaGreatDoorG9
import Derived.Test.YtihplgckbhnohaaGreatDoorG6
import Derived.Deep.LoopGhost
import Derived.Deep.QuietTactic
import Derived.BigQuiet
import Derived.Deep.DeepCutAuto
namespace Go.Proofs.YtihplgckbhnohaaGreatDoor
open Go.RowKit
set_option linter.unusedVariables false
set_option maxRecDepth 20000 in
set_option maxHeartbeats 1000000 in
theorem syncedRefused_any(p:Nat→Addr)(v0 v1 v2 v3 u0 u1 u2 u3:Value)(lo hi:Nat)(S:StoreD)(w:World)(hE:Errs w p)(h:StoreAt w lo hi v0 v1 v2 v3 u0 u1 u2 u3 S) :
  Calls Tryz.prog 194 #[.agg #[],storeV v0 v1 v2 v3 u0 u1 u2 u3 S] w fun e w'=>((e = .returned .nilIface∧S.live.time≠900000)∨(e = .returned (errV (p 4))∧¬S.live.time≠900000))∧Below w.heap.size w w':=by
 obtain⟨a0,ac0,a1,ac1,a2,ac2,a3,ac3,rfl,rfl,rfl,rfl⟩:=h.live.form
 obtain⟨c0,cc0,c1,cc1,c2,cc2,c3,cc3,rfl,rfl,rfl,rfl⟩:=h.safe.form
 clear h
 have ha:=below_alloc w (.cells #[] 62)
 have hb2:=below_alloc (w.alloc (.cells #[] 62)) (.cells #[.slice a0 S.live.pool.n ac0,.slice a1 S.live.pool.hn ac1,.int .i64 S.live.time,.int .i64 S.live.next,.slice a2 S.live.sn ac2,.slice a3 S.live.pn ac3,.slice c0 S.safe.pool.n cc0,.slice c1 S.safe.pool.hn cc1,.int .i64 S.safe.time,.int .i64 S.safe.next,.slice c2 S.safe.sn cc2,.slice c3 S.safe.pn cc3] 98)
 have hb:=below_next ha hb2
 have hg:((w.alloc (.cells #[] 62)).alloc (.cells #[.slice a0 S.live.pool.n ac0,.slice a1 S.live.pool.hn ac1,.int .i64 S.live.time,.int .i64 S.live.next,.slice a2 S.live.sn ac2,.slice a3 S.live.pn ac3,.slice c0 S.safe.pool.n cc0,.slice c1 S.safe.pool.hn cc1,.int .i64 S.safe.time,.int .i64 S.safe.next,.slice c2 S.safe.sn cc2,.slice c3 S.safe.pn cc3] 98)).cell? ⟨4,0,none⟩=some (errV (p 4)):=(hE.below hb).cell 4 (by omega)
 obtain⟨⟨y0,-⟩,⟨y1,-⟩,⟨y2,-⟩,⟨y3,-⟩,⟨y4,-⟩,⟨y5,-⟩,⟨y6,-⟩,⟨y7,-⟩,⟨y8,-⟩,⟨y9,-⟩,⟨y10,-⟩,⟨y11,-⟩⟩:=Box12.new (w.alloc (.cells #[] 62)) (.slice a0 S.live.pool.n ac0) (.slice a1 S.live.pool.hn ac1) (.int .i64 S.live.time) (.int .i64 S.live.next) (.slice a2 S.live.sn ac2) (.slice a3 S.live.pn ac3) (.slice c0 S.safe.pool.n cc0) (.slice c1 S.safe.pool.hn cc1) (.int .i64 S.safe.time) (.int .i64 S.safe.next) (.slice c2 S.safe.sn cc2) (.slice c3 S.safe.pn cc3) 98
 rw [World.size_alloc] at y0 y1 y2 y3 y4 y5 y6 y7 y8 y9 y10 y11
 clear hE
 by_cases he:S.live.time=900000
 ·have heb:(S.live.time == 900000)=true:=by simp [he]
  have Hn:=hideW (show ¬S.live.time≠900000 from fun h=>h he)
  clear he
  go_enter Tryz.func194,Tryz.ntmps194
  go_wp2
  go_ret
  exact⟨Or.inr ⟨rfl,Hn.out⟩,hb⟩
 ·have heb:(S.live.time == 900000)=false:=by simp [he]
  have Hn:=hideW he
  clear he
  go_enter Tryz.func194,Tryz.ntmps194
  go_wp2
  go_ret
  exact⟨Or.inl ⟨rfl,Hn.out⟩,hb⟩
end Go.Proofs.YtihplgckbhnohaaGreatDoor

namespace Go.Proofs.YtihplgckbhnohaaGreatDoor
open Go.RowKit
set_option linter.unusedVariables false
open Classical in
noncomputable def keptCell(s:SlotD)(hn:Nat)(h:Nat→Int)(k:Nat)(j:Nat):Int:=if j / 2<k∧Has hn h (kidCell s (j / 2*2))then 0 else kidCell s j
theorem kept_zero(s:SlotD)(hn:Nat)(h:Nat→Int):keptCell s hn h 0=kidCell s:=by
 funext j
 exact if_neg (fun e=>absurd e.1 (Nat.not_lt_zero _))
theorem kept_no{s:SlotD}{hn:Nat}{h:Nat→Int}{k:Nat}(hk:¬Has hn h (kidCell s (k*2))):keptCell s hn h (k+1)=keptCell s hn h k:=by
 funext j
 have e:(j / 2<k+1∧Has hn h (kidCell s (j / 2*2)))↔(j / 2<k∧Has hn h (kidCell s (j / 2*2))):=by
  refine⟨fun x=>⟨?_,x.2⟩,fun x=>⟨by omega,x.2⟩⟩
  by_cases e3:j / 2=k
  ·exact absurd (e3▸x.2) hk
  ·omega
 unfold keptCell
 by_cases c:j / 2<k∧Has hn h (kidCell s (j / 2*2))
 ·rw [if_pos (e.2 c),if_pos c]
 ·rw [if_neg (fun x=>c (e.1 x)),if_neg c]
theorem kept_yes{s:SlotD}{hn:Nat}{h:Nat→Int}{k:Nat}(hk:Has hn h (kidCell s (k*2))):keptCell s hn h (k+1)=fun j=>if j=k*2 then 0 else if j=k*2+1 then 0 else keptCell s hn h k j:=by
 funext j
 by_cases e3:j / 2=k
 ·have e0:keptCell s hn h (k+1) j=0:=if_pos ⟨by omega,by rw [e3]; exact hk⟩
  rw [e0]
  by_cases e4:j=k*2
  ·rw [if_pos e4]
  ·rw [if_neg e4,if_pos (by omega)]
 ·have e5:¬j=k*2:=by omega
  have e6:¬j=k*2+1:=by omega
  have e:(j / 2<k+1∧Has hn h (kidCell s (j / 2*2)))↔(j / 2<k∧Has hn h (kidCell s (j / 2*2))):=⟨fun x=>⟨by omega,x.2⟩,fun x=>⟨by omega,x.2⟩⟩
  show keptCell s hn h (k+1) j=if j=k*2 then 0 else if j=k*2+1 then 0 else keptCell s hn h k j
  rw [if_neg e5,if_neg e6]
  unfold keptCell
  by_cases c:j / 2<k∧Has hn h (kidCell s (j / 2*2))
  ·rw [if_pos (e.2 c),if_pos c]
  ·rw [if_neg (fun x=>c (e.1 x)),if_neg c]
set_option maxRecDepth 20000 in
set_option maxHeartbeats 1000000 in
theorem kidsKept_any(v0 v1 v2 hv:Value)(lo hi lo' hi':Nat)(s:SlotD)(hn:Nat)(h:Nat→Int)(w:World)(h1:SlotAt w lo hi v0 v1 v2 s)(hk:s.kn=0∨s.kn=8)(h2:IntsAt w lo' hi' hv hn h) :
  Calls Tryz.prog 197 #[.agg #[v0,v1,v2],hv] w fun e w'=>e = .returned (.agg (arr16 (keptCell s hn h 8)))∧Below w.heap.size w w':=by
 have Hs:=hide h1
 have Hh:=hide h2
 obtain⟨rfl,⟨m1,a,c,rfl,mc,g1⟩,rfl,m2⟩:=h1
 obtain⟨m3,a',c',rfl,mc',g2⟩:=h2
 have Hk:Hid (s.kn=0∨s.kn=8):=hk
 clear g1 g2 hk
 go_enter Tryz.func197,Tryz.ntmps197
 go_wp2_with fail
 have ha1:=below_next (below_alloc w (.cells #[.int .i64 s.birth,.slice a s.kn c,.string s.data] 66)) (below_alloc _ (.cells #[Value.int .i64 0,Value.int .i64 0,Value.int .i64 0,Value.int .i64 0,Value.int .i64 0,Value.int .i64 0,Value.int .i64 0,Value.int .i64 0,Value.int .i64 0,Value.int .i64 0,Value.int .i64 0,Value.int .i64 0,Value.int .i64 0,Value.int .i64 0,Value.int .i64 0,Value.int .i64 0] 218))
 refine(kidsOf_any _ _ _ lo hi s _ (Hs.out.below ha1) Hk.out).mono ?_
 rintro e w1 ⟨rfl,hb1⟩
 have hb2:=below_next ha1 hb1
 have HR:Hid (w1.heap[w.heap.size+1]?=some (.cells (arr16 fun _=>0) 218 (0,0))):=by
  have e:=hb1.block (w.heap.size+1) (by simp)
  have e2:=heap_alloc_last (w.alloc (.cells #[.int .i64 s.birth,.slice a s.kn c,.string s.data] 66)) (.cells #[Value.int .i64 0,Value.int .i64 0,Value.int .i64 0,Value.int .i64 0,Value.int .i64 0,Value.int .i64 0,Value.int .i64 0,Value.int .i64 0,Value.int .i64 0,Value.int .i64 0,Value.int .i64 0,Value.int .i64 0,Value.int .i64 0,Value.int .i64 0,Value.int .i64 0,Value.int .i64 0] 218)
  rw [World.size_alloc] at e2
  exact e.trans e2
 have hz1:w.heap.size+1<w1.heap.size:=(Array.getElem?_eq_some_iff.1 HR.out).1
 have Hi16:Hid ((Tryz.prog.info? 218).map (·.size)=some (kidsA s).size):=by
  show _=_
  rw [kidsA,arr16_size]; exact infoArr
 clear ha1 hb1
 go_wp2_with (first
  | (refine wpList_store_row rfl 218 (.tmp 5) (.tmp 9) rfl w1.heap.size (kidsA s) rfl rfl 218 #[Value.int .i64 0,Value.int .i64 0,Value.int .i64 0,Value.int .i64 0,Value.int .i64 0,Value.int .i64 0,Value.int .i64 0,Value.int .i64 0,Value.int .i64 0,Value.int .i64 0,Value.int .i64 0,Value.int .i64 0,Value.int .i64 0,Value.int .i64 0,Value.int .i64 0,Value.int .i64 0] (heap_alloc_last _ _) Hi16.out (by rw [kidsA,arr16_size]; rfl) (arr16_one _) ?_; rw [World.setRow_alloc_new])
  | (refine wpList_load_row rfl 218 (.tmp 5) rfl w1.heap.size rfl 218 (kidsA s) (0,0) _ ?hh arrU rfl Hi16.out ?_; (exact heap_alloc_last _ _)))
 go_loopw [6,7,11] (fun _ _ i wr=>∃(k:Nat),k≤8∧i = .int .i64 k∧wr.heap[w1.heap.size]?=some (.cells (arr16 (keptCell s hn h k)) 218 (0,0))∧Below w1.heap.size w1 wr) (fun _ _ i _=>8 - (intOf i).toNat)
 case atStart=>
  refine⟨0,Nat.zero_le _,rfl,?_,below_alloc _ _⟩
  rw [kept_zero]
  exact heap_alloc_last _ _
 case round=>
  obtain⟨k,hk,rfl,hK,hb⟩:=hrel
  have HK:Hid (wr.heap[w1.heap.size]?=some (.cells (arr16 (keptCell s hn h k)) 218 (0,0))):=hK
  clear hK
  have hszF:w1.heap.size<wr.heap.size:=(Array.getElem?_eq_some_iff.1 HK.out).1
  by_cases hlt:k<8
  ·have hlt':(k:Int)<8:=by omega
   have hidx:∀w,(Instr.index 218 (.agg (kidsA s)) (.int .i64 (k:Int))).run Tryz.prog w = .ok (.agg #[.int .i64 (kidCell s (k*2)),.int .i64 (kidCell s (k*2+1))]) w:=fun w=>index_arr (kidCell s) k hlt w
   go_wp2_with fail
   have hal:=below_alloc wr (.cells #[.int .i64 (kidCell s (k*2)),.int .i64 (kidCell s (k*2+1))] 88)
   refine(contains_any _ hn lo' hi' h _ _ (Hh.out.below (below_next (below_next hb2 hb) hal))).mono ?_
   rintro e w2 ⟨⟨t,rfl,ht⟩,hw2⟩
   have HK2:Hid (w2.heap[w1.heap.size]?=some (.cells (arr16 (keptCell s hn h k)) 218 (0,0))):=by rw [hw2]; exact(hal.block _ hszF).trans HK.out
   have hbn:Below w1.heap.size w1 w2:=by rw [hw2]; exact below_next hb hal
   clear hal hidx HK hw2
   by_cases hH:Has hn h (kidCell s (k*2))
   ·obtain rfl:t=true:=ht.2 hH
    have HH:=hide hH
    clear ht hH
    obtain⟨y0,y1⟩:=cell_of_block (i:=k*2) HK2.out (arr16_at _ (by omega))
    obtain⟨y2,y3⟩:=cell_of_block (i:=k*2+1) HK2.out (arr16_at _ (by omega))
    go_wp2
    go_roundw
    case rel=>
     refine⟨k+1,by omega,by go_num,?_,(hbn.setCell (Nat.le_refl _) _).setCell (Nat.le_refl _) _⟩
     have:=heap_setCell_at (o:=k*2+1) (.int .i64 0) (heap_setCell_at (o:=k*2) (.int .i64 0) HK2.out)
     rw [arr16_set _ k hlt] at this
     rw [kept_yes HH.out]
     exact this
    case measure=>simp [intOf]; omega
   ·obtain rfl:t=false:=bool_no ht hH
    have HH:=hide hH
    clear ht hH
    go_wp2
    go_roundw
    case rel=>
     refine⟨k+1,by omega,by go_num,?_,hbn⟩
     rw [kept_no HH.out]
     exact HK2.out
    case measure=>simp [intOf]; omega
  ·obtain rfl:k=8:=by omega
   have HR2:Hid (wr.heap[w.heap.size+1]?=some (.cells (arr16 fun _=>0) 218 (0,0))):=(hb.block _ hz1).trans HR.out
   have Hg16:Hid ((Tryz.prog.info? 218).map (·.size)=some (arr16 (keptCell s hn h 8)).size):=by
    show _=_
    rw [arr16_size]; exact infoArr
   go_wp2_with (first
    | (refine wpList_load_row rfl 218 (.tmp 5) rfl w1.heap.size rfl 218 (arr16 (keptCell s hn h 8)) (0,0) _ HK.out arrU rfl Hg16.out ?_)
    | (refine wpList_store_row rfl 218 (.tmp 4) (.tmp 23) rfl (w.heap.size+1) (arr16 (keptCell s hn h 8)) rfl rfl 218 (arr16 fun _=>0) HR2.out Hg16.out (by rw [arr16_size,arr16_size]) (arr16_one _) ?_))
   refine bodyPost_ret (v:=.agg (arr16 (keptCell s hn h 8))) (results_cell_row (P:=Tryz.prog) (ty:=218) Tryz.results197 _ _ (w.heap.size+1) 218 (arr16 (keptCell s hn h 8)) (0,0) _ rfl (setRow_heap _ _ _ _ _ _ HR2.out) arrU rfl Hg16.out) rfl ⟨rfl,?_⟩
   exact below_setRow (below_next hb2 hb) (by omega) _
def NeedsAt(p:PoolD)(i:Nat):Prop:=¬Has p.hn p.h (i:Int)∧eq16 (kidCell (p.s i)) (keptCell (p.s i) p.hn p.h 8)=false
def Needed(p:PoolD):Prop:=∃i,i<p.n∧NeedsAt p i
set_option maxRecDepth 20000 in
set_option maxHeartbeats 2000000 in
theorem heldNeeded_any(v0 v1:Value)(lo hi:Nat)(p:PoolD)(w:World)(h1:PoolAt w lo hi v0 v1 p)(hkn:∀i,i<p.n→(p.s i).kn=0∨(p.s i).kn=8) :
  Calls Tryz.prog 196 #[.agg #[v0,v1]] w fun e w'=>BoolIs (Needed p) e∧Below w.heap.size w w':=by
 have Hp:=hide h1
 obtain⟨⟨m1,a,c,rfl,mc,g1⟩,⟨m2,a',c',rfl,mc',g2⟩⟩:=h1
 unfold maxLen at m1 m2
 have Hkn:=hide hkn
 clear g1 g2 hkn
 go_enter Tryz.func196,Tryz.ntmps196
 go_wp2
 go_loopw [3,4,8] (fun _ _ i wr=>∃k:Nat,k≤p.n∧i = .int .i64 k∧(∀j,j<k→¬NeedsAt p j)∧Box2 wr w.heap.size (.slice a p.n c) (.slice a' p.hn c')∧Below w.heap.size w wr) (fun _ _ i _=>p.n - (intOf i).toNat)
 case atStart=>exact⟨0,Nat.zero_le _,rfl,fun j hj=>absurd hj (Nat.not_lt_zero _),Box2.new _ _ _ _,below_alloc _ _⟩
 case round=>
  obtain⟨k,hk,rfl,hall,hx,hb⟩:=hrel
  have Hx:=hide hx
  have Hall:=hide hall
  clear hx hall
  by_cases hlt:k<p.n
  ·have hlt':(k:Int)<(p.n:Int):=by omega
   obtain⟨b,off,ka,kc,rfl,hs⟩:=(Hp.out.1.below hb).cells hlt
   have Hs:=hide hs
   obtain⟨q0,q1,q2,_⟩:=hs
   go_wp2_with fail
   have hal:=below_alloc wr (.cells #[.int .i64 (p.s k).birth,.slice ka (p.s k).kn kc,.string (p.s k).data] 66)
   have HS0:=hide (Box3.new wr (.int .i64 (p.s k).birth) (.slice ka (p.s k).kn kc) (.string (p.s k).data) 66)
   have HX0:=hide (Hx.out.below hal)
   have HSl:=hide (Hs.out.slot.below hal)
   have hbn:=below_next hb hal
   generalize wr.alloc (.cells #[.int .i64 (p.s k).birth,.slice ka (p.s k).kn kc,.string (p.s k).data] 66)=W at HS0 HX0 HSl hbn ⊢
   generalize wr.heap.size=B at HS0 ⊢
   clear q0 q1 q2 Hs Hx hal hb
   obtain⟨⟨x0,x1⟩,⟨x2,x3⟩⟩:=HX0.out
   obtain⟨⟨y0,y1⟩,⟨y2,y3⟩,⟨y4,y5⟩⟩:=HS0.out
   by_cases hH:Has p.hn p.h (k:Int)
   ·have HH:=hide hH
    clear hH
    go_quiet ((go_at_call 154; refine Calls.quiet_of_same (v:=.bool true) ((contains_any _ p.hn lo hi p.h _ _ (Hp.out.2.below (below_drewN hbn _))).mono ?_); rintro e w2 ⟨⟨t,rfl,ht⟩,rfl⟩; obtain rfl:t=true:=ht.2 HH.out; exact⟨rfl,rfl⟩))
    go_wp2
    go_roundw
    case rel=>exact⟨k+1,by omega,by go_num,relNext hlt Hall.out (fun h=>h.1 HH.out),HX0.out.below (below_drewN (Below.refl _ _) _),below_drewN hbn _⟩
    case measure=>simp [intOf]; omega
   ·have HH:=hide hH
    clear hH
    cases he:eq16 (kidCell (p.s k)) (keptCell (p.s k) p.hn p.h 8)with
    | true=>
     have hneq:∀w,(binOp .neq 218 (.agg (kidsA (p.s k))) (.agg (arr16 (keptCell (p.s k) p.hn p.h 8)))).run Tryz.prog w = .ok (.bool false) w:=fun w=>by
      have e:=neq_arr (kidCell (p.s k)) (keptCell (p.s k) p.hn p.h 8) w
      rw [he] at e
      exact e
     have HE:=hide he
     clear he
     go_region_held3 (fun w'=>w'.cell? ⟨w.heap.size,1,none⟩=some (.slice a' p.hn c')∧w'.cell? ⟨B,0,none⟩=some (.int .i64 (p.s k).birth)∧w'.cell? ⟨B,1,none⟩=some (.slice ka (p.s k).kn kc)∧w'.cell? ⟨B,2,none⟩=some (.string (p.s k).data)) (go_keep)
      (first
       | (go_at_call 154; refine(contains_any _ p.hn lo hi p.h _ _ ?_).mono ?_; (exact Hp.out.2.below hbn.drew); rintro e w2 ⟨⟨t,rfl,ht⟩,rfl⟩; obtain rfl:t=false:=bool_no ht HH.out; clear ht)
       | (go_at_call 172; refine(kidsOf_any _ _ _ lo hi (p.s k) _ ?_ (Hkn.out k hlt)).mono ?_; (exact HSl.out.below (Below.refl _ _).drew); rintro e w3 ⟨rfl,hb3⟩; have hb3':=below_undrew hb3; have z0:=(HX0.out.below hb3').2.1; have z1:=(HS0.out.below hb3').1.1; have z2:=(HS0.out.below hb3').2.1.1; have z3:=(HS0.out.below hb3').2.2.1)
       | (go_at_call 197; refine(kidsKept_any _ _ _ _ lo hi lo hi (p.s k) p.hn p.h _ ?_ (Hkn.out k hlt) ?_).mono ?_; (exact HSl.out.below hb3'); (exact Hp.out.2.below (below_next hbn hb3')); rintro e w4 ⟨rfl,hb4⟩; have hb4':=below_next hb3' hb4; have z4:=(HX0.out.below hb4').2.1; have z5:=(HS0.out.below hb4').1.1; have z6:=(HS0.out.below hb4').2.1.1; have z7:=(HS0.out.below hb4').2.2.1))
     go_wp2
     go_roundw
     case rel=>exact⟨k+1,by omega,by go_num,relNext hlt Hall.out (fun h=>by have:=h.2; rw [HE.out] at this; cases this),HX0.out.below hb4',below_next hbn hb4'⟩
     case measure=>simp [intOf]; omega
    | false=>
     have hneq:∀w,(binOp .neq 218 (.agg (kidsA (p.s k))) (.agg (arr16 (keptCell (p.s k) p.hn p.h 8)))).run Tryz.prog w = .ok (.bool true) w:=fun w=>by
      have e:=neq_arr (kidCell (p.s k)) (keptCell (p.s k) p.hn p.h 8) w
      rw [he] at e
      exact e
     have HE:=hide he
     clear he
     go_region_held3 (fun w'=>w'.cell? ⟨w.heap.size,1,none⟩=some (.slice a' p.hn c')∧w'.cell? ⟨B,0,none⟩=some (.int .i64 (p.s k).birth)∧w'.cell? ⟨B,1,none⟩=some (.slice ka (p.s k).kn kc)∧w'.cell? ⟨B,2,none⟩=some (.string (p.s k).data)) (go_keep)
      (first
       | (go_at_call 154; refine(contains_any _ p.hn lo hi p.h _ _ ?_).mono ?_; (exact Hp.out.2.below hbn.drew); rintro e w2 ⟨⟨t,rfl,ht⟩,rfl⟩; obtain rfl:t=false:=bool_no ht HH.out; clear ht)
       | (go_at_call 172; refine(kidsOf_any _ _ _ lo hi (p.s k) _ ?_ (Hkn.out k hlt)).mono ?_; (exact HSl.out.below (Below.refl _ _).drew); rintro e w3 ⟨rfl,hb3⟩; have hb3':=below_undrew hb3; have z0:=(HX0.out.below hb3').2.1; have z1:=(HS0.out.below hb3').1.1; have z2:=(HS0.out.below hb3').2.1.1; have z3:=(HS0.out.below hb3').2.2.1)
       | (go_at_call 197; refine(kidsKept_any _ _ _ _ lo hi lo hi (p.s k) p.hn p.h _ ?_ (Hkn.out k hlt) ?_).mono ?_; (exact HSl.out.below hb3'); (exact Hp.out.2.below (below_next hbn hb3')); rintro e w4 ⟨rfl,hb4⟩; have hb4':=below_next hb3' hb4; have z4:=(HX0.out.below hb4').2.1; have z5:=(HS0.out.below hb4').1.1; have z6:=(HS0.out.below hb4').2.1.1; have z7:=(HS0.out.below hb4').2.2.1))
     go_wp2
     go_ret
     exact⟨BoolIs.yes ⟨k,hlt,HH.out,HE.out⟩,below_next hbn hb4'⟩
  ·obtain rfl:k=p.n:=by omega
   go_wp2
   go_ret
   exact⟨BoolIs.no (fun ⟨i,hi,h⟩=>Hall.out i hi h),hb⟩
end Go.Proofs.YtihplgckbhnohaaGreatDoor

namespace Go.Proofs.YtihplgckbhnohaaGreatDoor
open Go.RowKit
set_option linter.unusedVariables false
def setS(p:PoolD)(i:Nat)(s:SlotD):PoolD:={n:=p.n,s:=fun j=>if j=i then s else p.s j,hn:=p.hn,h:=p.h}
theorem PoolOwn.set{w:World}{lo hi:Nat}{a:Option Addr}{c:Nat}{v1:Value}{p:PoolD}(h:PoolOwn w lo hi (.slice a p.n c) v1 p){i:Nat}(hi':i<p.n) :
  ∃bs off,a=some ⟨bs,off,none⟩∧(lo≤bs∧bs<hi)∧(∃x0 x1 x2,Cell w bs (off+i*3) x0∧Cell w bs (off+i*3+1) x1∧Cell w bs (off+i*3+2) x2)∧
   ∀(s:SlotD) (nb:Nat) (nv:Value) (lo' hi':Nat),PtrsOwn w nb nv s.kn s.ks s.kb→s.data.size≤maxLen→(0<s.kn→(nb<lo∨hi≤nb)∧lo'≤nb∧nb<hi')→lo'≤lo→hi≤hi'→
    PoolOwn (((w.setCell ⟨bs,off+i*3,none⟩ (.int .i64 s.birth)).setCell ⟨bs,off+i*3+1,none⟩ nv).setCell ⟨bs,off+i*3+2,none⟩ (.string s.data)) lo' hi' (.slice a p.n c) v1 (setS p i s):=by
 obtain⟨bs,hb,kb,kv,⟨hm,a0,c0,hv,hcc,hx⟩,hap,hint,hnb,hpl⟩:=h
 simp only [Value.slice.injEq,true_and] at hv
 obtain⟨rfl,rfl⟩:=hv
 have h0:0<p.n:=by omega
 obtain⟨off,ha,hsl⟩:=hx h0
 have hbs:=hpl bs (Or.inl (Or.inl ⟨h0,rfl⟩))
 have hkb:∀j,j<p.n→0<(p.s j).kn→lo≤kb j∧kb j<hi:=fun j hj hk=>hpl _ (Or.inl (Or.inr ⟨j,hj,hk,rfl⟩))
 have hhb:0<p.hn→lo≤hb∧hb<hi:=fun h=>hpl _ (Or.inr ⟨h,rfl⟩)
 refine⟨bs,off,ha,hbs,⟨_,_,_,(hsl i hi').birth,(hsl i hi').kidsv,(hsl i hi').data⟩,fun s nb nv lo' hi'' hp hs hnn h1 h2=>?_⟩
 refine⟨bs,hb,(fun j=>if j=i then nb else kb j),(fun j=>if j=i then nv else kv j),⟨hm,a,c,rfl,hcc,fun _=>⟨off,ha,fun j hj=>?_⟩⟩,fun j k hj hk hjk g1 g2=>?_,?_,fun g0 hx=>?_,fun k hk=>?_⟩
 ·have hj':=hsl j hj
  by_cases e:j=i
  ·subst e
   simp only [setS,if_true]
   refine⟨?_,?_,?_,?_,hs,fun hk e=>by have:=hnn hk; omega⟩
   ·exact((hj'.birth.set _).other _ (Or.inr (by omega))).other _ (Or.inr (by omega))
   ·exact((hj'.kidsv.other _ (Or.inr (by omega))).set _).other _ (Or.inr (by omega))
   ·exact((hj'.data.other _ (Or.inr (by omega))).other _ (Or.inr (by omega))).set _
   ·refine((hp.turned (Turned.put _ _ _ _) ?_).turned (Turned.put _ _ _ _) ?_).turned (Turned.put _ _ _ _) ?_
    all_goals exact fun hk e=>by have:=hnn hk; omega
  ·simp only [setS,if_neg e]
   refine⟨?_,?_,?_,?_,hj'.small,hj'.apart⟩
   ·exact((hj'.birth.other _ (Or.inr (by omega))).other _ (Or.inr (by omega))).other _ (Or.inr (by omega))
   ·exact((hj'.kidsv.other _ (Or.inr (by omega))).other _ (Or.inr (by omega))).other _ (Or.inr (by omega))
   ·exact((hj'.data.other _ (Or.inr (by omega))).other _ (Or.inr (by omega))).other _ (Or.inr (by omega))
   ·refine((hj'.kids.turned (Turned.put _ _ _ _) ?_).turned (Turned.put _ _ _ _) ?_).turned (Turned.put _ _ _ _) ?_
    all_goals exact fun hk e=>hj'.apart hk e
 ·show(if j=i then nb else kb j)≠(if k=i then nb else kb k)
  by_cases e1:j=i
  ·by_cases e2:k=i
   ·omega
   ·rw [if_pos e1,if_neg e2]
    simp only [setS,if_pos e1] at g1
    simp only [setS,if_neg e2] at g2
    have:=hnn g1; have:=hkb k hk g2; omega
  ·by_cases e2:k=i
   ·rw [if_neg e1,if_pos e2]
    simp only [setS,if_neg e1] at g1
    simp only [setS,if_pos e2] at g2
    have:=hnn g2; have:=hkb j hj g1; omega
   ·rw [if_neg e1,if_neg e2]
    simp only [setS,if_neg e1] at g1
    simp only [setS,if_neg e2] at g2
    exact hap j k hj hk hjk g1 g2
 ·have hne:0<p.hn→hb≠bs:=fun h e=>hnb h (Or.inl ⟨h0,e⟩)
  refine((hint.turned (Turned.put _ _ _ _) ?_).turned (Turned.put _ _ _ _) ?_).turned (Turned.put _ _ _ _) ?_
  all_goals exact fun hk e=>hne hk e
 ·rcases hx with⟨_,e⟩ | ⟨j,hj,g1,e⟩
  ·exact hnb g0 (Or.inl ⟨h0,e⟩)
  ·by_cases e1:j=i
   ·simp only [setS,if_pos e1] at g1 e
    have:=hnn g1; have:=hhb g0; omega
   ·simp only [setS,if_neg e1] at g1 e
    exact hnb g0 (Or.inr ⟨j,hj,g1,e⟩)
 ·rcases hk with(⟨_,e⟩ | ⟨j,hj,g1,e⟩) | ⟨g0,e⟩
  ·omega
  ·by_cases e1:j=i
   ·simp only [setS,if_pos e1] at g1 e
    have:=hnn g1; omega
   ·simp only [setS,if_neg e1] at g1 e
    have:=hkb j hj g1; omega
  ·have:=hhb g0; omega
theorem pool_ret{w wr:World}{lo hi R:Nat}{s0 s1:Value}{p:PoolD}(ho:PoolOwn wr lo hi s0 s1 p)(hR1:R<lo)(hlo:w.heap.size≤R)(hhi:hi≤wr.heap.size)(hb:Below w.heap.size w wr) :
  PoolOwn ((wr.setCell ⟨R,0,none⟩ s0).setCell ⟨R,1,none⟩ s1) w.heap.size ((wr.setCell ⟨R,0,none⟩ s0).setCell ⟨R,1,none⟩ s1).heap.size s0 s1 p∧Below w.heap.size w ((wr.setCell ⟨R,0,none⟩ s0).setCell ⟨R,1,none⟩ s1):=by
 have t:=(Turned.put wr R 0 s0).trans (Turned.put _ R 1 s1)
 have hz:=t.size
 exact⟨(ho.turned t (fun k hk=>by omega)).wide (by omega) (by omega),(hb.setCell hlo _).setCell hlo _⟩
end Go.Proofs.YtihplgckbhnohaaGreatDoor

namespace Go.Proofs.YtihplgckbhnohaaGreatDoor
open Go.RowKit
set_option linter.unusedVariables false
open Classical in
noncomputable def freed(p:PoolD)(m:Nat):PoolD:={n:=p.n,s:=fun i=>if Has m p.h (i:Int)then zeroS else p.s i,hn:=p.hn,h:=p.h}
noncomputable def swept(p:PoolD):PoolD:={n:=p.n,s:=(freed p p.hn).s,hn:=0,h:=p.h}
open Classical in
noncomputable def syncP(p:PoolD):PoolD:=if Right p∧Right (swept p)then swept p else p
theorem freed_yes{p:PoolD}{m i:Nat}(h:Has m p.h (i:Int)):(freed p m).s i=zeroS:=if_pos h
theorem freed_not{p:PoolD}{m i:Nat}(h:¬Has m p.h (i:Int)):(freed p m).s i=p.s i:=if_neg h
theorem freed_zero(p:PoolD):freed p 0=p:=by
 have e:(freed p 0).s=p.s:=funext fun i=>freed_not (fun ⟨j,hj,_⟩=>absurd hj (Nat.not_lt_zero _))
 show PoolD.mk p.n (freed p 0).s p.hn p.h=p
 rw [e]
theorem freed_succ{p:PoolD}{k m:Nat}(hk:p.h k=(m:Int)):freed p (k+1)=setS (freed p k) m zeroS:=by
 have e:(freed p (k+1)).s=(setS (freed p k) m zeroS).s:=funext fun i=>by
  show _=if i=m then zeroS else(freed p k).s i
  by_cases h1:i=m
  ·rw [if_pos h1,freed_yes ⟨k,by omega,by rw [hk,h1]⟩]
  ·rw [if_neg h1]
   by_cases h2:Has k p.h (i:Int)
   ·rw [freed_yes h2,freed_yes (by obtain⟨j,hj,e⟩:=h2; exact⟨j,by omega,e⟩)]
   ·rw [freed_not h2,freed_not (fun ⟨j,hj,e⟩=>h2 ⟨j,by
     by_cases e2:j=k
     ·subst e2; rw [hk] at e; omega
     ·omega,e⟩)]
 show PoolD.mk p.n (freed p (k+1)).s p.hn p.h=PoolD.mk p.n (setS (freed p k) m zeroS).s p.hn p.h
 rw [e]
theorem zero_free:Free zeroS:=⟨rfl,rfl,by simp [zeroS,Go.ByteArray.toList_eq]⟩
theorem sync_kn{p:PoolD}(h:Right p){i:Nat}(hi:i<p.n):(p.s i).kn=0∨(p.s i).kn=8:=by
 rcases h.2.1 i hi with h | h
 ·exact Or.inl h.2.1
 ·rcases h.2 with h | h
  ·exact Or.inl h.1
  ·exact Or.inr h.1
theorem kid_cells{s:SlotD}(h:s.kn=8){i:Nat}(hi:i<8):kidCell s (i*2)=s.ks i∧kidCell s (i*2+1)=s.kb i:=by
 refine⟨?_,?_⟩
 ·unfold kidCell; rw [if_pos (by omega),if_pos (by omega),show i*2 / 2=i by omega]
 ·unfold kidCell; rw [if_pos (by omega),if_neg (by omega),show(i*2+1) / 2=i by omega]
theorem needs_iff(p:PoolD)(i:Nat):NeedsAt p i↔¬Has p.hn p.h (i:Int)∧∃m,m<8∧Has p.hn p.h (kidCell (p.s i) (m*2))∧¬(kidCell (p.s i) (m*2)=0∧kidCell (p.s i) (m*2+1)=0):=by
 unfold NeedsAt
 refine and_congr Iff.rfl ?_
 have hk:∀m,m<8→∀r,r<2→Has p.hn p.h (kidCell (p.s i) (m*2))→keptCell (p.s i) p.hn p.h 8 (m*2+r)=0:=fun m hm r hr h=>if_pos ⟨by omega,by rw [show(m*2+r) / 2=m by omega]; exact h⟩
 have hk2:∀m,∀r,r<2→¬Has p.hn p.h (kidCell (p.s i) (m*2))→keptCell (p.s i) p.hn p.h 8 (m*2+r)=kidCell (p.s i) (m*2+r):=fun m r hr h=>if_neg (fun x=>h (by have:=x.2; rw [show(m*2+r) / 2=m by omega] at this; exact this))
 constructor
 ·intro he
  apply Classical.byContradiction
  intro hx
  have:eq16 (kidCell (p.s i)) (keptCell (p.s i) p.hn p.h 8)=true:=(eq16_iff _ _).2 fun m hm=>by
   by_cases h:Has p.hn p.h (kidCell (p.s i) (m*2))
   ·have e0:=hk m hm 0 (by omega) h
    have e1:=hk m hm 1 (by omega) h
    rw [Nat.add_zero] at e0
    rw [e0,e1]
    apply Classical.byContradiction
    intro hy
    exact hx ⟨m,hm,h,hy⟩
   ·have e0:=hk2 m 0 (by omega) h
    have e1:=hk2 m 1 (by omega) h
    rw [Nat.add_zero] at e0
    rw [e0,e1]
    exact⟨rfl,rfl⟩
  rw [this] at he
  cases he
 ·rintro⟨m,hm,h,hy⟩
  apply Bool.eq_false_iff.2
  intro he
  have:=(eq16_iff _ _).1 he m hm
  have e0:=hk m hm 0 (by omega) h
  have e1:=hk m hm 1 (by omega) h
  rw [Nat.add_zero] at e0
  rw [e0,e1] at this
  exact hy this
theorem needed_iff{p:PoolD}(hR:Right p):Needed p↔¬Right (swept p):=by
 constructor
 ·rintro⟨i,hi,h⟩ hS
  obtain⟨hni,m,hm,hH,hz⟩:=(needs_iff p i).1 h
  have hkn:(p.s i).kn=8:=by
   rcases sync_kn hR hi with h | h
   ·exact absurd ⟨by unfold kidCell; rw [if_neg (by omega)],by unfold kidCell; rw [if_neg (by omega)]⟩ hz
   ·exact h
  obtain⟨e0,e1⟩:=kid_cells hkn hm
  rw [e0] at hH
  rw [e0,e1] at hz
  have hsi:(swept p).s i=p.s i:=freed_not hni
  have hP:Points p ((p.s i).ks m) ((p.s i).kb m):=by
   rcases hR.2.1 i hi with h | h
   ·have:=h.2.1; omega
   ·rcases h.2 with h | h
    ·omega
    ·rcases h.2.2 m (by omega)with h | h
     ·exact absurd h hz
     ·exact h.1
  rcases hS.2.1 i hi with h | h
  ·rw [hsi] at h; have:=h.2.1; omega
  ·rw [hsi] at h
   rcases h.2 with h | h
   ·omega
   ·rcases h.2.2 m (by omega)with h | h
    ·exact hz h
    ·obtain⟨h1,h2,h3,h4⟩:=h.1
     have hz':(swept p).s ((p.s i).ks m).toNat=zeroS:=freed_yes (by rw [Int.toNat_of_nonneg h2]; exact hH)
     rw [hz'] at h4
     have:(0:Int)=(p.s i).kb m:=h4
     have:=hP.1
     omega
 ·intro hS
  apply Classical.byContradiction
  intro hN
  apply hS
  refine⟨hR.1,fun i hi=>?_,fun i hi=>absurd hi (Nat.not_lt_zero _)⟩
  by_cases hni:Has p.hn p.h (i:Int)
  ·rw [show(swept p).s i=zeroS from freed_yes hni]; exact Or.inl zero_free
  ·rw [show(swept p).s i=p.s i from freed_not hni]
   rcases hR.2.1 i hi with h | h
   ·exact Or.inl h
   ·refine Or.inr ⟨h.1,?_⟩
    rcases h.2 with h2 | h2
    ·exact Or.inl h2
    ·refine Or.inr ⟨h2.1,h2.2.1,fun m hm=>?_⟩
     rcases h2.2.2 m hm with h3 | h3
     ·exact Or.inl h3
     ·by_cases hH:Has p.hn p.h ((p.s i).ks m)
      ·left
       apply Classical.byContradiction
       intro hz
       obtain⟨e0,e1⟩:=kid_cells h2.1 (i:=m) (by omega)
       exact hN ⟨i,hi,(needs_iff p i).2 ⟨hni,m,by omega,by rw [e0]; exact hH,by rw [e0,e1]; exact hz⟩⟩
      ·right
       obtain⟨⟨g1,g2,g3,g4⟩,g5⟩:=h3
       exact⟨⟨g1,g2,g3,by rw [show(swept p).s ((p.s i).ks m).toNat=p.s ((p.s i).ks m).toNat from freed_not (by rw [Int.toNat_of_nonneg g2]; exact hH)]; exact g4⟩,g5⟩
theorem sync_yes{p:PoolD}(h:Right p)(h':Right (swept p)):syncP p=swept p:=if_pos ⟨h,h'⟩
theorem sync_no{p:PoolD}(h:¬(Right p∧Right (swept p))):syncP p=p:=if_neg h
theorem PoolOwn.noHeld{w:World}{lo hi:Nat}{v0 v1:Value}{p:PoolD}(h:PoolOwn w lo hi v0 v1 p):PoolOwn w lo hi v0 (.slice none 0 0) {n:=p.n,s:=p.s,hn:=0,h:=p.h}:=by
 obtain⟨bs,hb,kb,kv,h1,h2,h3,h4,h5⟩:=h
 refine⟨bs,0,kb,kv,h1,h2,⟨Nat.zero_le _,none,0,rfl,Nat.le_refl _,fun h=>absurd h (Nat.lt_irrefl _),fun h=>absurd h (Nat.lt_irrefl _)⟩,fun h=>absurd h (Nat.lt_irrefl _),fun k hk=>?_⟩
 rcases hk with hk | ⟨h,_⟩
 ·exact h5 k (Or.inl hk)
 ·exact absurd h (Nat.lt_irrefl _)
end Go.Proofs.YtihplgckbhnohaaGreatDoor

namespace Go.Proofs.YtihplgckbhnohaaGreatDoor
open Go.RowKit
set_option linter.unusedVariables false
theorem held_cell{w:World}{lo hi:Nat}{a:Option Addr}{n c:Nat}{f:Nat→Int}(h:IntsAt w lo hi (.slice a n c) n f){k:Nat}(hk:k<n):∃b off,a=some ⟨b,off,none⟩∧w.cell? ⟨b,off+k,none⟩=some (.int .i64 (f k)):=by
 obtain⟨_,a2,c2,hv,_,hx⟩:=h
 simp only [Value.slice.injEq,true_and] at hv
 obtain⟨rfl,rfl⟩:=hv
 obtain⟨b,off,ha,_,_,h3⟩:=hx (by omega)
 exact⟨b,off,ha,h3 k hk⟩
set_option maxRecDepth 20000 in
set_option maxHeartbeats 2000000 in
theorem specPoolSync_any(v0 v1:Value)(lo hi:Nat)(p:PoolD)(w:World)(h1:PoolAt w lo hi v0 v1 p)(hn:poolN p≤1048576):Calls Tryz.prog 25 #[.agg #[v0,v1]] w (NewPool (syncP p) w):=by
 have Hp:=hide h1
 obtain⟨a,c,a',c',rfl,rfl⟩:=h1.form
 have Hn:=hide hn
 have hm1:p.n≤2 ^ 63 - 1:=h1.1.1
 have hm2:p.hn≤2 ^ 63 - 1:=h1.2.1
 have mc:p.n≤c:=by obtain⟨⟨_,_,_,e,h,_⟩,_⟩:=h1; simp only [Value.slice.injEq,true_and] at e; omega
 have mc':p.hn≤c':=by obtain⟨_,⟨_,_,_,e,h,_⟩⟩:=h1; simp only [Value.slice.injEq,true_and] at e; omega
 clear h1 hn
 have hba:=below_next (below_alloc w (.cells #[.slice a p.n c,.slice a' p.hn c'] 35)) (below_alloc _ (.cells #[.slice none 0 0,.slice none 0 0] 35))
 have HB:=hide ((Box2.new w (.slice a p.n c) (.slice a' p.hn c') 35).below (below_alloc _ (.cells #[.slice none 0 0,.slice none 0 0] 35)))
 have hr3:=Box2.new (w.alloc (.cells #[.slice a p.n c,.slice a' p.hn c'] 35)) (.slice none 0 0) (.slice none 0 0) 35
 rw [World.size_alloc] at hr3
 have HR:=hide hr3
 clear hr3
 go_enter Tryz.func25,Tryz.ntmps25
 go_wp2_with fail
 refine(l01Copy_any _ _ lo hi p _ (Hp.out.below hba) Hn.out).mono ?_
 rintro e w1 ⟨s0,s1,rfl,ho1,hb1⟩
 rw [World.size_alloc,World.size_alloc] at ho1
 have HB1:=hide (HB.out.below hb1)
 have HR1:=hide (HR.out.below hb1)
 have hB1:=below_next hba hb1
 have hz1:w.heap.size+2≤w1.heap.size:=by have:=hb1.size; rw [World.size_alloc,World.size_alloc] at this; omega
 obtain⟨a0,c0,a1,c1,rfl,rfl⟩:=ho1.form
 have Ho1:=hide ho1
 clear ho1 hb1 hba HB HR
 have hal:=below_alloc w1 (.cells #[.slice a0 p.n c0,.slice a1 p.hn c1] 35)
 obtain⟨⟨x0,x1⟩,⟨x2,x3⟩⟩:=HB1.out.below hal
 go_wp2_with fail
 refine(specPoolRight_any _ _ lo hi p _ (Hp.out.below (below_next hB1 hal))).mono ?_
 rintro e w2 ⟨⟨t,rfl,ht⟩,hb2⟩
 have hax:=below_next hal hb2
 have HB2:=hide (HB1.out.below hax)
 have HR2:=hide (HR1.out.below hax)
 have HO2:=hide ((Box2.new w1 (.slice a0 p.n c0) (.slice a1 p.hn c1) 35).below hb2)
 have Ho2:=hide (Ho1.out.below hax)
 have hB2:=below_next hB1 hax
 generalize w1.heap.size=OUT at hz1 HO2 Ho2 ⊢
 clear hal hb2 hax HB1 HR1 Ho1 hB1 x0 x1 x2 x3
 by_cases hR:Right p
 ·have HRt:=hide hR
  obtain rfl:t=true:=ht.2 hR
  clear ht hR
  have hzo:OUT<w2.heap.size:=HO2.out.1.lt
  go_wp2
  go_loopw [4] (fun i wr=>∃k:Nat,k≤p.hn∧i = .int .i64 k∧Box2 wr w.heap.size (.slice a p.n c) (.slice a' p.hn c')∧Box2 wr (w.heap.size+1) (.slice none 0 0) (.slice none 0 0)∧Box2 wr OUT (.slice a0 p.n c0) (.slice a1 p.hn c1)∧
    PoolOwn wr (w.heap.size+1+1) OUT (.slice a0 p.n c0) (.slice a1 p.hn c1) (freed p k)∧Below w.heap.size w wr∧OUT<wr.heap.size) (fun i _=>p.hn - (intOf i).toNat)
  case atStart=>exact⟨0,Nat.zero_le _,rfl,HB2.out,HR2.out,HO2.out,by rw [freed_zero]; exact Ho2.out,hB2,hzo⟩
  case round=>
   obtain⟨k,hk,rfl,hx,hr,ho,hpo,hb,hzr⟩:=hrel
   have Hx:=hide hx
   have Hr:=hide hr
   have Ho:=hide ho
   have Hpo:=hide hpo
   clear hx hr ho hpo
   obtain⟨⟨x0,x1⟩,⟨x2,x3⟩⟩:=Hx.out
   obtain⟨⟨y0,y1⟩,⟨y2,y3⟩⟩:=Ho.out
   by_cases hlt:k<p.hn
   ·have hlt':(k:Int)<(p.hn:Int):=by omega
    obtain⟨hh1,hh2,_⟩:=HRt.out.2.2 k hlt
    obtain⟨m,hm⟩:=Int.eq_ofNat_of_zero_le hh1
    rw [hm] at hh1 hh2
    have hmn:m<p.n:=by omega
    obtain⟨hb0,ho0,rfl,hcell⟩:=held_cell Hp.out.2 hlt
    rw [hm] at hcell
    have hbw:hb0<w.heap.size:=lt_of_cell hcell
    have hcell':=(hb.cell (p:=⟨hb0,ho0+k,none⟩) hbw).trans hcell
    obtain⟨bs,off,rfl,hbs,⟨q0,q1,q2,⟨r0,r1⟩,⟨r2,r3⟩,⟨r4,r5⟩⟩,hset⟩:=Hpo.out.set (i:=m) hmn
    have Hset:=hide (hset zeroS 0 (.slice none 0 0) (w.heap.size+1+1) OUT ⟨Nat.zero_le _,none,0,rfl,Nat.le_refl _,fun h=>absurd h (Nat.lt_irrefl _)⟩ (Nat.zero_le _) (fun h=>absurd h (Nat.lt_irrefl _)) (Nat.le_refl _) (Nat.le_refl _))
    have Hm:=hide hm
    have n0:bs≠w.heap.size:=by omega
    have n1:bs≠OUT:=by omega
    have n2:bs≠hb0:=by omega
    clear hset hcell hm
    go_wp2_with fail
    go_region_held3 (fun w'=>w'.cell? ⟨w.heap.size,1,none⟩=some (.slice (some ⟨hb0,ho0,none⟩) p.hn c')∧w'.cell? ⟨OUT,0,none⟩=some (.slice (some ⟨bs,off,none⟩) p.n c0)∧w'.cell? ⟨hb0,ho0+k,none⟩=some (.int .i64 (m:Int))) (go_keep) (fail)
    have tX:=((Turned.put wr bs (off+m*3) (.int .i64 0)).trans (Turned.put _ bs (off+m*3+1) (.slice none 0 0))).trans (Turned.put _ bs (off+m*3+2) (.string ⟨#[]⟩))
    have HX1:=hide ((Hx.out.turned tX (by omega)).below (Below.refl _ _).drew)
    have HR1:=hide ((Hr.out.turned tX (by omega)).below (Below.refl _ _).drew)
    have HO1:=hide ((Ho.out.turned tX (by omega)).below (Below.refl _ _).drew)
    have hB1:=(hb.trans (tX.below (by omega) (fun k hk=>by omega))).drew
    have hz:=tX.size
    have HP1:=hide (Hset.out.below (Below.refl _ _).drew)
    clear tX Hset
    go_wp2
    go_roundw
    case rel=>
     refine⟨k+1,by omega,by go_num,HX1.out,HR1.out,HO1.out,?_,hB1,by simp only [World.size_setCell,World.size_drew] at *; omega⟩
     rw [freed_succ Hm.out]
     exact HP1.out
    case measure=>simp [intOf]; omega
   ·obtain rfl:k=p.hn:=by omega
    have HoS:=hide ((Hpo.out.turned (Turned.put wr OUT 1 (.slice none 0 0)) (fun k hk=>by omega)).noHeld)
    have HXS:=hide (Hx.out.other (b':=OUT) (o':=1) (.slice none 0 0) (by omega))
    have HRS:=hide (Hr.out.other (b':=OUT) (o':=1) (.slice none 0 0) (by omega))
    have HOS:Hid (Box2 (wr.setCell ⟨OUT,1,none⟩ (.slice none 0 0)) OUT (.slice a0 p.n c0) (.slice none 0 0)):=⟨Ho.out.1.other _ (Or.inr (by omega)),Ho.out.2.set _⟩
    have hBS:=hb.setCell (p:=⟨OUT,1,none⟩) (by show _≤OUT; omega) (.slice none 0 0)
    go_wp2_with fail
    refine(specPoolRight_any _ _ (w.heap.size+1+1) OUT (swept p) _ HoS.out.at).mono ?_
    rintro e w3 ⟨⟨t,rfl,ht⟩,hb3⟩
    have HX3:=hide (HXS.out.below hb3)
    have HR3:=hide (HRS.out.below hb3)
    have HO3:=hide (HOS.out.below hb3)
    have Ho3:=hide (HoS.out.below hb3)
    have hB3:=below_next hBS hb3
    have hz3:OUT<w3.heap.size:=HO3.out.1.lt
    clear hb3 HoS HXS HRS HOS hBS x0 x1 x2 x3 y0 y1 y2 y3
    by_cases hS:Right (swept p)
    ·have HS:=hide hS
     obtain rfl:t=true:=ht.2 hS
     clear ht hS
     obtain⟨⟨y0,y1⟩,⟨y2,y3⟩⟩:=HO3.out
     obtain⟨⟨u0,u1⟩,⟨u2,u3⟩⟩:=HR3.out
     go_wp2
     have HR6:=HR3.out.put (.slice a0 p.n c0) (.slice none 0 0)
     have hpr:=pool_ret (R:=w.heap.size+1) Ho3.out (by omega) (by omega) (by omega) hB3
     refine bodyPost_ret (v:=.agg #[.slice a0 p.n c0,.slice none 0 0]) (by simp [results,Tryz.results25,go_sem,HR6.1.1,HR6.2.1]) rfl ⟨_,_,rfl,?_,hpr.2⟩
     rw [sync_yes HRt.out HS.out]
     exact hpr.1
    ·have HS:=hide hS
     obtain rfl:t=false:=bool_no ht hS
     clear ht hS
     obtain⟨⟨y0,y1⟩,⟨y2,y3⟩⟩:=HX3.out
     go_wp2_with fail
     refine(l01Copy_any _ _ lo hi p _ (Hp.out.below hB3) Hn.out).mono ?_
     rintro e w4 ⟨s0,s1,rfl,ho4,hb4⟩
     obtain⟨a4,c4,a5,c5,rfl,rfl⟩:=ho4.form
     have HR4:=hide (HR3.out.below hb4)
     have Ho4:=hide ho4
     have hB4:=below_next hB3 hb4
     clear ho4 hb4
     obtain⟨⟨u0,u1⟩,⟨u2,u3⟩⟩:=HR4.out
     go_wp2
     have HR6:=HR4.out.put (.slice a4 p.n c4) (.slice a5 p.hn c5)
     have hpr:=pool_ret (R:=w.heap.size+1) Ho4.out (by omega) (by omega) (Nat.le_refl _) hB4
     refine bodyPost_ret (v:=.agg #[.slice a4 p.n c4,.slice a5 p.hn c5]) (by simp [results,Tryz.results25,go_sem,HR6.1.1,HR6.2.1]) rfl ⟨_,_,rfl,?_,hpr.2⟩
     rw [sync_no (fun h=>HS.out h.2)]
     exact hpr.1
 ·have HRt:=hide hR
  obtain rfl:t=false:=bool_no ht hR
  clear ht hR
  obtain⟨⟨y0,y1⟩,⟨y2,y3⟩⟩:=HO2.out
  obtain⟨⟨u0,u1⟩,⟨u2,u3⟩⟩:=HR2.out
  have hzo:OUT<w2.heap.size:=HO2.out.1.lt
  go_wp2
  have HR6:=HR2.out.put (.slice a0 p.n c0) (.slice a1 p.hn c1)
  have hpr:=pool_ret (R:=w.heap.size+1) Ho2.out (by omega) (by omega) (by omega) hB2
  refine bodyPost_ret (v:=.agg #[.slice a0 p.n c0,.slice a1 p.hn c1]) (by simp [results,Tryz.results25,go_sem,HR6.1.1,HR6.2.1]) rfl ⟨_,_,rfl,?_,hpr.2⟩
  rw [sync_no (fun h=>HRt.out h.1)]
  exact hpr.1
set_option maxRecDepth 20000 in
set_option maxHeartbeats 2000000 in
theorem implPoolSync_any(v0 v1:Value)(lo hi:Nat)(p:PoolD)(w:World)(h1:PoolAt w lo hi v0 v1 p)(hn:poolN p≤1048576):Calls Tryz.prog 195 #[.agg #[v0,v1]] w (NewPool (syncP p) w):=by
 have Hp:=hide h1
 obtain⟨a,c,a',c',rfl,rfl⟩:=h1.form
 have Hn:=hide hn
 have hm1:p.n≤2 ^ 63 - 1:=h1.1.1
 have hm2:p.hn≤2 ^ 63 - 1:=h1.2.1
 have mc:p.n≤c:=by obtain⟨⟨_,_,_,e,h,_⟩,_⟩:=h1; simp only [Value.slice.injEq,true_and] at e; omega
 have mc':p.hn≤c':=by obtain⟨_,⟨_,_,_,e,h,_⟩⟩:=h1; simp only [Value.slice.injEq,true_and] at e; omega
 clear h1 hn
 have hba:=below_next (below_alloc w (.cells #[.slice a p.n c,.slice a' p.hn c'] 35)) (below_alloc _ (.cells #[.slice none 0 0,.slice none 0 0] 35))
 have HB:=hide ((Box2.new w (.slice a p.n c) (.slice a' p.hn c') 35).below (below_alloc _ (.cells #[.slice none 0 0,.slice none 0 0] 35)))
 have hr3:=Box2.new (w.alloc (.cells #[.slice a p.n c,.slice a' p.hn c'] 35)) (.slice none 0 0) (.slice none 0 0) 35
 rw [World.size_alloc] at hr3
 have HR:=hide hr3
 clear hr3
 go_enter Tryz.func195,Tryz.ntmps195
 go_wp2_with fail
 refine(clonePool_any _ _ lo hi p _ (Hp.out.below hba) Hn.out).mono ?_
 rintro e w1 ⟨s0,s1,rfl,ho1,hb1⟩
 rw [World.size_alloc,World.size_alloc] at ho1
 have HB1:=hide (HB.out.below hb1)
 have HR1:=hide (HR.out.below hb1)
 have hB1:=below_next hba hb1
 have hz1:w.heap.size+2≤w1.heap.size:=by have:=hb1.size; rw [World.size_alloc,World.size_alloc] at this; omega
 obtain⟨a0,c0,a1,c1,rfl,rfl⟩:=ho1.form
 have Ho1:=hide ho1
 clear ho1 hb1 hba HB HR
 have hal:=below_alloc w1 (.cells #[.slice a0 p.n c0,.slice a1 p.hn c1] 35)
 obtain⟨⟨x0,x1⟩,⟨x2,x3⟩⟩:=HB1.out.below hal
 go_wp2_with fail
 refine(implPoolRight_any _ _ lo hi p _ (Hp.out.below (below_next hB1 hal))).mono ?_
 rintro e w2 ⟨⟨t,rfl,ht⟩,hb2⟩
 have hax:=below_next hal hb2
 have HB2:=hide (HB1.out.below hax)
 have HR2:=hide (HR1.out.below hax)
 have HO2:=hide ((Box2.new w1 (.slice a0 p.n c0) (.slice a1 p.hn c1) 35).below hb2)
 have Ho2:=hide (Ho1.out.below hax)
 have hB2:=below_next hB1 hax
 generalize w1.heap.size=OUT at hz1 HO2 Ho2 ⊢
 clear hal hb2 hax HB1 HR1 Ho1 hB1 x0 x1 x2 x3
 by_cases hR:Right p
 ·have HRt:=hide hR
  obtain rfl:t=true:=ht.2 hR
  clear ht hR
  obtain⟨⟨x0,x1⟩,⟨x2,x3⟩⟩:=HB2.out
  go_wp2_with fail
  refine(heldNeeded_any _ _ lo hi p _ (Hp.out.below hB2) (fun i hi=>sync_kn HRt.out hi)).mono ?_
  rintro e w3 ⟨⟨t,rfl,ht⟩,hb3⟩
  have HB3:=hide (HB2.out.below hb3)
  have HR3:=hide (HR2.out.below hb3)
  have HO3:=hide (HO2.out.below hb3)
  have Ho3:=hide (Ho2.out.below hb3)
  have hB3:=below_next hB2 hb3
  have hzo:OUT<w3.heap.size:=HO3.out.1.lt
  clear hb3 HB2 HR2 HO2 Ho2 hB2 x0 x1 x2 x3
  by_cases hN:Needed p
  ·have HN:=hide ((needed_iff HRt.out).1 hN)
   obtain rfl:t=true:=ht.2 hN
   clear ht hN
   obtain⟨⟨y0,y1⟩,⟨y2,y3⟩⟩:=HO3.out
   obtain⟨⟨u0,u1⟩,⟨u2,u3⟩⟩:=HR3.out
   go_wp2
   have HR6:=HR3.out.put (.slice a0 p.n c0) (.slice a1 p.hn c1)
   have hpr:=pool_ret (R:=w.heap.size+1) Ho3.out (by omega) (by omega) (by omega) hB3
   refine bodyPost_ret (v:=.agg #[.slice a0 p.n c0,.slice a1 p.hn c1]) (by simp [results,Tryz.results195,go_sem,HR6.1.1,HR6.2.1]) rfl ⟨_,_,rfl,?_,hpr.2⟩
   rw [sync_no (fun h=>HN.out h.2)]
   exact hpr.1
  ·have HS:Hid (Right (swept p)):=Classical.byContradiction (fun h=>hN ((needed_iff HRt.out).2 h))
   obtain rfl:t=false:=bool_no ht hN
   clear ht hN
   obtain⟨⟨x0,x1⟩,⟨x2,x3⟩⟩:=HB3.out
   go_wp2
   go_loopw [5,19] (fun _ i wr=>∃k:Nat,k≤p.hn∧i = .int .i64 k∧Box2 wr (w.heap.size+1) (.slice none 0 0) (.slice none 0 0)∧Box2 wr OUT (.slice a0 p.n c0) (.slice a1 p.hn c1)∧
     PoolOwn wr (w.heap.size+1+1) OUT (.slice a0 p.n c0) (.slice a1 p.hn c1) (freed p k)∧Below w.heap.size w wr∧OUT<wr.heap.size) (fun _ i _=>p.hn - (intOf i).toNat)
   case atStart=>exact⟨0,Nat.zero_le _,rfl,HR3.out,HO3.out,by rw [freed_zero]; exact Ho3.out,hB3,hzo⟩
   case round=>
    obtain⟨k,hk,rfl,hr,ho,hpo,hb,hzr⟩:=hrel
    have Hr:=hide hr
    have Ho:=hide ho
    have Hpo:=hide hpo
    clear hr ho hpo
    obtain⟨⟨y0,y1⟩,⟨y2,y3⟩⟩:=Ho.out
    by_cases hlt:k<p.hn
    ·have hlt':(k:Int)<(p.hn:Int):=by omega
     obtain⟨hh1,hh2,_⟩:=HRt.out.2.2 k hlt
     obtain⟨m,hm⟩:=Int.eq_ofNat_of_zero_le hh1
     rw [hm] at hh1 hh2
     have hmn:m<p.n:=by omega
     obtain⟨hb0,ho0,rfl,hcell⟩:=held_cell Hp.out.2 hlt
     rw [hm] at hcell
     have hbw:hb0<w.heap.size:=lt_of_cell hcell
     have hcell':=(hb.cell (p:=⟨hb0,ho0+k,none⟩) hbw).trans hcell
     obtain⟨bs,off,rfl,hbs,⟨q0,q1,q2,⟨r0,r1⟩,⟨r2,r3⟩,⟨r4,r5⟩⟩,hset⟩:=Hpo.out.set (i:=m) hmn
     have Hset:=hide (hset zeroS 0 (.slice none 0 0) (w.heap.size+1+1) OUT ⟨Nat.zero_le _,none,0,rfl,Nat.le_refl _,fun h=>absurd h (Nat.lt_irrefl _)⟩ (Nat.zero_le _) (fun h=>absurd h (Nat.lt_irrefl _)) (Nat.le_refl _) (Nat.le_refl _))
     have Hm:=hide hm
     have tX:=((Turned.put wr bs (off+m*3) (.int .i64 0)).trans (Turned.put _ bs (off+m*3+1) (.slice none 0 0))).trans (Turned.put _ bs (off+m*3+2) (.string ⟨#[]⟩))
     have HR1:=hide (Hr.out.turned tX (by omega))
     have HO1:=hide (Ho.out.turned tX (by omega))
     have hB1:=hb.trans (tX.below (by omega) (fun k hk=>by omega))
     have hz:=tX.size
     clear hset hcell hm tX
     go_wp2
     go_roundw
     case rel=>
      refine⟨k+1,by omega,by go_num,HR1.out,HO1.out,?_,hB1,by omega⟩
      rw [freed_succ Hm.out]
      exact Hset.out
     case measure=>simp [intOf]; omega
    ·obtain rfl:k=p.hn:=by omega
     have HoS:=hide ((Hpo.out.turned (Turned.put wr OUT 1 (.slice none 0 0)) (fun k hk=>by omega)).noHeld)
     have HRS:=hide (Hr.out.other (b':=OUT) (o':=1) (.slice none 0 0) (by omega))
     have HOS:Hid (Box2 (wr.setCell ⟨OUT,1,none⟩ (.slice none 0 0)) OUT (.slice a0 p.n c0) (.slice none 0 0)):=⟨Ho.out.1.other _ (Or.inr (by omega)),Ho.out.2.set _⟩
     have hBS:=hb.setCell (p:=⟨OUT,1,none⟩) (by show _≤OUT; omega) (.slice none 0 0)
     have hz3:OUT<(wr.setCell ⟨OUT,1,none⟩ (.slice none 0 0)).heap.size:=HOS.out.1.lt
     obtain⟨⟨u0,u1⟩,⟨u2,u3⟩⟩:=HRS.out
     obtain⟨⟨t0,t1⟩,⟨t2,t3⟩⟩:=HOS.out
     go_wp2
     have HR6:=HRS.out.put (.slice a0 p.n c0) (.slice none 0 0)
     have hpr:=pool_ret (R:=w.heap.size+1) HoS.out (by omega) (by omega) (by omega) hBS
     refine bodyPost_ret (v:=.agg #[.slice a0 p.n c0,.slice none 0 0]) (by simp [results,Tryz.results195,go_sem,HR6.1.1,HR6.2.1]) rfl ⟨_,_,rfl,?_,hpr.2⟩
     rw [sync_yes HRt.out HS.out]
     exact hpr.1
 ·have HRt:=hide hR
  obtain rfl:t=false:=bool_no ht hR
  clear ht hR
  obtain⟨⟨y0,y1⟩,⟨y2,y3⟩⟩:=HO2.out
  obtain⟨⟨u0,u1⟩,⟨u2,u3⟩⟩:=HR2.out
  have hzo:OUT<w2.heap.size:=HO2.out.1.lt
  go_wp2
  have HR6:=HR2.out.put (.slice a0 p.n c0) (.slice a1 p.hn c1)
  have hpr:=pool_ret (R:=w.heap.size+1) Ho2.out (by omega) (by omega) (by omega) hB2
  refine bodyPost_ret (v:=.agg #[.slice a0 p.n c0,.slice a1 p.hn c1]) (by simp [results,Tryz.results195,go_sem,HR6.1.1,HR6.2.1]) rfl ⟨_,_,rfl,?_,hpr.2⟩
  rw [sync_no (fun h=>HRt.out h.1)]
  exact hpr.1
end Go.Proofs.YtihplgckbhnohaaGreatDoor
