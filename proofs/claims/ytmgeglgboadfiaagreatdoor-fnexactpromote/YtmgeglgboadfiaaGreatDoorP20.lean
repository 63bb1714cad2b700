/- A variable of twelve cells (no law is proved here). -/
import Derived.Test.YtmgeglgboadfiaaGreatDoorP1
import Derived.Test.YtmgeglgboadfiaaGreatDoorP18
import Derived.Test.YtmgeglgboadfiaaGreatDoorP19
import Derived.Test.YtmgeglgboadfiaaGreatDoorP3
namespace Go.Proofs.YtmgeglgboadfiaaGreatDoor
open Go.RowKit
set_option linter.unusedVariables false
def Box12(w:World)(b:Nat)(v0 v1 v2 v3 v4 v5 v6 v7 v8 v9 v10 v11:Value):Prop:=Cell w b 0 v0∧Cell w b 1 v1∧Cell w b 2 v2∧Cell w b 3 v3∧Cell w b 4 v4∧Cell w b 5 v5∧Cell w b 6 v6∧Cell w b 7 v7∧Cell w b 8 v8∧Cell w b 9 v9∧Cell w b 10 v10∧Cell w b 11 v11
theorem Box12.below{w w':World}{b:Nat}{v0 v1 v2 v3 v4 v5 v6 v7 v8 v9 v10 v11:Value}(h:Box12 w b v0 v1 v2 v3 v4 v5 v6 v7 v8 v9 v10 v11)(t:Below w.heap.size w w'):Box12 w' b v0 v1 v2 v3 v4 v5 v6 v7 v8 v9 v10 v11:=⟨h.1.below t,h.2.1.below t,h.2.2.1.below t,h.2.2.2.1.below t,h.2.2.2.2.1.below t,h.2.2.2.2.2.1.below t,h.2.2.2.2.2.2.1.below t,h.2.2.2.2.2.2.2.1.below t,h.2.2.2.2.2.2.2.2.1.below t,h.2.2.2.2.2.2.2.2.2.1.below t,h.2.2.2.2.2.2.2.2.2.2.1.below t,h.2.2.2.2.2.2.2.2.2.2.2.below t⟩
theorem Box12.turned{S:Nat→Prop}{w w':World}{b:Nat}{v0 v1 v2 v3 v4 v5 v6 v7 v8 v9 v10 v11:Value}(h:Box12 w b v0 v1 v2 v3 v4 v5 v6 v7 v8 v9 v10 v11)(t:Turned S w w')(hs:¬S b):Box12 w' b v0 v1 v2 v3 v4 v5 v6 v7 v8 v9 v10 v11:=⟨h.1.turned t hs,h.2.1.turned t hs,h.2.2.1.turned t hs,h.2.2.2.1.turned t hs,h.2.2.2.2.1.turned t hs,h.2.2.2.2.2.1.turned t hs,h.2.2.2.2.2.2.1.turned t hs,h.2.2.2.2.2.2.2.1.turned t hs,h.2.2.2.2.2.2.2.2.1.turned t hs,h.2.2.2.2.2.2.2.2.2.1.turned t hs,h.2.2.2.2.2.2.2.2.2.2.1.turned t hs,h.2.2.2.2.2.2.2.2.2.2.2.turned t hs⟩
theorem Box12.new(w:World)(v0 v1 v2 v3 v4 v5 v6 v7 v8 v9 v10 v11:Value)(t:TypeId):Box12 (w.alloc (.cells #[v0,v1,v2,v3,v4,v5,v6,v7,v8,v9,v10,v11] t)) w.heap.size v0 v1 v2 v3 v4 v5 v6 v7 v8 v9 v10 v11:=by
 have hb:(w.alloc (.cells #[v0,v1,v2,v3,v4,v5,v6,v7,v8,v9,v10,v11] t)).heap[w.heap.size]?=some (.cells #[v0,v1,v2,v3,v4,v5,v6,v7,v8,v9,v10,v11] t):=heap_alloc_new _ _
 exact⟨cell_of_block hb rfl,cell_of_block hb rfl,cell_of_block hb rfl,cell_of_block hb rfl,cell_of_block hb rfl,cell_of_block hb rfl,cell_of_block hb rfl,cell_of_block hb rfl,cell_of_block hb rfl,cell_of_block hb rfl,cell_of_block hb rfl,cell_of_block hb rfl⟩
abbrev put12(w:World)(b:Nat)(u0 u1 u2 u3 u4 u5 u6 u7 u8 u9 u10 u11:Value):World:=(((((((((((w.setCell ⟨b,0,none⟩ u0).setCell ⟨b,1,none⟩ u1).setCell ⟨b,2,none⟩ u2).setCell ⟨b,3,none⟩ u3).setCell ⟨b,4,none⟩ u4).setCell ⟨b,5,none⟩ u5).setCell ⟨b,6,none⟩ u6).setCell ⟨b,7,none⟩ u7).setCell ⟨b,8,none⟩ u8).setCell ⟨b,9,none⟩ u9).setCell ⟨b,10,none⟩ u10).setCell ⟨b,11,none⟩ u11
theorem Box12.put{w:World}{b:Nat}{v0 v1 v2 v3 v4 v5 v6 v7 v8 v9 v10 v11:Value}(h:Box12 w b v0 v1 v2 v3 v4 v5 v6 v7 v8 v9 v10 v11)(u0 u1 u2 u3 u4 u5 u6 u7 u8 u9 u10 u11:Value):Box12 (put12 w b u0 u1 u2 u3 u4 u5 u6 u7 u8 u9 u10 u11) b u0 u1 u2 u3 u4 u5 u6 u7 u8 u9 u10 u11:=by
 obtain⟨h0,h1,h2,h3,h4,h5,h6,h7,h8,h9,h10,h11⟩:=h
 refine⟨?_,?_,?_,?_,?_,?_,?_,?_,?_,?_,?_,?_⟩
 ·exact(((((((((((h0.set _).other _ (Or.inr (by omega))).other _ (Or.inr (by omega))).other _ (Or.inr (by omega))).other _ (Or.inr (by omega))).other _ (Or.inr (by omega))).other _ (Or.inr (by omega))).other _ (Or.inr (by omega))).other _ (Or.inr (by omega))).other _ (Or.inr (by omega))).other _ (Or.inr (by omega))).other _ (Or.inr (by omega))
 ·exact(((((((((((h1.other _ (Or.inr (by omega))).set _).other _ (Or.inr (by omega))).other _ (Or.inr (by omega))).other _ (Or.inr (by omega))).other _ (Or.inr (by omega))).other _ (Or.inr (by omega))).other _ (Or.inr (by omega))).other _ (Or.inr (by omega))).other _ (Or.inr (by omega))).other _ (Or.inr (by omega))).other _ (Or.inr (by omega))
 ·exact(((((((((((h2.other _ (Or.inr (by omega))).other _ (Or.inr (by omega))).set _).other _ (Or.inr (by omega))).other _ (Or.inr (by omega))).other _ (Or.inr (by omega))).other _ (Or.inr (by omega))).other _ (Or.inr (by omega))).other _ (Or.inr (by omega))).other _ (Or.inr (by omega))).other _ (Or.inr (by omega))).other _ (Or.inr (by omega))
 ·exact(((((((((((h3.other _ (Or.inr (by omega))).other _ (Or.inr (by omega))).other _ (Or.inr (by omega))).set _).other _ (Or.inr (by omega))).other _ (Or.inr (by omega))).other _ (Or.inr (by omega))).other _ (Or.inr (by omega))).other _ (Or.inr (by omega))).other _ (Or.inr (by omega))).other _ (Or.inr (by omega))).other _ (Or.inr (by omega))
 ·exact(((((((((((h4.other _ (Or.inr (by omega))).other _ (Or.inr (by omega))).other _ (Or.inr (by omega))).other _ (Or.inr (by omega))).set _).other _ (Or.inr (by omega))).other _ (Or.inr (by omega))).other _ (Or.inr (by omega))).other _ (Or.inr (by omega))).other _ (Or.inr (by omega))).other _ (Or.inr (by omega))).other _ (Or.inr (by omega))
 ·exact(((((((((((h5.other _ (Or.inr (by omega))).other _ (Or.inr (by omega))).other _ (Or.inr (by omega))).other _ (Or.inr (by omega))).other _ (Or.inr (by omega))).set _).other _ (Or.inr (by omega))).other _ (Or.inr (by omega))).other _ (Or.inr (by omega))).other _ (Or.inr (by omega))).other _ (Or.inr (by omega))).other _ (Or.inr (by omega))
 ·exact(((((((((((h6.other _ (Or.inr (by omega))).other _ (Or.inr (by omega))).other _ (Or.inr (by omega))).other _ (Or.inr (by omega))).other _ (Or.inr (by omega))).other _ (Or.inr (by omega))).set _).other _ (Or.inr (by omega))).other _ (Or.inr (by omega))).other _ (Or.inr (by omega))).other _ (Or.inr (by omega))).other _ (Or.inr (by omega))
 ·exact(((((((((((h7.other _ (Or.inr (by omega))).other _ (Or.inr (by omega))).other _ (Or.inr (by omega))).other _ (Or.inr (by omega))).other _ (Or.inr (by omega))).other _ (Or.inr (by omega))).other _ (Or.inr (by omega))).set _).other _ (Or.inr (by omega))).other _ (Or.inr (by omega))).other _ (Or.inr (by omega))).other _ (Or.inr (by omega))
 ·exact(((((((((((h8.other _ (Or.inr (by omega))).other _ (Or.inr (by omega))).other _ (Or.inr (by omega))).other _ (Or.inr (by omega))).other _ (Or.inr (by omega))).other _ (Or.inr (by omega))).other _ (Or.inr (by omega))).other _ (Or.inr (by omega))).set _).other _ (Or.inr (by omega))).other _ (Or.inr (by omega))).other _ (Or.inr (by omega))
 ·exact(((((((((((h9.other _ (Or.inr (by omega))).other _ (Or.inr (by omega))).other _ (Or.inr (by omega))).other _ (Or.inr (by omega))).other _ (Or.inr (by omega))).other _ (Or.inr (by omega))).other _ (Or.inr (by omega))).other _ (Or.inr (by omega))).other _ (Or.inr (by omega))).set _).other _ (Or.inr (by omega))).other _ (Or.inr (by omega))
 ·exact(((((((((((h10.other _ (Or.inr (by omega))).other _ (Or.inr (by omega))).other _ (Or.inr (by omega))).other _ (Or.inr (by omega))).other _ (Or.inr (by omega))).other _ (Or.inr (by omega))).other _ (Or.inr (by omega))).other _ (Or.inr (by omega))).other _ (Or.inr (by omega))).other _ (Or.inr (by omega))).set _).other _ (Or.inr (by omega))
 ·exact(((((((((((h11.other _ (Or.inr (by omega))).other _ (Or.inr (by omega))).other _ (Or.inr (by omega))).other _ (Or.inr (by omega))).other _ (Or.inr (by omega))).other _ (Or.inr (by omega))).other _ (Or.inr (by omega))).other _ (Or.inr (by omega))).other _ (Or.inr (by omega))).other _ (Or.inr (by omega))).other _ (Or.inr (by omega))).set _
theorem Turned.put12(w:World)(b:Nat)(u0 u1 u2 u3 u4 u5 u6 u7 u8 u9 u10 u11:Value):Turned (fun k=>k=b) w (put12 w b u0 u1 u2 u3 u4 u5 u6 u7 u8 u9 u10 u11):=
 (((((((((((Turned.put w b 0 u0).trans (Turned.put _ b 1 u1)).trans (Turned.put _ b 2 u2)).trans (Turned.put _ b 3 u3)).trans (Turned.put _ b 4 u4)).trans (Turned.put _ b 5 u5)).trans (Turned.put _ b 6 u6)).trans (Turned.put _ b 7 u7)).trans (Turned.put _ b 8 u8)).trans (Turned.put _ b 9 u9)).trans (Turned.put _ b 10 u10)).trans (Turned.put _ b 11 u11)
def noW:WorldD:={pool:=newP 0,time:=0,next:=0,sn:=0,sets:=fun _=>⟨⟨#[]⟩,0,0,0,0,0,fun _=>0,fun _=>0⟩,pn:=0,snaps:=fun _=>⟨0,⟨#[]⟩,⟨#[]⟩,0,0,0,0,0,fun _=>0,fun _=>0⟩}
theorem noW_own{w:World}{lo hi:Nat}:WorldOwn w lo hi (.slice none 0 0) (.slice none 0 0) (.slice none 0 0) (.slice none 0 0) noW:=by
 refine⟨fun k=>lo≤k∧k<hi,fun _=>False,fun _=>False,⟨(none_own (lo:=lo) (hi:=hi)).isIn (fun k h1 h2=>⟨h1,h2⟩),?_,?_,fun _ _ h=>h,fun _ _ h=>h,fun _ h=>h.elim⟩,fun k hk=>?_⟩
 ·exact⟨0,fun _=>0,fun _=>.slice none 0 0,⟨Nat.zero_le _,none,0,rfl,Nat.le_refl _,fun h=>absurd h (Nat.lt_irrefl _)⟩,fun i j hi=>absurd hi (Nat.not_lt_zero _),fun k hk=>by
   rcases hk with⟨h,_⟩ | ⟨i,h,_⟩
   ·exact absurd h (Nat.lt_irrefl _)
   ·exact absurd h (Nat.not_lt_zero _)⟩
 ·exact⟨0,fun _=>0,fun _=>.slice none 0 0,⟨Nat.zero_le _,none,0,rfl,Nat.le_refl _,fun h=>absurd h (Nat.lt_irrefl _)⟩,fun i j hi=>absurd hi (Nat.not_lt_zero _),fun k hk=>by
   rcases hk with⟨h,_⟩ | ⟨i,h,_⟩
   ·exact absurd h (Nat.lt_irrefl _)
   ·exact absurd h (Nat.not_lt_zero _)⟩
 ·rcases hk with h | h | h
  ·exact h
  ·exact h.elim
  ·exact h.elim
def Box9(w:World)(b:Nat)(v0 v1 v2 v3 v4 v5 v6 v7 v8:Value):Prop:=Cell w b 0 v0∧Cell w b 1 v1∧Cell w b 2 v2∧Cell w b 3 v3∧Cell w b 4 v4∧Cell w b 5 v5∧Cell w b 6 v6∧Cell w b 7 v7∧Cell w b 8 v8
theorem Box9.below{w w':World}{b:Nat}{v0 v1 v2 v3 v4 v5 v6 v7 v8:Value}(h:Box9 w b v0 v1 v2 v3 v4 v5 v6 v7 v8)(t:Below w.heap.size w w'):Box9 w' b v0 v1 v2 v3 v4 v5 v6 v7 v8:=⟨h.1.below t,h.2.1.below t,h.2.2.1.below t,h.2.2.2.1.below t,h.2.2.2.2.1.below t,h.2.2.2.2.2.1.below t,h.2.2.2.2.2.2.1.below t,h.2.2.2.2.2.2.2.1.below t,h.2.2.2.2.2.2.2.2.below t⟩
theorem Box9.turned{S:Nat→Prop}{w w':World}{b:Nat}{v0 v1 v2 v3 v4 v5 v6 v7 v8:Value}(h:Box9 w b v0 v1 v2 v3 v4 v5 v6 v7 v8)(t:Turned S w w')(hs:¬S b):Box9 w' b v0 v1 v2 v3 v4 v5 v6 v7 v8:=⟨h.1.turned t hs,h.2.1.turned t hs,h.2.2.1.turned t hs,h.2.2.2.1.turned t hs,h.2.2.2.2.1.turned t hs,h.2.2.2.2.2.1.turned t hs,h.2.2.2.2.2.2.1.turned t hs,h.2.2.2.2.2.2.2.1.turned t hs,h.2.2.2.2.2.2.2.2.turned t hs⟩
theorem Box9.new(w:World)(v0 v1 v2 v3 v4 v5 v6 v7 v8:Value)(t:TypeId):Box9 (w.alloc (.cells #[v0,v1,v2,v3,v4,v5,v6,v7,v8] t)) w.heap.size v0 v1 v2 v3 v4 v5 v6 v7 v8:=by
 have hb:(w.alloc (.cells #[v0,v1,v2,v3,v4,v5,v6,v7,v8] t)).heap[w.heap.size]?=some (.cells #[v0,v1,v2,v3,v4,v5,v6,v7,v8] t):=heap_alloc_new _ _
 exact⟨cell_of_block hb rfl,cell_of_block hb rfl,cell_of_block hb rfl,cell_of_block hb rfl,cell_of_block hb rfl,cell_of_block hb rfl,cell_of_block hb rfl,cell_of_block hb rfl,cell_of_block hb rfl⟩
abbrev put9(w:World)(b:Nat)(u0 u1 u2 u3 u4 u5 u6 u7 u8:Value):World:=((((((((w.setCell ⟨b,0,none⟩ u0).setCell ⟨b,1,none⟩ u1).setCell ⟨b,2,none⟩ u2).setCell ⟨b,3,none⟩ u3).setCell ⟨b,4,none⟩ u4).setCell ⟨b,5,none⟩ u5).setCell ⟨b,6,none⟩ u6).setCell ⟨b,7,none⟩ u7).setCell ⟨b,8,none⟩ u8
theorem Box9.put{w:World}{b:Nat}{v0 v1 v2 v3 v4 v5 v6 v7 v8:Value}(h:Box9 w b v0 v1 v2 v3 v4 v5 v6 v7 v8)(u0 u1 u2 u3 u4 u5 u6 u7 u8:Value):Box9 (put9 w b u0 u1 u2 u3 u4 u5 u6 u7 u8) b u0 u1 u2 u3 u4 u5 u6 u7 u8:=by
 obtain⟨h0,h1,h2,h3,h4,h5,h6,h7,h8⟩:=h
 exact⟨(((((((((h0.set _).other _ (Or.inr (by omega))).other _ (Or.inr (by omega))).other _ (Or.inr (by omega))).other _ (Or.inr (by omega))).other _ (Or.inr (by omega))).other _ (Or.inr (by omega))).other _ (Or.inr (by omega))).other _ (Or.inr (by omega))),
  (((((((((h1.other _ (Or.inr (by omega))).set _).other _ (Or.inr (by omega))).other _ (Or.inr (by omega))).other _ (Or.inr (by omega))).other _ (Or.inr (by omega))).other _ (Or.inr (by omega))).other _ (Or.inr (by omega))).other _ (Or.inr (by omega))),
  (((((((((h2.other _ (Or.inr (by omega))).other _ (Or.inr (by omega))).set _).other _ (Or.inr (by omega))).other _ (Or.inr (by omega))).other _ (Or.inr (by omega))).other _ (Or.inr (by omega))).other _ (Or.inr (by omega))).other _ (Or.inr (by omega))),
  (((((((((h3.other _ (Or.inr (by omega))).other _ (Or.inr (by omega))).other _ (Or.inr (by omega))).set _).other _ (Or.inr (by omega))).other _ (Or.inr (by omega))).other _ (Or.inr (by omega))).other _ (Or.inr (by omega))).other _ (Or.inr (by omega))),
  (((((((((h4.other _ (Or.inr (by omega))).other _ (Or.inr (by omega))).other _ (Or.inr (by omega))).other _ (Or.inr (by omega))).set _).other _ (Or.inr (by omega))).other _ (Or.inr (by omega))).other _ (Or.inr (by omega))).other _ (Or.inr (by omega))),
  (((((((((h5.other _ (Or.inr (by omega))).other _ (Or.inr (by omega))).other _ (Or.inr (by omega))).other _ (Or.inr (by omega))).other _ (Or.inr (by omega))).set _).other _ (Or.inr (by omega))).other _ (Or.inr (by omega))).other _ (Or.inr (by omega))),
  (((((((((h6.other _ (Or.inr (by omega))).other _ (Or.inr (by omega))).other _ (Or.inr (by omega))).other _ (Or.inr (by omega))).other _ (Or.inr (by omega))).other _ (Or.inr (by omega))).set _).other _ (Or.inr (by omega))).other _ (Or.inr (by omega))),
  (((((((((h7.other _ (Or.inr (by omega))).other _ (Or.inr (by omega))).other _ (Or.inr (by omega))).other _ (Or.inr (by omega))).other _ (Or.inr (by omega))).other _ (Or.inr (by omega))).other _ (Or.inr (by omega))).set _).other _ (Or.inr (by omega))),
  (((((((((h8.other _ (Or.inr (by omega))).other _ (Or.inr (by omega))).other _ (Or.inr (by omega))).other _ (Or.inr (by omega))).other _ (Or.inr (by omega))).other _ (Or.inr (by omega))).other _ (Or.inr (by omega))).other _ (Or.inr (by omega))).set _)⟩
theorem Turned.put9(w:World)(b:Nat)(u0 u1 u2 u3 u4 u5 u6 u7 u8:Value):Turned (fun k=>k=b) w (put9 w b u0 u1 u2 u3 u4 u5 u6 u7 u8):=((((((((Turned.put w b 0 u0).trans (Turned.put _ b 1 u1)).trans (Turned.put _ b 2 u2)).trans (Turned.put _ b 3 u3)).trans (Turned.put _ b 4 u4)).trans (Turned.put _ b 5 u5)).trans (Turned.put _ b 6 u6)).trans (Turned.put _ b 7 u7)).trans (Turned.put _ b 8 u8)
structure WOutD where
 world:WorldD
 id:Int
 many:Int
 code:Int
abbrev woutV(v0 v1 v2 v3:Value)(o:WOutD):Value:=.agg #[v0,v1,.int .i64 o.world.time,.int .i64 o.world.next,v2,v3,.int .i64 o.id,.int .i64 o.many,.int .i64 o.code]
def NewWOut(o:WOutD)(w:World)(e:Ending)(w':World):Prop:=∃v0 v1 v2 v3,e = .returned (woutV v0 v1 v2 v3 o)∧WorldOwn w' w.heap.size w'.heap.size v0 v1 v2 v3 o.world∧Below w.heap.size w w'
theorem Box9.six{w:World}{b:Nat}{v0 v1 v2 v3 v4 v5 v6 v7 v8:Value}(h:Box9 w b v0 v1 v2 v3 v4 v5 v6 v7 v8)(u0 u1 u2 u3 u4 u5:Value):Box9 (put6 w b u0 u1 u2 u3 u4 u5) b u0 u1 u2 u3 u4 u5 v6 v7 v8:=by
 obtain⟨h0,h1,h2,h3,h4,h5,h6,h7,h8⟩:=h
 exact⟨((((((h0.set _).other _ (Or.inr (by omega))).other _ (Or.inr (by omega))).other _ (Or.inr (by omega))).other _ (Or.inr (by omega))).other _ (Or.inr (by omega))),((((((h1.other _ (Or.inr (by omega))).set _).other _ (Or.inr (by omega))).other _ (Or.inr (by omega))).other _ (Or.inr (by omega))).other _ (Or.inr (by omega))),((((((h2.other _ (Or.inr (by omega))).other _ (Or.inr (by omega))).set _).other _ (Or.inr (by omega))).other _ (Or.inr (by omega))).other _ (Or.inr (by omega))),((((((h3.other _ (Or.inr (by omega))).other _ (Or.inr (by omega))).other _ (Or.inr (by omega))).set _).other _ (Or.inr (by omega))).other _ (Or.inr (by omega))),((((((h4.other _ (Or.inr (by omega))).other _ (Or.inr (by omega))).other _ (Or.inr (by omega))).other _ (Or.inr (by omega))).set _).other _ (Or.inr (by omega))),((((((h5.other _ (Or.inr (by omega))).other _ (Or.inr (by omega))).other _ (Or.inr (by omega))).other _ (Or.inr (by omega))).other _ (Or.inr (by omega))).set _),((((((h6.other _ (Or.inr (by omega))).other _ (Or.inr (by omega))).other _ (Or.inr (by omega))).other _ (Or.inr (by omega))).other _ (Or.inr (by omega))).other _ (Or.inr (by omega))),((((((h7.other _ (Or.inr (by omega))).other _ (Or.inr (by omega))).other _ (Or.inr (by omega))).other _ (Or.inr (by omega))).other _ (Or.inr (by omega))).other _ (Or.inr (by omega))),((((((h8.other _ (Or.inr (by omega))).other _ (Or.inr (by omega))).other _ (Or.inr (by omega))).other _ (Or.inr (by omega))).other _ (Or.inr (by omega))).other _ (Or.inr (by omega)))⟩
theorem Cell.under{w w':World}{B b o:Nat}{v:Value}(h:Cell w b o v)(t:Below B w w')(hb:b<B):Cell w' b o v:=⟨(t.cell (p:=⟨b,o,none⟩) hb).trans h.1,(t.frozen (p:=⟨b,o,none⟩) hb).trans h.2⟩
def refuseW(c:Int):WOutD:=⟨noW,0,0,c⟩
def outW(r:Option Nat)(o:WOutD):WOutD:=match r with
 | some i=>refuseW (errC i)
 | none=>o
def cellSet(f:Nat→SetD)(cv:Nat→Value)(i r:Nat):Value:=
 match r with
 | 0=>.string (f i).name
 | 1=>.int .i64 (f i).origin
 | 2=>.int .i64 (f i).prev
 | 3=>.int .i64 (f i).rs
 | 4=>.int .i64 (f i).rb
 | _=>cv i
def clSet(f:Nat→SetD)(cv:Nat→Value)(n:Nat):List Value:=(List.range (n*6)).map fun j=>cellSet f cv (j / 6) (j % 6)
theorem clSet_len(f:Nat→SetD)(cv:Nat→Value)(n:Nat):(clSet f cv n).length=n*6:=by simp [clSet]
theorem clSet_at(f:Nat→SetD)(cv:Nat→Value)(n:Nat){i r:Nat}(hi:i<n)(hr:r<6):(clSet f cv n)[i*6+r]?=some (cellSet f cv i r):=by
 have h:i*6+r<n*6:=by omega
 have h1:(i*6+r) / 6=i:=by omega
 have h2:(i*6+r) % 6=r:=by omega
 simp [clSet,h,h1,h2]
theorem clSet_one(f:Nat→SetD)(cv:Nat→Value)(n:Nat)(h:∀i,i<n→(cv i).oneCell'=true):∀u∈clSet f cv n,u.oneCell'=true:=by
 intro u hu
 unfold clSet at hu
 obtain⟨j,hj,rfl⟩:=List.mem_map.1 hu
 have hj':=List.mem_range.1 hj
 have hi:j / 6<n:=by omega
 have hr:j % 6<6:=by omega
 generalize j % 6=r at hr ⊢
 rcases r with _ | _ | _ | _ | _ | _ <;> first | rfl | exact h _ hi
def SetHead(w:World)(b o:Nat)(s:SetD)(vd:Value):Prop:=Cell w b o (.string s.name)∧Cell w b (o+1) (.int .i64 s.origin)∧Cell w b (o+2) (.int .i64 s.prev)∧Cell w b (o+3) (.int .i64 s.rs)∧Cell w b (o+4) (.int .i64 s.rb)∧Cell w b (o+5) vd
theorem SetHead.turned{S:Nat→Prop}{w w':World}{b o:Nat}{s:SetD}{vd:Value}(h:SetHead w b o s vd)(t:Turned S w w')(hs:¬S b):SetHead w' b o s vd:=by
 obtain⟨h0,h1,h2,h3,h4,h5⟩:=h
 exact⟨h0.turned t hs,h1.turned t hs,h2.turned t hs,h3.turned t hs,h4.turned t hs,h5.turned t hs⟩
theorem SetHead.below{w w':World}{b o:Nat}{s:SetD}{vd:Value}(h:SetHead w b o s vd)(t:Below w.heap.size w w'):SetHead w' b o s vd:=
 h.turned (Turned.of_below (S:=fun _=>False) t) (fun h=>h)
theorem SetHead.set{w:World}{b o:Nat}{s:SetD}{vd:Value}(h:SetHead w b o s vd)(u:Value):SetHead (w.setCell ⟨b,o+5,none⟩ u) b o s u:=by
 obtain⟨h0,h1,h2,h3,h4,h5⟩:=h
 exact⟨h0.other _ (Or.inr (by omega)),h1.other _ (Or.inr (by omega)),h2.other _ (Or.inr (by omega)),h3.other _ (Or.inr (by omega)),h4.other _ (Or.inr (by omega)),h5.set _⟩
theorem SetHead.other{w:World}{b o o':Nat}{s:SetD}{vd:Value}(h:SetHead w b o s vd)(u:Value)(hne:∀r,r<6→o'≠o+r):SetHead (w.setCell ⟨b,o',none⟩ u) b o s vd:=by
 obtain⟨h0,h1,h2,h3,h4,h5⟩:=h
 exact⟨h0.other _ (Or.inr (hne 0 (by omega))),h1.other _ (Or.inr (hne 1 (by omega))),h2.other _ (Or.inr (hne 2 (by omega))),h3.other _ (Or.inr (hne 3 (by omega))),h4.other _ (Or.inr (hne 4 (by omega))),h5.other _ (Or.inr (hne 5 (by omega)))⟩
structure HalfSet (wr:World) (bs L n k:Nat) (f:Nat→SetD) (kb:Nat→Nat) (kv cv:Nat→Value):Prop where
 heads:∀j,j<n→SetHead wr bs (j*6) (f j) (if j<k then kv j else cv j)
 dead:∀j,j<k→PtrsOwn wr (kb j) (kv j) (f j).dn (f j).ds (f j).db
 place:∀j,j<k→0<(f j).dn→L≤kb j∧kb j<wr.heap.size
 apart:SetsApart kb k f
 lt:0<n→bs<L
theorem HalfSet.below{wr w':World}{bs L n k:Nat}{f:Nat→SetD}{kb:Nat→Nat}{kv cv:Nat→Value}(h:HalfSet wr bs L n k f kb kv cv)(t:Below wr.heap.size wr w'):HalfSet w' bs L n k f kb kv cv:=
 ⟨fun j hj=>(h.heads j hj).below t,fun j hj=>(h.dead j hj).below t,fun j hj h0=>by have:=h.place j hj h0; have:=t.size; omega,h.apart,h.lt⟩
theorem HalfSet.turned{S:Nat→Prop}{wr w':World}{bs L n k:Nat}{f:Nat→SetD}{kb:Nat→Nat}{kv cv:Nat→Value}(h:HalfSet wr bs L n k f kb kv cv)(t:Turned S wr w')(hs:∀q,S q→(0<n→q≠bs)∧q<L)(hk:k≤n):HalfSet w' bs L n k f kb kv cv:=
 ⟨fun j hj=>(h.heads j hj).turned t (fun e=>(hs _ e).1 (by omega) rfl),fun j hj=>(h.dead j hj).turned t (fun h0 e=>by have:=h.place j hj h0; have:=(hs _ e).2; omega),fun j hj h0=>by have:=h.place j hj h0; have:=t.size; omega,h.apart,h.lt⟩
theorem HalfSet.next{wr w1:World}{bs L n k b:Nat}{f:Nat→SetD}{kb:Nat→Nat}{kv cv:Nat→Value}{v:Value}(h:HalfSet wr bs L n k f kb kv cv)(hk:k<n)(hL:L≤wr.heap.size)(t:Below wr.heap.size wr w1)
  (hp:PtrsOwn w1 b v (f k).dn (f k).ds (f k).db) (hb:0<(f k).dn→wr.heap.size≤b∧b<w1.heap.size) :
  HalfSet (w1.setCell ⟨bs,k*6+5,none⟩ v) bs L n (k+1) f (fun j=>if j=k then b else kb j) (fun j=>if j=k then v else kv j) cv:=by
 have h':=h.below t
 have hlt:=h.lt (by omega)
 refine⟨fun j hj=>?_,fun j hj=>?_,fun j hj h0=>?_,fun i j hi hj hij h1 h2=>?_,h.lt⟩
 ·have hh:=h'.heads j hj
  by_cases e:j=k
  ·subst e
   rw [if_pos (by omega),if_pos rfl]
   exact hh.set v
  ·rw [if_neg e]
   have es:(if j<k+1 then kv j else cv j)=if j<k then kv j else cv j:=by
    by_cases e2:j<k
    ·rw [if_pos e2,if_pos (by omega)]
    ·rw [if_neg e2,if_neg (by omega)]
   rw [es]
   exact hh.other v (fun r hr=>by omega)
 ·by_cases e:j=k
  ·subst e
   simp only [if_true]
   exact hp.turned (Turned.put _ _ _ _) (fun h0 hx=>by have:=hb h0; omega)
  ·simp only [if_neg e]
   exact(h'.dead j (by omega)).turned (Turned.put _ _ _ _) (fun h0 hx=>by have:=h'.place j (by omega) h0; omega)
 ·simp only [World.size_setCell]
  by_cases e:j=k
  ·subst e
   rw [if_pos rfl]
   have:=hb h0
   omega
  ·rw [if_neg e]
   have:=h'.place j (by omega) h0
   omega
 ·show(if i=k then b else kb i)≠(if j=k then b else kb j)
  by_cases e1:i=k
  ·by_cases e2:j=k
   ·omega
   ·rw [if_pos e1,if_neg e2]
    subst e1
    have:=hb h1
    have:=h.place j (by omega) h2
    omega
  ·by_cases e2:j=k
   ·rw [if_neg e1,if_pos e2]
    subst e2
    have:=hb h2
    have:=h.place i (by omega) h1
    omega
   ·rw [if_neg e1,if_neg e2]
    exact h.apart i j (by omega) (by omega) hij h1 h2
theorem HalfSet.own{wr:World}{bs L n c:Nat}{f:Nat→SetD}{kb:Nat→Nat}{kv cv:Nat→Value}{a:Option Addr}(h:HalfSet wr bs L n n f kb kv cv)(hm:n≤maxLen)(ha:0<n→a=some ⟨bs,0,none⟩)(hc:n≤c)(hs:∀i,i<n→(f i).name.size≤maxLen):SetsOwn wr bs kb kv (.slice a n c) n f:=
 ⟨hm,a,c,rfl,hc,fun h0=>⟨0,ha h0,fun i hi=>by
  obtain⟨h0,h1,h2,h3,h4,h5⟩:=h.heads i hi
  rw [if_pos hi] at h5
  rw [Nat.zero_add]
  exact⟨h0,h1,h2,h3,h4,h5,h.dead i hi,hs i hi,fun hk e=>by have:=h.place i hi hk; have:=h.lt (by omega); omega⟩⟩⟩
theorem HalfSet.turned0{S:Nat→Prop}{wr w':World}{bs L n:Nat}{f:Nat→SetD}{kb:Nat→Nat}{kv cv:Nat→Value}(h:HalfSet wr bs L n 0 f kb kv cv)(t:Turned S wr w')(hs:∀q,S q→0<n→q≠bs):HalfSet w' bs L n 0 f kb kv cv:=
 ⟨fun j hj=>(h.heads j hj).turned t (fun e=>hs _ e (by omega) rfl),fun j hj=>absurd hj (Nat.not_lt_zero _),fun j hj=>absurd hj (Nat.not_lt_zero _),h.apart,h.lt⟩
theorem HalfSet.weak{wr:World}{bs L L' n:Nat}{f:Nat→SetD}{kb:Nat→Nat}{kv cv:Nat→Value}(h:HalfSet wr bs L n 0 f kb kv cv)(hL:L≤L'):HalfSet wr bs L' n 0 f kb kv cv:=
 ⟨h.heads,h.dead,fun j hj=>absurd hj (Nat.not_lt_zero _),h.apart,fun h0=>Nat.lt_of_lt_of_le (h.lt h0) hL⟩
theorem SetsAt.values{w:World}{lo hi:Nat}{a:Option Addr}{n c:Nat}{f:Nat→SetD}(h:SetsAt w lo hi (.slice a n c) n f) :
  ∃cv:Nat→Value,(∀i,i<n→PtrsAt w lo hi (cv i) (f i).dn (f i).ds (f i).db∧(f i).name.size≤maxLen)∧
   (0<n→∃b off,a=some ⟨b,off,none⟩∧∀j u,(clSet f cv n)[j]?=some u→w.cell? ⟨b,off+j,none⟩=some u):=by
 obtain⟨_,a0,c0,h0,_,g⟩:=h
 simp only [Value.slice.injEq,true_and] at h0
 obtain⟨rfl,rfl⟩:=h0
 by_cases hn:0<n
 ·obtain⟨b,off,ha,hb1,hb2,hc⟩:=g hn
  have hex:∀i,∃x,i<n→SetCells w b (off+i*6) lo hi x (f i):=fun i=>by
   by_cases hi:i<n
   ·obtain⟨vd,hs⟩:=hc i hi
    exact⟨vd,fun _=>hs⟩
   ·exact⟨.slice none 0 0,fun h=>absurd h hi⟩
  obtain⟨cv,hcv⟩:=Classical.axiomOfChoice hex
  refine⟨cv,fun i hi=>⟨(hcv i hi).dead,(hcv i hi).small⟩,fun _=>⟨b,off,ha,fun j u hj=>?_⟩⟩
  have hlt:j<n*6:=by
   have:=(List.getElem?_eq_some_iff.1 hj).1
   rwa [clSet_len] at this
  have hs:=hcv (j / 6) (by omega)
  have e:=clSet_at f cv n (i:=j / 6) (r:=j % 6) (by omega) (by omega)
  rw [show j / 6*6+j % 6=j by omega,hj] at e
  have hr:j % 6<6:=by omega
  have ho:off+j=off+j / 6*6+j % 6:=by omega
  rw [ho]
  generalize j % 6=r at hr e ⊢
  generalize j / 6=q at hs e ⊢
  rcases r with _ | _ | _ | _ | _ | _ | r
  ·cases e; exact hs.c0
  ·cases e; exact hs.c1
  ·cases e; exact hs.c2
  ·cases e; exact hs.c3
  ·cases e; exact hs.c4
  ·cases e; exact hs.c5
  ·omega
 ·exact⟨fun _=>.slice none 0 0,fun i hi=>absurd hi (by omega),fun h=>absurd h hn⟩
theorem halfSet_start{w1:World}{base n:Nat}{v:Value}{f:Nat→SetD}{cv:Nat→Value}(hown:w1.ownsRow base 67 6 v n (clSet f cv n))(L:Nat)(hL:w1.heap.size≤L):∃bs a c,v = .slice a n c∧n≤c∧(0<n→a=some ⟨bs,0,none⟩∧base≤bs∧bs<w1.heap.size)∧HalfSet w1 bs L n 0 f (fun _=>0) cv cv:=by
 obtain⟨a1,c1,rfl,hnc⟩:=owns_form hown
 by_cases h0:0<n
 ·obtain⟨g,cap,hv,_,hg1,hg2,hcell⟩:=owns_cell hown h0
  simp only [Value.slice.injEq,true_and] at hv
  obtain⟨rfl,rfl⟩:=hv
  refine⟨g,_,_,rfl,hnc,fun _=>⟨rfl,hg1,hg2⟩,fun j hj=>?_,fun j hj=>absurd hj (Nat.not_lt_zero _),fun j hj=>absurd hj (Nat.not_lt_zero _),fun i j hi=>absurd hi (Nat.not_lt_zero _),fun _=>by omega⟩
  rw [if_neg (Nat.not_lt_zero _)]
  exact⟨hcell _ _ (clSet_at f cv n hj (r:=0) (by omega)),hcell _ _ (clSet_at f cv n hj (r:=1) (by omega)),hcell _ _ (clSet_at f cv n hj (r:=2) (by omega)),hcell _ _ (clSet_at f cv n hj (r:=3) (by omega)),hcell _ _ (clSet_at f cv n hj (r:=4) (by omega)),hcell _ _ (clSet_at f cv n hj (r:=5) (by omega))⟩
 ·exact⟨0,_,_,rfl,hnc,fun h=>absurd h h0,fun j hj=>absurd hj (by omega),fun j hj=>absurd hj (Nat.not_lt_zero _),fun j hj=>absurd hj (Nat.not_lt_zero _),fun i j hi=>absurd hi (Nat.not_lt_zero _),fun h=>absurd h h0⟩
def cellSnap(f:Nat→SnapD)(cv:Nat→Value)(i r:Nat):Value:=
 match r with
 | 0=>.int .i64 (f i).id
 | 1=>.string (f i).name
 | 2=>.string (f i).set
 | 3=>.int .i64 (f i).prev
 | 4=>.int .i64 (f i).time
 | 5=>.int .i64 (f i).rs
 | 6=>.int .i64 (f i).rb
 | _=>cv i
def clSnap(f:Nat→SnapD)(cv:Nat→Value)(n:Nat):List Value:=(List.range (n*8)).map fun j=>cellSnap f cv (j / 8) (j % 8)
theorem clSnap_len(f:Nat→SnapD)(cv:Nat→Value)(n:Nat):(clSnap f cv n).length=n*8:=by simp [clSnap]
theorem clSnap_at(f:Nat→SnapD)(cv:Nat→Value)(n:Nat){i r:Nat}(hi:i<n)(hr:r<8):(clSnap f cv n)[i*8+r]?=some (cellSnap f cv i r):=by
 have h:i*8+r<n*8:=by omega
 have h1:(i*8+r) / 8=i:=by omega
 have h2:(i*8+r) % 8=r:=by omega
 simp [clSnap,h,h1,h2]
theorem clSnap_one(f:Nat→SnapD)(cv:Nat→Value)(n:Nat)(h:∀i,i<n→(cv i).oneCell'=true):∀u∈clSnap f cv n,u.oneCell'=true:=by
 intro u hu
 unfold clSnap at hu
 obtain⟨j,hj,rfl⟩:=List.mem_map.1 hu
 have hj':=List.mem_range.1 hj
 have hi:j / 8<n:=by omega
 have hr:j % 8<8:=by omega
 generalize j % 8=r at hr ⊢
 rcases r with _ | _ | _ | _ | _ | _ | _ | _ <;> first | rfl | exact h _ hi
def SnapHead(w:World)(b o:Nat)(s:SnapD)(vd:Value):Prop:=Cell w b o (.int .i64 s.id)∧Cell w b (o+1) (.string s.name)∧Cell w b (o+2) (.string s.set)∧Cell w b (o+3) (.int .i64 s.prev)∧Cell w b (o+4) (.int .i64 s.time)∧Cell w b (o+5) (.int .i64 s.rs)∧Cell w b (o+6) (.int .i64 s.rb)∧Cell w b (o+7) vd
theorem SnapHead.turned{S:Nat→Prop}{w w':World}{b o:Nat}{s:SnapD}{vd:Value}(h:SnapHead w b o s vd)(t:Turned S w w')(hs:¬S b):SnapHead w' b o s vd:=by
 obtain⟨h0,h1,h2,h3,h4,h5,h6,h7⟩:=h
 exact⟨h0.turned t hs,h1.turned t hs,h2.turned t hs,h3.turned t hs,h4.turned t hs,h5.turned t hs,h6.turned t hs,h7.turned t hs⟩
theorem SnapHead.below{w w':World}{b o:Nat}{s:SnapD}{vd:Value}(h:SnapHead w b o s vd)(t:Below w.heap.size w w'):SnapHead w' b o s vd:=
 h.turned (Turned.of_below (S:=fun _=>False) t) (fun h=>h)
theorem SnapHead.set{w:World}{b o:Nat}{s:SnapD}{vd:Value}(h:SnapHead w b o s vd)(u:Value):SnapHead (w.setCell ⟨b,o+7,none⟩ u) b o s u:=by
 obtain⟨h0,h1,h2,h3,h4,h5,h6,h7⟩:=h
 exact⟨h0.other _ (Or.inr (by omega)),h1.other _ (Or.inr (by omega)),h2.other _ (Or.inr (by omega)),h3.other _ (Or.inr (by omega)),h4.other _ (Or.inr (by omega)),h5.other _ (Or.inr (by omega)),h6.other _ (Or.inr (by omega)),h7.set _⟩
theorem SnapHead.other{w:World}{b o o':Nat}{s:SnapD}{vd:Value}(h:SnapHead w b o s vd)(u:Value)(hne:∀r,r<8→o'≠o+r):SnapHead (w.setCell ⟨b,o',none⟩ u) b o s vd:=by
 obtain⟨h0,h1,h2,h3,h4,h5,h6,h7⟩:=h
 exact⟨h0.other _ (Or.inr (hne 0 (by omega))),h1.other _ (Or.inr (hne 1 (by omega))),h2.other _ (Or.inr (hne 2 (by omega))),h3.other _ (Or.inr (hne 3 (by omega))),h4.other _ (Or.inr (hne 4 (by omega))),h5.other _ (Or.inr (hne 5 (by omega))),h6.other _ (Or.inr (hne 6 (by omega))),h7.other _ (Or.inr (hne 7 (by omega)))⟩
structure HalfSnap (wr:World) (bs L n k:Nat) (f:Nat→SnapD) (kb:Nat→Nat) (kv cv:Nat→Value):Prop where
 heads:∀j,j<n→SnapHead wr bs (j*8) (f j) (if j<k then kv j else cv j)
 dead:∀j,j<k→PtrsOwn wr (kb j) (kv j) (f j).dn (f j).ds (f j).db
 place:∀j,j<k→0<(f j).dn→L≤kb j∧kb j<wr.heap.size
 apart:SnapsApart kb k f
 lt:0<n→bs<L
theorem HalfSnap.below{wr w':World}{bs L n k:Nat}{f:Nat→SnapD}{kb:Nat→Nat}{kv cv:Nat→Value}(h:HalfSnap wr bs L n k f kb kv cv)(t:Below wr.heap.size wr w'):HalfSnap w' bs L n k f kb kv cv:=
 ⟨fun j hj=>(h.heads j hj).below t,fun j hj=>(h.dead j hj).below t,fun j hj h0=>by have:=h.place j hj h0; have:=t.size; omega,h.apart,h.lt⟩
theorem HalfSnap.turned{S:Nat→Prop}{wr w':World}{bs L n k:Nat}{f:Nat→SnapD}{kb:Nat→Nat}{kv cv:Nat→Value}(h:HalfSnap wr bs L n k f kb kv cv)(t:Turned S wr w')(hs:∀q,S q→(0<n→q≠bs)∧q<L)(hk:k≤n):HalfSnap w' bs L n k f kb kv cv:=
 ⟨fun j hj=>(h.heads j hj).turned t (fun e=>(hs _ e).1 (by omega) rfl),fun j hj=>(h.dead j hj).turned t (fun h0 e=>by have:=h.place j hj h0; have:=(hs _ e).2; omega),fun j hj h0=>by have:=h.place j hj h0; have:=t.size; omega,h.apart,h.lt⟩
theorem HalfSnap.next{wr w1:World}{bs L n k b:Nat}{f:Nat→SnapD}{kb:Nat→Nat}{kv cv:Nat→Value}{v:Value}(h:HalfSnap wr bs L n k f kb kv cv)(hk:k<n)(hL:L≤wr.heap.size)(t:Below wr.heap.size wr w1)
  (hp:PtrsOwn w1 b v (f k).dn (f k).ds (f k).db) (hb:0<(f k).dn→wr.heap.size≤b∧b<w1.heap.size) :
  HalfSnap (w1.setCell ⟨bs,k*8+7,none⟩ v) bs L n (k+1) f (fun j=>if j=k then b else kb j) (fun j=>if j=k then v else kv j) cv:=by
 have h':=h.below t
 have hlt:=h.lt (by omega)
 refine⟨fun j hj=>?_,fun j hj=>?_,fun j hj h0=>?_,fun i j hi hj hij h1 h2=>?_,h.lt⟩
 ·have hh:=h'.heads j hj
  by_cases e:j=k
  ·subst e
   rw [if_pos (by omega),if_pos rfl]
   exact hh.set v
  ·rw [if_neg e]
   have es:(if j<k+1 then kv j else cv j)=if j<k then kv j else cv j:=by
    by_cases e2:j<k
    ·rw [if_pos e2,if_pos (by omega)]
    ·rw [if_neg e2,if_neg (by omega)]
   rw [es]
   exact hh.other v (fun r hr=>by omega)
 ·by_cases e:j=k
  ·subst e
   simp only [if_true]
   exact hp.turned (Turned.put _ _ _ _) (fun h0 hx=>by have:=hb h0; omega)
  ·simp only [if_neg e]
   exact(h'.dead j (by omega)).turned (Turned.put _ _ _ _) (fun h0 hx=>by have:=h'.place j (by omega) h0; omega)
 ·simp only [World.size_setCell]
  by_cases e:j=k
  ·subst e
   rw [if_pos rfl]
   have:=hb h0
   omega
  ·rw [if_neg e]
   have:=h'.place j (by omega) h0
   omega
 ·show(if i=k then b else kb i)≠(if j=k then b else kb j)
  by_cases e1:i=k
  ·by_cases e2:j=k
   ·omega
   ·rw [if_pos e1,if_neg e2]
    subst e1
    have:=hb h1
    have:=h.place j (by omega) h2
    omega
  ·by_cases e2:j=k
   ·rw [if_neg e1,if_pos e2]
    subst e2
    have:=hb h2
    have:=h.place i (by omega) h1
    omega
   ·rw [if_neg e1,if_neg e2]
    exact h.apart i j (by omega) (by omega) hij h1 h2
theorem HalfSnap.own{wr:World}{bs L n c:Nat}{f:Nat→SnapD}{kb:Nat→Nat}{kv cv:Nat→Value}{a:Option Addr}(h:HalfSnap wr bs L n n f kb kv cv)(hm:n≤maxLen)(ha:0<n→a=some ⟨bs,0,none⟩)(hc:n≤c)(hs:∀i,i<n→((f i).name.size≤maxLen∧(f i).set.size≤maxLen)):SnapsOwn wr bs kb kv (.slice a n c) n f:=
 ⟨hm,a,c,rfl,hc,fun h0=>⟨0,ha h0,fun i hi=>by
  obtain⟨h0,h1,h2,h3,h4,h5,h6,h7⟩:=h.heads i hi
  rw [if_pos hi] at h7
  rw [Nat.zero_add]
  exact⟨h0,h1,h2,h3,h4,h5,h6,h7,h.dead i hi,hs i hi,fun hk e=>by have:=h.place i hi hk; have:=h.lt (by omega); omega⟩⟩⟩
theorem HalfSnap.turned0{S:Nat→Prop}{wr w':World}{bs L n:Nat}{f:Nat→SnapD}{kb:Nat→Nat}{kv cv:Nat→Value}(h:HalfSnap wr bs L n 0 f kb kv cv)(t:Turned S wr w')(hs:∀q,S q→0<n→q≠bs):HalfSnap w' bs L n 0 f kb kv cv:=
 ⟨fun j hj=>(h.heads j hj).turned t (fun e=>hs _ e (by omega) rfl),fun j hj=>absurd hj (Nat.not_lt_zero _),fun j hj=>absurd hj (Nat.not_lt_zero _),h.apart,h.lt⟩
theorem HalfSnap.weak{wr:World}{bs L L' n:Nat}{f:Nat→SnapD}{kb:Nat→Nat}{kv cv:Nat→Value}(h:HalfSnap wr bs L n 0 f kb kv cv)(hL:L≤L'):HalfSnap wr bs L' n 0 f kb kv cv:=
 ⟨h.heads,h.dead,fun j hj=>absurd hj (Nat.not_lt_zero _),h.apart,fun h0=>Nat.lt_of_lt_of_le (h.lt h0) hL⟩
theorem SnapsAt.values{w:World}{lo hi:Nat}{a:Option Addr}{n c:Nat}{f:Nat→SnapD}(h:SnapsAt w lo hi (.slice a n c) n f) :
  ∃cv:Nat→Value,(∀i,i<n→PtrsAt w lo hi (cv i) (f i).dn (f i).ds (f i).db∧((f i).name.size≤maxLen∧(f i).set.size≤maxLen))∧
   (0<n→∃b off,a=some ⟨b,off,none⟩∧∀j u,(clSnap f cv n)[j]?=some u→w.cell? ⟨b,off+j,none⟩=some u):=by
 obtain⟨_,a0,c0,h0,_,g⟩:=h
 simp only [Value.slice.injEq,true_and] at h0
 obtain⟨rfl,rfl⟩:=h0
 by_cases hn:0<n
 ·obtain⟨b,off,ha,hb1,hb2,hc⟩:=g hn
  have hex:∀i,∃x,i<n→SnapCells w b (off+i*8) lo hi x (f i):=fun i=>by
   by_cases hi:i<n
   ·obtain⟨vd,hs⟩:=hc i hi
    exact⟨vd,fun _=>hs⟩
   ·exact⟨.slice none 0 0,fun h=>absurd h hi⟩
  obtain⟨cv,hcv⟩:=Classical.axiomOfChoice hex
  refine⟨cv,fun i hi=>⟨(hcv i hi).dead,(hcv i hi).small⟩,fun _=>⟨b,off,ha,fun j u hj=>?_⟩⟩
  have hlt:j<n*8:=by
   have:=(List.getElem?_eq_some_iff.1 hj).1
   rwa [clSnap_len] at this
  have hs:=hcv (j / 8) (by omega)
  have e:=clSnap_at f cv n (i:=j / 8) (r:=j % 8) (by omega) (by omega)
  rw [show j / 8*8+j % 8=j by omega,hj] at e
  have hr:j % 8<8:=by omega
  have ho:off+j=off+j / 8*8+j % 8:=by omega
  rw [ho]
  generalize j % 8=r at hr e ⊢
  generalize j / 8=q at hs e ⊢
  rcases r with _ | _ | _ | _ | _ | _ | _ | _ | r
  ·cases e; exact hs.c0
  ·cases e; exact hs.c1
  ·cases e; exact hs.c2
  ·cases e; exact hs.c3
  ·cases e; exact hs.c4
  ·cases e; exact hs.c5
  ·cases e; exact hs.c6
  ·cases e; exact hs.c7
  ·omega
 ·exact⟨fun _=>.slice none 0 0,fun i hi=>absurd hi (by omega),fun h=>absurd h hn⟩
theorem halfSnap_start{w1:World}{base n:Nat}{v:Value}{f:Nat→SnapD}{cv:Nat→Value}(hown:w1.ownsRow base 99 8 v n (clSnap f cv n))(L:Nat)(hL:w1.heap.size≤L):∃bs a c,v = .slice a n c∧n≤c∧(0<n→a=some ⟨bs,0,none⟩∧base≤bs∧bs<w1.heap.size)∧HalfSnap w1 bs L n 0 f (fun _=>0) cv cv:=by
 obtain⟨a1,c1,rfl,hnc⟩:=owns_form hown
 by_cases h0:0<n
 ·obtain⟨g,cap,hv,_,hg1,hg2,hcell⟩:=owns_cell hown h0
  simp only [Value.slice.injEq,true_and] at hv
  obtain⟨rfl,rfl⟩:=hv
  refine⟨g,_,_,rfl,hnc,fun _=>⟨rfl,hg1,hg2⟩,fun j hj=>?_,fun j hj=>absurd hj (Nat.not_lt_zero _),fun j hj=>absurd hj (Nat.not_lt_zero _),fun i j hi=>absurd hi (Nat.not_lt_zero _),fun _=>by omega⟩
  rw [if_neg (Nat.not_lt_zero _)]
  exact⟨hcell _ _ (clSnap_at f cv n hj (r:=0) (by omega)),hcell _ _ (clSnap_at f cv n hj (r:=1) (by omega)),hcell _ _ (clSnap_at f cv n hj (r:=2) (by omega)),hcell _ _ (clSnap_at f cv n hj (r:=3) (by omega)),hcell _ _ (clSnap_at f cv n hj (r:=4) (by omega)),hcell _ _ (clSnap_at f cv n hj (r:=5) (by omega)),hcell _ _ (clSnap_at f cv n hj (r:=6) (by omega)),hcell _ _ (clSnap_at f cv n hj (r:=7) (by omega))⟩
 ·exact⟨0,_,_,rfl,hnc,fun h=>absurd h h0,fun j hj=>absurd hj (by omega),fun j hj=>absurd hj (Nat.not_lt_zero _),fun j hj=>absurd hj (Nat.not_lt_zero _),fun i j hi=>absurd hi (Nat.not_lt_zero _),fun h=>absurd h h0⟩
def DeadsN(W:WorldD):Prop:=(∀i,i<W.sn→(W.sets i).dn≤1048576)∧∀i,i<W.pn→(W.snaps i).dn≤1048576
end Go.Proofs.YtmgeglgboadfiaaGreatDoor
