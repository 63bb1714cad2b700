/- A variable of twelve cells (no law is proved here). -/
import Derived.Test.YtihplgckbhnohaaGreatDoorG1
import Derived.Test.YtihplgckbhnohaaGreatDoorProg
import GoSem.ClaimJoined
import GoSem.ClaimMapViews
import Derived.JoinedTies
import Derived.KernelRfl
import Derived.RowKit
import Derived.BigQuiet
import Derived.Deep.RegionHeld
import Derived.Test.YtihplgckbhnohaaGreatDoorG2
namespace Go.Proofs.YtihplgckbhnohaaGreatDoor
open Go.RowKit
set_option linter.unusedVariables false
def Box12(w:World)(b:Nat)(v0 v1 v2 v3 v4 v5 v6 v7 v8 v9 v10 v11:Value):Prop:=Cell w b 0 v0∧Cell w b 1 v1∧Cell w b 2 v2∧Cell w b 3 v3∧Cell w b 4 v4∧Cell w b 5 v5∧Cell w b 6 v6∧Cell w b 7 v7∧Cell w b 8 v8∧Cell w b 9 v9∧Cell w b 10 v10∧Cell w b 11 v11
theorem Box12.below{w w':World}{b:Nat}{v0 v1 v2 v3 v4 v5 v6 v7 v8 v9 v10 v11:Value}(h:Box12 w b v0 v1 v2 v3 v4 v5 v6 v7 v8 v9 v10 v11)(t:Below w.heap.size w w'):Box12 w' b v0 v1 v2 v3 v4 v5 v6 v7 v8 v9 v10 v11:=⟨h.1.below t,h.2.1.below t,h.2.2.1.below t,h.2.2.2.1.below t,h.2.2.2.2.1.below t,h.2.2.2.2.2.1.below t,h.2.2.2.2.2.2.1.below t,h.2.2.2.2.2.2.2.1.below t,h.2.2.2.2.2.2.2.2.1.below t,h.2.2.2.2.2.2.2.2.2.1.below t,h.2.2.2.2.2.2.2.2.2.2.1.below t,h.2.2.2.2.2.2.2.2.2.2.2.below t⟩
theorem Box12.turned{S:Nat→Prop}{w w':World}{b:Nat}{v0 v1 v2 v3 v4 v5 v6 v7 v8 v9 v10 v11:Value}(h:Box12 w b v0 v1 v2 v3 v4 v5 v6 v7 v8 v9 v10 v11)(t:Turned S w w')(hs:¬S b):Box12 w' b v0 v1 v2 v3 v4 v5 v6 v7 v8 v9 v10 v11:=⟨h.1.turned t hs,h.2.1.turned t hs,h.2.2.1.turned t hs,h.2.2.2.1.turned t hs,h.2.2.2.2.1.turned t hs,h.2.2.2.2.2.1.turned t hs,h.2.2.2.2.2.2.1.turned t hs,h.2.2.2.2.2.2.2.1.turned t hs,h.2.2.2.2.2.2.2.2.1.turned t hs,h.2.2.2.2.2.2.2.2.2.1.turned t hs,h.2.2.2.2.2.2.2.2.2.2.1.turned t hs,h.2.2.2.2.2.2.2.2.2.2.2.turned t hs⟩
theorem Box12.new(w:World)(v0 v1 v2 v3 v4 v5 v6 v7 v8 v9 v10 v11:Value)(t:TypeId):Box12(w.alloc(.cells #[v0,v1,v2,v3,v4,v5,v6,v7,v8,v9,v10,v11] t))w.heap.size v0 v1 v2 v3 v4 v5 v6 v7 v8 v9 v10 v11:=by
 have hb:(w.alloc(.cells #[v0,v1,v2,v3,v4,v5,v6,v7,v8,v9,v10,v11] t)).heap[w.heap.size]?=some(.cells #[v0,v1,v2,v3,v4,v5,v6,v7,v8,v9,v10,v11] t):=heap_alloc_new _ _
 exact⟨cell_of_block hb rfl,cell_of_block hb rfl,cell_of_block hb rfl,cell_of_block hb rfl,cell_of_block hb rfl,cell_of_block hb rfl,cell_of_block hb rfl,cell_of_block hb rfl,cell_of_block hb rfl,cell_of_block hb rfl,cell_of_block hb rfl,cell_of_block hb rfl⟩
abbrev put12(w:World)(b:Nat)(u0 u1 u2 u3 u4 u5 u6 u7 u8 u9 u10 u11:Value):World:=(((((((((((w.setCell⟨b,0,none⟩u0).setCell⟨b,1,none⟩u1).setCell⟨b,2,none⟩u2).setCell⟨b,3,none⟩u3).setCell⟨b,4,none⟩u4).setCell⟨b,5,none⟩u5).setCell⟨b,6,none⟩u6).setCell⟨b,7,none⟩u7).setCell⟨b,8,none⟩u8).setCell⟨b,9,none⟩u9).setCell⟨b,10,none⟩u10).setCell⟨b,11,none⟩u11
theorem Box12.put{w:World}{b:Nat}{v0 v1 v2 v3 v4 v5 v6 v7 v8 v9 v10 v11:Value}(h:Box12 w b v0 v1 v2 v3 v4 v5 v6 v7 v8 v9 v10 v11)(u0 u1 u2 u3 u4 u5 u6 u7 u8 u9 u10 u11:Value):Box12(put12 w b u0 u1 u2 u3 u4 u5 u6 u7 u8 u9 u10 u11)b u0 u1 u2 u3 u4 u5 u6 u7 u8 u9 u10 u11:=by
 obtain⟨h0,h1,h2,h3,h4,h5,h6,h7,h8,h9,h10,h11⟩:=h
 refine⟨?_,?_,?_,?_,?_,?_,?_,?_,?_,?_,?_,?_⟩
 ·exact(((((((((((h0.set _).other _(Or.inr(by omega))).other _(Or.inr(by omega))).other _(Or.inr(by omega))).other _(Or.inr(by omega))).other _(Or.inr(by omega))).other _(Or.inr(by omega))).other _(Or.inr(by omega))).other _(Or.inr(by omega))).other _(Or.inr(by omega))).other _(Or.inr(by omega))).other _(Or.inr(by omega))
 ·exact(((((((((((h1.other _(Or.inr(by omega))).set _).other _(Or.inr(by omega))).other _(Or.inr(by omega))).other _(Or.inr(by omega))).other _(Or.inr(by omega))).other _(Or.inr(by omega))).other _(Or.inr(by omega))).other _(Or.inr(by omega))).other _(Or.inr(by omega))).other _(Or.inr(by omega))).other _(Or.inr(by omega))
 ·exact(((((((((((h2.other _(Or.inr(by omega))).other _(Or.inr(by omega))).set _).other _(Or.inr(by omega))).other _(Or.inr(by omega))).other _(Or.inr(by omega))).other _(Or.inr(by omega))).other _(Or.inr(by omega))).other _(Or.inr(by omega))).other _(Or.inr(by omega))).other _(Or.inr(by omega))).other _(Or.inr(by omega))
 ·exact(((((((((((h3.other _(Or.inr(by omega))).other _(Or.inr(by omega))).other _(Or.inr(by omega))).set _).other _(Or.inr(by omega))).other _(Or.inr(by omega))).other _(Or.inr(by omega))).other _(Or.inr(by omega))).other _(Or.inr(by omega))).other _(Or.inr(by omega))).other _(Or.inr(by omega))).other _(Or.inr(by omega))
 ·exact(((((((((((h4.other _(Or.inr(by omega))).other _(Or.inr(by omega))).other _(Or.inr(by omega))).other _(Or.inr(by omega))).set _).other _(Or.inr(by omega))).other _(Or.inr(by omega))).other _(Or.inr(by omega))).other _(Or.inr(by omega))).other _(Or.inr(by omega))).other _(Or.inr(by omega))).other _(Or.inr(by omega))
 ·exact(((((((((((h5.other _(Or.inr(by omega))).other _(Or.inr(by omega))).other _(Or.inr(by omega))).other _(Or.inr(by omega))).other _(Or.inr(by omega))).set _).other _(Or.inr(by omega))).other _(Or.inr(by omega))).other _(Or.inr(by omega))).other _(Or.inr(by omega))).other _(Or.inr(by omega))).other _(Or.inr(by omega))
 ·exact(((((((((((h6.other _(Or.inr(by omega))).other _(Or.inr(by omega))).other _(Or.inr(by omega))).other _(Or.inr(by omega))).other _(Or.inr(by omega))).other _(Or.inr(by omega))).set _).other _(Or.inr(by omega))).other _(Or.inr(by omega))).other _(Or.inr(by omega))).other _(Or.inr(by omega))).other _(Or.inr(by omega))
 ·exact(((((((((((h7.other _(Or.inr(by omega))).other _(Or.inr(by omega))).other _(Or.inr(by omega))).other _(Or.inr(by omega))).other _(Or.inr(by omega))).other _(Or.inr(by omega))).other _(Or.inr(by omega))).set _).other _(Or.inr(by omega))).other _(Or.inr(by omega))).other _(Or.inr(by omega))).other _(Or.inr(by omega))
 ·exact(((((((((((h8.other _(Or.inr(by omega))).other _(Or.inr(by omega))).other _(Or.inr(by omega))).other _(Or.inr(by omega))).other _(Or.inr(by omega))).other _(Or.inr(by omega))).other _(Or.inr(by omega))).other _(Or.inr(by omega))).set _).other _(Or.inr(by omega))).other _(Or.inr(by omega))).other _(Or.inr(by omega))
 ·exact(((((((((((h9.other _(Or.inr(by omega))).other _(Or.inr(by omega))).other _(Or.inr(by omega))).other _(Or.inr(by omega))).other _(Or.inr(by omega))).other _(Or.inr(by omega))).other _(Or.inr(by omega))).other _(Or.inr(by omega))).other _(Or.inr(by omega))).set _).other _(Or.inr(by omega))).other _(Or.inr(by omega))
 ·exact(((((((((((h10.other _(Or.inr(by omega))).other _(Or.inr(by omega))).other _(Or.inr(by omega))).other _(Or.inr(by omega))).other _(Or.inr(by omega))).other _(Or.inr(by omega))).other _(Or.inr(by omega))).other _(Or.inr(by omega))).other _(Or.inr(by omega))).other _(Or.inr(by omega))).set _).other _(Or.inr(by omega))
 ·exact(((((((((((h11.other _(Or.inr(by omega))).other _(Or.inr(by omega))).other _(Or.inr(by omega))).other _(Or.inr(by omega))).other _(Or.inr(by omega))).other _(Or.inr(by omega))).other _(Or.inr(by omega))).other _(Or.inr(by omega))).other _(Or.inr(by omega))).other _(Or.inr(by omega))).other _(Or.inr(by omega))).set _
theorem Turned.put12(w:World)(b:Nat)(u0 u1 u2 u3 u4 u5 u6 u7 u8 u9 u10 u11:Value):Turned(fun k=>k=b)w(put12 w b u0 u1 u2 u3 u4 u5 u6 u7 u8 u9 u10 u11):=
 (((((((((((Turned.put w b 0 u0).trans(Turned.put _ b 1 u1)).trans(Turned.put _ b 2 u2)).trans(Turned.put _ b 3 u3)).trans(Turned.put _ b 4 u4)).trans(Turned.put _ b 5 u5)).trans(Turned.put _ b 6 u6)).trans(Turned.put _ b 7 u7)).trans(Turned.put _ b 8 u8)).trans(Turned.put _ b 9 u9)).trans(Turned.put _ b 10 u10)).trans(Turned.put _ b 11 u11)
theorem Box12.put12a{w:World}{b:Nat}{v0 v1 v2 v3 v4 v5 v6 v7 v8 v9 v10 v11:Value}(h:Box12 w b v0 v1 v2 v3 v4 v5 v6 v7 v8 v9 v10 v11)(u0 u1 u2 u3 u4 u5:Value):Box12((((((w.setCell⟨b,0,none⟩u0).setCell⟨b,1,none⟩u1).setCell⟨b,2,none⟩u2).setCell⟨b,3,none⟩u3).setCell⟨b,4,none⟩u4).setCell⟨b,5,none⟩u5)b u0 u1 u2 u3 u4 u5 v6 v7 v8 v9 v10 v11:=by
 obtain⟨h0,h1,h2,h3,h4,h5,h6,h7,h8,h9,h10,h11⟩:=h
 refine⟨?_,?_,?_,?_,?_,?_,?_,?_,?_,?_,?_,?_⟩
 ·exact(((((h0.set _).other _(Or.inr(by omega))).other _(Or.inr(by omega))).other _(Or.inr(by omega))).other _(Or.inr(by omega))).other _(Or.inr(by omega))
 ·exact(((((h1.other _(Or.inr(by omega))).set _).other _(Or.inr(by omega))).other _(Or.inr(by omega))).other _(Or.inr(by omega))).other _(Or.inr(by omega))
 ·exact(((((h2.other _(Or.inr(by omega))).other _(Or.inr(by omega))).set _).other _(Or.inr(by omega))).other _(Or.inr(by omega))).other _(Or.inr(by omega))
 ·exact(((((h3.other _(Or.inr(by omega))).other _(Or.inr(by omega))).other _(Or.inr(by omega))).set _).other _(Or.inr(by omega))).other _(Or.inr(by omega))
 ·exact(((((h4.other _(Or.inr(by omega))).other _(Or.inr(by omega))).other _(Or.inr(by omega))).other _(Or.inr(by omega))).set _).other _(Or.inr(by omega))
 ·exact(((((h5.other _(Or.inr(by omega))).other _(Or.inr(by omega))).other _(Or.inr(by omega))).other _(Or.inr(by omega))).other _(Or.inr(by omega))).set _
 ·exact(((((h6.other _(Or.inr(by omega))).other _(Or.inr(by omega))).other _(Or.inr(by omega))).other _(Or.inr(by omega))).other _(Or.inr(by omega))).other _(Or.inr(by omega))
 ·exact(((((h7.other _(Or.inr(by omega))).other _(Or.inr(by omega))).other _(Or.inr(by omega))).other _(Or.inr(by omega))).other _(Or.inr(by omega))).other _(Or.inr(by omega))
 ·exact(((((h8.other _(Or.inr(by omega))).other _(Or.inr(by omega))).other _(Or.inr(by omega))).other _(Or.inr(by omega))).other _(Or.inr(by omega))).other _(Or.inr(by omega))
 ·exact(((((h9.other _(Or.inr(by omega))).other _(Or.inr(by omega))).other _(Or.inr(by omega))).other _(Or.inr(by omega))).other _(Or.inr(by omega))).other _(Or.inr(by omega))
 ·exact(((((h10.other _(Or.inr(by omega))).other _(Or.inr(by omega))).other _(Or.inr(by omega))).other _(Or.inr(by omega))).other _(Or.inr(by omega))).other _(Or.inr(by omega))
 ·exact(((((h11.other _(Or.inr(by omega))).other _(Or.inr(by omega))).other _(Or.inr(by omega))).other _(Or.inr(by omega))).other _(Or.inr(by omega))).other _(Or.inr(by omega))
theorem Turned.put12a(w:World)(b:Nat)(u0 u1 u2 u3 u4 u5:Value):Turned(fun k=>k=b)w((((((w.setCell⟨b,0,none⟩u0).setCell⟨b,1,none⟩u1).setCell⟨b,2,none⟩u2).setCell⟨b,3,none⟩u3).setCell⟨b,4,none⟩u4).setCell⟨b,5,none⟩u5):=
 (((((Turned.put w b 0 u0).trans(Turned.put _ b 1 u1)).trans(Turned.put _ b 2 u2)).trans(Turned.put _ b 3 u3)).trans(Turned.put _ b 4 u4)).trans(Turned.put _ b 5 u5)
theorem Box12.put12b{w:World}{b:Nat}{v0 v1 v2 v3 v4 v5 v6 v7 v8 v9 v10 v11:Value}(h:Box12 w b v0 v1 v2 v3 v4 v5 v6 v7 v8 v9 v10 v11)(u6 u7 u8 u9 u10 u11:Value):Box12((((((w.setCell⟨b,6,none⟩u6).setCell⟨b,7,none⟩u7).setCell⟨b,8,none⟩u8).setCell⟨b,9,none⟩u9).setCell⟨b,10,none⟩u10).setCell⟨b,11,none⟩u11)b v0 v1 v2 v3 v4 v5 u6 u7 u8 u9 u10 u11:=by
 obtain⟨h0,h1,h2,h3,h4,h5,h6,h7,h8,h9,h10,h11⟩:=h
 refine⟨?_,?_,?_,?_,?_,?_,?_,?_,?_,?_,?_,?_⟩
 ·exact(((((h0.other _(Or.inr(by omega))).other _(Or.inr(by omega))).other _(Or.inr(by omega))).other _(Or.inr(by omega))).other _(Or.inr(by omega))).other _(Or.inr(by omega))
 ·exact(((((h1.other _(Or.inr(by omega))).other _(Or.inr(by omega))).other _(Or.inr(by omega))).other _(Or.inr(by omega))).other _(Or.inr(by omega))).other _(Or.inr(by omega))
 ·exact(((((h2.other _(Or.inr(by omega))).other _(Or.inr(by omega))).other _(Or.inr(by omega))).other _(Or.inr(by omega))).other _(Or.inr(by omega))).other _(Or.inr(by omega))
 ·exact(((((h3.other _(Or.inr(by omega))).other _(Or.inr(by omega))).other _(Or.inr(by omega))).other _(Or.inr(by omega))).other _(Or.inr(by omega))).other _(Or.inr(by omega))
 ·exact(((((h4.other _(Or.inr(by omega))).other _(Or.inr(by omega))).other _(Or.inr(by omega))).other _(Or.inr(by omega))).other _(Or.inr(by omega))).other _(Or.inr(by omega))
 ·exact(((((h5.other _(Or.inr(by omega))).other _(Or.inr(by omega))).other _(Or.inr(by omega))).other _(Or.inr(by omega))).other _(Or.inr(by omega))).other _(Or.inr(by omega))
 ·exact(((((h6.set _).other _(Or.inr(by omega))).other _(Or.inr(by omega))).other _(Or.inr(by omega))).other _(Or.inr(by omega))).other _(Or.inr(by omega))
 ·exact(((((h7.other _(Or.inr(by omega))).set _).other _(Or.inr(by omega))).other _(Or.inr(by omega))).other _(Or.inr(by omega))).other _(Or.inr(by omega))
 ·exact(((((h8.other _(Or.inr(by omega))).other _(Or.inr(by omega))).set _).other _(Or.inr(by omega))).other _(Or.inr(by omega))).other _(Or.inr(by omega))
 ·exact(((((h9.other _(Or.inr(by omega))).other _(Or.inr(by omega))).other _(Or.inr(by omega))).set _).other _(Or.inr(by omega))).other _(Or.inr(by omega))
 ·exact(((((h10.other _(Or.inr(by omega))).other _(Or.inr(by omega))).other _(Or.inr(by omega))).other _(Or.inr(by omega))).set _).other _(Or.inr(by omega))
 ·exact(((((h11.other _(Or.inr(by omega))).other _(Or.inr(by omega))).other _(Or.inr(by omega))).other _(Or.inr(by omega))).other _(Or.inr(by omega))).set _
theorem Turned.put12b(w:World)(b:Nat)(u6 u7 u8 u9 u10 u11:Value):Turned(fun k=>k=b)w((((((w.setCell⟨b,6,none⟩u6).setCell⟨b,7,none⟩u7).setCell⟨b,8,none⟩u8).setCell⟨b,9,none⟩u9).setCell⟨b,10,none⟩u10).setCell⟨b,11,none⟩u11):=
 (((((Turned.put w b 6 u6).trans(Turned.put _ b 7 u7)).trans(Turned.put _ b 8 u8)).trans(Turned.put _ b 9 u9)).trans(Turned.put _ b 10 u10)).trans(Turned.put _ b 11 u11)
end Go.Proofs.YtihplgckbhnohaaGreatDoor

namespace Go.Proofs.YtihplgckbhnohaaGreatDoor
open Go Go.RowKit
set_option linter.unusedVariables false
def Box6(w:World)(b:Nat)(v0 v1 v2 v3 v4 v5:Value):Prop:=Cell w b 0 v0∧Cell w b 1 v1∧Cell w b 2 v2∧Cell w b 3 v3∧Cell w b 4 v4∧Cell w b 5 v5
theorem Box6.below{w w':World}{b:Nat}{v0 v1 v2 v3 v4 v5:Value}(h:Box6 w b v0 v1 v2 v3 v4 v5)(t:Below w.heap.size w w'):Box6 w' b v0 v1 v2 v3 v4 v5:=⟨h.1.below t,h.2.1.below t,h.2.2.1.below t,h.2.2.2.1.below t,h.2.2.2.2.1.below t,h.2.2.2.2.2.below t⟩
theorem Box6.turned{S:Nat→Prop}{w w':World}{b:Nat}{v0 v1 v2 v3 v4 v5:Value}(h:Box6 w b v0 v1 v2 v3 v4 v5)(t:Turned S w w')(hs:¬S b):Box6 w' b v0 v1 v2 v3 v4 v5:=⟨h.1.turned t hs,h.2.1.turned t hs,h.2.2.1.turned t hs,h.2.2.2.1.turned t hs,h.2.2.2.2.1.turned t hs,h.2.2.2.2.2.turned t hs⟩
theorem Box6.new(w:World)(v0 v1 v2 v3 v4 v5:Value)(t:TypeId):Box6(w.alloc(.cells #[v0,v1,v2,v3,v4,v5] t))w.heap.size v0 v1 v2 v3 v4 v5:=by
 have hb:(w.alloc(.cells #[v0,v1,v2,v3,v4,v5] t)).heap[w.heap.size]?=some(.cells #[v0,v1,v2,v3,v4,v5] t):=heap_alloc_new _ _
 exact⟨cell_of_block hb rfl,cell_of_block hb rfl,cell_of_block hb rfl,cell_of_block hb rfl,cell_of_block hb rfl,cell_of_block hb rfl⟩
abbrev put6(w:World)(b:Nat)(u0 u1 u2 u3 u4 u5:Value):World:=(((((w.setCell⟨b,0,none⟩u0).setCell⟨b,1,none⟩u1).setCell⟨b,2,none⟩u2).setCell⟨b,3,none⟩u3).setCell⟨b,4,none⟩u4).setCell⟨b,5,none⟩u5
theorem Box6.put{w:World}{b:Nat}{v0 v1 v2 v3 v4 v5:Value}(h:Box6 w b v0 v1 v2 v3 v4 v5)(u0 u1 u2 u3 u4 u5:Value):Box6(put6 w b u0 u1 u2 u3 u4 u5)b u0 u1 u2 u3 u4 u5:=by
 obtain⟨h0,h1,h2,h3,h4,h5⟩:=h
 refine⟨?_,?_,?_,?_,?_,?_⟩
 ·exact(((((h0.set _).other _(Or.inr(by omega))).other _(Or.inr(by omega))).other _(Or.inr(by omega))).other _(Or.inr(by omega))).other _(Or.inr(by omega))
 ·exact(((((h1.other _(Or.inr(by omega))).set _).other _(Or.inr(by omega))).other _(Or.inr(by omega))).other _(Or.inr(by omega))).other _(Or.inr(by omega))
 ·exact(((((h2.other _(Or.inr(by omega))).other _(Or.inr(by omega))).set _).other _(Or.inr(by omega))).other _(Or.inr(by omega))).other _(Or.inr(by omega))
 ·exact(((((h3.other _(Or.inr(by omega))).other _(Or.inr(by omega))).other _(Or.inr(by omega))).set _).other _(Or.inr(by omega))).other _(Or.inr(by omega))
 ·exact(((((h4.other _(Or.inr(by omega))).other _(Or.inr(by omega))).other _(Or.inr(by omega))).other _(Or.inr(by omega))).set _).other _(Or.inr(by omega))
 ·exact(((((h5.other _(Or.inr(by omega))).other _(Or.inr(by omega))).other _(Or.inr(by omega))).other _(Or.inr(by omega))).other _(Or.inr(by omega))).set _
theorem Turned.put6(w:World)(b:Nat)(u0 u1 u2 u3 u4 u5:Value):Turned(fun k=>k=b)w(put6 w b u0 u1 u2 u3 u4 u5):=
 (((((Turned.put w b 0 u0).trans(Turned.put _ b 1 u1)).trans(Turned.put _ b 2 u2)).trans(Turned.put _ b 3 u3)).trans(Turned.put _ b 4 u4)).trans(Turned.put _ b 5 u5)
end Go.Proofs.YtihplgckbhnohaaGreatDoor

namespace Go.Proofs.YtihplgckbhnohaaGreatDoor
open Go.RowKit
set_option linter.unusedVariables false
theorem hideW{P:Prop}(h:P):Hid P:=h
def FirstAt(n:Nat)(P:Nat→Prop)(r:Int):Prop:=(∃k:Nat,k<n∧P k∧(∀j,j<k→¬P j)∧r=k)∨((∀j,j<n→¬P j)∧r = -1)
set_option maxRecDepth 20000 in
set_option maxHeartbeats 1000000 in
theorem l04Snap_any(v0 v1 v2 v3:Value)(lo hi:Nat)(W:WorldD)(x:Int)(w:World)(h:WorldAt w lo hi v0 v1 v2 v3 W) :
  Calls Tryz.prog 95 #[worldV v0 v1 v2 v3 W,.int .i64 x] w fun e w'=>∃r:Int,e = .returned(.int .i64 r)∧FirstAt W.pn(fun k=>(W.snaps k).id=x)r∧Below w.heap.size w w':=by
 have Hp:=hideW h.snaps
 obtain⟨m1,a,c,rfl,mc,_⟩:=id h.snaps
 unfold maxLen at m1
 clear h
 have ha:=below_alloc w(.cells #[v0,v1,.int .i64 W.time,.int .i64 W.next,v2,.slice a W.pn c] 39)
 have HB:=hideW(Box6.new w v0 v1(.int .i64 W.time)(.int .i64 W.next)v2(.slice a W.pn c)39)
 go_enter Tryz.func95,Tryz.ntmps95
 go_wp2
 go_loopw [5](fun i wr=>∃k:Nat,k≤W.pn∧i = .int .i64 k∧(∀j,j<k→¬(W.snaps j).id=x)∧Box6 wr w.heap.size v0 v1(.int .i64 W.time)(.int .i64 W.next)v2(.slice a W.pn c)∧Below w.heap.size w wr)(fun i _=>W.pn - (intOf i).toNat)
 case atStart=>exact⟨0,Nat.zero_le _,rfl,fun j hj=>absurd hj(Nat.not_lt_zero _),HB.out,ha⟩
 case round=>
  obtain⟨k,hk,rfl,hno,hX,hb⟩:=hrel
  have Hno:=hideW hno
  have HX:=hideW hX
  clear hno hX
  obtain⟨⟨x0,x1⟩,⟨x2,x3⟩,⟨x4,x5⟩,⟨x6,x7⟩,⟨x8,x9⟩,⟨x10,x11⟩⟩:=HX.out
  by_cases hlt:k<W.pn
  ·have hlt':(k:Int)<(W.pn:Int):=by omega
   obtain⟨b,off,vd,rfl,hs⟩:=(Hp.out.below hb).cells hlt
   have q0:=hs.c0
   clear hs
   by_cases he:(W.snaps k).id=x
   ·have H:=hideW he
    rw [he] at q0
    clear he
    go_wp2
    go_ret
    exact⟨k,rfl,Or.inl⟨k,hlt,H.out,Hno.out,rfl⟩,hb⟩
   ·have H:=hideW he
    have e0:((W.snaps k).id == x)=false:=by simp [he]
    clear he
    go_wp2
    go_roundw
    case rel=>
     refine⟨k+1,by omega,by go_num,?_,HX.out,hb⟩
     intro j hj
     by_cases e:j=k
     ·subst e; exact H.out
     ·exact Hno.out j(by omega)
    case measure=>simp [intOf]; omega
  ·obtain rfl:k=W.pn:=by omega
   go_wp2
   go_ret
   exact⟨-1,rfl,Or.inr⟨Hno.out,rfl⟩,hb⟩
set_option maxRecDepth 20000 in
set_option maxHeartbeats 1000000 in
theorem l04Set_any(v0 v1 v2 v3:Value)(lo hi:Nat)(W:WorldD)(x:ByteArray)(w:World)(h:WorldAt w lo hi v0 v1 v2 v3 W) :
  Calls Tryz.prog 96 #[worldV v0 v1 v2 v3 W,.string x] w fun e w'=>∃r:Int,e = .returned(.int .i64 r)∧FirstAt W.sn(fun k=>(W.sets k).name=x)r∧Below w.heap.size w w':=by
 have Hp:=hideW h.sets
 obtain⟨m1,a,c,rfl,mc,_⟩:=id h.sets
 unfold maxLen at m1
 clear h
 have ha:=below_alloc w(.cells #[v0,v1,.int .i64 W.time,.int .i64 W.next,.slice a W.sn c,v3] 39)
 have HB:=hideW(Box6.new w v0 v1(.int .i64 W.time)(.int .i64 W.next)(.slice a W.sn c)v3 39)
 go_enter Tryz.func96,Tryz.ntmps96
 go_wp2
 go_loopw [5](fun i wr=>∃k:Nat,k≤W.sn∧i = .int .i64 k∧(∀j,j<k→¬(W.sets j).name=x)∧Box6 wr w.heap.size v0 v1(.int .i64 W.time)(.int .i64 W.next)(.slice a W.sn c)v3∧Below w.heap.size w wr)(fun i _=>W.sn - (intOf i).toNat)
 case atStart=>exact⟨0,Nat.zero_le _,rfl,fun j hj=>absurd hj(Nat.not_lt_zero _),HB.out,ha⟩
 case round=>
  obtain⟨k,hk,rfl,hno,hX,hb⟩:=hrel
  have Hno:=hideW hno
  have HX:=hideW hX
  clear hno hX
  obtain⟨⟨x0,x1⟩,⟨x2,x3⟩,⟨x4,x5⟩,⟨x6,x7⟩,⟨x8,x9⟩,⟨x10,x11⟩⟩:=HX.out
  by_cases hlt:k<W.sn
  ·have hlt':(k:Int)<(W.sn:Int):=by omega
   obtain⟨b,off,vd,rfl,hs⟩:=(Hp.out.below hb).cells hlt
   have q0:=hs.c0
   clear hs
   by_cases he:(W.sets k).name=x
   ·have H:=hideW he
    rw [he] at q0
    clear he
    go_wp2
    go_ret
    exact⟨k,rfl,Or.inl⟨k,hlt,H.out,Hno.out,rfl⟩,hb⟩
   ·have H:=hideW he
    have e0:((W.sets k).name.toList == x.toList)=false:=str_ne he
    clear he
    go_wp2
    go_roundw
    case rel=>
     refine⟨k+1,by omega,by go_num,?_,HX.out,hb⟩
     intro j hj
     by_cases e:j=k
     ·subst e; exact H.out
     ·exact Hno.out j(by omega)
    case measure=>simp [intOf]; omega
  ·obtain rfl:k=W.sn:=by omega
   go_wp2
   go_ret
   exact⟨-1,rfl,Or.inr⟨Hno.out,rfl⟩,hb⟩
end Go.Proofs.YtihplgckbhnohaaGreatDoor

namespace Go.Proofs.YtihplgckbhnohaaGreatDoor
set_option linter.unusedVariables false
theorem s1{α : Type}(l:List α)(i:Nat)(a:α):l.toArray.setIfInBounds i a=(l.set i a).toArray:=List.setIfInBounds_toArray ..
theorem s2{α : Type}(x:α)(l:List α)(a:α):(x :: l).set 0 a=a :: l:=rfl
theorem s3{α : Type}(x:α)(l:List α)(i:Nat)(a:α):(x :: l).set(i+1)a=x :: l.set i a:=rfl
def nthO:List Oper→Nat→Option Oper
 | [],_=>none
 | o :: _,0=>some o
 | _ :: l,n+1=>nthO l n
theorem nthO_list:∀(l:List Oper)(i:Nat),l[i]?=nthO l i
 | [],_=>rfl
 | _ :: _,0=>rfl
 | _ :: l,n+1=>by simpa [nthO] using nthO_list l n
theorem nthO_get{ops:Array Oper}{i:Nat}{o:Oper}(h:nthO ops.toList i=some o):ops[i]?=some o:=by
 rw [←h,←nthO_list,Array.getElem?_toList]
section
variable {P : Program} {md : Region.Mode} {ops : Array Oper} {Q : Exit → Act → World → Prop} {S : World → Prop}
theorem tk(i:Nat){o:Oper}{v:Value}{fuel:Nat}{listed l':Array Bool}{a a':Act}{w:World}(hi:nthO ops.toList i=some o:=by exact rfl)
  (hb:(Region.noSelect ops && (Region.free md ops listed i && (Region.ready md ops listed).contains i))=true:=by kernel_rfl)
  (hw:Region.wanted o(yielded ops a.tmps)=true:=by exact rfl)(hS:S w:=by assumption)
  (hy:∀w,S w→(execOp a.eval o).run P w = .ok(.value v)w:=by(intro w hSw; (try dsimp only at hSw); go_simp; try with_reducible rfl))
  (hl:listed.setIfInBounds i true=l':=by((try simp only [s1,s2,s3]); exact rfl))
  (ha:a.put o.dst v=a':=by((try simp only [Act.put,s1,s2,s3]); exact rfl))
  (hQ:∀c a w,Q(.panic c)(a.put o.dst v)w→Q(.panic c)a w:=by exact fun _ _ _ h=>h)
  (h:wpAnyH P md ops Q S fuel l' a' w):wpAnyH P md ops Q S(fuel+1)listed a w:=by
 simp only [Bool.and_eq_true] at hb
 subst hl ha
 exact wpAnyH_take(nthO_get hi)hb.1 hb.2.1 hb.2.2 hQ(Or.inl⟨hw,hy⟩)hS h
theorem ts(i:Nat){o:Oper}{fuel:Nat}{listed l':Array Bool}{a a':Act}{w:World}(hi:nthO ops.toList i=some o:=by exact rfl)
  (hb:(Region.noSelect ops && (Region.free md ops listed i && (Region.ready md ops listed).contains i))=true:=by kernel_rfl)
  (hw:Region.wanted o(yielded ops a.tmps)=false:=by exact rfl)(hS:S w:=by assumption)
  (hl:listed.setIfInBounds i true=l':=by((try simp only [s1,s2,s3]); exact rfl))
  (ha:a.put o.dst undef=a':=by((try simp only [Act.put,s1,s2,s3]); exact rfl))
  (hQ:∀c a w,Q(.panic c)(a.put o.dst undef)w→Q(.panic c)a w:=by exact fun _ _ _ h=>h)
  (h:wpAnyH P md ops Q S fuel l' a' w):wpAnyH P md ops Q S(fuel+1)listed a w:=by
 simp only [Bool.and_eq_true] at hb
 subst hl ha
 exact wpAnyH_take(nthO_get hi)hb.1 hb.2.1 hb.2.2 hQ(Or.inr⟨hw,rfl⟩)hS h
theorem rd(rs:List Nat){fuel:Nat}{listed:Array Bool}{a:Act}{w:World}(h:AllReadyH P md ops Q S fuel listed a w rs)
  (hr:Region.ready md ops listed=rs:=by kernel_rfl)(hne:rs≠[]:=by simp):wpAnyH P md ops Q S(fuel+1)listed a w:=wpAnyH_ready hr hne h
theorem rc{fuel:Nat}{listed:Array Bool}{a:Act}{w:World}{i:Nat}{o:Oper}{rs:List Nat}
  (h:∀K':Act→World→Prop,Shut(∀a w,S w→(S w→wpAnyH P md ops Q S fuel(listed.setIfInBounds i true)a w)→K' a w)→if Region.wanted o(yielded ops a.tmps)=true then Oper.wp P o a w K' Q else K'(a.put o.dst undef)w)
  (hs:AllReadyH P md ops Q S fuel listed a w rs)(ho:nthO ops.toList i=some o:=by exact rfl):AllReadyH P md ops Q S fuel listed a w(i :: rs):=AllReadyH.cons(nthO_get ho)h hs
end
end Go.Proofs.YtihplgckbhnohaaGreatDoor

namespace Go.Proofs.YtihplgckbhnohaaGreatDoor
open Go.RowKit
set_option linter.unusedVariables false
def cellSet(f:Nat→SetD)(cv:Nat→Value)(i r:Nat):Value:=
 match r with
 | 0=>.string(f i).name
 | 1=>.int .i64(f i).origin
 | 2=>.int .i64(f i).prev
 | 3=>.int .i64(f i).rs
 | 4=>.int .i64(f i).rb
 | _=>cv i
def clSet(f:Nat→SetD)(cv:Nat→Value)(n:Nat):List Value:=(List.range(n*6)).map fun j=>cellSet f cv(j / 6)(j % 6)
theorem clSet_len(f:Nat→SetD)(cv:Nat→Value)(n:Nat):(clSet f cv n).length=n*6:=by simp [clSet]
theorem clSet_at(f:Nat→SetD)(cv:Nat→Value)(n:Nat){i r:Nat}(hi:i<n)(hr:r<6):(clSet f cv n)[i*6+r]?=some(cellSet f cv i r):=by
 have h:i*6+r<n*6:=by omega
 have h1:(i*6+r) / 6=i:=by omega
 have h2:(i*6+r) % 6=r:=by omega
 simp [clSet,h,h1,h2]
theorem clSet_one(f:Nat→SetD)(cv:Nat→Value)(n:Nat)(h:∀i,i<n→(cv i).oneCell'=true):∀u∈clSet f cv n,u.oneCell'=true:=by
 intro u hu
 unfold clSet at hu
 obtain⟨j,hj,rfl⟩:=List.mem_map.1 hu
 have hj':=List.mem_range.1 hj
 have hi:j / 6<n:=by omega
 have hr:j % 6<6:=by omega
 generalize j % 6=r at hr ⊢
 rcases r with _ | _ | _ | _ | _ | _ <;> first | rfl | exact h _ hi
def SetHead(w:World)(b o:Nat)(s:SetD)(vd:Value):Prop:=Cell w b o(.string s.name)∧Cell w b(o+1)(.int .i64 s.origin)∧Cell w b(o+2)(.int .i64 s.prev)∧Cell w b(o+3)(.int .i64 s.rs)∧Cell w b(o+4)(.int .i64 s.rb)∧Cell w b(o+5)vd
theorem SetHead.turned{S:Nat→Prop}{w w':World}{b o:Nat}{s:SetD}{vd:Value}(h:SetHead w b o s vd)(t:Turned S w w')(hs:¬S b):SetHead w' b o s vd:=by
 obtain⟨h0,h1,h2,h3,h4,h5⟩:=h
 exact⟨h0.turned t hs,h1.turned t hs,h2.turned t hs,h3.turned t hs,h4.turned t hs,h5.turned t hs⟩
theorem SetHead.below{w w':World}{b o:Nat}{s:SetD}{vd:Value}(h:SetHead w b o s vd)(t:Below w.heap.size w w'):SetHead w' b o s vd:=
 h.turned(Turned.of_below(S:=fun _=>False)t)(fun h=>h)
theorem SetHead.set{w:World}{b o:Nat}{s:SetD}{vd:Value}(h:SetHead w b o s vd)(u:Value):SetHead(w.setCell⟨b,o+5,none⟩u)b o s u:=by
 obtain⟨h0,h1,h2,h3,h4,h5⟩:=h
 exact⟨h0.other _(Or.inr(by omega)),h1.other _(Or.inr(by omega)),h2.other _(Or.inr(by omega)),h3.other _(Or.inr(by omega)),h4.other _(Or.inr(by omega)),h5.set _⟩
theorem SetHead.other{w:World}{b o o':Nat}{s:SetD}{vd:Value}(h:SetHead w b o s vd)(u:Value)(hne:∀r,r<6→o'≠o+r):SetHead(w.setCell⟨b,o',none⟩u)b o s vd:=by
 obtain⟨h0,h1,h2,h3,h4,h5⟩:=h
 exact⟨h0.other _(Or.inr(hne 0(by omega))),h1.other _(Or.inr(hne 1(by omega))),h2.other _(Or.inr(hne 2(by omega))),h3.other _(Or.inr(hne 3(by omega))),h4.other _(Or.inr(hne 4(by omega))),h5.other _(Or.inr(hne 5(by omega)))⟩
structure HalfSet(wr:World)(bs L n k:Nat)(f:Nat→SetD)(kb:Nat→Nat)(kv cv:Nat→Value):Prop where
 heads:∀j,j<n→SetHead wr bs(j*6)(f j)(if j<k then kv j else cv j)
 dead:∀j,j<k→PtrsOwn wr(kb j)(kv j)(f j).dn(f j).ds(f j).db
 place:∀j,j<k→0<(f j).dn→L≤kb j∧kb j<wr.heap.size
 apart:SetsApart kb k f
 lt:0<n→bs<L
theorem HalfSet.below{wr w':World}{bs L n k:Nat}{f:Nat→SetD}{kb:Nat→Nat}{kv cv:Nat→Value}(h:HalfSet wr bs L n k f kb kv cv)(t:Below wr.heap.size wr w'):HalfSet w' bs L n k f kb kv cv:=
 ⟨fun j hj=>(h.heads j hj).below t,fun j hj=>(h.dead j hj).below t,fun j hj h0=>by have:=h.place j hj h0; have:=t.size; omega,h.apart,h.lt⟩
theorem HalfSet.turned{S:Nat→Prop}{wr w':World}{bs L n k:Nat}{f:Nat→SetD}{kb:Nat→Nat}{kv cv:Nat→Value}(h:HalfSet wr bs L n k f kb kv cv)(t:Turned S wr w')(hs:∀q,S q→(0<n→q≠bs)∧q<L)(hk:k≤n):HalfSet w' bs L n k f kb kv cv:=
 ⟨fun j hj=>(h.heads j hj).turned t(fun e=>(hs _ e).1(by omega)rfl),fun j hj=>(h.dead j hj).turned t(fun h0 e=>by have:=h.place j hj h0; have:=(hs _ e).2; omega),fun j hj h0=>by have:=h.place j hj h0; have:=t.size; omega,h.apart,h.lt⟩
theorem HalfSet.next{wr w1:World}{bs L n k b:Nat}{f:Nat→SetD}{kb:Nat→Nat}{kv cv:Nat→Value}{v:Value}(h:HalfSet wr bs L n k f kb kv cv)(hk:k<n)(hL:L≤wr.heap.size)(t:Below wr.heap.size wr w1)
  (hp:PtrsOwn w1 b v(f k).dn(f k).ds(f k).db)(hb:0<(f k).dn→wr.heap.size≤b∧b<w1.heap.size) :
  HalfSet(w1.setCell⟨bs,k*6+5,none⟩v)bs L n(k+1)f(fun j=>if j=k then b else kb j)(fun j=>if j=k then v else kv j)cv:=by
 have h':=h.below t
 have hlt:=h.lt(by omega)
 refine⟨fun j hj=>?_,fun j hj=>?_,fun j hj h0=>?_,fun i j hi hj hij h1 h2=>?_,h.lt⟩
 ·have hh:=h'.heads j hj
  by_cases e:j=k
  ·subst e
   rw [if_pos(by omega),if_pos rfl]
   exact hh.set v
  ·rw [if_neg e]
   have es:(if j<k+1 then kv j else cv j)=if j<k then kv j else cv j:=by
    by_cases e2:j<k
    ·rw [if_pos e2,if_pos(by omega)]
    ·rw [if_neg e2,if_neg(by omega)]
   rw [es]
   exact hh.other v(fun r hr=>by omega)
 ·by_cases e:j=k
  ·subst e
   simp only [if_true]
   exact hp.turned(Turned.put _ _ _ _)(fun h0 hx=>by have:=hb h0; omega)
  ·simp only [if_neg e]
   exact(h'.dead j(by omega)).turned(Turned.put _ _ _ _)(fun h0 hx=>by have:=h'.place j(by omega)h0; omega)
 ·simp only [World.size_setCell]
  by_cases e:j=k
  ·subst e
   rw [if_pos rfl]
   have:=hb h0
   omega
  ·rw [if_neg e]
   have:=h'.place j(by omega)h0
   omega
 ·show(if i=k then b else kb i)≠(if j=k then b else kb j)
  by_cases e1:i=k
  ·by_cases e2:j=k
   ·omega
   ·rw [if_pos e1,if_neg e2]
    subst e1
    have:=hb h1
    have:=h.place j(by omega)h2
    omega
  ·by_cases e2:j=k
   ·rw [if_neg e1,if_pos e2]
    subst e2
    have:=hb h2
    have:=h.place i(by omega)h1
    omega
   ·rw [if_neg e1,if_neg e2]
    exact h.apart i j(by omega)(by omega)hij h1 h2
theorem HalfSet.own{wr:World}{bs L n c:Nat}{f:Nat→SetD}{kb:Nat→Nat}{kv cv:Nat→Value}{a:Option Addr}(h:HalfSet wr bs L n n f kb kv cv)(hm:n≤maxLen)(ha:0<n→a=some⟨bs,0,none⟩)(hc:n≤c)(hs:∀i,i<n→(f i).name.size≤maxLen):SetsOwn wr bs kb kv(.slice a n c)n f:=
 ⟨hm,a,c,rfl,hc,fun h0=>⟨0,ha h0,fun i hi=>by
  obtain⟨h0,h1,h2,h3,h4,h5⟩:=h.heads i hi
  rw [if_pos hi] at h5
  rw [Nat.zero_add]
  exact⟨h0,h1,h2,h3,h4,h5,h.dead i hi,hs i hi,fun hk e=>by have:=h.place i hi hk; have:=h.lt(by omega); omega⟩⟩⟩
theorem HalfSet.turned0{S:Nat→Prop}{wr w':World}{bs L n:Nat}{f:Nat→SetD}{kb:Nat→Nat}{kv cv:Nat→Value}(h:HalfSet wr bs L n 0 f kb kv cv)(t:Turned S wr w')(hs:∀q,S q→0<n→q≠bs):HalfSet w' bs L n 0 f kb kv cv:=
 ⟨fun j hj=>(h.heads j hj).turned t(fun e=>hs _ e(by omega)rfl),fun j hj=>absurd hj(Nat.not_lt_zero _),fun j hj=>absurd hj(Nat.not_lt_zero _),h.apart,h.lt⟩
theorem HalfSet.weak{wr:World}{bs L L' n:Nat}{f:Nat→SetD}{kb:Nat→Nat}{kv cv:Nat→Value}(h:HalfSet wr bs L n 0 f kb kv cv)(hL:L≤L'):HalfSet wr bs L' n 0 f kb kv cv:=
 ⟨h.heads,h.dead,fun j hj=>absurd hj(Nat.not_lt_zero _),h.apart,fun h0=>Nat.lt_of_lt_of_le(h.lt h0)hL⟩
theorem SetsAt.values{w:World}{lo hi:Nat}{a:Option Addr}{n c:Nat}{f:Nat→SetD}(h:SetsAt w lo hi(.slice a n c)n f) :
  ∃cv:Nat→Value,(∀i,i<n→PtrsAt w lo hi(cv i)(f i).dn(f i).ds(f i).db∧(f i).name.size≤maxLen)∧
   (0<n→∃b off,a=some⟨b,off,none⟩∧∀j u,(clSet f cv n)[j]?=some u→w.cell?⟨b,off+j,none⟩=some u):=by
 obtain⟨_,a0,c0,h0,_,g⟩:=h
 simp only [Value.slice.injEq,true_and] at h0
 obtain⟨rfl,rfl⟩:=h0
 by_cases hn:0<n
 ·obtain⟨b,off,ha,hb1,hb2,hc⟩:=g hn
  have hex:∀i,∃x,i<n→SetCells w b(off+i*6)lo hi x(f i):=fun i=>by
   by_cases hi:i<n
   ·obtain⟨vd,hs⟩:=hc i hi
    exact⟨vd,fun _=>hs⟩
   ·exact⟨.slice none 0 0,fun h=>absurd h hi⟩
  obtain⟨cv,hcv⟩:=Classical.axiomOfChoice hex
  refine⟨cv,fun i hi=>⟨(hcv i hi).dead,(hcv i hi).small⟩,fun _=>⟨b,off,ha,fun j u hj=>?_⟩⟩
  have hlt:j<n*6:=by
   have:=(List.getElem?_eq_some_iff.1 hj).1
   rwa [clSet_len] at this
  have hs:=hcv(j / 6)(by omega)
  have e:=clSet_at f cv n(i:=j / 6)(r:=j % 6)(by omega)(by omega)
  rw [show j / 6*6+j % 6=j by omega,hj] at e
  have hr:j % 6<6:=by omega
  have ho:off+j=off+j / 6*6+j % 6:=by omega
  rw [ho]
  generalize j % 6=r at hr e ⊢
  generalize j / 6=q at hs e ⊢
  rcases r with _ | _ | _ | _ | _ | _ | r
  ·cases e; exact hs.c0
  ·cases e; exact hs.c1
  ·cases e; exact hs.c2
  ·cases e; exact hs.c3
  ·cases e; exact hs.c4
  ·cases e; exact hs.c5
  ·omega
 ·exact⟨fun _=>.slice none 0 0,fun i hi=>absurd hi(by omega),fun h=>absurd h hn⟩
theorem halfSet_start{w1:World}{base n:Nat}{v:Value}{f:Nat→SetD}{cv:Nat→Value}(hown:w1.ownsRow base 90 6 v n(clSet f cv n))(L:Nat)(hL:w1.heap.size≤L):∃bs a c,v = .slice a n c∧n≤c∧(0<n→a=some⟨bs,0,none⟩∧base≤bs∧bs<w1.heap.size)∧HalfSet w1 bs L n 0 f(fun _=>0)cv cv:=by
 obtain⟨a1,c1,rfl,hnc⟩:=owns_form hown
 by_cases h0:0<n
 ·obtain⟨g,cap,hv,_,hg1,hg2,hcell⟩:=owns_cell hown h0
  simp only [Value.slice.injEq,true_and] at hv
  obtain⟨rfl,rfl⟩:=hv
  refine⟨g,_,_,rfl,hnc,fun _=>⟨rfl,hg1,hg2⟩,fun j hj=>?_,fun j hj=>absurd hj(Nat.not_lt_zero _),fun j hj=>absurd hj(Nat.not_lt_zero _),fun i j hi=>absurd hi(Nat.not_lt_zero _),fun _=>by omega⟩
  rw [if_neg(Nat.not_lt_zero _)]
  exact⟨hcell _ _(clSet_at f cv n hj(r:=0)(by omega)),hcell _ _(clSet_at f cv n hj(r:=1)(by omega)),hcell _ _(clSet_at f cv n hj(r:=2)(by omega)),hcell _ _(clSet_at f cv n hj(r:=3)(by omega)),hcell _ _(clSet_at f cv n hj(r:=4)(by omega)),hcell _ _(clSet_at f cv n hj(r:=5)(by omega))⟩
 ·exact⟨0,_,_,rfl,hnc,fun h=>absurd h h0,fun j hj=>absurd hj(by omega),fun j hj=>absurd hj(Nat.not_lt_zero _),fun j hj=>absurd hj(Nat.not_lt_zero _),fun i j hi=>absurd hi(Nat.not_lt_zero _),fun h=>absurd h h0⟩
def cellSnap(f:Nat→SnapD)(cv:Nat→Value)(i r:Nat):Value:=
 match r with
 | 0=>.int .i64(f i).id
 | 1=>.string(f i).name
 | 2=>.string(f i).set
 | 3=>.int .i64(f i).prev
 | 4=>.int .i64(f i).time
 | 5=>.int .i64(f i).rs
 | 6=>.int .i64(f i).rb
 | _=>cv i
def clSnap(f:Nat→SnapD)(cv:Nat→Value)(n:Nat):List Value:=(List.range(n*8)).map fun j=>cellSnap f cv(j / 8)(j % 8)
theorem clSnap_len(f:Nat→SnapD)(cv:Nat→Value)(n:Nat):(clSnap f cv n).length=n*8:=by simp [clSnap]
theorem clSnap_at(f:Nat→SnapD)(cv:Nat→Value)(n:Nat){i r:Nat}(hi:i<n)(hr:r<8):(clSnap f cv n)[i*8+r]?=some(cellSnap f cv i r):=by
 have h:i*8+r<n*8:=by omega
 have h1:(i*8+r) / 8=i:=by omega
 have h2:(i*8+r) % 8=r:=by omega
 simp [clSnap,h,h1,h2]
theorem clSnap_one(f:Nat→SnapD)(cv:Nat→Value)(n:Nat)(h:∀i,i<n→(cv i).oneCell'=true):∀u∈clSnap f cv n,u.oneCell'=true:=by
 intro u hu
 unfold clSnap at hu
 obtain⟨j,hj,rfl⟩:=List.mem_map.1 hu
 have hj':=List.mem_range.1 hj
 have hi:j / 8<n:=by omega
 have hr:j % 8<8:=by omega
 generalize j % 8=r at hr ⊢
 rcases r with _ | _ | _ | _ | _ | _ | _ | _ <;> first | rfl | exact h _ hi
def SnapHead(w:World)(b o:Nat)(s:SnapD)(vd:Value):Prop:=Cell w b o(.int .i64 s.id)∧Cell w b(o+1)(.string s.name)∧Cell w b(o+2)(.string s.set)∧Cell w b(o+3)(.int .i64 s.prev)∧Cell w b(o+4)(.int .i64 s.time)∧Cell w b(o+5)(.int .i64 s.rs)∧Cell w b(o+6)(.int .i64 s.rb)∧Cell w b(o+7)vd
theorem SnapHead.turned{S:Nat→Prop}{w w':World}{b o:Nat}{s:SnapD}{vd:Value}(h:SnapHead w b o s vd)(t:Turned S w w')(hs:¬S b):SnapHead w' b o s vd:=by
 obtain⟨h0,h1,h2,h3,h4,h5,h6,h7⟩:=h
 exact⟨h0.turned t hs,h1.turned t hs,h2.turned t hs,h3.turned t hs,h4.turned t hs,h5.turned t hs,h6.turned t hs,h7.turned t hs⟩
theorem SnapHead.below{w w':World}{b o:Nat}{s:SnapD}{vd:Value}(h:SnapHead w b o s vd)(t:Below w.heap.size w w'):SnapHead w' b o s vd:=
 h.turned(Turned.of_below(S:=fun _=>False)t)(fun h=>h)
theorem SnapHead.set{w:World}{b o:Nat}{s:SnapD}{vd:Value}(h:SnapHead w b o s vd)(u:Value):SnapHead(w.setCell⟨b,o+7,none⟩u)b o s u:=by
 obtain⟨h0,h1,h2,h3,h4,h5,h6,h7⟩:=h
 exact⟨h0.other _(Or.inr(by omega)),h1.other _(Or.inr(by omega)),h2.other _(Or.inr(by omega)),h3.other _(Or.inr(by omega)),h4.other _(Or.inr(by omega)),h5.other _(Or.inr(by omega)),h6.other _(Or.inr(by omega)),h7.set _⟩
theorem SnapHead.other{w:World}{b o o':Nat}{s:SnapD}{vd:Value}(h:SnapHead w b o s vd)(u:Value)(hne:∀r,r<8→o'≠o+r):SnapHead(w.setCell⟨b,o',none⟩u)b o s vd:=by
 obtain⟨h0,h1,h2,h3,h4,h5,h6,h7⟩:=h
 exact⟨h0.other _(Or.inr(hne 0(by omega))),h1.other _(Or.inr(hne 1(by omega))),h2.other _(Or.inr(hne 2(by omega))),h3.other _(Or.inr(hne 3(by omega))),h4.other _(Or.inr(hne 4(by omega))),h5.other _(Or.inr(hne 5(by omega))),h6.other _(Or.inr(hne 6(by omega))),h7.other _(Or.inr(hne 7(by omega)))⟩
structure HalfSnap(wr:World)(bs L n k:Nat)(f:Nat→SnapD)(kb:Nat→Nat)(kv cv:Nat→Value):Prop where
 heads:∀j,j<n→SnapHead wr bs(j*8)(f j)(if j<k then kv j else cv j)
 dead:∀j,j<k→PtrsOwn wr(kb j)(kv j)(f j).dn(f j).ds(f j).db
 place:∀j,j<k→0<(f j).dn→L≤kb j∧kb j<wr.heap.size
 apart:SnapsApart kb k f
 lt:0<n→bs<L
theorem HalfSnap.below{wr w':World}{bs L n k:Nat}{f:Nat→SnapD}{kb:Nat→Nat}{kv cv:Nat→Value}(h:HalfSnap wr bs L n k f kb kv cv)(t:Below wr.heap.size wr w'):HalfSnap w' bs L n k f kb kv cv:=
 ⟨fun j hj=>(h.heads j hj).below t,fun j hj=>(h.dead j hj).below t,fun j hj h0=>by have:=h.place j hj h0; have:=t.size; omega,h.apart,h.lt⟩
theorem HalfSnap.turned{S:Nat→Prop}{wr w':World}{bs L n k:Nat}{f:Nat→SnapD}{kb:Nat→Nat}{kv cv:Nat→Value}(h:HalfSnap wr bs L n k f kb kv cv)(t:Turned S wr w')(hs:∀q,S q→(0<n→q≠bs)∧q<L)(hk:k≤n):HalfSnap w' bs L n k f kb kv cv:=
 ⟨fun j hj=>(h.heads j hj).turned t(fun e=>(hs _ e).1(by omega)rfl),fun j hj=>(h.dead j hj).turned t(fun h0 e=>by have:=h.place j hj h0; have:=(hs _ e).2; omega),fun j hj h0=>by have:=h.place j hj h0; have:=t.size; omega,h.apart,h.lt⟩
theorem HalfSnap.next{wr w1:World}{bs L n k b:Nat}{f:Nat→SnapD}{kb:Nat→Nat}{kv cv:Nat→Value}{v:Value}(h:HalfSnap wr bs L n k f kb kv cv)(hk:k<n)(hL:L≤wr.heap.size)(t:Below wr.heap.size wr w1)
  (hp:PtrsOwn w1 b v(f k).dn(f k).ds(f k).db)(hb:0<(f k).dn→wr.heap.size≤b∧b<w1.heap.size) :
  HalfSnap(w1.setCell⟨bs,k*8+7,none⟩v)bs L n(k+1)f(fun j=>if j=k then b else kb j)(fun j=>if j=k then v else kv j)cv:=by
 have h':=h.below t
 have hlt:=h.lt(by omega)
 refine⟨fun j hj=>?_,fun j hj=>?_,fun j hj h0=>?_,fun i j hi hj hij h1 h2=>?_,h.lt⟩
 ·have hh:=h'.heads j hj
  by_cases e:j=k
  ·subst e
   rw [if_pos(by omega),if_pos rfl]
   exact hh.set v
  ·rw [if_neg e]
   have es:(if j<k+1 then kv j else cv j)=if j<k then kv j else cv j:=by
    by_cases e2:j<k
    ·rw [if_pos e2,if_pos(by omega)]
    ·rw [if_neg e2,if_neg(by omega)]
   rw [es]
   exact hh.other v(fun r hr=>by omega)
 ·by_cases e:j=k
  ·subst e
   simp only [if_true]
   exact hp.turned(Turned.put _ _ _ _)(fun h0 hx=>by have:=hb h0; omega)
  ·simp only [if_neg e]
   exact(h'.dead j(by omega)).turned(Turned.put _ _ _ _)(fun h0 hx=>by have:=h'.place j(by omega)h0; omega)
 ·simp only [World.size_setCell]
  by_cases e:j=k
  ·subst e
   rw [if_pos rfl]
   have:=hb h0
   omega
  ·rw [if_neg e]
   have:=h'.place j(by omega)h0
   omega
 ·show(if i=k then b else kb i)≠(if j=k then b else kb j)
  by_cases e1:i=k
  ·by_cases e2:j=k
   ·omega
   ·rw [if_pos e1,if_neg e2]
    subst e1
    have:=hb h1
    have:=h.place j(by omega)h2
    omega
  ·by_cases e2:j=k
   ·rw [if_neg e1,if_pos e2]
    subst e2
    have:=hb h2
    have:=h.place i(by omega)h1
    omega
   ·rw [if_neg e1,if_neg e2]
    exact h.apart i j(by omega)(by omega)hij h1 h2
theorem HalfSnap.own{wr:World}{bs L n c:Nat}{f:Nat→SnapD}{kb:Nat→Nat}{kv cv:Nat→Value}{a:Option Addr}(h:HalfSnap wr bs L n n f kb kv cv)(hm:n≤maxLen)(ha:0<n→a=some⟨bs,0,none⟩)(hc:n≤c)(hs:∀i,i<n→((f i).name.size≤maxLen∧(f i).set.size≤maxLen)):SnapsOwn wr bs kb kv(.slice a n c)n f:=
 ⟨hm,a,c,rfl,hc,fun h0=>⟨0,ha h0,fun i hi=>by
  obtain⟨h0,h1,h2,h3,h4,h5,h6,h7⟩:=h.heads i hi
  rw [if_pos hi] at h7
  rw [Nat.zero_add]
  exact⟨h0,h1,h2,h3,h4,h5,h6,h7,h.dead i hi,hs i hi,fun hk e=>by have:=h.place i hi hk; have:=h.lt(by omega); omega⟩⟩⟩
theorem HalfSnap.turned0{S:Nat→Prop}{wr w':World}{bs L n:Nat}{f:Nat→SnapD}{kb:Nat→Nat}{kv cv:Nat→Value}(h:HalfSnap wr bs L n 0 f kb kv cv)(t:Turned S wr w')(hs:∀q,S q→0<n→q≠bs):HalfSnap w' bs L n 0 f kb kv cv:=
 ⟨fun j hj=>(h.heads j hj).turned t(fun e=>hs _ e(by omega)rfl),fun j hj=>absurd hj(Nat.not_lt_zero _),fun j hj=>absurd hj(Nat.not_lt_zero _),h.apart,h.lt⟩
theorem HalfSnap.weak{wr:World}{bs L L' n:Nat}{f:Nat→SnapD}{kb:Nat→Nat}{kv cv:Nat→Value}(h:HalfSnap wr bs L n 0 f kb kv cv)(hL:L≤L'):HalfSnap wr bs L' n 0 f kb kv cv:=
 ⟨h.heads,h.dead,fun j hj=>absurd hj(Nat.not_lt_zero _),h.apart,fun h0=>Nat.lt_of_lt_of_le(h.lt h0)hL⟩
theorem SnapsAt.values{w:World}{lo hi:Nat}{a:Option Addr}{n c:Nat}{f:Nat→SnapD}(h:SnapsAt w lo hi(.slice a n c)n f) :
  ∃cv:Nat→Value,(∀i,i<n→PtrsAt w lo hi(cv i)(f i).dn(f i).ds(f i).db∧((f i).name.size≤maxLen∧(f i).set.size≤maxLen))∧
   (0<n→∃b off,a=some⟨b,off,none⟩∧∀j u,(clSnap f cv n)[j]?=some u→w.cell?⟨b,off+j,none⟩=some u):=by
 obtain⟨_,a0,c0,h0,_,g⟩:=h
 simp only [Value.slice.injEq,true_and] at h0
 obtain⟨rfl,rfl⟩:=h0
 by_cases hn:0<n
 ·obtain⟨b,off,ha,hb1,hb2,hc⟩:=g hn
  have hex:∀i,∃x,i<n→SnapCells w b(off+i*8)lo hi x(f i):=fun i=>by
   by_cases hi:i<n
   ·obtain⟨vd,hs⟩:=hc i hi
    exact⟨vd,fun _=>hs⟩
   ·exact⟨.slice none 0 0,fun h=>absurd h hi⟩
  obtain⟨cv,hcv⟩:=Classical.axiomOfChoice hex
  refine⟨cv,fun i hi=>⟨(hcv i hi).dead,(hcv i hi).small⟩,fun _=>⟨b,off,ha,fun j u hj=>?_⟩⟩
  have hlt:j<n*8:=by
   have:=(List.getElem?_eq_some_iff.1 hj).1
   rwa [clSnap_len] at this
  have hs:=hcv(j / 8)(by omega)
  have e:=clSnap_at f cv n(i:=j / 8)(r:=j % 8)(by omega)(by omega)
  rw [show j / 8*8+j % 8=j by omega,hj] at e
  have hr:j % 8<8:=by omega
  have ho:off+j=off+j / 8*8+j % 8:=by omega
  rw [ho]
  generalize j % 8=r at hr e ⊢
  generalize j / 8=q at hs e ⊢
  rcases r with _ | _ | _ | _ | _ | _ | _ | _ | r
  ·cases e; exact hs.c0
  ·cases e; exact hs.c1
  ·cases e; exact hs.c2
  ·cases e; exact hs.c3
  ·cases e; exact hs.c4
  ·cases e; exact hs.c5
  ·cases e; exact hs.c6
  ·cases e; exact hs.c7
  ·omega
 ·exact⟨fun _=>.slice none 0 0,fun i hi=>absurd hi(by omega),fun h=>absurd h hn⟩
theorem halfSnap_start{w1:World}{base n:Nat}{v:Value}{f:Nat→SnapD}{cv:Nat→Value}(hown:w1.ownsRow base 92 8 v n(clSnap f cv n))(L:Nat)(hL:w1.heap.size≤L):∃bs a c,v = .slice a n c∧n≤c∧(0<n→a=some⟨bs,0,none⟩∧base≤bs∧bs<w1.heap.size)∧HalfSnap w1 bs L n 0 f(fun _=>0)cv cv:=by
 obtain⟨a1,c1,rfl,hnc⟩:=owns_form hown
 by_cases h0:0<n
 ·obtain⟨g,cap,hv,_,hg1,hg2,hcell⟩:=owns_cell hown h0
  simp only [Value.slice.injEq,true_and] at hv
  obtain⟨rfl,rfl⟩:=hv
  refine⟨g,_,_,rfl,hnc,fun _=>⟨rfl,hg1,hg2⟩,fun j hj=>?_,fun j hj=>absurd hj(Nat.not_lt_zero _),fun j hj=>absurd hj(Nat.not_lt_zero _),fun i j hi=>absurd hi(Nat.not_lt_zero _),fun _=>by omega⟩
  rw [if_neg(Nat.not_lt_zero _)]
  exact⟨hcell _ _(clSnap_at f cv n hj(r:=0)(by omega)),hcell _ _(clSnap_at f cv n hj(r:=1)(by omega)),hcell _ _(clSnap_at f cv n hj(r:=2)(by omega)),hcell _ _(clSnap_at f cv n hj(r:=3)(by omega)),hcell _ _(clSnap_at f cv n hj(r:=4)(by omega)),hcell _ _(clSnap_at f cv n hj(r:=5)(by omega)),hcell _ _(clSnap_at f cv n hj(r:=6)(by omega)),hcell _ _(clSnap_at f cv n hj(r:=7)(by omega))⟩
 ·exact⟨0,_,_,rfl,hnc,fun h=>absurd h h0,fun j hj=>absurd hj(by omega),fun j hj=>absurd hj(Nat.not_lt_zero _),fun j hj=>absurd hj(Nat.not_lt_zero _),fun i j hi=>absurd hi(Nat.not_lt_zero _),fun h=>absurd h h0⟩
def DeadsN(W:WorldD):Prop:=(∀i,i<W.sn→(W.sets i).dn≤1048576)∧∀i,i<W.pn→(W.snaps i).dn≤1048576
end Go.Proofs.YtihplgckbhnohaaGreatDoor
