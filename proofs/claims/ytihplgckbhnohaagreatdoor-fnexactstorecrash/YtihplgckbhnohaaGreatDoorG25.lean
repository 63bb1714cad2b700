/- Variables that hold own pools, and what is handed back beside a code: a pool, a pointer and a number in one variable. -/
import Derived.Test.YtihplgckbhnohaaGreatDoorG5
import Derived.Test.YtihplgckbhnohaaGreatDoorG1
import Derived.Test.YtihplgckbhnohaaGreatDoorG2
import Derived.Test.YtihplgckbhnohaaGreatDoorG3
import Derived.Test.YtihplgckbhnohaaGreatDoorProg
import GoSem.ClaimJoined
import GoSem.ClaimMapViews
import Derived.JoinedTies
import Derived.KernelRfl
import Derived.RowKit
import Derived.Test.YtihplgckbhnohaaGreatDoorG4
import Derived.Test.YtihplgckbhnohaaGreatDoorG14
import Derived.Deep.RegionLaw
namespace Go.Proofs.YtihplgckbhnohaaGreatDoor
open Go.RowKit
set_option linter.unusedVariables false
structure PoolVar(w:World)(b lo hi:Nat)(v0 v1:Value)(q:PoolD):Prop where
 box:Box2 w b v0 v1
 own:PoolOwn w lo hi v0 v1 q
theorem PoolVar.below{w w':World}{b lo hi:Nat}{v0 v1:Value}{q:PoolD}(h:PoolVar w b lo hi v0 v1 q)(t:Below w.heap.size w w'):PoolVar w' b lo hi v0 v1 q:=⟨h.box.below t,h.own.below t⟩
theorem PoolVar.turned{S:Nat→Prop}{w w':World}{b lo hi:Nat}{v0 v1:Value}{q:PoolD}(h:PoolVar w b lo hi v0 v1 q)(t:Turned S w w')(hb:¬S b)(hs:∀k,S k→k<lo∨hi≤k):PoolVar w' b lo hi v0 v1 q:=⟨h.box.turned t hb,h.own.turned t hs⟩
theorem slotsN_le{f g:Nat→SlotD}(h:∀i,slotN(f i)≤slotN(g i)):∀n,slotsN f n≤slotsN g n
 | 0=>Nat.le_refl _
 | n+1=>Nat.add_le_add(slotsN_le h n)(h n)
def Box5(w:World)(b:Nat)(v0 v1 v2 v3 v4:Value):Prop:=Cell w b 0 v0∧Cell w b 1 v1∧Cell w b 2 v2∧Cell w b 3 v3∧Cell w b 4 v4
theorem Box5.below{w w':World}{b:Nat}{v0 v1 v2 v3 v4:Value}(h:Box5 w b v0 v1 v2 v3 v4)(t:Below w.heap.size w w'):Box5 w' b v0 v1 v2 v3 v4:=⟨h.1.below t,h.2.1.below t,h.2.2.1.below t,h.2.2.2.1.below t,h.2.2.2.2.below t⟩
theorem Box5.turned{S:Nat→Prop}{w w':World}{b:Nat}{v0 v1 v2 v3 v4:Value}(h:Box5 w b v0 v1 v2 v3 v4)(t:Turned S w w')(hs:¬S b):Box5 w' b v0 v1 v2 v3 v4:=⟨h.1.turned t hs,h.2.1.turned t hs,h.2.2.1.turned t hs,h.2.2.2.1.turned t hs,h.2.2.2.2.turned t hs⟩
theorem Box5.new(w:World)(v0 v1 v2 v3 v4:Value)(t:TypeId):Box5(w.alloc(.cells #[v0,v1,v2,v3,v4] t))w.heap.size v0 v1 v2 v3 v4:=by
 have hb:(w.alloc(.cells #[v0,v1,v2,v3,v4] t)).heap[w.heap.size]?=some(.cells #[v0,v1,v2,v3,v4] t):=heap_alloc_new _ _
 exact⟨cell_of_block hb rfl,cell_of_block hb rfl,cell_of_block hb rfl,cell_of_block hb rfl,cell_of_block hb rfl⟩
abbrev put5(w:World)(b:Nat)(u0 u1 u2 u3 u4:Value):World:=((((w.setCell⟨b,0,none⟩u0).setCell⟨b,1,none⟩u1).setCell⟨b,2,none⟩u2).setCell⟨b,3,none⟩u3).setCell⟨b,4,none⟩u4
theorem Box5.put{w:World}{b:Nat}{v0 v1 v2 v3 v4:Value}(h:Box5 w b v0 v1 v2 v3 v4)(u0 u1 u2 u3 u4:Value):Box5(put5 w b u0 u1 u2 u3 u4)b u0 u1 u2 u3 u4:=by
 obtain⟨h0,h1,h2,h3,h4⟩:=h
 refine⟨?_,?_,?_,?_,?_⟩
 ·exact((((h0.set _).other _(Or.inr(by omega))).other _(Or.inr(by omega))).other _(Or.inr(by omega))).other _(Or.inr(by omega))
 ·exact((((h1.other _(Or.inr(by omega))).set _).other _(Or.inr(by omega))).other _(Or.inr(by omega))).other _(Or.inr(by omega))
 ·exact((((h2.other _(Or.inr(by omega))).other _(Or.inr(by omega))).set _).other _(Or.inr(by omega))).other _(Or.inr(by omega))
 ·exact((((h3.other _(Or.inr(by omega))).other _(Or.inr(by omega))).other _(Or.inr(by omega))).set _).other _(Or.inr(by omega))
 ·exact((((h4.other _(Or.inr(by omega))).other _(Or.inr(by omega))).other _(Or.inr(by omega))).other _(Or.inr(by omega))).set _
theorem Turned.put5(w:World)(b:Nat)(u0 u1 u2 u3 u4:Value):Turned(fun k=>k=b)w(put5 w b u0 u1 u2 u3 u4):=
 ((((Turned.put w b 0 u0).trans(Turned.put _ b 1 u1)).trans(Turned.put _ b 2 u2)).trans(Turned.put _ b 3 u3)).trans(Turned.put _ b 4 u4)
structure OutD where
 pool:PoolD
 ps:Int
 pb:Int
 code:Int
theorem none_own{w:World}{lo hi:Nat}:PoolOwn w lo hi(.slice none 0 0)(.slice none 0 0)(newP 0):=
 newP_own(g:=0)(Nat.zero_le _)⟨none,0,rfl,Nat.le_refl _,fun h=>absurd h(Nat.lt_irrefl _)⟩(fun i h=>absurd h(Nat.not_lt_zero _))
structure OutVar(w:World)(b lo hi:Nat)(v0 v1:Value)(o:OutD):Prop where
 box:Box5 w b v0 v1(.int .i64 o.ps)(.int .i64 o.pb)(.int .i64 o.code)
 own:PoolOwn w lo hi v0 v1 o.pool
theorem OutVar.below{w w':World}{b lo hi:Nat}{v0 v1:Value}{o:OutD}(h:OutVar w b lo hi v0 v1 o)(t:Below w.heap.size w w'):OutVar w' b lo hi v0 v1 o:=⟨h.box.below t,h.own.below t⟩
theorem OutVar.turned{S:Nat→Prop}{w w':World}{b lo hi:Nat}{v0 v1:Value}{o:OutD}(h:OutVar w b lo hi v0 v1 o)(t:Turned S w w')(hb:¬S b)(hs:∀k,S k→k<lo∨hi≤k):OutVar w' b lo hi v0 v1 o:=⟨h.box.turned t hb,h.own.turned t hs⟩
end Go.Proofs.YtihplgckbhnohaaGreatDoor

namespace Go.Proofs.YtihplgckbhnohaaGreatDoor
open Go.RowKit
set_option linter.unusedVariables false
def Box13(w:World)(b:Nat)(v0 v1 v2 v3 v4 v5 v6 v7 v8 v9 v10 v11 v12:Value):Prop:=Cell w b 0 v0∧Cell w b 1 v1∧Cell w b 2 v2∧Cell w b 3 v3∧Cell w b 4 v4∧Cell w b 5 v5∧Cell w b 6 v6∧Cell w b 7 v7∧Cell w b 8 v8∧Cell w b 9 v9∧Cell w b 10 v10∧Cell w b 11 v11∧Cell w b 12 v12
theorem Box13.below{w w':World}{b:Nat}{v0 v1 v2 v3 v4 v5 v6 v7 v8 v9 v10 v11 v12:Value}(h:Box13 w b v0 v1 v2 v3 v4 v5 v6 v7 v8 v9 v10 v11 v12)(t:Below w.heap.size w w'):Box13 w' b v0 v1 v2 v3 v4 v5 v6 v7 v8 v9 v10 v11 v12:=⟨h.1.below t,h.2.1.below t,h.2.2.1.below t,h.2.2.2.1.below t,h.2.2.2.2.1.below t,h.2.2.2.2.2.1.below t,h.2.2.2.2.2.2.1.below t,h.2.2.2.2.2.2.2.1.below t,h.2.2.2.2.2.2.2.2.1.below t,h.2.2.2.2.2.2.2.2.2.1.below t,h.2.2.2.2.2.2.2.2.2.2.1.below t,h.2.2.2.2.2.2.2.2.2.2.2.1.below t,h.2.2.2.2.2.2.2.2.2.2.2.2.below t⟩
theorem Box13.turned{S:Nat→Prop}{w w':World}{b:Nat}{v0 v1 v2 v3 v4 v5 v6 v7 v8 v9 v10 v11 v12:Value}(h:Box13 w b v0 v1 v2 v3 v4 v5 v6 v7 v8 v9 v10 v11 v12)(t:Turned S w w')(hs:¬S b):Box13 w' b v0 v1 v2 v3 v4 v5 v6 v7 v8 v9 v10 v11 v12:=⟨h.1.turned t hs,h.2.1.turned t hs,h.2.2.1.turned t hs,h.2.2.2.1.turned t hs,h.2.2.2.2.1.turned t hs,h.2.2.2.2.2.1.turned t hs,h.2.2.2.2.2.2.1.turned t hs,h.2.2.2.2.2.2.2.1.turned t hs,h.2.2.2.2.2.2.2.2.1.turned t hs,h.2.2.2.2.2.2.2.2.2.1.turned t hs,h.2.2.2.2.2.2.2.2.2.2.1.turned t hs,h.2.2.2.2.2.2.2.2.2.2.2.1.turned t hs,h.2.2.2.2.2.2.2.2.2.2.2.2.turned t hs⟩
theorem Box13.new(w:World)(v0 v1 v2 v3 v4 v5 v6 v7 v8 v9 v10 v11 v12:Value)(t:TypeId):Box13(w.alloc(.cells #[v0,v1,v2,v3,v4,v5,v6,v7,v8,v9,v10,v11,v12] t))w.heap.size v0 v1 v2 v3 v4 v5 v6 v7 v8 v9 v10 v11 v12:=by
 have hb:(w.alloc(.cells #[v0,v1,v2,v3,v4,v5,v6,v7,v8,v9,v10,v11,v12] t)).heap[w.heap.size]?=some(.cells #[v0,v1,v2,v3,v4,v5,v6,v7,v8,v9,v10,v11,v12] t):=heap_alloc_new _ _
 exact⟨cell_of_block hb rfl,cell_of_block hb rfl,cell_of_block hb rfl,cell_of_block hb rfl,cell_of_block hb rfl,cell_of_block hb rfl,cell_of_block hb rfl,cell_of_block hb rfl,cell_of_block hb rfl,cell_of_block hb rfl,cell_of_block hb rfl,cell_of_block hb rfl,cell_of_block hb rfl⟩
abbrev put13(w:World)(b:Nat)(u0 u1 u2 u3 u4 u5 u6 u7 u8 u9 u10 u11 u12:Value):World:=((((((((((((w.setCell⟨b,0,none⟩u0).setCell⟨b,1,none⟩u1).setCell⟨b,2,none⟩u2).setCell⟨b,3,none⟩u3).setCell⟨b,4,none⟩u4).setCell⟨b,5,none⟩u5).setCell⟨b,6,none⟩u6).setCell⟨b,7,none⟩u7).setCell⟨b,8,none⟩u8).setCell⟨b,9,none⟩u9).setCell⟨b,10,none⟩u10).setCell⟨b,11,none⟩u11).setCell⟨b,12,none⟩u12
theorem Box13.put{w:World}{b:Nat}{v0 v1 v2 v3 v4 v5 v6 v7 v8 v9 v10 v11 v12:Value}(h:Box13 w b v0 v1 v2 v3 v4 v5 v6 v7 v8 v9 v10 v11 v12)(u0 u1 u2 u3 u4 u5 u6 u7 u8 u9 u10 u11 u12:Value):Box13(put13 w b u0 u1 u2 u3 u4 u5 u6 u7 u8 u9 u10 u11 u12)b u0 u1 u2 u3 u4 u5 u6 u7 u8 u9 u10 u11 u12:=by
 obtain⟨h0,h1,h2,h3,h4,h5,h6,h7,h8,h9,h10,h11,h12⟩:=h
 exact⟨(((((((((((((h0.set _).other _(Or.inr(by omega))).other _(Or.inr(by omega))).other _(Or.inr(by omega))).other _(Or.inr(by omega))).other _(Or.inr(by omega))).other _(Or.inr(by omega))).other _(Or.inr(by omega))).other _(Or.inr(by omega))).other _(Or.inr(by omega))).other _(Or.inr(by omega))).other _(Or.inr(by omega))).other _(Or.inr(by omega))),
  (((((((((((((h1.other _(Or.inr(by omega))).set _).other _(Or.inr(by omega))).other _(Or.inr(by omega))).other _(Or.inr(by omega))).other _(Or.inr(by omega))).other _(Or.inr(by omega))).other _(Or.inr(by omega))).other _(Or.inr(by omega))).other _(Or.inr(by omega))).other _(Or.inr(by omega))).other _(Or.inr(by omega))).other _(Or.inr(by omega))),
  (((((((((((((h2.other _(Or.inr(by omega))).other _(Or.inr(by omega))).set _).other _(Or.inr(by omega))).other _(Or.inr(by omega))).other _(Or.inr(by omega))).other _(Or.inr(by omega))).other _(Or.inr(by omega))).other _(Or.inr(by omega))).other _(Or.inr(by omega))).other _(Or.inr(by omega))).other _(Or.inr(by omega))).other _(Or.inr(by omega))),
  (((((((((((((h3.other _(Or.inr(by omega))).other _(Or.inr(by omega))).other _(Or.inr(by omega))).set _).other _(Or.inr(by omega))).other _(Or.inr(by omega))).other _(Or.inr(by omega))).other _(Or.inr(by omega))).other _(Or.inr(by omega))).other _(Or.inr(by omega))).other _(Or.inr(by omega))).other _(Or.inr(by omega))).other _(Or.inr(by omega))),
  (((((((((((((h4.other _(Or.inr(by omega))).other _(Or.inr(by omega))).other _(Or.inr(by omega))).other _(Or.inr(by omega))).set _).other _(Or.inr(by omega))).other _(Or.inr(by omega))).other _(Or.inr(by omega))).other _(Or.inr(by omega))).other _(Or.inr(by omega))).other _(Or.inr(by omega))).other _(Or.inr(by omega))).other _(Or.inr(by omega))),
  (((((((((((((h5.other _(Or.inr(by omega))).other _(Or.inr(by omega))).other _(Or.inr(by omega))).other _(Or.inr(by omega))).other _(Or.inr(by omega))).set _).other _(Or.inr(by omega))).other _(Or.inr(by omega))).other _(Or.inr(by omega))).other _(Or.inr(by omega))).other _(Or.inr(by omega))).other _(Or.inr(by omega))).other _(Or.inr(by omega))),
  (((((((((((((h6.other _(Or.inr(by omega))).other _(Or.inr(by omega))).other _(Or.inr(by omega))).other _(Or.inr(by omega))).other _(Or.inr(by omega))).other _(Or.inr(by omega))).set _).other _(Or.inr(by omega))).other _(Or.inr(by omega))).other _(Or.inr(by omega))).other _(Or.inr(by omega))).other _(Or.inr(by omega))).other _(Or.inr(by omega))),
  (((((((((((((h7.other _(Or.inr(by omega))).other _(Or.inr(by omega))).other _(Or.inr(by omega))).other _(Or.inr(by omega))).other _(Or.inr(by omega))).other _(Or.inr(by omega))).other _(Or.inr(by omega))).set _).other _(Or.inr(by omega))).other _(Or.inr(by omega))).other _(Or.inr(by omega))).other _(Or.inr(by omega))).other _(Or.inr(by omega))),
  (((((((((((((h8.other _(Or.inr(by omega))).other _(Or.inr(by omega))).other _(Or.inr(by omega))).other _(Or.inr(by omega))).other _(Or.inr(by omega))).other _(Or.inr(by omega))).other _(Or.inr(by omega))).other _(Or.inr(by omega))).set _).other _(Or.inr(by omega))).other _(Or.inr(by omega))).other _(Or.inr(by omega))).other _(Or.inr(by omega))),
  (((((((((((((h9.other _(Or.inr(by omega))).other _(Or.inr(by omega))).other _(Or.inr(by omega))).other _(Or.inr(by omega))).other _(Or.inr(by omega))).other _(Or.inr(by omega))).other _(Or.inr(by omega))).other _(Or.inr(by omega))).other _(Or.inr(by omega))).set _).other _(Or.inr(by omega))).other _(Or.inr(by omega))).other _(Or.inr(by omega))),
  (((((((((((((h10.other _(Or.inr(by omega))).other _(Or.inr(by omega))).other _(Or.inr(by omega))).other _(Or.inr(by omega))).other _(Or.inr(by omega))).other _(Or.inr(by omega))).other _(Or.inr(by omega))).other _(Or.inr(by omega))).other _(Or.inr(by omega))).other _(Or.inr(by omega))).set _).other _(Or.inr(by omega))).other _(Or.inr(by omega))),
  (((((((((((((h11.other _(Or.inr(by omega))).other _(Or.inr(by omega))).other _(Or.inr(by omega))).other _(Or.inr(by omega))).other _(Or.inr(by omega))).other _(Or.inr(by omega))).other _(Or.inr(by omega))).other _(Or.inr(by omega))).other _(Or.inr(by omega))).other _(Or.inr(by omega))).other _(Or.inr(by omega))).set _).other _(Or.inr(by omega))),
  (((((((((((((h12.other _(Or.inr(by omega))).other _(Or.inr(by omega))).other _(Or.inr(by omega))).other _(Or.inr(by omega))).other _(Or.inr(by omega))).other _(Or.inr(by omega))).other _(Or.inr(by omega))).other _(Or.inr(by omega))).other _(Or.inr(by omega))).other _(Or.inr(by omega))).other _(Or.inr(by omega))).other _(Or.inr(by omega))).set _)⟩
theorem Turned.put13(w:World)(b:Nat)(u0 u1 u2 u3 u4 u5 u6 u7 u8 u9 u10 u11 u12:Value):Turned(fun k=>k=b)w(put13 w b u0 u1 u2 u3 u4 u5 u6 u7 u8 u9 u10 u11 u12):=((((((((((((Turned.put w b 0 u0).trans(Turned.put _ b 1 u1)).trans(Turned.put _ b 2 u2)).trans(Turned.put _ b 3 u3)).trans(Turned.put _ b 4 u4)).trans(Turned.put _ b 5 u5)).trans(Turned.put _ b 6 u6)).trans(Turned.put _ b 7 u7)).trans(Turned.put _ b 8 u8)).trans(Turned.put _ b 9 u9)).trans(Turned.put _ b 10 u10)).trans(Turned.put _ b 11 u11)).trans(Turned.put _ b 12 u12)
end Go.Proofs.YtihplgckbhnohaaGreatDoor

namespace Go.Proofs.YtihplgckbhnohaaGreatDoor
open Go.RowKit
set_option linter.unusedVariables false
structure SOutD where
 store:StoreD
 code:Int
abbrev soutV(v0 v1 v2 v3 u0 u1 u2 u3:Value)(o:SOutD):Value:=.agg #[v0,v1,.int .i64 o.store.live.time,.int .i64 o.store.live.next,v2,v3,u0,u1,.int .i64 o.store.safe.time,.int .i64 o.store.safe.next,u2,u3,.int .i64 o.code]
def NewSOut(o:SOutD)(w:World)(e:Ending)(w':World):Prop:=∃v0 v1 v2 v3 u0 u1 u2 u3,e = .returned(soutV v0 v1 v2 v3 u0 u1 u2 u3 o)∧StoreOwn w' w.heap.size w'.heap.size v0 v1 v2 v3 u0 u1 u2 u3 o.store∧Below w.heap.size w w'
def noW:WorldD:={pool:=newP 0,time:=0,next:=0,sn:=0,sets:=fun _=>⟨⟨#[]⟩,0,0,0,0,0,fun _=>0,fun _=>0⟩,pn:=0,snaps:=fun _=>⟨0,⟨#[]⟩,⟨#[]⟩,0,0,0,0,0,fun _=>0,fun _=>0⟩}
def refuseS(c:Int):SOutD:=⟨⟨noW,noW⟩,c⟩
theorem noW_own{w:World}{lo hi:Nat}:WorldOwn w lo hi(.slice none 0 0)(.slice none 0 0)(.slice none 0 0)(.slice none 0 0)noW:=by
 refine⟨fun k=>lo≤k∧k<hi,fun _=>False,fun _=>False,⟨(none_own(lo:=lo)(hi:=hi)).isIn(fun k h1 h2=>⟨h1,h2⟩),?_,?_,fun _ _ h=>h,fun _ _ h=>h,fun _ h=>h.elim⟩,fun k hk=>?_⟩
 ·exact⟨0,fun _=>0,fun _=>.slice none 0 0,⟨Nat.zero_le _,none,0,rfl,Nat.le_refl _,fun h=>absurd h(Nat.lt_irrefl _)⟩,fun i j hi=>absurd hi(Nat.not_lt_zero _),fun k hk=>by
   rcases hk with⟨h,_⟩ | ⟨i,h,_⟩
   ·exact absurd h(Nat.lt_irrefl _)
   ·exact absurd h(Nat.not_lt_zero _)⟩
 ·exact⟨0,fun _=>0,fun _=>.slice none 0 0,⟨Nat.zero_le _,none,0,rfl,Nat.le_refl _,fun h=>absurd h(Nat.lt_irrefl _)⟩,fun i j hi=>absurd hi(Nat.not_lt_zero _),fun k hk=>by
   rcases hk with⟨h,_⟩ | ⟨i,h,_⟩
   ·exact absurd h(Nat.lt_irrefl _)
   ·exact absurd h(Nat.not_lt_zero _)⟩
 ·rcases hk with h | h | h
  ·exact h
  ·exact h.elim
  ·exact h.elim
theorem no_store{w:World}{lo hi:Nat}(h:lo≤hi):StoreOwn w lo hi(.slice none 0 0)(.slice none 0 0)(.slice none 0 0)(.slice none 0 0)(.slice none 0 0)(.slice none 0 0)(.slice none 0 0)(.slice none 0 0)⟨noW,noW⟩:=
 ⟨lo,lo,lo,lo,noW_own,noW_own,Nat.le_refl _,h,Nat.le_refl _,h,Or.inl(Nat.le_refl _)⟩
theorem two_worlds{w:World}{lo mid hi:Nat}{v0 v1 v2 v3 u0 u1 u2 u3:Value}{S:StoreD}(h1:WorldOwn w lo mid v0 v1 v2 v3 S.live)(h2:WorldOwn w mid hi u0 u1 u2 u3 S.safe)(hl:lo≤mid)(hh:mid≤hi):StoreOwn w lo hi v0 v1 v2 v3 u0 u1 u2 u3 S:=
 ⟨lo,mid,mid,hi,h1,h2,Nat.le_refl _,hh,hl,Nat.le_refl _,Or.inl(Nat.le_refl _)⟩
end Go.Proofs.YtihplgckbhnohaaGreatDoor

namespace Go.Proofs.YtihplgckbhnohaaGreatDoor
open Go.RowKit
set_option linter.unusedVariables false
def LeftIs(t:Nat)(left:Int)(e:Ending):Prop:=∃r:Int,e = .returned(.int .i64 r)∧(0≤r→r+t=left)∧r≤left∧-1≤r
set_option maxRecDepth 20000 in
set_option maxHeartbeats 400000 in
theorem szPtrS_any(v:Value)(n lo hi:Nat)(f g:Nat→Int)(left:Int)(w:World)(h1:PtrsAt w lo hi v n f g)(hl0:0≤left)(hl1:left≤1048576) :
  Calls Tryz.prog 86 #[v,.int .i64 left] w fun e w'=>LeftIs n left e∧Below w.heap.size w w':=by
 obtain⟨m1,a,c,rfl,mc,g1⟩:=h1
 unfold maxLen at m1
 clear g1
 by_cases h:left - (n:Int)<0
 ·go_enter Tryz.func86,Tryz.ntmps86
  go_wp2
  go_ret
  exact⟨⟨-1,rfl,by omega,by omega,by omega⟩,Below.refl _ _⟩
 ·go_enter Tryz.func86,Tryz.ntmps86
  go_wp2
  go_ret
  exact⟨⟨_,rfl,by omega,by omega,by omega⟩,Below.refl _ _⟩
set_option maxRecDepth 20000 in
set_option maxHeartbeats 400000 in
theorem szInt64S_any(v:Value)(n lo hi:Nat)(f:Nat→Int)(left:Int)(w:World)(h1:IntsAt w lo hi v n f)(hl0:0≤left)(hl1:left≤1048576) :
  Calls Tryz.prog 52 #[v,.int .i64 left] w fun e w'=>LeftIs n left e∧Below w.heap.size w w':=by
 obtain⟨m1,a,c,rfl,mc,g1⟩:=h1
 unfold maxLen at m1
 clear g1
 by_cases h:left - (n:Int)<0
 ·go_enter Tryz.func52,Tryz.ntmps52
  go_wp2
  go_ret
  exact⟨⟨-1,rfl,by omega,by omega,by omega⟩,Below.refl _ _⟩
 ·go_enter Tryz.func52,Tryz.ntmps52
  go_wp2
  go_ret
  exact⟨⟨_,rfl,by omega,by omega,by omega⟩,Below.refl _ _⟩
set_option maxRecDepth 20000 in
set_option maxHeartbeats 400000 in
theorem szSlot_any(v0 v1 v2:Value)(lo hi:Nat)(s:SlotD)(left:Int)(w:World)(h1:SlotAt w lo hi v0 v1 v2 s)(hl0:0≤left)(hl1:left≤1048576) :
  Calls Tryz.prog 85 #[.agg #[v0,v1,v2],.int .i64 left] w fun e w'=>LeftIs(slotN s)left e∧Below w.heap.size w w':=by
 obtain⟨rfl,p1,rfl,m1⟩:=h1
 have q1:=p1
 obtain⟨_,a,c,rfl,_⟩:=p1
 unfold maxLen at m1
 go_enter Tryz.func85,Tryz.ntmps85
 go_wp2_with fail
 have hbw:=(Below.refl w.heap.size w).alloc(Nat.le_refl _)(.cells #[.int .i64 s.birth,.slice a s.kn c,.string s.data] 143)
 refine(szPtrS_any _ s.kn lo hi _ _ _ _(q1.below hbw)hl0 hl1).mono ?_
 rintro e w1⟨⟨r,rfl,hr1,hr2,hr3⟩,hb1⟩
 have hb2:=below_next hbw hb1
 have e1:=hb1.cell(p:=⟨w.heap.size,2,none⟩)(by simp)
 simp at e1
 have Hr:Hid(0≤r→r+s.kn=left):=hr1
 clear hr1 hb1 hbw
 by_cases h:r<0
 ·go_wp2
  go_ret
  exact⟨⟨-1,rfl,by omega,by omega,by omega⟩,hb2⟩
 ·by_cases h2:r - (s.data.size:Int)<0
  ·go_wp2
   go_ret
   exact⟨⟨-1,rfl,by omega,by omega,by omega⟩,hb2⟩
  ·go_wp2
   go_ret
   refine⟨⟨_,rfl,fun _=>?_,by omega,by omega⟩,hb2⟩
   have:=Hr.out(by omega)
   unfold slotN
   omega
set_option maxRecDepth 20000 in
set_option maxHeartbeats 400000 in
theorem szSlotS_any(v:Value)(n lo hi:Nat)(f:Nat→SlotD)(left:Int)(w:World)(h1:SlotsAt w lo hi v n f)(hl0:0≤left)(hl1:left≤1048576) :
  Calls Tryz.prog 51 #[v,.int .i64 left] w fun e w'=>LeftIs(n+slotsN f n)left e∧Below w.heap.size w w':=by
 obtain⟨m1,a,c,rfl,mc,g1⟩:=h1
 unfold maxLen at m1
 have G1:Hid(0<n→∃b off,a=some⟨b,off,none⟩∧lo≤b∧b<hi∧∀i,i<n→∃v0 v1 v2,w.cell?⟨b,off+i*3,none⟩=some v0∧w.cell?⟨b,off+i*3+1,none⟩=some v1∧w.cell?⟨b,off+i*3+2,none⟩=some v2∧SlotAt w lo hi v0 v1 v2(f i)):=g1
 clear g1
 by_cases h:left - (n:Int)<0
 ·go_enter Tryz.func51,Tryz.ntmps51
  go_wp2
  go_ret
  exact⟨⟨-1,rfl,by omega,by omega,by omega⟩,Below.refl _ _⟩
 ·go_enter Tryz.func51,Tryz.ntmps51
  go_wp2
  go_loopw [1,5](fun m i wr=>∃(k:Nat)(r:Int),k≤n∧i = .int .i64 k∧m = .int .i64 r∧0≤r∧r+n+slotsN f k=left∧Below w.heap.size w wr)(fun _ i _=>n - (intOf i).toNat)
  case atStart=>exact⟨0,_,Nat.zero_le _,rfl,rfl,by omega,by simp [slotsN],Below.refl _ _⟩
  case round=>
   obtain⟨k,r,hk,rfl,rfl,hr0,hr,hb⟩:=hrel
   have hr1:r≤left:=by omega
   have Hr:Hid(r+n+slotsN f k=left):=hr
   clear hr
   by_cases hlt:k<n
   ·have hlt':(k:Int)<(n:Int):=by omega
    obtain⟨b,off,rfl,_,_,k1⟩:=G1.out(by omega)
    obtain⟨x0,x1,x2,c0,c1,c2,hs⟩:=k1 k hlt
    have hd0:=(hb.cell(lt_of_cell c0)).trans c0
    have hd1:=(hb.cell(lt_of_cell c1)).trans c1
    have hd2:=(hb.cell(lt_of_cell c2)).trans c2
    have hs':=hs.below hb
    have Hs:Hid(SlotAt wr lo hi x0 x1 x2(f k)):=hs'
    clear k1 G1 c0 c1 c2 hs
    obtain⟨rfl,⟨_,ka,kc,rfl,_⟩,rfl,_⟩:=hs'
    go_wp2_with fail
    refine(szSlot_any _ _ _ lo hi(f k)_ _ Hs.out hr0(by omega)).mono ?_
    rintro e w1⟨⟨r',rfl,hq1,hq2,hq3⟩,hb1⟩
    have hb2:=below_next hb hb1
    have Hq:Hid(0≤r'→r'+slotN(f k)=r):=hq1
    clear hq1 hb1 hd0 hd1 hd2
    by_cases h3:r'<0
    ·go_wp2
     go_ret
     exact⟨⟨-1,rfl,by omega,by omega,by omega⟩,hb2⟩
    ·go_wp2
     go_roundw
     case rel=>
      refine⟨k+1,r',by omega,by go_num,rfl,by omega,?_,hb2⟩
      have e1:=Hq.out(by omega)
      have e2:=Hr.out
      show r'+(n:Int)+((slotsN f k+slotN(f k):Nat):Int)=left
      omega
     case measure=>simp [intOf]; omega
   ·obtain rfl:k=n:=by omega
    go_wp2
    go_ret
    exact⟨⟨r,rfl,fun _=>by have:=Hr.out; omega,hr1,by omega⟩,hb⟩
set_option maxRecDepth 20000 in
set_option maxHeartbeats 400000 in
theorem szPool_any(v0 v1:Value)(lo hi:Nat)(p:PoolD)(left:Int)(w:World)(h1:PoolAt w lo hi v0 v1 p)(hl0:0≤left)(hl1:left≤1048576) :
  Calls Tryz.prog 30 #[.agg #[v0,v1],.int .i64 left] w fun e w'=>LeftIs(poolN p)left e∧Below w.heap.size w w':=by
 have q1:=h1
 obtain⟨⟨_,a,c,rfl,_⟩,⟨_,a',c',rfl,_⟩⟩:=h1
 go_enter Tryz.func30,Tryz.ntmps30
 go_wp2_with fail
 have hbw:=(Below.refl w.heap.size w).alloc(Nat.le_refl _)(.cells #[.slice a p.n c,.slice a' p.hn c'] 25)
 refine(szSlotS_any _ p.n lo hi _ _ _(q1.1.below hbw)hl0 hl1).mono ?_
 rintro e w1⟨⟨r,rfl,hr1,hr2,hr3⟩,hb1⟩
 have hb2:=below_next hbw hb1
 have e1:=hb1.cell(p:=⟨w.heap.size,1,none⟩)(by simp)
 simp at e1
 have Hr:Hid(0≤r→r+(p.n+slotsN p.s p.n:Nat)=left):=hr1
 clear hr1 hb1 hbw
 by_cases h:r<0
 ·go_wp2
  go_ret
  exact⟨⟨-1,rfl,by omega,by omega,by omega⟩,hb2⟩
 ·go_wp2_with fail
  refine(szInt64S_any _ p.hn lo hi _ _ _(q1.2.below hb2)(by omega)(by omega)).mono ?_
  rintro e w2⟨⟨r',rfl,hq1,hq2,hq3⟩,hb3⟩
  have hb4:=below_next hb2 hb3
  have Hq:Hid(0≤r'→r'+p.hn=r):=hq1
  clear hq1 hb3
  by_cases h3:r'<0
  ·go_wp2
   go_ret
   exact⟨⟨-1,rfl,by omega,by omega,by omega⟩,hb4⟩
  ·go_wp2
   go_ret
   refine⟨⟨r',rfl,fun _=>?_,by omega,by omega⟩,hb4⟩
   have e1:=Hq.out(by omega)
   have e2:=Hr.out(by omega)
   unfold poolN
   omega
end Go.Proofs.YtihplgckbhnohaaGreatDoor

namespace Go.Proofs.YtihplgckbhnohaaGreatDoor
open Go.RowKit
set_option linter.unusedVariables false
theorem run_copy_ptrs(w:World)(lo hi:Nat)(a:Option Addr)(n c:Nat)(f g:Nat→Int)(h:PtrsAt w lo hi(.slice a n c)n f g)(hn:n≤1048576)(ty:TypeId):∃a' c' kb w1,
  (Builtin.append_ #[64,64] ty #[.slice(some⟨w.heap.size,0,none⟩)0 0,.slice a n c]).run Tryz.prog(w.alloc(.cells #[] 88)) = .ok(.slice a' n c')w1∧PtrsOwn w1 kb(.slice a' n c')n f g∧(0<n→w.heap.size≤kb∧kb<w1.heap.size)∧Below w.heap.size w w1∧w.heap.size<w1.heap.size:=by
 obtain⟨m1,a0,c0,hv,mc,g1⟩:=h
 simp only [Value.slice.injEq,true_and] at hv
 obtain⟨rfl,rfl⟩:=hv
 obtain⟨i0,hi0,hzz⟩:=Option.map_eq_some_iff.1 infoPtrT
 simp only [Prod.mk.injEq] at hzz
 obtain⟨hz,hs,hby⟩:=hzz
 have ht:Tryz.prog.underlying 64=some(.slice 88):=by kernel_rfl
 have hown0:(w.alloc(.cells #[] 88)).ownsRow w.heap.size 88 2(.slice(some⟨w.heap.size,0,none⟩)0 0)0 []:=World.ownsRow_made w #[] 0(Nat.le_refl _)(Nat.zero_le _)(by simp)
 have hba:=below_alloc w(.cells #[] 88)
 by_cases h0:0<n
 ·obtain⟨b,off,rfl,_,_,hc⟩:=g1 h0
  have hadd:∀j,(⟨b,off,none⟩:Addr).add j=⟨b,off+j,none⟩:=fun j=>by unfold Addr.add; split <;> simp_all
  obtain⟨v',w1,hr,r1,r2,_⟩:=run_append_own(P:=Tryz.prog)(w.alloc(.cells #[] 88))w.heap.size 64 ty 88 i0(.agg #[.int .i64 0,.int .i64 0])2 16 ht hi0 hz hs hby rfl(by decide)_ 0 [] hown0⟨b,off,none⟩n c(kc f g n)(kc_len f g n)(fun j u hj=>by
    have:=kc_cells hc j u hj
    rw [hadd] at this ⊢
    exact(hba.cell(lt_of_cell this)).trans this)(kc_one f g n)(by unfold maxLen; omega)(by omega)(by simp)
  have hown2:w1.ownsRow w.heap.size 88 2 v' n(kc f g n):=by simpa using r1
  obtain⟨kb,hp,hk⟩:=ptrs_of_owns m1 hown2
  obtain⟨_,a',c',rfl,_⟩:=id hp
  have hb1:Below w.heap.size w w1:=hba.grown r2(by simp)(fun q hq=>by have:=hown0.lt q hq; omega)
  exact⟨a',c',kb,w1,hr,hp,hk,hb1,by have:=hk h0; omega⟩
 ·obtain rfl:n=0:=by omega
  have hr:=run_append_zero(P:=Tryz.prog)(w:=w.alloc(.cells #[] 88))w.heap.size 64 ty 88 i0 2 c a ht hi0 _ 0 [] hown0
  exact⟨_,0,0,_,hr,⟨Nat.zero_le _,_,0,rfl,Nat.le_refl _,fun h=>absurd h(Nat.lt_irrefl _)⟩,fun h=>absurd h(Nat.lt_irrefl _),hba,by simp⟩
end Go.Proofs.YtihplgckbhnohaaGreatDoor

namespace Go.Proofs.YtihplgckbhnohaaGreatDoor
open Go.RowKit
set_option linter.unusedVariables false
theorem step_append_run{P:Program}{w w1:World}{ops:Array Oper}{o:Oper}{a:Act}{K:Act→World→Prop}{Q:Exit→Act→World→Prop}{E:Prop}(hgd:o.guard=none)(s x:Operand)(t:TypeId)
  (ho:o.op = .call{callee:=.builtin .append,args:=#[s,x],argTypes:=#[t,t]})(vs vx v':Value)(hs:a.eval s=vs)(hx:a.eval x=vx)(hrun:(Builtin.append_ #[t,t] o.type #[vs,vx]).run P w = .ok v' w1)
  (h:K(a.put o.dst v')w1):if Region.wanted o(yielded ops a.tmps)=true then Oper.wp P o a w K Q else E:=by
 have hw:Region.wanted o(yielded ops a.tmps)=true:=by simp [Region.wanted,hgd]
 rw [if_pos hw]
 unfold Oper.wp
 simp [execOp,ho,resolve,invoke,builtin,hs,hx,hrun,Result.andThen]
 exact h
end Go.Proofs.YtihplgckbhnohaaGreatDoor
