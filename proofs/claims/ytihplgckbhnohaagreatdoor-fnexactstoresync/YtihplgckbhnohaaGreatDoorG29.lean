/- What a pool that comes in is in memory: out of the reading of its arguments, the plain facts on cells. -/
import Derived.Test.YtihplgckbhnohaaGreatDoorProg
import GoSem.ClaimJoined
import GoSem.ClaimMapViews
import Derived.JoinedTies
import Derived.KernelRfl
import Derived.RowKit
import Derived.Test.YtihplgckbhnohaaGreatDoorG1
import Derived.ProofKit
import Derived.Deep.Slices
import Derived.Deep.SlicePairs
import Derived.Deep.Strs
import Derived.Deep.MidRow
import Derived.Lib.SmallJoins
import Derived.Test.YtihplgckbhnohaaGreatDoorG21
import Derived.Test.YtihplgckbhnohaaGreatDoorG2
import Derived.Test.YtihplgckbhnohaaGreatDoorG3
import Derived.Test.YtihplgckbhnohaaGreatDoorG28
namespace Go.Proofs.YtihplgckbhnohaaGreatDoor
open Go.RowKit Go.Deep Go.Joins
open Go.ChangeShapes Go.WideShapes Go.ChangeAt
set_option linter.unusedVariables false
set_option maxRecDepth 20000
section
variable {H : Type} {enc : TypeId × Value → H} {W : World} {spare : Nat → Bool} {held : Bool}
theorem addr_of_cell{w:World}{a:Addr}{v:Value}(h:w.cell? a=some v):∃b off,a=⟨b,off,none⟩:=by
 obtain⟨b,off,spot⟩:=a
 have hs:spot=none:=by simpa using World.cell?_spot h
 subst hs
 exact⟨b,off,rfl⟩
theorem slice_val{v:Value}{a:Option Addr}{n c:Nat}(h:[v] = [Value.slice a n c]):v = .slice a n c:=by simpa using h
theorem open_ints_at{fuel:Nat}{v:Value}{x:DataW H×List MemPlace}(h:DataW.trod enc Tryz.prog W 0 spare held fuel 23 [v]=some x):∃n f,IntsAt W 0 W.heap.size v n f:=by
 rcases open_slice1(t:=23)(e:=2)(by kernel_rfl)(by kernel_rfl)h with⟨hv,_⟩ | ⟨a,len,cap,m,n,V,D,Pl,hv,_,hl,hm,hmm,_,hx⟩
 ·exact⟨0,fun _=>0,Nat.zero_le _,none,0,slice_val hv,Nat.le_refl _,fun h=>absurd h(Nat.lt_irrefl _)⟩
 ·have hlm:len≤m:=by rw [hmm]; split <;> omega
  have hV:∀i,i<len→∃z:Int,V i = .int .i64 z:=fun i hi=>by
   obtain⟨_,ht⟩:=hx i(by omega)
   obtain⟨z,hz,_⟩:=DataW.trod_int(show Tryz.prog.underlying 2=some(.int .i64)by kernel_rfl)ht
   exact⟨z,by simpa using hz⟩
  refine⟨len,fun i=>intOf(V i),by unfold maxLen at *; omega,some a,cap,slice_val hv,hl,fun h0=>?_⟩
  have hc0:=(hx 0(by omega)).1
  rw [show a.add 0=a by simp [Addr.add]] at hc0
  obtain⟨b,off,rfl⟩:=addr_of_cell hc0
  refine⟨b,off,rfl,Nat.zero_le _,lt_of_cell hc0,fun i hi=>?_⟩
  have hc:=(hx i(by omega)).1
  rw [Addr.add_mid] at hc
  obtain⟨z,hz⟩:=hV i hi
  show _=some(Value.int .i64(intOf(V i)))
  rw [hc,hz]
  rfl
theorem field_of{t T o c i:Nat}{fuel:Nat}{cs:List Value}{x:DataW H×List MemPlace}(hs:Tryz.prog.underlying t=some(.struct(Tryz.prog.fieldsOf t)))(hf:((Tryz.prog.fieldsOf t)[i]?).map(fun f=>(f.type,f.offset))=some(T,o))
  (hc:Tryz.prog.cellsOf T=c)(h:DataW.trod enc Tryz.prog W 0 spare held fuel t cs=some x):∃n y,DataW.trod enc Tryz.prog W 0 spare held n T((cs.drop o).take c)=some y:=by
 obtain⟨f,hf1,hf2⟩:=Option.map_eq_some_iff.1 hf
 simp only [Prod.mk.injEq] at hf2
 obtain⟨rfl,rfl⟩:=hf2
 obtain⟨xs,n,_,_,_,hxl,hfs⟩:=DataW.trod_struct hs h
 have hi:i<(Tryz.prog.fieldsOf t).size:=(Array.getElem?_eq_some_iff.1 hf1).1
 have:=hfs i f hf1
 rw [hc,List.getElem?_eq_getElem(by omega)] at this
 exact⟨n,_,this⟩
theorem open_ptr_cells{fuel:Nat}{c0 c1:Value}{x:DataW H×List MemPlace}(h:DataW.trod enc Tryz.prog W 0 spare held fuel 110 [c0,c1]=some x):∃y z:Int,c0 = .int .i64 y∧c1 = .int .i64 z:=by
 obtain⟨n0,y0,h0⟩:=field_of(t:=110)(T:=2)(o:=0)(c:=1)(i:=0)(by kernel_rfl)(by kernel_rfl)(by kernel_rfl)h
 obtain⟨n1,y1,h1⟩:=field_of(t:=110)(T:=2)(o:=1)(c:=1)(i:=1)(by kernel_rfl)(by kernel_rfl)(by kernel_rfl)h
 obtain⟨y,hy,_⟩:=DataW.trod_int(show Tryz.prog.underlying 2=some(.int .i64)by kernel_rfl)h0
 obtain⟨z,hz,_⟩:=DataW.trod_int(show Tryz.prog.underlying 2=some(.int .i64)by kernel_rfl)h1
 exact⟨y,z,by simpa using hy,by simpa using hz⟩
theorem open_ptrs_at{fuel:Nat}{v:Value}{x:DataW H×List MemPlace}(h:DataW.trod enc Tryz.prog W 0 spare held fuel 111 [v]=some x):∃n f g,PtrsAt W 0 W.heap.size v n f g:=by
 rcases open_slice(t:=111)(e:=110)(by kernel_rfl)h with⟨hv,_⟩ | ⟨a,len,cap,m,n,D,Pl,hv,_,hl,hm,hmm,_,hx⟩
 ·exact⟨0,fun _=>0,fun _=>0,Nat.zero_le _,none,0,slice_val hv,Nat.le_refl _,fun h=>absurd h(Nat.lt_irrefl _)⟩
 ·have hlm:len≤m:=by rw [hmm]; split <;> omega
  have hc2:Tryz.prog.cellsOf 110=2:=by kernel_rfl
  rw [hc2] at hx
  have hV:∀i,i<len→∃y z:Int,W.cell?(a.add(i*2))=some(.int .i64 y)∧W.cell?((a.add(i*2)).add 1)=some(.int .i64 z):=fun i hi=>by
   obtain⟨cs,hcs,ht⟩:=hx i(by omega)
   obtain⟨_,hlen,hcell⟩:=World.cells?_some hcs
   match cs,hlen with
   | [c0,c1],_=>
    obtain⟨y,z,rfl,rfl⟩:=open_ptr_cells ht
    have q0:=hcell 0(by omega)
    have q1:=hcell 1(by omega)
    rw [show(a.add(i*2)).add 0=a.add(i*2)by simp [Addr.add]] at q0
    exact⟨y,z,by simpa using q0,by simpa using q1⟩
  refine⟨len,fun i=>intOf((W.cell?(a.add(i*2))).getD undef),fun i=>intOf((W.cell?((a.add(i*2)).add 1)).getD undef),by unfold maxLen at *; omega,some a,cap,slice_val hv,hl,fun h0=>?_⟩
  obtain⟨y,z,hc0,_⟩:=hV 0 h0
  rw [show a.add(0*2)=a by simp [Addr.add]] at hc0
  obtain⟨b,off,rfl⟩:=addr_of_cell hc0
  refine⟨b,off,rfl,Nat.zero_le _,lt_of_cell hc0,fun i hi=>?_⟩
  obtain⟨y,z,q0,q1⟩:=hV i hi
  show _=some(Value.int .i64(intOf((W.cell? _).getD undef)))∧_=some(Value.int .i64(intOf((W.cell? _).getD undef)))
  rw [q0,q1]
  rw [Addr.add_mid,Addr.add_mid] at q1
  rw [Addr.add_mid] at q0
  exact⟨q0,q1⟩
theorem open_slot_cells{fuel:Nat}{c0 c1 c2:Value}{x:DataW H×List MemPlace}(h:DataW.trod enc Tryz.prog W 0 spare held fuel 143 [c0,c1,c2]=some x):∃s,SlotAt W 0 W.heap.size c0 c1 c2 s:=by
 obtain⟨n0,y0,h0⟩:=field_of(t:=143)(T:=2)(o:=0)(c:=1)(i:=0)(by kernel_rfl)(by kernel_rfl)(by kernel_rfl)h
 obtain⟨n1,y1,h1⟩:=field_of(t:=143)(T:=111)(o:=1)(c:=1)(i:=1)(by kernel_rfl)(by kernel_rfl)(by kernel_rfl)h
 obtain⟨n2,y2,h2⟩:=field_of(t:=143)(T:=9)(o:=2)(c:=1)(i:=2)(by kernel_rfl)(by kernel_rfl)(by kernel_rfl)h
 obtain⟨y,hy,_⟩:=DataW.trod_int(show Tryz.prog.underlying 2=some(.int .i64)by kernel_rfl)h0
 obtain⟨n,f,g,hp⟩:=open_ptrs_at(v:=c1)(by simpa using h1)
 obtain⟨d,hd,_,hsz⟩:=DataW.trod_string(show Tryz.prog.underlying 9=some .string by kernel_rfl)h2
 exact⟨⟨y,n,f,g,d⟩,by simpa using hy,hp,by simpa using hd,hsz⟩
theorem open_slots_at{fuel:Nat}{v:Value}{x:DataW H×List MemPlace}(h:DataW.trod enc Tryz.prog W 0 spare held fuel 22 [v]=some x):∃n f,SlotsAt W 0 W.heap.size v n f:=by
 rcases open_slice(t:=22)(e:=143)(by kernel_rfl)h with⟨hv,_⟩ | ⟨a,len,cap,m,n,D,Pl,hv,_,hl,hm,hmm,_,hx⟩
 ·exact⟨0,fun _=>⟨0,0,fun _=>0,fun _=>0,ByteArray.empty⟩,Nat.zero_le _,none,0,slice_val hv,Nat.le_refl _,fun h=>absurd h(Nat.lt_irrefl _)⟩
 ·have hlm:len≤m:=by rw [hmm]; split <;> omega
  have hc3:Tryz.prog.cellsOf 143=3:=by kernel_rfl
  rw [hc3] at hx
  have hV:∀i,i<len→∃s:SlotD,∃c0 c1 c2,W.cell?(a.add(i*3))=some c0∧W.cell?((a.add(i*3)).add 1)=some c1∧W.cell?((a.add(i*3)).add 2)=some c2∧SlotAt W 0 W.heap.size c0 c1 c2 s:=fun i hi=>by
   obtain⟨cs,hcs,ht⟩:=hx i(by omega)
   obtain⟨_,hlen,hcell⟩:=World.cells?_some hcs
   match cs,hlen with
   | [c0,c1,c2],_=>
    obtain⟨s,hs⟩:=open_slot_cells ht
    have q0:=hcell 0(by omega)
    have q1:=hcell 1(by omega)
    have q2:=hcell 2(by omega)
    rw [show(a.add(i*3)).add 0=a.add(i*3)by simp [Addr.add]] at q0
    exact⟨s,c0,c1,c2,by simpa using q0,by simpa using q1,by simpa using q2,hs⟩
  have hinh:Inhabited SlotD:=⟨⟨0,0,fun _=>0,fun _=>0,ByteArray.empty⟩⟩
  obtain⟨f,hf⟩:=choose_lt(α:=SlotD)(p:=fun i s=>∃c0 c1 c2,W.cell?(a.add(i*3))=some c0∧W.cell?((a.add(i*3)).add 1)=some c1∧W.cell?((a.add(i*3)).add 2)=some c2∧SlotAt W 0 W.heap.size c0 c1 c2 s)hV
  refine⟨len,f,by unfold maxLen at *; omega,some a,cap,slice_val hv,hl,fun h0=>?_⟩
  obtain⟨c0,c1,c2,hc0,_⟩:=hf 0 h0
  rw [show a.add(0*3)=a by simp [Addr.add]] at hc0
  obtain⟨b,off,rfl⟩:=addr_of_cell hc0
  refine⟨b,off,rfl,Nat.zero_le _,lt_of_cell hc0,fun i hi=>?_⟩
  obtain⟨c0,c1,c2,q0,q1,q2,hs⟩:=hf i hi
  rw [Addr.add_mid,Addr.add_mid] at q1 q2
  rw [Addr.add_mid] at q0
  exact⟨c0,c1,c2,q0,q1,q2,hs⟩
end
end Go.Proofs.YtihplgckbhnohaaGreatDoor

namespace Go.Proofs.YtihplgckbhnohaaGreatDoor
open Go.RowKit Go.Deep Go.Joins
open Go.ChangeShapes Go.WideShapes Go.ChangeAt
set_option linter.unusedVariables false
set_option maxRecDepth 20000
section
variable {H : Type} {enc : TypeId × Value → H} {W : World} {spare : Nat → Bool} {held : Bool}
def SetWf(s:SetD):Prop:=(Lit.int .i64 s.origin).wf=true∧(Lit.int .i64 s.prev).wf=true
theorem open_set_cells{fuel:Nat}{c0 c1 c2 c3 c4 c5:Value}{x:DataW H×List MemPlace}(h:DataW.trod enc Tryz.prog W 0 spare held fuel 113 [c0,c1,c2,c3,c4,c5]=some x):∃s:SetD,c0 = .string s.name∧c1 = .int .i64 s.origin∧c2 = .int .i64 s.prev∧c3 = .int .i64 s.rs∧c4 = .int .i64 s.rb∧PtrsAt W 0 W.heap.size c5 s.dn s.ds s.db∧s.name.size≤maxLen∧SetWf s:=by
 obtain⟨n0,y0,h0⟩:=field_of(t:=113)(T:=9)(o:=0)(c:=1)(i:=0)(by kernel_rfl)(by kernel_rfl)(by kernel_rfl)h
 obtain⟨z0,e0,-,w0⟩:=DataW.trod_string(show Tryz.prog.underlying 9=some .string by kernel_rfl)h0
 obtain⟨n1,y1,h1⟩:=field_of(t:=113)(T:=2)(o:=1)(c:=1)(i:=1)(by kernel_rfl)(by kernel_rfl)(by kernel_rfl)h
 obtain⟨z1,e1,-,w1⟩:=DataW.trod_int(show Tryz.prog.underlying 2=some(.int .i64)by kernel_rfl)h1
 obtain⟨n2,y2,h2⟩:=field_of(t:=113)(T:=2)(o:=2)(c:=1)(i:=2)(by kernel_rfl)(by kernel_rfl)(by kernel_rfl)h
 obtain⟨z2,e2,-,w2⟩:=DataW.trod_int(show Tryz.prog.underlying 2=some(.int .i64)by kernel_rfl)h2
 obtain⟨n3,y3,h3⟩:=field_of(t:=113)(T:=110)(o:=3)(c:=2)(i:=3)(by kernel_rfl)(by kernel_rfl)(by kernel_rfl)h
 obtain⟨z3,z3',e3,e3'⟩:=open_ptr_cells(c0:=c3)(c1:=c4)(by simpa using h3)
 obtain⟨n4,y4,h4⟩:=field_of(t:=113)(T:=111)(o:=5)(c:=1)(i:=4)(by kernel_rfl)(by kernel_rfl)(by kernel_rfl)h
 obtain⟨dn,ds,db,hp⟩:=open_ptrs_at(v:=c5)(by simpa using h4)
 exact⟨⟨z0,z1,z2,z3,z3',dn,ds,db⟩,by simpa using e0,by simpa using e1,by simpa using e2,e3,e3',hp,w0,w1,w2⟩
theorem open_sets_at{fuel:Nat}{v:Value}{x:DataW H×List MemPlace}(h:DataW.trod enc Tryz.prog W 0 spare held fuel 26 [v]=some x):∃n f,SetsAt W 0 W.heap.size v n f∧∀i,i<n→SetWf(f i):=by
 rcases open_slice(t:=26)(e:=113)(by kernel_rfl)h with⟨hv,_⟩ | ⟨a,len,cap,m,n,D,Pl,hv,_,hl,hm,hmm,_,hx⟩
 ·exact⟨0,fun _=>⟨ByteArray.empty,0,0,0,0,0,fun _=>0,fun _=>0⟩,⟨Nat.zero_le _,none,0,slice_val hv,Nat.le_refl _,fun h=>absurd h(Nat.lt_irrefl _)⟩,fun i hi=>absurd hi(Nat.not_lt_zero _)⟩
 ·have hlm:len≤m:=by rw [hmm]; split <;> omega
  have hc3:Tryz.prog.cellsOf 113=6:=by kernel_rfl
  rw [hc3] at hx
  have hV:∀i,i<len→∃s:SetD,(∃c0 c1 c2 c3 c4 c5,W.cell?(a.add(i*6))=some c0∧W.cell?((a.add(i*6)).add 1)=some c1∧W.cell?((a.add(i*6)).add 2)=some c2∧W.cell?((a.add(i*6)).add 3)=some c3∧W.cell?((a.add(i*6)).add 4)=some c4∧W.cell?((a.add(i*6)).add 5)=some c5∧c0 = .string s.name∧c1 = .int .i64 s.origin∧c2 = .int .i64 s.prev∧c3 = .int .i64 s.rs∧c4 = .int .i64 s.rb∧PtrsAt W 0 W.heap.size c5 s.dn s.ds s.db∧s.name.size≤maxLen∧SetWf s):=fun i hi=>by
   obtain⟨cs,hcs,ht⟩:=hx i(by omega)
   obtain⟨_,hlen,hcell⟩:=World.cells?_some hcs
   match cs,hlen with
   | [c0,c1,c2,c3,c4,c5],_=>
    obtain⟨s,hs⟩:=open_set_cells ht
    have q0:=hcell 0(by omega)
    have q1:=hcell 1(by omega)
    have q2:=hcell 2(by omega)
    have q3:=hcell 3(by omega)
    have q4:=hcell 4(by omega)
    have q5:=hcell 5(by omega)
    rw [show(a.add(i*6)).add 0=a.add(i*6)by simp [Addr.add]] at q0
    exact⟨s,c0,c1,c2,c3,c4,c5,by simpa using q0,by simpa using q1,by simpa using q2,by simpa using q3,by simpa using q4,by simpa using q5,hs⟩
  have hinh:Inhabited SetD:=⟨⟨ByteArray.empty,0,0,0,0,0,fun _=>0,fun _=>0⟩⟩
  obtain⟨f,hf⟩:=choose_lt(α:=SetD)(p:=fun i s=>(∃c0 c1 c2 c3 c4 c5,W.cell?(a.add(i*6))=some c0∧W.cell?((a.add(i*6)).add 1)=some c1∧W.cell?((a.add(i*6)).add 2)=some c2∧W.cell?((a.add(i*6)).add 3)=some c3∧W.cell?((a.add(i*6)).add 4)=some c4∧W.cell?((a.add(i*6)).add 5)=some c5∧c0 = .string s.name∧c1 = .int .i64 s.origin∧c2 = .int .i64 s.prev∧c3 = .int .i64 s.rs∧c4 = .int .i64 s.rb∧PtrsAt W 0 W.heap.size c5 s.dn s.ds s.db∧s.name.size≤maxLen∧SetWf s))hV
  refine⟨len,f,⟨by unfold maxLen at *; omega,some a,cap,slice_val hv,hl,fun h0=>?_⟩,fun i hi=>?_⟩
  ·obtain⟨c0,c1,c2,c3,c4,c5,hc0,_⟩:=hf 0 h0
   rw [show a.add(0*6)=a by simp [Addr.add]] at hc0
   obtain⟨b,off,rfl⟩:=addr_of_cell hc0
   refine⟨b,off,rfl,Nat.zero_le _,lt_of_cell hc0,fun i hi=>?_⟩
   obtain⟨c0,c1,c2,c3,c4,c5,q0,q1,q2,q3,q4,q5,rfl,rfl,rfl,rfl,rfl,hp,hsm,hwf⟩:=hf i hi
   rw [Addr.add_mid,Addr.add_mid] at q1 q2 q3 q4 q5
   rw [Addr.add_mid] at q0
   exact⟨c5,q0,q1,q2,q3,q4,q5,hp,hsm⟩
  ·obtain⟨c0,c1,c2,c3,c4,c5,-,-,-,-,-,-,-,-,-,-,-,-,-,hwf⟩:=hf i hi
   exact hwf
def SnapWf(s:SnapD):Prop:=(Lit.int .i64 s.id).wf=true∧(Lit.int .i64 s.prev).wf=true∧(Lit.int .i64 s.time).wf=true
theorem open_snap_cells{fuel:Nat}{c0 c1 c2 c3 c4 c5 c6 c7:Value}{x:DataW H×List MemPlace}(h:DataW.trod enc Tryz.prog W 0 spare held fuel 116 [c0,c1,c2,c3,c4,c5,c6,c7]=some x):∃s:SnapD,c0 = .int .i64 s.id∧c1 = .string s.name∧c2 = .string s.set∧c3 = .int .i64 s.prev∧c4 = .int .i64 s.time∧c5 = .int .i64 s.rs∧c6 = .int .i64 s.rb∧PtrsAt W 0 W.heap.size c7 s.dn s.ds s.db∧(s.name.size≤maxLen∧s.set.size≤maxLen)∧SnapWf s:=by
 obtain⟨n0,y0,h0⟩:=field_of(t:=116)(T:=2)(o:=0)(c:=1)(i:=0)(by kernel_rfl)(by kernel_rfl)(by kernel_rfl)h
 obtain⟨z0,e0,-,w0⟩:=DataW.trod_int(show Tryz.prog.underlying 2=some(.int .i64)by kernel_rfl)h0
 obtain⟨n1,y1,h1⟩:=field_of(t:=116)(T:=9)(o:=1)(c:=1)(i:=1)(by kernel_rfl)(by kernel_rfl)(by kernel_rfl)h
 obtain⟨z1,e1,-,w1⟩:=DataW.trod_string(show Tryz.prog.underlying 9=some .string by kernel_rfl)h1
 obtain⟨n2,y2,h2⟩:=field_of(t:=116)(T:=9)(o:=2)(c:=1)(i:=2)(by kernel_rfl)(by kernel_rfl)(by kernel_rfl)h
 obtain⟨z2,e2,-,w2⟩:=DataW.trod_string(show Tryz.prog.underlying 9=some .string by kernel_rfl)h2
 obtain⟨n3,y3,h3⟩:=field_of(t:=116)(T:=2)(o:=3)(c:=1)(i:=3)(by kernel_rfl)(by kernel_rfl)(by kernel_rfl)h
 obtain⟨z3,e3,-,w3⟩:=DataW.trod_int(show Tryz.prog.underlying 2=some(.int .i64)by kernel_rfl)h3
 obtain⟨n4,y4,h4⟩:=field_of(t:=116)(T:=2)(o:=4)(c:=1)(i:=4)(by kernel_rfl)(by kernel_rfl)(by kernel_rfl)h
 obtain⟨z4,e4,-,w4⟩:=DataW.trod_int(show Tryz.prog.underlying 2=some(.int .i64)by kernel_rfl)h4
 obtain⟨n5,y5,h5⟩:=field_of(t:=116)(T:=110)(o:=5)(c:=2)(i:=5)(by kernel_rfl)(by kernel_rfl)(by kernel_rfl)h
 obtain⟨z5,z5',e5,e5'⟩:=open_ptr_cells(c0:=c5)(c1:=c6)(by simpa using h5)
 obtain⟨n6,y6,h6⟩:=field_of(t:=116)(T:=111)(o:=7)(c:=1)(i:=6)(by kernel_rfl)(by kernel_rfl)(by kernel_rfl)h
 obtain⟨dn,ds,db,hp⟩:=open_ptrs_at(v:=c7)(by simpa using h6)
 exact⟨⟨z0,z1,z2,z3,z4,z5,z5',dn,ds,db⟩,by simpa using e0,by simpa using e1,by simpa using e2,by simpa using e3,by simpa using e4,e5,e5',hp,⟨w1,w2⟩,w0,w3,w4⟩
theorem open_snaps_at{fuel:Nat}{v:Value}{x:DataW H×List MemPlace}(h:DataW.trod enc Tryz.prog W 0 spare held fuel 27 [v]=some x):∃n f,SnapsAt W 0 W.heap.size v n f∧∀i,i<n→SnapWf(f i):=by
 rcases open_slice(t:=27)(e:=116)(by kernel_rfl)h with⟨hv,_⟩ | ⟨a,len,cap,m,n,D,Pl,hv,_,hl,hm,hmm,_,hx⟩
 ·exact⟨0,fun _=>⟨0,ByteArray.empty,ByteArray.empty,0,0,0,0,0,fun _=>0,fun _=>0⟩,⟨Nat.zero_le _,none,0,slice_val hv,Nat.le_refl _,fun h=>absurd h(Nat.lt_irrefl _)⟩,fun i hi=>absurd hi(Nat.not_lt_zero _)⟩
 ·have hlm:len≤m:=by rw [hmm]; split <;> omega
  have hc3:Tryz.prog.cellsOf 116=8:=by kernel_rfl
  rw [hc3] at hx
  have hV:∀i,i<len→∃s:SnapD,(∃c0 c1 c2 c3 c4 c5 c6 c7,W.cell?(a.add(i*8))=some c0∧W.cell?((a.add(i*8)).add 1)=some c1∧W.cell?((a.add(i*8)).add 2)=some c2∧W.cell?((a.add(i*8)).add 3)=some c3∧W.cell?((a.add(i*8)).add 4)=some c4∧W.cell?((a.add(i*8)).add 5)=some c5∧W.cell?((a.add(i*8)).add 6)=some c6∧W.cell?((a.add(i*8)).add 7)=some c7∧c0 = .int .i64 s.id∧c1 = .string s.name∧c2 = .string s.set∧c3 = .int .i64 s.prev∧c4 = .int .i64 s.time∧c5 = .int .i64 s.rs∧c6 = .int .i64 s.rb∧PtrsAt W 0 W.heap.size c7 s.dn s.ds s.db∧(s.name.size≤maxLen∧s.set.size≤maxLen)∧SnapWf s):=fun i hi=>by
   obtain⟨cs,hcs,ht⟩:=hx i(by omega)
   obtain⟨_,hlen,hcell⟩:=World.cells?_some hcs
   match cs,hlen with
   | [c0,c1,c2,c3,c4,c5,c6,c7],_=>
    obtain⟨s,hs⟩:=open_snap_cells ht
    have q0:=hcell 0(by omega)
    have q1:=hcell 1(by omega)
    have q2:=hcell 2(by omega)
    have q3:=hcell 3(by omega)
    have q4:=hcell 4(by omega)
    have q5:=hcell 5(by omega)
    have q6:=hcell 6(by omega)
    have q7:=hcell 7(by omega)
    rw [show(a.add(i*8)).add 0=a.add(i*8)by simp [Addr.add]] at q0
    exact⟨s,c0,c1,c2,c3,c4,c5,c6,c7,by simpa using q0,by simpa using q1,by simpa using q2,by simpa using q3,by simpa using q4,by simpa using q5,by simpa using q6,by simpa using q7,hs⟩
  have hinh:Inhabited SnapD:=⟨⟨0,ByteArray.empty,ByteArray.empty,0,0,0,0,0,fun _=>0,fun _=>0⟩⟩
  obtain⟨f,hf⟩:=choose_lt(α:=SnapD)(p:=fun i s=>(∃c0 c1 c2 c3 c4 c5 c6 c7,W.cell?(a.add(i*8))=some c0∧W.cell?((a.add(i*8)).add 1)=some c1∧W.cell?((a.add(i*8)).add 2)=some c2∧W.cell?((a.add(i*8)).add 3)=some c3∧W.cell?((a.add(i*8)).add 4)=some c4∧W.cell?((a.add(i*8)).add 5)=some c5∧W.cell?((a.add(i*8)).add 6)=some c6∧W.cell?((a.add(i*8)).add 7)=some c7∧c0 = .int .i64 s.id∧c1 = .string s.name∧c2 = .string s.set∧c3 = .int .i64 s.prev∧c4 = .int .i64 s.time∧c5 = .int .i64 s.rs∧c6 = .int .i64 s.rb∧PtrsAt W 0 W.heap.size c7 s.dn s.ds s.db∧(s.name.size≤maxLen∧s.set.size≤maxLen)∧SnapWf s))hV
  refine⟨len,f,⟨by unfold maxLen at *; omega,some a,cap,slice_val hv,hl,fun h0=>?_⟩,fun i hi=>?_⟩
  ·obtain⟨c0,c1,c2,c3,c4,c5,c6,c7,hc0,_⟩:=hf 0 h0
   rw [show a.add(0*8)=a by simp [Addr.add]] at hc0
   obtain⟨b,off,rfl⟩:=addr_of_cell hc0
   refine⟨b,off,rfl,Nat.zero_le _,lt_of_cell hc0,fun i hi=>?_⟩
   obtain⟨c0,c1,c2,c3,c4,c5,c6,c7,q0,q1,q2,q3,q4,q5,q6,q7,rfl,rfl,rfl,rfl,rfl,rfl,rfl,hp,hsm,hwf⟩:=hf i hi
   rw [Addr.add_mid,Addr.add_mid] at q1 q2 q3 q4 q5 q6 q7
   rw [Addr.add_mid] at q0
   exact⟨c7,q0,q1,q2,q3,q4,q5,q6,q7,hp,hsm⟩
  ·obtain⟨c0,c1,c2,c3,c4,c5,c6,c7,-,-,-,-,-,-,-,-,-,-,-,-,-,-,-,-,-,hwf⟩:=hf i hi
   exact hwf
structure WorldWf(W:WorldD):Prop where
 time:(Lit.int .i64 W.time).wf=true
 next:(Lit.int .i64 W.next).wf=true
 sets:∀i,i<W.sn→SetWf(W.sets i)
 snaps:∀i,i<W.pn→SnapWf(W.snaps i)
theorem WorldWf.prevs{W:WorldD}(h:WorldWf W):PrevsWf W:=fun i hi=>by
 unfold memN at hi
 by_cases e:i<W.pn
 ·rw [memOf_snap e]; exact(h.snaps i e).2.1
 ·obtain⟨j,rfl⟩:∃j,i=W.pn+j:=⟨i - W.pn,by omega⟩
  rw [memOf_set]; exact(h.sets j(by omega)).2
theorem array6w{α : Type}{cs:Array α}(h:cs.size=6):∃c0 c1 c2 c3 c4 c5,cs=#[c0,c1,c2,c3,c4,c5]:=by
 obtain⟨l⟩:=cs
 match l,h with
 | [c0,c1,c2,c3,c4,c5],_=>exact⟨c0,c1,c2,c3,c4,c5,rfl⟩
theorem open_pool_cells{fuel:Nat}{c0 c1:Value}{x:DataW H×List MemPlace}(h:DataW.trod enc Tryz.prog W 0 spare held fuel 25 [c0,c1]=some x):∃p,PoolAt W 0 W.heap.size c0 c1 p:=by
 obtain⟨n0,y0,h0⟩:=field_of(t:=25)(T:=22)(o:=0)(c:=1)(i:=0)(by kernel_rfl)(by kernel_rfl)(by kernel_rfl)h
 obtain⟨n1,y1,h1⟩:=field_of(t:=25)(T:=23)(o:=1)(c:=1)(i:=1)(by kernel_rfl)(by kernel_rfl)(by kernel_rfl)h
 obtain⟨n,f,hsl⟩:=open_slots_at(v:=c0)(by simpa using h0)
 obtain⟨hn,g,hin⟩:=open_ints_at(v:=c1)(by simpa using h1)
 exact⟨⟨n,f,hn,g⟩,hsl,hin⟩
theorem open_world{r:Reach}{b0:Nat}{v:Value}{d:DataW H}{ps:List MemPlace}(hv:Value.okWide Tryz.prog W r b0 29 v)(h:DataW.Trod enc Tryz.prog W 0 spare held 29 v d ps) :
  ∃v0 v1 v2 v3 D,v=worldV v0 v1 v2 v3 D∧WorldAt W 0 W.heap.size v0 v1 v2 v3 D∧WorldWf D:=by
 have hs:Tryz.prog.underlying 29=some(.struct(Tryz.prog.fieldsOf 29)):=by kernel_rfl
 obtain⟨cs,rfl,hsz⟩:=okWide_struct hs hv
 obtain⟨c0,c1,c2,c3,c4,c5,rfl⟩:=array6w(hsz.trans(by kernel_rfl))
 obtain⟨fuel,hf⟩:=h
 have hf':DataW.trod enc Tryz.prog W 0 spare held fuel 29 [c0,c1,c2,c3,c4,c5]=some(d,ps):=by simpa [Value.cells] using hf
 obtain⟨n0,y0,h0⟩:=field_of(t:=29)(T:=25)(o:=0)(c:=2)(i:=0)(by kernel_rfl)(by kernel_rfl)(by kernel_rfl)hf'
 obtain⟨n1,y1,h1⟩:=field_of(t:=29)(T:=2)(o:=2)(c:=1)(i:=1)(by kernel_rfl)(by kernel_rfl)(by kernel_rfl)hf'
 obtain⟨n2,y2,h2⟩:=field_of(t:=29)(T:=2)(o:=3)(c:=1)(i:=2)(by kernel_rfl)(by kernel_rfl)(by kernel_rfl)hf'
 obtain⟨n3,y3,h3⟩:=field_of(t:=29)(T:=26)(o:=4)(c:=1)(i:=3)(by kernel_rfl)(by kernel_rfl)(by kernel_rfl)hf'
 obtain⟨n4,y4,h4⟩:=field_of(t:=29)(T:=27)(o:=5)(c:=1)(i:=4)(by kernel_rfl)(by kernel_rfl)(by kernel_rfl)hf'
 obtain⟨p,hp⟩:=open_pool_cells(c0:=c0)(c1:=c1)(by simpa using h0)
 obtain⟨z1,e1,-,w1⟩:=DataW.trod_int(show Tryz.prog.underlying 2=some(.int .i64)by kernel_rfl)h1
 obtain⟨z2,e2,-,w2⟩:=DataW.trod_int(show Tryz.prog.underlying 2=some(.int .i64)by kernel_rfl)h2
 obtain⟨sn,f,hS,hSw⟩:=open_sets_at(v:=c4)(by simpa using h3)
 obtain⟨pn,g,hP,hPw⟩:=open_snaps_at(v:=c5)(by simpa using h4)
 obtain rfl:c2 = .int .i64 z1:=by simpa using e1
 obtain rfl:c3 = .int .i64 z2:=by simpa using e2
 exact⟨c0,c1,c4,c5,⟨p,z1,z2,sn,f,pn,g⟩,rfl,⟨hp,hS,hP⟩,⟨w1,w2,hSw,hPw⟩⟩
end
end Go.Proofs.YtihplgckbhnohaaGreatDoor

namespace Go.Proofs.YtihplgckbhnohaaGreatDoor
open Go.RowKit Go.Maps
set_option linter.unusedVariables false
def storeN(S:StoreD):Nat:=worldN S.live+worldN S.safe
set_option maxRecDepth 20000 in
set_option maxHeartbeats 400000 in
theorem szStore_any(v0 v1 v2 v3 u0 u1 u2 u3:Value)(lo hi:Nat)(S:StoreD)(left:Int)(w:World)(h:StoreAt w lo hi v0 v1 v2 v3 u0 u1 u2 u3 S)(hl0:0≤left)(hl1:left≤1048576) :
  Calls Tryz.prog 6 #[storeV v0 v1 v2 v3 u0 u1 u2 u3 S,.int .i64 left] w fun e w'=>LeftIs(storeN S)left e∧Below w.heap.size w w':=by
 have H:=hideW h
 clear h
 have ha:=below_alloc w(.cells #[v0,v1,.int .i64 S.live.time,.int .i64 S.live.next,v2,v3,u0,u1,.int .i64 S.safe.time,.int .i64 S.safe.next,u2,u3] 31)
 have HX:=hideW(Box12.new w v0 v1(.int .i64 S.live.time)(.int .i64 S.live.next)v2 v3 u0 u1(.int .i64 S.safe.time)(.int .i64 S.safe.next)u2 u3 31)
 obtain⟨⟨x0,x0'⟩,⟨x1,x1'⟩,⟨x2,x2'⟩,⟨x3,x3'⟩,⟨x4,x4'⟩,⟨x5,x5'⟩,⟨x6,x6'⟩,⟨x7,x7'⟩,⟨x8,x8'⟩,⟨x9,x9'⟩,⟨x10,x10'⟩,⟨x11,x11'⟩⟩:=HX.out
 go_enter Tryz.func6,Tryz.ntmps6
 go_wp2_with fail
 refine(szWorld_any _ _ _ _ lo hi S.live _ _(H.out.live.below ha)hl0 hl1).mono ?_
 rintro e w1⟨⟨r,rfl,hr1,hr2,hr3⟩,hb1⟩
 have hB1:=below_next ha hb1
 have HX1:=hideW(HX.out.below hb1)
 have Hr:=hideW hr1
 clear hr1 hb1 ha HX x0 x0' x1 x1' x2 x2' x3 x3' x4 x4' x5 x5' x6 x6' x7 x7' x8 x8' x9 x9' x10 x10' x11 x11'
 obtain⟨⟨x0,x0'⟩,⟨x1,x1'⟩,⟨x2,x2'⟩,⟨x3,x3'⟩,⟨x4,x4'⟩,⟨x5,x5'⟩,⟨x6,x6'⟩,⟨x7,x7'⟩,⟨x8,x8'⟩,⟨x9,x9'⟩,⟨x10,x10'⟩,⟨x11,x11'⟩⟩:=HX1.out
 by_cases h:r<0
 ·go_wp2
  go_ret
  exact⟨⟨-1,rfl,by omega,by omega,by omega⟩,hB1⟩
 ·go_wp2_with fail
  refine(szWorld_any _ _ _ _ lo hi S.safe _ _(H.out.safe.below hB1)(by omega)(by omega)).mono ?_
  rintro e w2⟨⟨r',rfl,hq1,hq2,hq3⟩,hb2⟩
  have hB2:=below_next hB1 hb2
  have Hq:=hideW hq1
  clear hq1 hb2 x0 x0' x1 x1' x2 x2' x3 x3' x4 x4' x5 x5' x6 x6' x7 x7' x8 x8' x9 x9' x10 x10' x11 x11'
  by_cases h3:r'<0
  ·go_wp2
   go_ret
   exact⟨⟨-1,rfl,by omega,by omega,by omega⟩,hB2⟩
  ·go_wp2
   go_ret
   exact⟨⟨r',rfl,fun _=>by have h1:=Hr.out(by omega); have h2:=Hq.out(by omega); unfold storeN; omega,by omega,by omega⟩,hB2⟩
set_option maxRecDepth 20000 in
set_option maxHeartbeats 400000 in
theorem eqStore_same(v0 v1 v2 v3 u0 u1 u2 u3 x0 x1 x2 x3 y0 y1 y2 y3:Value)(lo hi lo' hi':Nat)(S:StoreD)(w:World)(h1:StoreAt w lo hi v0 v1 v2 v3 u0 u1 u2 u3 S)(h2:StoreAt w lo' hi' x0 x1 x2 x3 y0 y1 y2 y3 S) :
  Calls Tryz.prog 11 #[storeV v0 v1 v2 v3 u0 u1 u2 u3 S,storeV x0 x1 x2 x3 y0 y1 y2 y3 S] w fun e w'=>e = .returned(.bool true)∧Below w.heap.size w w':=by
 have H1:=hideW h1
 have H2:=hideW h2
 clear h1 h2
 have ha:=below_alloc w(.cells #[v0,v1,.int .i64 S.live.time,.int .i64 S.live.next,v2,v3,u0,u1,.int .i64 S.safe.time,.int .i64 S.safe.next,u2,u3] 41)
 have ha2:=below_alloc(w.alloc(.cells #[v0,v1,.int .i64 S.live.time,.int .i64 S.live.next,v2,v3,u0,u1,.int .i64 S.safe.time,.int .i64 S.safe.next,u2,u3] 41))(.cells #[x0,x1,.int .i64 S.live.time,.int .i64 S.live.next,x2,x3,y0,y1,.int .i64 S.safe.time,.int .i64 S.safe.next,y2,y3] 41)
 have hA:=below_next ha ha2
 have HX:=hideW((Box12.new w v0 v1(.int .i64 S.live.time)(.int .i64 S.live.next)v2 v3 u0 u1(.int .i64 S.safe.time)(.int .i64 S.safe.next)u2 u3 41).below ha2)
 have hy:=Box12.new(w.alloc(.cells #[v0,v1,.int .i64 S.live.time,.int .i64 S.live.next,v2,v3,u0,u1,.int .i64 S.safe.time,.int .i64 S.safe.next,u2,u3] 41))x0 x1(.int .i64 S.live.time)(.int .i64 S.live.next)x2 x3 y0 y1(.int .i64 S.safe.time)(.int .i64 S.safe.next)y2 y3 41
 rw [World.size_alloc] at hy
 have HY:=hideW hy
 clear hy ha ha2
 obtain⟨⟨p0,p0'⟩,⟨p1,p1'⟩,⟨p2,p2'⟩,⟨p3,p3'⟩,⟨p4,p4'⟩,⟨p5,p5'⟩,⟨p6,p6'⟩,⟨p7,p7'⟩,⟨p8,p8'⟩,⟨p9,p9'⟩,⟨p10,p10'⟩,⟨p11,p11'⟩⟩:=HX.out
 obtain⟨⟨q0,q0'⟩,⟨q1,q1'⟩,⟨q2,q2'⟩,⟨q3,q3'⟩,⟨q4,q4'⟩,⟨q5,q5'⟩,⟨q6,q6'⟩,⟨q7,q7'⟩,⟨q8,q8'⟩,⟨q9,q9'⟩,⟨q10,q10'⟩,⟨q11,q11'⟩⟩:=HY.out
 go_enter Tryz.func11,Tryz.ntmps11
 go_wp2_with fail
 clear p0 p0' p1 p1' p2 p2' p3 p3' p4 p4' p5 p5' p6 p6' p7 p7' p8 p8' p9 p9' p10 p10' p11 p11' q0 q0' q1 q1' q2 q2' q3 q3' q4 q4' q5 q5' q6 q6' q7 q7' q8 q8' q9 q9' q10 q10' q11 q11'
 generalize(w.alloc(.cells #[v0,v1,.int .i64 S.live.time,.int .i64 S.live.next,v2,v3,u0,u1,.int .i64 S.safe.time,.int .i64 S.safe.next,u2,u3] 41)).alloc(.cells #[x0,x1,.int .i64 S.live.time,.int .i64 S.live.next,x2,x3,y0,y1,.int .i64 S.safe.time,.int .i64 S.safe.next,y2,y3] 41)=W0 at hA HX HY ⊢
 refine(eqWorld_same _ _ _ _ _ _ _ _ _ _ _ _ S.live W0(H1.out.live.below hA)(H2.out.live.below hA)).mono ?_
 rintro e w1⟨rfl,hb1⟩
 have hB1:=below_next hA hb1
 obtain⟨⟨p0,p0'⟩,⟨p1,p1'⟩,⟨p2,p2'⟩,⟨p3,p3'⟩,⟨p4,p4'⟩,⟨p5,p5'⟩,⟨p6,p6'⟩,⟨p7,p7'⟩,⟨p8,p8'⟩,⟨p9,p9'⟩,⟨p10,p10'⟩,⟨p11,p11'⟩⟩:=HX.out.below hb1
 obtain⟨⟨q0,q0'⟩,⟨q1,q1'⟩,⟨q2,q2'⟩,⟨q3,q3'⟩,⟨q4,q4'⟩,⟨q5,q5'⟩,⟨q6,q6'⟩,⟨q7,q7'⟩,⟨q8,q8'⟩,⟨q9,q9'⟩,⟨q10,q10'⟩,⟨q11,q11'⟩⟩:=HY.out.below hb1
 clear hb1 HX HY hA
 go_wp2_with fail
 clear p0 p0' p1 p1' p2 p2' p3 p3' p4 p4' p5 p5' p6 p6' p7 p7' p8 p8' p9 p9' p10 p10' p11 p11' q0 q0' q1 q1' q2 q2' q3 q3' q4 q4' q5 q5' q6 q6' q7 q7' q8 q8' q9 q9' q10 q10' q11 q11'
 refine(eqWorld_same _ _ _ _ _ _ _ _ _ _ _ _ S.safe w1(H1.out.safe.below hB1)(H2.out.safe.below hB1)).mono ?_
 rintro e w2⟨rfl,hb2⟩
 have hB2:=below_next hB1 hb2
 clear hb2 hB1
 go_wp2
 go_ret
 exact⟨rfl,hB2⟩
set_option maxRecDepth 20000 in
set_option maxHeartbeats 1000000 in
theorem toStore_any(v0 v1 v2 v3 u0 u1 u2 u3:Value)(lo hi:Nat)(S:StoreD)(w:World)(h:StoreAt w lo hi v0 v1 v2 v3 u0 u1 u2 u3 S)(hn:storeN S≤1048576):Calls Tryz.prog 8 #[storeV v0 v1 v2 v3 u0 u1 u2 u3 S] w(NewStore S w):=by
 obtain⟨s0a,t0a,s0b,t0b,s0c,t0c,s0d,t0d,rfl,rfl,rfl,rfl⟩:=h.live.form
 obtain⟨s1a,t1a,s1b,t1b,s1c,t1c,s1d,t1d,rfl,rfl,rfl,rfl⟩:=h.safe.form
 have H:=hideW h
 clear h
 unfold storeN at hn
 have hst:∀Wa Wb Wc:World,Wa=w.alloc(.cells #[.slice s0a S.live.pool.n t0a,.slice s0b S.live.pool.hn t0b,.int .i64 S.live.time,.int .i64 S.live.next,.slice s0c S.live.sn t0c,.slice s0d S.live.pn t0d,.slice s1a S.safe.pool.n t1a,.slice s1b S.safe.pool.hn t1b,.int .i64 S.safe.time,.int .i64 S.safe.next,.slice s1c S.safe.sn t1c,.slice s1d S.safe.pn t1d] 31)→Wb=Wa.alloc(.cells #[.slice none 0 0,.slice none 0 0,.int .i64 0,.int .i64 0,.slice none 0 0,.slice none 0 0,.slice none 0 0,.slice none 0 0,.int .i64 0,.int .i64 0,.slice none 0 0,.slice none 0 0] 41)→Wc=Wb.alloc(.cells #[.slice none 0 0,.slice none 0 0,.int .i64 0,.int .i64 0,.slice none 0 0,.slice none 0 0,.slice none 0 0,.slice none 0 0,.int .i64 0,.int .i64 0,.slice none 0 0,.slice none 0 0] 41)→Box12 Wc w.heap.size(.slice s0a S.live.pool.n t0a)(.slice s0b S.live.pool.hn t0b)(.int .i64 S.live.time)(.int .i64 S.live.next)(.slice s0c S.live.sn t0c)(.slice s0d S.live.pn t0d)(.slice s1a S.safe.pool.n t1a)(.slice s1b S.safe.pool.hn t1b)(.int .i64 S.safe.time)(.int .i64 S.safe.next)(.slice s1c S.safe.sn t1c)(.slice s1d S.safe.pn t1d)∧Box12 Wc(w.heap.size+1)(.slice none 0 0)(.slice none 0 0)(.int .i64 0)(.int .i64 0)(.slice none 0 0)(.slice none 0 0)(.slice none 0 0)(.slice none 0 0)(.int .i64 0)(.int .i64 0)(.slice none 0 0)(.slice none 0 0)∧Box12 Wc(w.heap.size+1+1)(.slice none 0 0)(.slice none 0 0)(.int .i64 0)(.int .i64 0)(.slice none 0 0)(.slice none 0 0)(.slice none 0 0)(.slice none 0 0)(.int .i64 0)(.int .i64 0)(.slice none 0 0)(.slice none 0 0)∧Below w.heap.size w Wc∧Wc.heap.size=w.heap.size+3:=by
  rintro Wa Wb Wc ea eb ec
  have ha:=below_alloc w(.cells #[.slice s0a S.live.pool.n t0a,.slice s0b S.live.pool.hn t0b,.int .i64 S.live.time,.int .i64 S.live.next,.slice s0c S.live.sn t0c,.slice s0d S.live.pn t0d,.slice s1a S.safe.pool.n t1a,.slice s1b S.safe.pool.hn t1b,.int .i64 S.safe.time,.int .i64 S.safe.next,.slice s1c S.safe.sn t1c,.slice s1d S.safe.pn t1d] 31)
  have h1:=Box12.new w(.slice s0a S.live.pool.n t0a)(.slice s0b S.live.pool.hn t0b)(.int .i64 S.live.time)(.int .i64 S.live.next)(.slice s0c S.live.sn t0c)(.slice s0d S.live.pn t0d)(.slice s1a S.safe.pool.n t1a)(.slice s1b S.safe.pool.hn t1b)(.int .i64 S.safe.time)(.int .i64 S.safe.next)(.slice s1c S.safe.sn t1c)(.slice s1d S.safe.pn t1d)31
  have z1:Wa.heap.size=w.heap.size+1:=by rw [ea]; exact World.size_alloc _ _
  rw [←ea] at ha h1
  have hb:=below_alloc Wa(.cells #[.slice none 0 0,.slice none 0 0,.int .i64 0,.int .i64 0,.slice none 0 0,.slice none 0 0,.slice none 0 0,.slice none 0 0,.int .i64 0,.int .i64 0,.slice none 0 0,.slice none 0 0] 41)
  have h2:=Box12.new Wa(.slice none 0 0)(.slice none 0 0)(.int .i64 0)(.int .i64 0)(.slice none 0 0)(.slice none 0 0)(.slice none 0 0)(.slice none 0 0)(.int .i64 0)(.int .i64 0)(.slice none 0 0)(.slice none 0 0)41
  have z2:Wb.heap.size=w.heap.size+1+1:=by rw [eb,World.size_alloc,z1]
  rw [←eb,z1] at h2
  rw [←eb] at hb
  have hc:=below_alloc Wb(.cells #[.slice none 0 0,.slice none 0 0,.int .i64 0,.int .i64 0,.slice none 0 0,.slice none 0 0,.slice none 0 0,.slice none 0 0,.int .i64 0,.int .i64 0,.slice none 0 0,.slice none 0 0] 41)
  have h3:=Box12.new Wb(.slice none 0 0)(.slice none 0 0)(.int .i64 0)(.int .i64 0)(.slice none 0 0)(.slice none 0 0)(.slice none 0 0)(.slice none 0 0)(.int .i64 0)(.int .i64 0)(.slice none 0 0)(.slice none 0 0)41
  have z3:Wc.heap.size=w.heap.size+3:=by rw [ec,World.size_alloc,z2]
  rw [←ec,z2] at h3
  rw [←ec] at hc
  exact⟨(h1.below hb).below hc,h2.below hc,h3,below_next(below_next ha hb)hc,z3⟩
 obtain⟨hx,hy,hz,hbw,hsz⟩:=hst _ _ _ rfl rfl rfl
 have HX:=hideW hx
 have HY:=hideW hy
 have HZ:=hideW hz
 have HS:=hideW hsz
 clear hx hy hz hst hsz
 go_enter Tryz.func8,Tryz.ntmps8
 obtain⟨⟨x0,x0'⟩,⟨x1,x1'⟩,⟨x2,x2'⟩,⟨x3,x3'⟩,⟨x4,x4'⟩,⟨x5,x5'⟩,⟨x6,x6'⟩,⟨x7,x7'⟩,⟨x8,x8'⟩,⟨x9,x9'⟩,⟨x10,x10'⟩,⟨x11,x11'⟩⟩:=HX.out
 go_wp2_with fail
 clear x0 x0' x1 x1' x2 x2' x3 x3' x4 x4' x5 x5' x6 x6' x7 x7' x8 x8' x9 x9' x10 x10' x11 x11'
 generalize((w.alloc(.cells #[.slice s0a S.live.pool.n t0a,.slice s0b S.live.pool.hn t0b,.int .i64 S.live.time,.int .i64 S.live.next,.slice s0c S.live.sn t0c,.slice s0d S.live.pn t0d,.slice s1a S.safe.pool.n t1a,.slice s1b S.safe.pool.hn t1b,.int .i64 S.safe.time,.int .i64 S.safe.next,.slice s1c S.safe.sn t1c,.slice s1d S.safe.pn t1d] 31)).alloc(.cells #[.slice none 0 0,.slice none 0 0,.int .i64 0,.int .i64 0,.slice none 0 0,.slice none 0 0,.slice none 0 0,.slice none 0 0,.int .i64 0,.int .i64 0,.slice none 0 0,.slice none 0 0] 41)).alloc(.cells #[.slice none 0 0,.slice none 0 0,.int .i64 0,.int .i64 0,.slice none 0 0,.slice none 0 0,.slice none 0 0,.slice none 0 0,.int .i64 0,.int .i64 0,.slice none 0 0,.slice none 0 0] 41)=W0 at HX HY HZ HS hbw ⊢
 refine(toWorld_any _ _ _ _ lo hi S.live W0(H.out.live.below hbw)(by omega)).mono ?_
 rintro e w1⟨x0,x1,x2,x3,rfl,hP,hb1⟩
 obtain⟨s2a,t2a,s2b,t2b,s2c,t2c,s2d,t2d,rfl,rfl,rfl,rfl⟩:=hP.form
 have hz1:=hb1.size
 have hz0:=HS.out
 have T1:=Turned.put12a w1(w.heap.size+1+1)(.slice s2a S.live.pool.n t2a)(.slice s2b S.live.pool.hn t2b)(.int .i64 S.live.time)(.int .i64 S.live.next)(.slice s2c S.live.sn t2c)(.slice s2d S.live.pn t2d)
 have HP1:=hideW(hP.turned T1(fun k e=>Or.inl(by show k<W0.heap.size; omega)))
 have HX1:=hideW((HX.out.below hb1).turned T1(fun e=>absurd e(by omega)))
 have HY1:=hideW((HY.out.below hb1).turned T1(fun e=>absurd e(by omega)))
 have HZ1:=hideW((HZ.out.below hb1).put12a(.slice s2a S.live.pool.n t2a)(.slice s2b S.live.pool.hn t2b)(.int .i64 S.live.time)(.int .i64 S.live.next)(.slice s2c S.live.sn t2c)(.slice s2d S.live.pn t2d))
 have hB1:=(below_next hbw hb1).trans(T1.below(B:=w.heap.size)(by omega)(fun k e=>by omega))
 have HS1:=hideW(show w1.heap.size≤((((((w1.setCell⟨w.heap.size+1+1,0,none⟩(.slice s2a S.live.pool.n t2a)).setCell⟨w.heap.size+1+1,1,none⟩(.slice s2b S.live.pool.hn t2b)).setCell⟨w.heap.size+1+1,2,none⟩(.int .i64 S.live.time)).setCell⟨w.heap.size+1+1,3,none⟩(.int .i64 S.live.next)).setCell⟨w.heap.size+1+1,4,none⟩(.slice s2c S.live.sn t2c)).setCell⟨w.heap.size+1+1,5,none⟩(.slice s2d S.live.pn t2d)).heap.size∧((((((w1.setCell⟨w.heap.size+1+1,0,none⟩(.slice s2a S.live.pool.n t2a)).setCell⟨w.heap.size+1+1,1,none⟩(.slice s2b S.live.pool.hn t2b)).setCell⟨w.heap.size+1+1,2,none⟩(.int .i64 S.live.time)).setCell⟨w.heap.size+1+1,3,none⟩(.int .i64 S.live.next)).setCell⟨w.heap.size+1+1,4,none⟩(.slice s2c S.live.sn t2c)).setCell⟨w.heap.size+1+1,5,none⟩(.slice s2d S.live.pn t2d)).heap.size≤w1.heap.size by simp only [World.size_setCell]; omega)
 have HZ0:=hideW(show w.heap.size+3≤W0.heap.size∧W0.heap.size≤w1.heap.size by omega)
 obtain⟨⟨x0,x0'⟩,⟨x1,x1'⟩,⟨x2,x2'⟩,⟨x3,x3'⟩,⟨x4,x4'⟩,⟨x5,x5'⟩,⟨x6,x6'⟩,⟨x7,x7'⟩,⟨x8,x8'⟩,⟨x9,x9'⟩,⟨x10,x10'⟩,⟨x11,x11'⟩⟩:=HX.out.below hb1
 obtain⟨⟨z0,z0'⟩,⟨z1,z1'⟩,⟨z2,z2'⟩,⟨z3,z3'⟩,⟨z4,z4'⟩,⟨z5,z5'⟩,⟨z6,z6'⟩,⟨z7,z7'⟩,⟨z8,z8'⟩,⟨z9,z9'⟩,⟨z10,z10'⟩,⟨z11,z11'⟩⟩:=HZ.out.below hb1
 clear hb1 hbw HX HY HZ HS hz0 hz1 hP T1
 go_wp2_with fail
 clear x0 x0' x1 x1' x2 x2' x3 x3' x4 x4' x5 x5' x6 x6' x7 x7' x8 x8' x9 x9' x10 x10' x11 x11' z0 z0' z1 z1' z2 z2' z3 z3' z4 z4' z5 z5' z6 z6' z7 z7' z8 z8' z9 z9' z10 z10' z11 z11'
 generalize((((((w1.setCell⟨w.heap.size+1+1,0,none⟩(.slice s2a S.live.pool.n t2a)).setCell⟨w.heap.size+1+1,1,none⟩(.slice s2b S.live.pool.hn t2b)).setCell⟨w.heap.size+1+1,2,none⟩(.int .i64 S.live.time)).setCell⟨w.heap.size+1+1,3,none⟩(.int .i64 S.live.next)).setCell⟨w.heap.size+1+1,4,none⟩(.slice s2c S.live.sn t2c)).setCell⟨w.heap.size+1+1,5,none⟩(.slice s2d S.live.pn t2d))=W1 at HP1 HX1 HY1 HZ1 HS1 hB1 ⊢
 refine(toWorld_any _ _ _ _ lo hi S.safe W1(H.out.safe.below hB1)(by omega)).mono ?_
 rintro e w2⟨x0,x1,x2,x3,rfl,hQ,hb2⟩
 obtain⟨s3a,t3a,s3b,t3b,s3c,t3c,s3d,t3d,rfl,rfl,rfl,rfl⟩:=hQ.form
 have HP2:=hideW(HP1.out.below hb2)
 have HX2:=hideW(HX1.out.below hb2)
 have HY2:=hideW(HY1.out.below hb2)
 have HZ2:=hideW(HZ1.out.below hb2)
 have HQ2:=hideW hQ
 have hB2:=below_next hB1 hb2
 have HZ02:=hideW(show W1.heap.size≤w2.heap.size from hb2.size)
 clear hb2 hB1 HX1 HY1 HZ1 HP1 hQ
 obtain⟨⟨y0,y0'⟩,⟨y1,y1'⟩,⟨y2,y2'⟩,⟨y3,y3'⟩,⟨y4,y4'⟩,⟨y5,y5'⟩,⟨y6,y6'⟩,⟨y7,y7'⟩,⟨y8,y8'⟩,⟨y9,y9'⟩,⟨y10,y10'⟩,⟨y11,y11'⟩⟩:=HY2.out
 obtain⟨⟨z0,z0'⟩,⟨z1,z1'⟩,⟨z2,z2'⟩,⟨z3,z3'⟩,⟨z4,z4'⟩,⟨z5,z5'⟩,⟨z6,z6'⟩,⟨z7,z7'⟩,⟨z8,z8'⟩,⟨z9,z9'⟩,⟨z10,z10'⟩,⟨z11,z11'⟩⟩:=HZ2.out
 go_wp2
 have hs1:=HS1.out
 have hz0:=HZ0.out
 have hz2:=HZ02.out
 have T3:=Turned.put12b w2(w.heap.size+1+1)(.slice s3a S.safe.pool.n t3a)(.slice s3b S.safe.pool.hn t3b)(.int .i64 S.safe.time)(.int .i64 S.safe.next)(.slice s3c S.safe.sn t3c)(.slice s3d S.safe.pn t3d)
 have HR:=(HY2.out.turned T3(fun e=>absurd e(by omega))).put(.slice s2a S.live.pool.n t2a)(.slice s2b S.live.pool.hn t2b)(.int .i64 S.live.time)(.int .i64 S.live.next)(.slice s2c S.live.sn t2c)(.slice s2d S.live.pn t2d)(.slice s3a S.safe.pool.n t3a)(.slice s3b S.safe.pool.hn t3b)(.int .i64 S.safe.time)(.int .i64 S.safe.next)(.slice s3c S.safe.sn t3c)(.slice s3d S.safe.pn t3d)
 have T4:=Turned.put12(((((((w2.setCell⟨w.heap.size+1+1,6,none⟩(.slice s3a S.safe.pool.n t3a)).setCell⟨w.heap.size+1+1,7,none⟩(.slice s3b S.safe.pool.hn t3b)).setCell⟨w.heap.size+1+1,8,none⟩(.int .i64 S.safe.time)).setCell⟨w.heap.size+1+1,9,none⟩(.int .i64 S.safe.next)).setCell⟨w.heap.size+1+1,10,none⟩(.slice s3c S.safe.sn t3c)).setCell⟨w.heap.size+1+1,11,none⟩(.slice s3d S.safe.pn t3d)))(w.heap.size+1)(.slice s2a S.live.pool.n t2a)(.slice s2b S.live.pool.hn t2b)(.int .i64 S.live.time)(.int .i64 S.live.next)(.slice s2c S.live.sn t2c)(.slice s2d S.live.pn t2d)(.slice s3a S.safe.pool.n t3a)(.slice s3b S.safe.pool.hn t3b)(.int .i64 S.safe.time)(.int .i64 S.safe.next)(.slice s3c S.safe.sn t3c)(.slice s3d S.safe.pn t3d)
 have TT:=(T3.mono(T:=fun k=>k=w.heap.size+1∨k=w.heap.size+1+1)(fun k e=>Or.inr e)).trans(T4.mono(fun k e=>Or.inl e))
 refine bodyPost_ret(v:=.agg #[.slice s2a S.live.pool.n t2a,.slice s2b S.live.pool.hn t2b,.int .i64 S.live.time,.int .i64 S.live.next,.slice s2c S.live.sn t2c,.slice s2d S.live.pn t2d,.slice s3a S.safe.pool.n t3a,.slice s3b S.safe.pool.hn t3b,.int .i64 S.safe.time,.int .i64 S.safe.next,.slice s3c S.safe.sn t3c,.slice s3d S.safe.pn t3d])(by simp [results,Tryz.results8,go_sem,HR.1.1,HR.2.1.1,HR.2.2.1.1,HR.2.2.2.1.1,HR.2.2.2.2.1.1,HR.2.2.2.2.2.1.1,HR.2.2.2.2.2.2.1.1,HR.2.2.2.2.2.2.2.1.1,HR.2.2.2.2.2.2.2.2.1.1,HR.2.2.2.2.2.2.2.2.2.1.1,HR.2.2.2.2.2.2.2.2.2.2.1.1,HR.2.2.2.2.2.2.2.2.2.2.2.1])rfl⟨_,_,_,_,_,_,_,_,rfl,?_,?_⟩
 ·refine⟨W0.heap.size,w1.heap.size,W1.heap.size,w2.heap.size,HP2.out.turned TT(fun k e=>by omega),HQ2.out.turned TT(fun k e=>by omega),by omega,?_,by omega,?_,Or.inl(by omega)⟩
  ·simp only [World.size_setCell]; omega
  ·simp only [World.size_setCell]; omega
 ·exact hB2.trans(TT.below(B:=w.heap.size)(by omega)(fun k e=>by omega))
section
variable {H : Type} {enc : TypeId × Value → H} {W : World} {spare : Nat → Bool} {held : Bool}
open Go.Deep Go.Joins Go.ChangeShapes Go.WideShapes Go.ChangeAt
set_option maxRecDepth 100000
theorem array12w{α : Type}{cs:Array α}(h:cs.size=12):∃c0 c1 c2 c3 c4 c5 c6 c7 c8 c9 c10 c11,cs=#[c0,c1,c2,c3,c4,c5,c6,c7,c8,c9,c10,c11]:=by
 obtain⟨l⟩:=cs
 match l,h with
 | [c0,c1,c2,c3,c4,c5,c6,c7,c8,c9,c10,c11],_=>exact⟨c0,c1,c2,c3,c4,c5,c6,c7,c8,c9,c10,c11,rfl⟩
theorem open_world_cells{fuel:Nat}{c0 c1 c2 c3 c4 c5:Value}{x:DataW H×List MemPlace}(hf':DataW.trod enc Tryz.prog W 0 spare held fuel 29 [c0,c1,c2,c3,c4,c5]=some x):∃D,c2 = .int .i64 D.time∧c3 = .int .i64 D.next∧WorldAt W 0 W.heap.size c0 c1 c4 c5 D∧WorldWf D:=by
 obtain⟨n0,y0,h0⟩:=field_of(t:=29)(T:=25)(o:=0)(c:=2)(i:=0)(by kernel_rfl)(by kernel_rfl)(by kernel_rfl)hf'
 obtain⟨n1,y1,h1⟩:=field_of(t:=29)(T:=2)(o:=2)(c:=1)(i:=1)(by kernel_rfl)(by kernel_rfl)(by kernel_rfl)hf'
 obtain⟨n2,y2,h2⟩:=field_of(t:=29)(T:=2)(o:=3)(c:=1)(i:=2)(by kernel_rfl)(by kernel_rfl)(by kernel_rfl)hf'
 obtain⟨n3,y3,h3⟩:=field_of(t:=29)(T:=26)(o:=4)(c:=1)(i:=3)(by kernel_rfl)(by kernel_rfl)(by kernel_rfl)hf'
 obtain⟨n4,y4,h4⟩:=field_of(t:=29)(T:=27)(o:=5)(c:=1)(i:=4)(by kernel_rfl)(by kernel_rfl)(by kernel_rfl)hf'
 obtain⟨p,hp⟩:=open_pool_cells(c0:=c0)(c1:=c1)(by simpa using h0)
 obtain⟨z1,e1,-,w1⟩:=DataW.trod_int(show Tryz.prog.underlying 2=some(.int .i64)by kernel_rfl)h1
 obtain⟨z2,e2,-,w2⟩:=DataW.trod_int(show Tryz.prog.underlying 2=some(.int .i64)by kernel_rfl)h2
 obtain⟨sn,f,hS,hSw⟩:=open_sets_at(v:=c4)(by simpa using h3)
 obtain⟨pn,g,hP,hPw⟩:=open_snaps_at(v:=c5)(by simpa using h4)
 exact⟨⟨p,z1,z2,sn,f,pn,g⟩,by simpa using e1,by simpa using e2,⟨hp,hS,hP⟩,⟨w1,w2,hSw,hPw⟩⟩
theorem open_store{r:Reach}{b0:Nat}{v:Value}{d:DataW H}{ps:List MemPlace}(hv:Value.okWide Tryz.prog W r b0 31 v)(h:DataW.Trod enc Tryz.prog W 0 spare held 31 v d ps) :
  ∃v0 v1 v2 v3 u0 u1 u2 u3 D,v=storeV v0 v1 v2 v3 u0 u1 u2 u3 D∧StoreAt W 0 W.heap.size v0 v1 v2 v3 u0 u1 u2 u3 D∧WorldWf D.live∧WorldWf D.safe:=by
 have hs:Tryz.prog.underlying 31=some(.struct(Tryz.prog.fieldsOf 31)):=by kernel_rfl
 obtain⟨cs,rfl,hsz⟩:=okWide_struct hs hv
 obtain⟨c0,c1,c2,c3,c4,c5,c6,c7,c8,c9,c10,c11,rfl⟩:=array12w(hsz.trans(by kernel_rfl))
 obtain⟨fuel,hf⟩:=h
 have hf':DataW.trod enc Tryz.prog W 0 spare held fuel 31 [c0,c1,c2,c3,c4,c5,c6,c7,c8,c9,c10,c11]=some(d,ps):=by simpa [Value.cells] using hf
 obtain⟨n0,y0,h0⟩:=field_of(t:=31)(T:=29)(o:=0)(c:=6)(i:=0)(by kernel_rfl)(by kernel_rfl)(by kernel_rfl)hf'
 obtain⟨n1,y1,h1⟩:=field_of(t:=31)(T:=29)(o:=6)(c:=6)(i:=1)(by kernel_rfl)(by kernel_rfl)(by kernel_rfl)hf'
 obtain⟨D,e1,e2,hD,hw⟩:=open_world_cells(c0:=c0)(c1:=c1)(c2:=c2)(c3:=c3)(c4:=c4)(c5:=c5)(by simpa using h0)
 obtain⟨E,e3,e4,hE,hw'⟩:=open_world_cells(c0:=c6)(c1:=c7)(c2:=c8)(c3:=c9)(c4:=c10)(c5:=c11)(by simpa using h1)
 subst e1 e2 e3 e4
 exact⟨c0,c1,c4,c5,c6,c7,c10,c11,⟨D,E⟩,rfl,⟨hD,hE⟩,hw,hw'⟩
end
end Go.Proofs.YtihplgckbhnohaaGreatDoor
