/- What a pool that comes in is in memory: out of the reading of its arguments, the plain facts on cells. -/
import Derived.Test.YtmgeglgboadfiaaGreatDoorProg
import GoSem.ClaimJoined
import GoSem.ClaimMapViews
import Derived.JoinedTies
import Derived.KernelRfl
import Derived.RowKit
import Derived.Test.YtmgeglgboadfiaaGreatDoorP1
import Derived.ProofKit
import Derived.Deep.Slices
import Derived.Deep.SlicePairs
import Derived.Deep.Strs
import Derived.Deep.MidRow
import Derived.Lib.SmallJoins
import Derived.Test.YtmgeglgboadfiaaGreatDoorP14
import Derived.Test.YtmgeglgboadfiaaGreatDoorP25
import Derived.Test.YtmgeglgboadfiaaGreatDoorP18
import Derived.Test.YtmgeglgboadfiaaGreatDoorP24
namespace Go.Proofs.YtmgeglgboadfiaaGreatDoor
open Go.RowKit Go.Deep Go.Joins
open Go.ChangeShapes Go.WideShapes Go.ChangeAt
set_option linter.unusedVariables false
set_option maxRecDepth 20000
section
variable {H : Type} {enc : TypeId × Value → H} {W : World} {spare : Nat → Bool} {held : Bool}
theorem addr_of_cell{w:World}{a:Addr}{v:Value}(h:w.cell? a=some v):∃b off,a=⟨b,off,none⟩:=by
 obtain⟨b,off,spot⟩:=a
 have hs:spot=none:=by simpa using World.cell?_spot h
 subst hs
 exact⟨b,off,rfl⟩
theorem slice_val{v:Value}{a:Option Addr}{n c:Nat}(h:[v] = [Value.slice a n c]):v = .slice a n c:=by simpa using h
theorem open_ints_at{fuel:Nat}{v:Value}{x:DataW H×List MemPlace}(h:DataW.trod enc Tryz.prog W 0 spare held fuel 23 [v]=some x):∃n f,IntsAt W 0 W.heap.size v n f:=by
 rcases open_slice1 (t:=23) (e:=2) (by kernel_rfl) (by kernel_rfl) h with⟨hv,_⟩ | ⟨a,len,cap,m,n,V,D,Pl,hv,_,hl,hm,hmm,_,hx⟩
 ·exact⟨0,fun _=>0,Nat.zero_le _,none,0,slice_val hv,Nat.le_refl _,fun h=>absurd h (Nat.lt_irrefl _)⟩
 ·have hlm:len≤m:=by rw [hmm]; split <;> omega
  have hV:∀i,i<len→∃z:Int,V i = .int .i64 z:=fun i hi=>by
   obtain⟨_,ht⟩:=hx i (by omega)
   obtain⟨z,hz,_⟩:=DataW.trod_int (show Tryz.prog.underlying 2=some (.int .i64)by kernel_rfl) ht
   exact⟨z,by simpa using hz⟩
  refine⟨len,fun i=>intOf (V i),by unfold maxLen at *; omega,some a,cap,slice_val hv,hl,fun h0=>?_⟩
  have hc0:=(hx 0 (by omega)).1
  rw [show a.add 0=a by simp [Addr.add]] at hc0
  obtain⟨b,off,rfl⟩:=addr_of_cell hc0
  refine⟨b,off,rfl,Nat.zero_le _,lt_of_cell hc0,fun i hi=>?_⟩
  have hc:=(hx i (by omega)).1
  rw [Addr.add_mid] at hc
  obtain⟨z,hz⟩:=hV i hi
  show _=some (Value.int .i64 (intOf (V i)))
  rw [hc,hz]
  rfl
theorem field_of{t T o c i:Nat}{fuel:Nat}{cs:List Value}{x:DataW H×List MemPlace}(hs:Tryz.prog.underlying t=some (.struct (Tryz.prog.fieldsOf t)))(hf:((Tryz.prog.fieldsOf t)[i]?).map (fun f=>(f.type,f.offset))=some (T,o))
  (hc:Tryz.prog.cellsOf T=c) (h:DataW.trod enc Tryz.prog W 0 spare held fuel t cs=some x):∃n y,DataW.trod enc Tryz.prog W 0 spare held n T ((cs.drop o).take c)=some y:=by
 obtain⟨f,hf1,hf2⟩:=Option.map_eq_some_iff.1 hf
 simp only [Prod.mk.injEq] at hf2
 obtain⟨rfl,rfl⟩:=hf2
 obtain⟨xs,n,_,_,_,hxl,hfs⟩:=DataW.trod_struct hs h
 have hi:i<(Tryz.prog.fieldsOf t).size:=(Array.getElem?_eq_some_iff.1 hf1).1
 have:=hfs i f hf1
 rw [hc,List.getElem?_eq_getElem (by omega)] at this
 exact⟨n,_,this⟩
theorem open_ptr_cells{fuel:Nat}{c0 c1:Value}{x:DataW H×List MemPlace}(h:DataW.trod enc Tryz.prog W 0 spare held fuel 113 [c0,c1]=some x):∃y z:Int,c0 = .int .i64 y∧c1 = .int .i64 z:=by
 obtain⟨n0,y0,h0⟩:=field_of (t:=113) (T:=2) (o:=0) (c:=1) (i:=0) (by kernel_rfl) (by kernel_rfl) (by kernel_rfl) h
 obtain⟨n1,y1,h1⟩:=field_of (t:=113) (T:=2) (o:=1) (c:=1) (i:=1) (by kernel_rfl) (by kernel_rfl) (by kernel_rfl) h
 obtain⟨y,hy,_⟩:=DataW.trod_int (show Tryz.prog.underlying 2=some (.int .i64)by kernel_rfl) h0
 obtain⟨z,hz,_⟩:=DataW.trod_int (show Tryz.prog.underlying 2=some (.int .i64)by kernel_rfl) h1
 exact⟨y,z,by simpa using hy,by simpa using hz⟩
theorem open_ptrs_at{fuel:Nat}{v:Value}{x:DataW H×List MemPlace}(h:DataW.trod enc Tryz.prog W 0 spare held fuel 114 [v]=some x):∃n f g,PtrsAt W 0 W.heap.size v n f g:=by
 rcases open_slice (t:=114) (e:=113) (by kernel_rfl) h with⟨hv,_⟩ | ⟨a,len,cap,m,n,D,Pl,hv,_,hl,hm,hmm,_,hx⟩
 ·exact⟨0,fun _=>0,fun _=>0,Nat.zero_le _,none,0,slice_val hv,Nat.le_refl _,fun h=>absurd h (Nat.lt_irrefl _)⟩
 ·have hlm:len≤m:=by rw [hmm]; split <;> omega
  have hc2:Tryz.prog.cellsOf 113=2:=by kernel_rfl
  rw [hc2] at hx
  have hV:∀i,i<len→∃y z:Int,W.cell? (a.add (i*2))=some (.int .i64 y)∧W.cell? ((a.add (i*2)).add 1)=some (.int .i64 z):=fun i hi=>by
   obtain⟨cs,hcs,ht⟩:=hx i (by omega)
   obtain⟨_,hlen,hcell⟩:=World.cells?_some hcs
   match cs,hlen with
   | [c0,c1],_=>
    obtain⟨y,z,rfl,rfl⟩:=open_ptr_cells ht
    have q0:=hcell 0 (by omega)
    have q1:=hcell 1 (by omega)
    rw [show(a.add (i*2)).add 0=a.add (i*2)by simp [Addr.add]] at q0
    exact⟨y,z,by simpa using q0,by simpa using q1⟩
  refine⟨len,fun i=>intOf ((W.cell? (a.add (i*2))).getD undef),fun i=>intOf ((W.cell? ((a.add (i*2)).add 1)).getD undef),by unfold maxLen at *; omega,some a,cap,slice_val hv,hl,fun h0=>?_⟩
  obtain⟨y,z,hc0,_⟩:=hV 0 h0
  rw [show a.add (0*2)=a by simp [Addr.add]] at hc0
  obtain⟨b,off,rfl⟩:=addr_of_cell hc0
  refine⟨b,off,rfl,Nat.zero_le _,lt_of_cell hc0,fun i hi=>?_⟩
  obtain⟨y,z,q0,q1⟩:=hV i hi
  show _=some (Value.int .i64 (intOf ((W.cell? _).getD undef)))∧_=some (Value.int .i64 (intOf ((W.cell? _).getD undef)))
  rw [q0,q1]
  rw [Addr.add_mid,Addr.add_mid] at q1
  rw [Addr.add_mid] at q0
  exact⟨q0,q1⟩
theorem open_slot_cells{fuel:Nat}{c0 c1 c2:Value}{x:DataW H×List MemPlace}(h:DataW.trod enc Tryz.prog W 0 spare held fuel 183 [c0,c1,c2]=some x):∃s,SlotAt W 0 W.heap.size c0 c1 c2 s:=by
 obtain⟨n0,y0,h0⟩:=field_of (t:=183) (T:=2) (o:=0) (c:=1) (i:=0) (by kernel_rfl) (by kernel_rfl) (by kernel_rfl) h
 obtain⟨n1,y1,h1⟩:=field_of (t:=183) (T:=114) (o:=1) (c:=1) (i:=1) (by kernel_rfl) (by kernel_rfl) (by kernel_rfl) h
 obtain⟨n2,y2,h2⟩:=field_of (t:=183) (T:=9) (o:=2) (c:=1) (i:=2) (by kernel_rfl) (by kernel_rfl) (by kernel_rfl) h
 obtain⟨y,hy,_⟩:=DataW.trod_int (show Tryz.prog.underlying 2=some (.int .i64)by kernel_rfl) h0
 obtain⟨n,f,g,hp⟩:=open_ptrs_at (v:=c1) (by simpa using h1)
 obtain⟨d,hd,_,hsz⟩:=DataW.trod_string (show Tryz.prog.underlying 9=some .string by kernel_rfl) h2
 exact⟨⟨y,n,f,g,d⟩,by simpa using hy,hp,by simpa using hd,hsz⟩
theorem open_slots_at{fuel:Nat}{v:Value}{x:DataW H×List MemPlace}(h:DataW.trod enc Tryz.prog W 0 spare held fuel 22 [v]=some x):∃n f,SlotsAt W 0 W.heap.size v n f:=by
 rcases open_slice (t:=22) (e:=183) (by kernel_rfl) h with⟨hv,_⟩ | ⟨a,len,cap,m,n,D,Pl,hv,_,hl,hm,hmm,_,hx⟩
 ·exact⟨0,fun _=>⟨0,0,fun _=>0,fun _=>0,ByteArray.empty⟩,Nat.zero_le _,none,0,slice_val hv,Nat.le_refl _,fun h=>absurd h (Nat.lt_irrefl _)⟩
 ·have hlm:len≤m:=by rw [hmm]; split <;> omega
  have hc3:Tryz.prog.cellsOf 183=3:=by kernel_rfl
  rw [hc3] at hx
  have hV:∀i,i<len→∃s:SlotD,∃c0 c1 c2,W.cell? (a.add (i*3))=some c0∧W.cell? ((a.add (i*3)).add 1)=some c1∧W.cell? ((a.add (i*3)).add 2)=some c2∧SlotAt W 0 W.heap.size c0 c1 c2 s:=fun i hi=>by
   obtain⟨cs,hcs,ht⟩:=hx i (by omega)
   obtain⟨_,hlen,hcell⟩:=World.cells?_some hcs
   match cs,hlen with
   | [c0,c1,c2],_=>
    obtain⟨s,hs⟩:=open_slot_cells ht
    have q0:=hcell 0 (by omega)
    have q1:=hcell 1 (by omega)
    have q2:=hcell 2 (by omega)
    rw [show(a.add (i*3)).add 0=a.add (i*3)by simp [Addr.add]] at q0
    exact⟨s,c0,c1,c2,by simpa using q0,by simpa using q1,by simpa using q2,hs⟩
  have hinh:Inhabited SlotD:=⟨⟨0,0,fun _=>0,fun _=>0,ByteArray.empty⟩⟩
  obtain⟨f,hf⟩:=choose_lt (α:=SlotD) (p:=fun i s=>∃c0 c1 c2,W.cell? (a.add (i*3))=some c0∧W.cell? ((a.add (i*3)).add 1)=some c1∧W.cell? ((a.add (i*3)).add 2)=some c2∧SlotAt W 0 W.heap.size c0 c1 c2 s) hV
  refine⟨len,f,by unfold maxLen at *; omega,some a,cap,slice_val hv,hl,fun h0=>?_⟩
  obtain⟨c0,c1,c2,hc0,_⟩:=hf 0 h0
  rw [show a.add (0*3)=a by simp [Addr.add]] at hc0
  obtain⟨b,off,rfl⟩:=addr_of_cell hc0
  refine⟨b,off,rfl,Nat.zero_le _,lt_of_cell hc0,fun i hi=>?_⟩
  obtain⟨c0,c1,c2,q0,q1,q2,hs⟩:=hf i hi
  rw [Addr.add_mid,Addr.add_mid] at q1 q2
  rw [Addr.add_mid] at q0
  exact⟨c0,c1,c2,q0,q1,q2,hs⟩
end
set_option maxRecDepth 20000
section
variable {H : Type} {enc : TypeId × Value → H} {W : World} {spare : Nat → Bool} {held : Bool}
def SetWf(s:SetD):Prop:=(Lit.int .i64 s.origin).wf=true∧(Lit.int .i64 s.prev).wf=true
theorem open_set_cells{fuel:Nat}{c0 c1 c2 c3 c4 c5:Value}{x:DataW H×List MemPlace}(h:DataW.trod enc Tryz.prog W 0 spare held fuel 116 [c0,c1,c2,c3,c4,c5]=some x):∃s:SetD,c0 = .string s.name∧c1 = .int .i64 s.origin∧c2 = .int .i64 s.prev∧c3 = .int .i64 s.rs∧c4 = .int .i64 s.rb∧PtrsAt W 0 W.heap.size c5 s.dn s.ds s.db∧s.name.size≤maxLen∧SetWf s:=by
 obtain⟨n0,y0,h0⟩:=field_of (t:=116) (T:=9) (o:=0) (c:=1) (i:=0) (by kernel_rfl) (by kernel_rfl) (by kernel_rfl) h
 obtain⟨z0,e0,-,w0⟩:=DataW.trod_string (show Tryz.prog.underlying 9=some .string by kernel_rfl) h0
 obtain⟨n1,y1,h1⟩:=field_of (t:=116) (T:=2) (o:=1) (c:=1) (i:=1) (by kernel_rfl) (by kernel_rfl) (by kernel_rfl) h
 obtain⟨z1,e1,-,w1⟩:=DataW.trod_int (show Tryz.prog.underlying 2=some (.int .i64)by kernel_rfl) h1
 obtain⟨n2,y2,h2⟩:=field_of (t:=116) (T:=2) (o:=2) (c:=1) (i:=2) (by kernel_rfl) (by kernel_rfl) (by kernel_rfl) h
 obtain⟨z2,e2,-,w2⟩:=DataW.trod_int (show Tryz.prog.underlying 2=some (.int .i64)by kernel_rfl) h2
 obtain⟨n3,y3,h3⟩:=field_of (t:=116) (T:=113) (o:=3) (c:=2) (i:=3) (by kernel_rfl) (by kernel_rfl) (by kernel_rfl) h
 obtain⟨z3,z3',e3,e3'⟩:=open_ptr_cells (c0:=c3) (c1:=c4) (by simpa using h3)
 obtain⟨n4,y4,h4⟩:=field_of (t:=116) (T:=114) (o:=5) (c:=1) (i:=4) (by kernel_rfl) (by kernel_rfl) (by kernel_rfl) h
 obtain⟨dn,ds,db,hp⟩:=open_ptrs_at (v:=c5) (by simpa using h4)
 exact⟨⟨z0,z1,z2,z3,z3',dn,ds,db⟩,by simpa using e0,by simpa using e1,by simpa using e2,e3,e3',hp,w0,w1,w2⟩
theorem open_sets_at{fuel:Nat}{v:Value}{x:DataW H×List MemPlace}(h:DataW.trod enc Tryz.prog W 0 spare held fuel 26 [v]=some x):∃n f,SetsAt W 0 W.heap.size v n f∧∀i,i<n→SetWf (f i):=by
 rcases open_slice (t:=26) (e:=116) (by kernel_rfl) h with⟨hv,_⟩ | ⟨a,len,cap,m,n,D,Pl,hv,_,hl,hm,hmm,_,hx⟩
 ·exact⟨0,fun _=>⟨ByteArray.empty,0,0,0,0,0,fun _=>0,fun _=>0⟩,⟨Nat.zero_le _,none,0,slice_val hv,Nat.le_refl _,fun h=>absurd h (Nat.lt_irrefl _)⟩,fun i hi=>absurd hi (Nat.not_lt_zero _)⟩
 ·have hlm:len≤m:=by rw [hmm]; split <;> omega
  have hc3:Tryz.prog.cellsOf 116=6:=by kernel_rfl
  rw [hc3] at hx
  have hV:∀i,i<len→∃s:SetD,(∃c0 c1 c2 c3 c4 c5,W.cell? (a.add (i*6))=some c0∧W.cell? ((a.add (i*6)).add 1)=some c1∧W.cell? ((a.add (i*6)).add 2)=some c2∧W.cell? ((a.add (i*6)).add 3)=some c3∧W.cell? ((a.add (i*6)).add 4)=some c4∧W.cell? ((a.add (i*6)).add 5)=some c5∧c0 = .string s.name∧c1 = .int .i64 s.origin∧c2 = .int .i64 s.prev∧c3 = .int .i64 s.rs∧c4 = .int .i64 s.rb∧PtrsAt W 0 W.heap.size c5 s.dn s.ds s.db∧s.name.size≤maxLen∧SetWf s):=fun i hi=>by
   obtain⟨cs,hcs,ht⟩:=hx i (by omega)
   obtain⟨_,hlen,hcell⟩:=World.cells?_some hcs
   match cs,hlen with
   | [c0,c1,c2,c3,c4,c5],_=>
    obtain⟨s,hs⟩:=open_set_cells ht
    have q0:=hcell 0 (by omega)
    have q1:=hcell 1 (by omega)
    have q2:=hcell 2 (by omega)
    have q3:=hcell 3 (by omega)
    have q4:=hcell 4 (by omega)
    have q5:=hcell 5 (by omega)
    rw [show(a.add (i*6)).add 0=a.add (i*6)by simp [Addr.add]] at q0
    exact⟨s,c0,c1,c2,c3,c4,c5,by simpa using q0,by simpa using q1,by simpa using q2,by simpa using q3,by simpa using q4,by simpa using q5,hs⟩
  have hinh:Inhabited SetD:=⟨⟨ByteArray.empty,0,0,0,0,0,fun _=>0,fun _=>0⟩⟩
  obtain⟨f,hf⟩:=choose_lt (α:=SetD) (p:=fun i s=>(∃c0 c1 c2 c3 c4 c5,W.cell? (a.add (i*6))=some c0∧W.cell? ((a.add (i*6)).add 1)=some c1∧W.cell? ((a.add (i*6)).add 2)=some c2∧W.cell? ((a.add (i*6)).add 3)=some c3∧W.cell? ((a.add (i*6)).add 4)=some c4∧W.cell? ((a.add (i*6)).add 5)=some c5∧c0 = .string s.name∧c1 = .int .i64 s.origin∧c2 = .int .i64 s.prev∧c3 = .int .i64 s.rs∧c4 = .int .i64 s.rb∧PtrsAt W 0 W.heap.size c5 s.dn s.ds s.db∧s.name.size≤maxLen∧SetWf s)) hV
  refine⟨len,f,⟨by unfold maxLen at *; omega,some a,cap,slice_val hv,hl,fun h0=>?_⟩,fun i hi=>?_⟩
  ·obtain⟨c0,c1,c2,c3,c4,c5,hc0,_⟩:=hf 0 h0
   rw [show a.add (0*6)=a by simp [Addr.add]] at hc0
   obtain⟨b,off,rfl⟩:=addr_of_cell hc0
   refine⟨b,off,rfl,Nat.zero_le _,lt_of_cell hc0,fun i hi=>?_⟩
   obtain⟨c0,c1,c2,c3,c4,c5,q0,q1,q2,q3,q4,q5,rfl,rfl,rfl,rfl,rfl,hp,hsm,hwf⟩:=hf i hi
   rw [Addr.add_mid,Addr.add_mid] at q1 q2 q3 q4 q5
   rw [Addr.add_mid] at q0
   exact⟨c5,q0,q1,q2,q3,q4,q5,hp,hsm⟩
  ·obtain⟨c0,c1,c2,c3,c4,c5,-,-,-,-,-,-,-,-,-,-,-,-,-,hwf⟩:=hf i hi
   exact hwf
def SnapWf(s:SnapD):Prop:=(Lit.int .i64 s.id).wf=true∧(Lit.int .i64 s.prev).wf=true∧(Lit.int .i64 s.time).wf=true
theorem open_snap_cells{fuel:Nat}{c0 c1 c2 c3 c4 c5 c6 c7:Value}{x:DataW H×List MemPlace}(h:DataW.trod enc Tryz.prog W 0 spare held fuel 119 [c0,c1,c2,c3,c4,c5,c6,c7]=some x):∃s:SnapD,c0 = .int .i64 s.id∧c1 = .string s.name∧c2 = .string s.set∧c3 = .int .i64 s.prev∧c4 = .int .i64 s.time∧c5 = .int .i64 s.rs∧c6 = .int .i64 s.rb∧PtrsAt W 0 W.heap.size c7 s.dn s.ds s.db∧(s.name.size≤maxLen∧s.set.size≤maxLen)∧SnapWf s:=by
 obtain⟨n0,y0,h0⟩:=field_of (t:=119) (T:=2) (o:=0) (c:=1) (i:=0) (by kernel_rfl) (by kernel_rfl) (by kernel_rfl) h
 obtain⟨z0,e0,-,w0⟩:=DataW.trod_int (show Tryz.prog.underlying 2=some (.int .i64)by kernel_rfl) h0
 obtain⟨n1,y1,h1⟩:=field_of (t:=119) (T:=9) (o:=1) (c:=1) (i:=1) (by kernel_rfl) (by kernel_rfl) (by kernel_rfl) h
 obtain⟨z1,e1,-,w1⟩:=DataW.trod_string (show Tryz.prog.underlying 9=some .string by kernel_rfl) h1
 obtain⟨n2,y2,h2⟩:=field_of (t:=119) (T:=9) (o:=2) (c:=1) (i:=2) (by kernel_rfl) (by kernel_rfl) (by kernel_rfl) h
 obtain⟨z2,e2,-,w2⟩:=DataW.trod_string (show Tryz.prog.underlying 9=some .string by kernel_rfl) h2
 obtain⟨n3,y3,h3⟩:=field_of (t:=119) (T:=2) (o:=3) (c:=1) (i:=3) (by kernel_rfl) (by kernel_rfl) (by kernel_rfl) h
 obtain⟨z3,e3,-,w3⟩:=DataW.trod_int (show Tryz.prog.underlying 2=some (.int .i64)by kernel_rfl) h3
 obtain⟨n4,y4,h4⟩:=field_of (t:=119) (T:=2) (o:=4) (c:=1) (i:=4) (by kernel_rfl) (by kernel_rfl) (by kernel_rfl) h
 obtain⟨z4,e4,-,w4⟩:=DataW.trod_int (show Tryz.prog.underlying 2=some (.int .i64)by kernel_rfl) h4
 obtain⟨n5,y5,h5⟩:=field_of (t:=119) (T:=113) (o:=5) (c:=2) (i:=5) (by kernel_rfl) (by kernel_rfl) (by kernel_rfl) h
 obtain⟨z5,z5',e5,e5'⟩:=open_ptr_cells (c0:=c5) (c1:=c6) (by simpa using h5)
 obtain⟨n6,y6,h6⟩:=field_of (t:=119) (T:=114) (o:=7) (c:=1) (i:=6) (by kernel_rfl) (by kernel_rfl) (by kernel_rfl) h
 obtain⟨dn,ds,db,hp⟩:=open_ptrs_at (v:=c7) (by simpa using h6)
 exact⟨⟨z0,z1,z2,z3,z4,z5,z5',dn,ds,db⟩,by simpa using e0,by simpa using e1,by simpa using e2,by simpa using e3,by simpa using e4,e5,e5',hp,⟨w1,w2⟩,w0,w3,w4⟩
theorem open_snaps_at{fuel:Nat}{v:Value}{x:DataW H×List MemPlace}(h:DataW.trod enc Tryz.prog W 0 spare held fuel 27 [v]=some x):∃n f,SnapsAt W 0 W.heap.size v n f∧∀i,i<n→SnapWf (f i):=by
 rcases open_slice (t:=27) (e:=119) (by kernel_rfl) h with⟨hv,_⟩ | ⟨a,len,cap,m,n,D,Pl,hv,_,hl,hm,hmm,_,hx⟩
 ·exact⟨0,fun _=>⟨0,ByteArray.empty,ByteArray.empty,0,0,0,0,0,fun _=>0,fun _=>0⟩,⟨Nat.zero_le _,none,0,slice_val hv,Nat.le_refl _,fun h=>absurd h (Nat.lt_irrefl _)⟩,fun i hi=>absurd hi (Nat.not_lt_zero _)⟩
 ·have hlm:len≤m:=by rw [hmm]; split <;> omega
  have hc3:Tryz.prog.cellsOf 119=8:=by kernel_rfl
  rw [hc3] at hx
  have hV:∀i,i<len→∃s:SnapD,(∃c0 c1 c2 c3 c4 c5 c6 c7,W.cell? (a.add (i*8))=some c0∧W.cell? ((a.add (i*8)).add 1)=some c1∧W.cell? ((a.add (i*8)).add 2)=some c2∧W.cell? ((a.add (i*8)).add 3)=some c3∧W.cell? ((a.add (i*8)).add 4)=some c4∧W.cell? ((a.add (i*8)).add 5)=some c5∧W.cell? ((a.add (i*8)).add 6)=some c6∧W.cell? ((a.add (i*8)).add 7)=some c7∧c0 = .int .i64 s.id∧c1 = .string s.name∧c2 = .string s.set∧c3 = .int .i64 s.prev∧c4 = .int .i64 s.time∧c5 = .int .i64 s.rs∧c6 = .int .i64 s.rb∧PtrsAt W 0 W.heap.size c7 s.dn s.ds s.db∧(s.name.size≤maxLen∧s.set.size≤maxLen)∧SnapWf s):=fun i hi=>by
   obtain⟨cs,hcs,ht⟩:=hx i (by omega)
   obtain⟨_,hlen,hcell⟩:=World.cells?_some hcs
   match cs,hlen with
   | [c0,c1,c2,c3,c4,c5,c6,c7],_=>
    obtain⟨s,hs⟩:=open_snap_cells ht
    have q0:=hcell 0 (by omega)
    have q1:=hcell 1 (by omega)
    have q2:=hcell 2 (by omega)
    have q3:=hcell 3 (by omega)
    have q4:=hcell 4 (by omega)
    have q5:=hcell 5 (by omega)
    have q6:=hcell 6 (by omega)
    have q7:=hcell 7 (by omega)
    rw [show(a.add (i*8)).add 0=a.add (i*8)by simp [Addr.add]] at q0
    exact⟨s,c0,c1,c2,c3,c4,c5,c6,c7,by simpa using q0,by simpa using q1,by simpa using q2,by simpa using q3,by simpa using q4,by simpa using q5,by simpa using q6,by simpa using q7,hs⟩
  have hinh:Inhabited SnapD:=⟨⟨0,ByteArray.empty,ByteArray.empty,0,0,0,0,0,fun _=>0,fun _=>0⟩⟩
  obtain⟨f,hf⟩:=choose_lt (α:=SnapD) (p:=fun i s=>(∃c0 c1 c2 c3 c4 c5 c6 c7,W.cell? (a.add (i*8))=some c0∧W.cell? ((a.add (i*8)).add 1)=some c1∧W.cell? ((a.add (i*8)).add 2)=some c2∧W.cell? ((a.add (i*8)).add 3)=some c3∧W.cell? ((a.add (i*8)).add 4)=some c4∧W.cell? ((a.add (i*8)).add 5)=some c5∧W.cell? ((a.add (i*8)).add 6)=some c6∧W.cell? ((a.add (i*8)).add 7)=some c7∧c0 = .int .i64 s.id∧c1 = .string s.name∧c2 = .string s.set∧c3 = .int .i64 s.prev∧c4 = .int .i64 s.time∧c5 = .int .i64 s.rs∧c6 = .int .i64 s.rb∧PtrsAt W 0 W.heap.size c7 s.dn s.ds s.db∧(s.name.size≤maxLen∧s.set.size≤maxLen)∧SnapWf s)) hV
  refine⟨len,f,⟨by unfold maxLen at *; omega,some a,cap,slice_val hv,hl,fun h0=>?_⟩,fun i hi=>?_⟩
  ·obtain⟨c0,c1,c2,c3,c4,c5,c6,c7,hc0,_⟩:=hf 0 h0
   rw [show a.add (0*8)=a by simp [Addr.add]] at hc0
   obtain⟨b,off,rfl⟩:=addr_of_cell hc0
   refine⟨b,off,rfl,Nat.zero_le _,lt_of_cell hc0,fun i hi=>?_⟩
   obtain⟨c0,c1,c2,c3,c4,c5,c6,c7,q0,q1,q2,q3,q4,q5,q6,q7,rfl,rfl,rfl,rfl,rfl,rfl,rfl,hp,hsm,hwf⟩:=hf i hi
   rw [Addr.add_mid,Addr.add_mid] at q1 q2 q3 q4 q5 q6 q7
   rw [Addr.add_mid] at q0
   exact⟨c7,q0,q1,q2,q3,q4,q5,q6,q7,hp,hsm⟩
  ·obtain⟨c0,c1,c2,c3,c4,c5,c6,c7,-,-,-,-,-,-,-,-,-,-,-,-,-,-,-,-,-,hwf⟩:=hf i hi
   exact hwf
structure WorldWf (W:WorldD):Prop where
 time:(Lit.int .i64 W.time).wf=true
 next:(Lit.int .i64 W.next).wf=true
 sets:∀i,i<W.sn→SetWf (W.sets i)
 snaps:∀i,i<W.pn→SnapWf (W.snaps i)
theorem WorldWf.prevs{W:WorldD}(h:WorldWf W):PrevsWf W:=fun i hi=>by
 unfold memN at hi
 by_cases e:i<W.pn
 ·rw [memOf_snap e]; exact(h.snaps i e).2.1
 ·obtain⟨j,rfl⟩:∃j,i=W.pn+j:=⟨i - W.pn,by omega⟩
  rw [memOf_set]; exact(h.sets j (by omega)).2
theorem array6w{α : Type}{cs:Array α}(h:cs.size=6):∃c0 c1 c2 c3 c4 c5,cs=#[c0,c1,c2,c3,c4,c5]:=by
 obtain⟨l⟩:=cs
 match l,h with
 | [c0,c1,c2,c3,c4,c5],_=>exact⟨c0,c1,c2,c3,c4,c5,rfl⟩
theorem open_pool_cells{fuel:Nat}{c0 c1:Value}{x:DataW H×List MemPlace}(h:DataW.trod enc Tryz.prog W 0 spare held fuel 25 [c0,c1]=some x):∃p,PoolAt W 0 W.heap.size c0 c1 p:=by
 obtain⟨n0,y0,h0⟩:=field_of (t:=25) (T:=22) (o:=0) (c:=1) (i:=0) (by kernel_rfl) (by kernel_rfl) (by kernel_rfl) h
 obtain⟨n1,y1,h1⟩:=field_of (t:=25) (T:=23) (o:=1) (c:=1) (i:=1) (by kernel_rfl) (by kernel_rfl) (by kernel_rfl) h
 obtain⟨n,f,hsl⟩:=open_slots_at (v:=c0) (by simpa using h0)
 obtain⟨hn,g,hin⟩:=open_ints_at (v:=c1) (by simpa using h1)
 exact⟨⟨n,f,hn,g⟩,hsl,hin⟩
theorem open_world{r:Reach}{b0:Nat}{v:Value}{d:DataW H}{ps:List MemPlace}(hv:Value.okWide Tryz.prog W r b0 29 v)(h:DataW.Trod enc Tryz.prog W 0 spare held 29 v d ps) :
  ∃v0 v1 v2 v3 D,v=worldV v0 v1 v2 v3 D∧WorldAt W 0 W.heap.size v0 v1 v2 v3 D∧WorldWf D:=by
 have hs:Tryz.prog.underlying 29=some (.struct (Tryz.prog.fieldsOf 29)):=by kernel_rfl
 obtain⟨cs,rfl,hsz⟩:=okWide_struct hs hv
 obtain⟨c0,c1,c2,c3,c4,c5,rfl⟩:=array6w (hsz.trans (by kernel_rfl))
 obtain⟨fuel,hf⟩:=h
 have hf':DataW.trod enc Tryz.prog W 0 spare held fuel 29 [c0,c1,c2,c3,c4,c5]=some (d,ps):=by simpa [Value.cells] using hf
 obtain⟨n0,y0,h0⟩:=field_of (t:=29) (T:=25) (o:=0) (c:=2) (i:=0) (by kernel_rfl) (by kernel_rfl) (by kernel_rfl) hf'
 obtain⟨n1,y1,h1⟩:=field_of (t:=29) (T:=2) (o:=2) (c:=1) (i:=1) (by kernel_rfl) (by kernel_rfl) (by kernel_rfl) hf'
 obtain⟨n2,y2,h2⟩:=field_of (t:=29) (T:=2) (o:=3) (c:=1) (i:=2) (by kernel_rfl) (by kernel_rfl) (by kernel_rfl) hf'
 obtain⟨n3,y3,h3⟩:=field_of (t:=29) (T:=26) (o:=4) (c:=1) (i:=3) (by kernel_rfl) (by kernel_rfl) (by kernel_rfl) hf'
 obtain⟨n4,y4,h4⟩:=field_of (t:=29) (T:=27) (o:=5) (c:=1) (i:=4) (by kernel_rfl) (by kernel_rfl) (by kernel_rfl) hf'
 obtain⟨p,hp⟩:=open_pool_cells (c0:=c0) (c1:=c1) (by simpa using h0)
 obtain⟨z1,e1,-,w1⟩:=DataW.trod_int (show Tryz.prog.underlying 2=some (.int .i64)by kernel_rfl) h1
 obtain⟨z2,e2,-,w2⟩:=DataW.trod_int (show Tryz.prog.underlying 2=some (.int .i64)by kernel_rfl) h2
 obtain⟨sn,f,hS,hSw⟩:=open_sets_at (v:=c4) (by simpa using h3)
 obtain⟨pn,g,hP,hPw⟩:=open_snaps_at (v:=c5) (by simpa using h4)
 obtain rfl:c2 = .int .i64 z1:=by simpa using e1
 obtain rfl:c3 = .int .i64 z2:=by simpa using e2
 exact⟨c0,c1,c4,c5,⟨p,z1,z2,sn,f,pn,g⟩,rfl,⟨hp,hS,hP⟩,⟨w1,w2,hSw,hPw⟩⟩
end
end Go.Proofs.YtmgeglgboadfiaaGreatDoor

namespace Go.Proofs.YtmgeglgboadfiaaGreatDoor
open Go.RowKit Go.Maps
set_option linter.unusedVariables false
theorem setN_le(f:Nat→SetD):∀{n i:Nat},i<n→setN (f i)≤setsN f n
 | n+1,i,h=>by
  show setN (f i)≤setsN f n+setN (f n)
  by_cases e:i=n
  ·subst e; omega
  ·have:=setN_le f (show i<n by omega); omega
set_option maxRecDepth 20000 in
set_option maxHeartbeats 400000 in
theorem toSetS_any(v:Value)(n lo hi:Nat)(f:Nat→SetD)(w:World)(h1:SetsAt w lo hi v n f)(hn:n+setsN f n≤1048576) :
  Calls Tryz.prog 31 #[v] w fun e w'=>(∃v' kb kv,e = .returned v'∧SetsOwn w' w.heap.size kb kv v' n f∧SetsApart kb n f∧∀j,j<n→0<(f j).dn→w.heap.size<kb j∧kb j<w'.heap.size)∧Below w.heap.size w w'∧w.heap.size<w'.heap.size:=by
 have H1:=hideW h1
 obtain⟨m1,a,c,rfl,mc,-⟩:=id h1
 have hm1:=m1
 unfold maxLen at m1
 clear h1
 have Hn:=hideW hn
 have hmk:=make_zeros 34 67 (.agg #[.string ⟨#[]⟩,.int .i64 0,.int .i64 0,.int .i64 0,.int .i64 0,.slice none 0 0]) 6 72 (by kernel_rfl) infoSetT rfl n (by omega) (by omega)
 clear hn
 go_enter Tryz.func31,Tryz.ntmps31
 go_wp2
 go_loopw [4] (fun i wr=>∃(k:Nat) (kb:Nat→Nat) (kv:Nat→Value),k≤n∧i = .int .i64 k∧SetPart wr w.heap.size n k f kb kv∧Below w.heap.size w wr∧w.heap.size<wr.heap.size) (fun i _=>n - (intOf i).toNat)
 case atStart=>exact⟨0,fun _=>0,fun _=>.slice none 0 0,Nat.zero_le _,rfl,⟨fun j hj=>by rw [if_neg (by omega)]; exact nilSet_own hj rfl,fun i j hi=>absurd hi (by omega),fun j hj=>absurd hj (by omega)⟩,below_alloc _ _,by simp⟩
 case round=>
  obtain⟨k,kb,kv,hk,rfl,hpart,hb,hsz⟩:=hrel
  have Hpart:=hideW hpart
  clear hpart
  by_cases hlt:k<n
  ·have hlt':(k:Int)<(n:Int):=by omega
   obtain⟨b,off,vd,rfl,hs2⟩:=(H1.out.below hb).cells hlt
   obtain⟨-,ad,cd,rfl,-,-⟩:=id hs2.dead
   have q0:=hs2.c0
   have q1:=hs2.c1
   have q2:=hs2.c2
   have q3:=hs2.c3
   have q4:=hs2.c4
   have q5:=hs2.c5
   have Hs:=hideW hs2
   clear hs2
   go_wp2_with fail
   refine(toSet_any _ lo hi (f k) _ Hs.out.dead (by have h1:=Hn.out; have h2:=setN_le f hlt; unfold setN at h2; omega)).mono ?_
   rintro e w1 ⟨⟨nv,nb,rfl,hp,hnb1,hnb2⟩,hb1⟩
   have hb2:=below_next hb hb1
   have hz:=(Hpart.out.rows k hlt).below hb1
   obtain⟨e0,g0⟩:=hz.c0
   obtain⟨e1,g1⟩:=hz.c1
   obtain⟨e2,g2⟩:=hz.c2
   obtain⟨e3,g3⟩:=hz.c3
   obtain⟨e4,g4⟩:=hz.c4
   obtain⟨e5,g5⟩:=hz.c5
   clear q0 q1 q2 q3 q4 q5 hz
   rw [Nat.zero_add] at e0 g0 e1 g1 e2 g2 e3 g3 e4 g4 e5 g5
   have Hp:=hideW hp
   obtain⟨-,na,nc,rfl,-,-⟩:=id hp
   clear hp
   have hsz1:w.heap.size<w1.heap.size:=by have:=hb1.size; omega
   have Hb1:=hideW hb1
   clear hb1
   unfold setV
   go_wp2
   go_roundw
   case rel=>
    refine⟨k+1,(fun j=>if j=k then nb else kb j),(fun j=>if j=k then .slice na (f k).dn nc else kv j),by omega,by go_num,?_,?_,by simpa using hsz1⟩
    ·have hx:=Hpart.out.next hlt hsz Hb1.out Hp.out hnb1 hnb2 Hs.out.small
     rw [Nat.zero_add] at hx
     exact hx
    ·exact(((((hb2.setCell (Nat.le_refl _) _).setCell (Nat.le_refl _) _).setCell (Nat.le_refl _) _).setCell (Nat.le_refl _) _).setCell (Nat.le_refl _) _).setCell (Nat.le_refl _) _
   case measure=>simp [intOf]; omega
  ·obtain rfl:k=n:=by omega
   go_wp2
   go_ret
   refine⟨⟨_,kb,kv,rfl,⟨hm1,_,k,rfl,Nat.le_refl _,fun _=>⟨0,rfl,fun i hi=>?_⟩⟩,Hpart.out.apart,Hpart.out.place⟩,hb,hsz⟩
   have:=Hpart.out.rows i hi
   rw [if_pos hi] at this
   exact this
theorem snapN_le(f:Nat→SnapD):∀{n i:Nat},i<n→snapN (f i)≤snapsN f n
 | n+1,i,h=>by
  show snapN (f i)≤snapsN f n+snapN (f n)
  by_cases e:i=n
  ·subst e; omega
  ·have:=snapN_le f (show i<n by omega); omega
set_option maxRecDepth 20000 in
set_option maxHeartbeats 400000 in
theorem toSnapS_any(v:Value)(n lo hi:Nat)(f:Nat→SnapD)(w:World)(h1:SnapsAt w lo hi v n f)(hn:n+snapsN f n≤1048576) :
  Calls Tryz.prog 32 #[v] w fun e w'=>(∃v' kb kv,e = .returned v'∧SnapsOwn w' w.heap.size kb kv v' n f∧SnapsApart kb n f∧∀j,j<n→0<(f j).dn→w.heap.size<kb j∧kb j<w'.heap.size)∧Below w.heap.size w w'∧w.heap.size<w'.heap.size:=by
 have H1:=hideW h1
 obtain⟨m1,a,c,rfl,mc,-⟩:=id h1
 have hm1:=m1
 unfold maxLen at m1
 clear h1
 have Hn:=hideW hn
 have hmk:=make_zeros 35 99 (.agg #[.int .i64 0,.string ⟨#[]⟩,.string ⟨#[]⟩,.int .i64 0,.int .i64 0,.int .i64 0,.int .i64 0,.slice none 0 0]) 8 96 (by kernel_rfl) infoSnapT rfl n (by omega) (by omega)
 clear hn
 go_enter Tryz.func32,Tryz.ntmps32
 go_wp2
 go_loopw [4] (fun i wr=>∃(k:Nat) (kb:Nat→Nat) (kv:Nat→Value),k≤n∧i = .int .i64 k∧SnapPart wr w.heap.size n k f kb kv∧Below w.heap.size w wr∧w.heap.size<wr.heap.size) (fun i _=>n - (intOf i).toNat)
 case atStart=>exact⟨0,fun _=>0,fun _=>.slice none 0 0,Nat.zero_le _,rfl,⟨fun j hj=>by rw [if_neg (by omega)]; exact nilSnap_own hj rfl,fun i j hi=>absurd hi (by omega),fun j hj=>absurd hj (by omega)⟩,below_alloc _ _,by simp⟩
 case round=>
  obtain⟨k,kb,kv,hk,rfl,hpart,hb,hsz⟩:=hrel
  have Hpart:=hideW hpart
  clear hpart
  by_cases hlt:k<n
  ·have hlt':(k:Int)<(n:Int):=by omega
   obtain⟨b,off,vd,rfl,hs2⟩:=(H1.out.below hb).cells hlt
   obtain⟨-,ad,cd,rfl,-,-⟩:=id hs2.dead
   have q0:=hs2.c0
   have q1:=hs2.c1
   have q2:=hs2.c2
   have q3:=hs2.c3
   have q4:=hs2.c4
   have q5:=hs2.c5
   have q6:=hs2.c6
   have q7:=hs2.c7
   have Hs:=hideW hs2
   clear hs2
   go_wp2_with fail
   refine(toSnap_any _ lo hi (f k) _ Hs.out.dead (by have h1:=Hn.out; have h2:=snapN_le f hlt; unfold snapN at h2; omega)).mono ?_
   rintro e w1 ⟨⟨nv,nb,rfl,hp,hnb1,hnb2⟩,hb1⟩
   have hb2:=below_next hb hb1
   have hz:=(Hpart.out.rows k hlt).below hb1
   obtain⟨e0,g0⟩:=hz.c0
   obtain⟨e1,g1⟩:=hz.c1
   obtain⟨e2,g2⟩:=hz.c2
   obtain⟨e3,g3⟩:=hz.c3
   obtain⟨e4,g4⟩:=hz.c4
   obtain⟨e5,g5⟩:=hz.c5
   obtain⟨e6,g6⟩:=hz.c6
   obtain⟨e7,g7⟩:=hz.c7
   clear q0 q1 q2 q3 q4 q5 q6 q7 hz
   rw [Nat.zero_add] at e0 g0 e1 g1 e2 g2 e3 g3 e4 g4 e5 g5 e6 g6 e7 g7
   have Hp:=hideW hp
   obtain⟨-,na,nc,rfl,-,-⟩:=id hp
   clear hp
   have hsz1:w.heap.size<w1.heap.size:=by have:=hb1.size; omega
   have Hb1:=hideW hb1
   clear hb1
   unfold snapV
   go_wp2
   go_roundw
   case rel=>
    refine⟨k+1,(fun j=>if j=k then nb else kb j),(fun j=>if j=k then .slice na (f k).dn nc else kv j),by omega,by go_num,?_,?_,by simpa using hsz1⟩
    ·have hx:=Hpart.out.next hlt hsz Hb1.out Hp.out hnb1 hnb2 Hs.out.small
     rw [Nat.zero_add] at hx
     exact hx
    ·exact(((((((hb2.setCell (Nat.le_refl _) _).setCell (Nat.le_refl _) _).setCell (Nat.le_refl _) _).setCell (Nat.le_refl _) _).setCell (Nat.le_refl _) _).setCell (Nat.le_refl _) _).setCell (Nat.le_refl _) _).setCell (Nat.le_refl _) _
   case measure=>simp [intOf]; omega
  ·obtain rfl:k=n:=by omega
   go_wp2
   go_ret
   refine⟨⟨_,kb,kv,rfl,⟨hm1,_,k,rfl,Nat.le_refl _,fun _=>⟨0,rfl,fun i hi=>?_⟩⟩,Hpart.out.apart,Hpart.out.place⟩,hb,hsz⟩
   have:=Hpart.out.rows i hi
   rw [if_pos hi] at this
   exact this
theorem Box6.put4{w:World}{b:Nat}{v0 v1 v2 v3 v4 v5:Value}(h:Box6 w b v0 v1 v2 v3 v4 v5)(u0 u1 u2 u3:Value):Box6 ((((w.setCell ⟨b,0,none⟩ u0).setCell ⟨b,1,none⟩ u1).setCell ⟨b,2,none⟩ u2).setCell ⟨b,3,none⟩ u3) b u0 u1 u2 u3 v4 v5:=by
 obtain⟨h0,h1,h2,h3,h4,h5⟩:=h
 refine⟨?_,?_,?_,?_,?_,?_⟩
 ·exact(((h0.set _).other _ (Or.inr (by omega))).other _ (Or.inr (by omega))).other _ (Or.inr (by omega))
 ·exact(((h1.other _ (Or.inr (by omega))).set _).other _ (Or.inr (by omega))).other _ (Or.inr (by omega))
 ·exact(((h2.other _ (Or.inr (by omega))).other _ (Or.inr (by omega))).set _).other _ (Or.inr (by omega))
 ·exact(((h3.other _ (Or.inr (by omega))).other _ (Or.inr (by omega))).other _ (Or.inr (by omega))).set _
 ·exact(((h4.other _ (Or.inr (by omega))).other _ (Or.inr (by omega))).other _ (Or.inr (by omega))).other _ (Or.inr (by omega))
 ·exact(((h5.other _ (Or.inr (by omega))).other _ (Or.inr (by omega))).other _ (Or.inr (by omega))).other _ (Or.inr (by omega))
theorem Turned.put4w(w:World)(b:Nat)(u0 u1 u2 u3:Value):Turned (fun k=>k=b) w ((((w.setCell ⟨b,0,none⟩ u0).setCell ⟨b,1,none⟩ u1).setCell ⟨b,2,none⟩ u2).setCell ⟨b,3,none⟩ u3):=
 (((Turned.put w b 0 u0).trans (Turned.put _ b 1 u1)).trans (Turned.put _ b 2 u2)).trans (Turned.put _ b 3 u3)
set_option maxRecDepth 20000 in
set_option maxHeartbeats 400000 in
theorem toWorld_any(v0 v1 v2 v3:Value)(lo hi:Nat)(W:WorldD)(w:World)(h:WorldAt w lo hi v0 v1 v2 v3 W)(hn:worldN W≤1048576):Calls Tryz.prog 9 #[worldV v0 v1 v2 v3 W] w (NewWorld W w):=by
 obtain⟨a0,c0,a1,c1,a2,c2,a3,c3,rfl,rfl,rfl,rfl⟩:=h.form
 have H:=hideW h
 clear h
 unfold worldN at hn
 have hst:∀Wa Wb Wc:World,Wa=w.alloc (.cells #[.slice a0 W.pool.n c0,.slice a1 W.pool.hn c1,.int .i64 W.time,.int .i64 W.next,.slice a2 W.sn c2,.slice a3 W.pn c3] 29)→Wb=Wa.alloc (.cells #[.slice none 0 0,.slice none 0 0,.int .i64 0,.int .i64 0,.slice none 0 0,.slice none 0 0] 37)→Wc=Wb.alloc (.cells #[.slice none 0 0,.slice none 0 0,.int .i64 0,.int .i64 0,.slice none 0 0,.slice none 0 0] 37)→Box6 Wc w.heap.size (.slice a0 W.pool.n c0) (.slice a1 W.pool.hn c1) (.int .i64 W.time) (.int .i64 W.next) (.slice a2 W.sn c2) (.slice a3 W.pn c3)∧Box6 Wc (w.heap.size+1) (.slice none 0 0) (.slice none 0 0) (.int .i64 0) (.int .i64 0) (.slice none 0 0) (.slice none 0 0)∧Box6 Wc (w.heap.size+1+1) (.slice none 0 0) (.slice none 0 0) (.int .i64 0) (.int .i64 0) (.slice none 0 0) (.slice none 0 0)∧Below w.heap.size w Wc∧Wc.heap.size=w.heap.size+3:=by
  rintro Wa Wb Wc ea eb ec
  have ha:=below_alloc w (.cells #[.slice a0 W.pool.n c0,.slice a1 W.pool.hn c1,.int .i64 W.time,.int .i64 W.next,.slice a2 W.sn c2,.slice a3 W.pn c3] 29)
  have h1:=Box6.new w (.slice a0 W.pool.n c0) (.slice a1 W.pool.hn c1) (.int .i64 W.time) (.int .i64 W.next) (.slice a2 W.sn c2) (.slice a3 W.pn c3) 29
  have z1:Wa.heap.size=w.heap.size+1:=by rw [ea]; exact World.size_alloc _ _
  rw [←ea] at ha h1
  have hb:=below_alloc Wa (.cells #[.slice none 0 0,.slice none 0 0,.int .i64 0,.int .i64 0,.slice none 0 0,.slice none 0 0] 37)
  have h2:=Box6.new Wa (.slice none 0 0) (.slice none 0 0) (.int .i64 0) (.int .i64 0) (.slice none 0 0) (.slice none 0 0) 37
  have z2:Wb.heap.size=w.heap.size+1+1:=by rw [eb,World.size_alloc,z1]
  rw [←eb,z1] at h2
  rw [←eb] at hb
  have hc:=below_alloc Wb (.cells #[.slice none 0 0,.slice none 0 0,.int .i64 0,.int .i64 0,.slice none 0 0,.slice none 0 0] 37)
  have h3:=Box6.new Wb (.slice none 0 0) (.slice none 0 0) (.int .i64 0) (.int .i64 0) (.slice none 0 0) (.slice none 0 0) 37
  have z3:Wc.heap.size=w.heap.size+3:=by rw [ec,World.size_alloc,z2]
  rw [←ec,z2] at h3
  rw [←ec] at hc
  exact⟨(h1.below hb).below hc,h2.below hc,h3,below_next (below_next ha hb) hc,z3⟩
 obtain⟨hx,hy,hz,hbw,hsz⟩:=hst _ _ _ rfl rfl rfl
 have HX:=hideW hx
 have HY:=hideW hy
 have HZ:=hideW hz
 have HS:=hideW hsz
 clear hx hy hz hst hsz
 go_enter Tryz.func9,Tryz.ntmps9
 go_wp2_with fail
 generalize ((w.alloc (.cells #[.slice a0 W.pool.n c0,.slice a1 W.pool.hn c1,.int .i64 W.time,.int .i64 W.next,.slice a2 W.sn c2,.slice a3 W.pn c3] 29)).alloc (.cells #[.slice none 0 0,.slice none 0 0,.int .i64 0,.int .i64 0,.slice none 0 0,.slice none 0 0] 37)).alloc (.cells #[.slice none 0 0,.slice none 0 0,.int .i64 0,.int .i64 0,.slice none 0 0,.slice none 0 0] 37)=W0 at HX HY HZ HS hbw ⊢
 refine(toPool_any _ _ lo hi W.pool W0 (H.out.pool.below hbw) (by omega)).mono ?_
 rintro e w1 ⟨u0,u1,rfl,hP,hb1⟩
 obtain⟨p0,q0,p1,q1,rfl,rfl⟩:=hP.form
 have hz1:=hb1.size
 have hz0:=HS.out
 have T1:=Turned.put4w w1 (w.heap.size+1+1) (.slice p0 W.pool.n q0) (.slice p1 W.pool.hn q1) (.int .i64 W.time) (.int .i64 W.next)
 have HP1:=hideW (hP.turned T1 (fun k e=>Or.inl (by show k<W0.heap.size; omega)))
 have HX1:=hideW ((HX.out.below hb1).turned T1 (fun e=>absurd e (by omega)))
 have HY1:=hideW ((HY.out.below hb1).turned T1 (fun e=>absurd e (by omega)))
 have HZ1:=hideW ((HZ.out.below hb1).put4 (.slice p0 W.pool.n q0) (.slice p1 W.pool.hn q1) (.int .i64 W.time) (.int .i64 W.next))
 have hB1:Below w.heap.size w ((((w1.setCell ⟨w.heap.size+1+1,0,none⟩ (.slice p0 W.pool.n q0)).setCell ⟨w.heap.size+1+1,1,none⟩ (.slice p1 W.pool.hn q1)).setCell ⟨w.heap.size+1+1,2,none⟩ (.int .i64 W.time)).setCell ⟨w.heap.size+1+1,3,none⟩ (.int .i64 W.next)):=(((((below_next hbw hb1)).setCell (by show _≤w.heap.size+1+1; omega) _).setCell (by show _≤w.heap.size+1+1; omega) _).setCell (by show _≤w.heap.size+1+1; omega) _).setCell (by show _≤w.heap.size+1+1; omega) _
 have HS1:=hideW (show((((w1.setCell ⟨w.heap.size+1+1,0,none⟩ (.slice p0 W.pool.n q0)).setCell ⟨w.heap.size+1+1,1,none⟩ (.slice p1 W.pool.hn q1)).setCell ⟨w.heap.size+1+1,2,none⟩ (.int .i64 W.time)).setCell ⟨w.heap.size+1+1,3,none⟩ (.int .i64 W.next)).heap.size=w1.heap.size by simp only [World.size_setCell])
 have HZ0:=hideW (show w.heap.size+3≤W0.heap.size∧W0.heap.size≤w1.heap.size by omega)
 obtain⟨⟨x0,x0'⟩,⟨x1,x1'⟩,⟨x2,x2'⟩,⟨x3,x3'⟩,⟨x4,x4'⟩,⟨x5,x5'⟩⟩:=HX.out.below hb1
 obtain⟨⟨z0,z0'⟩,⟨z1,z1'⟩,⟨z2,z2'⟩,⟨z3,z3'⟩,⟨z4,z4'⟩,⟨z5,z5'⟩⟩:=HZ.out.below hb1
 clear hb1 hbw HX HY HZ HS hz0 hz1 hP T1
 go_wp2_with fail
 clear x0 x1 x2 x3 x4 x5 z0 z1 z2 z3 z4 z5 x0' x1' x2' x3' x4' x5' z0' z1' z2' z3' z4' z5'
 generalize (((w1.setCell ⟨w.heap.size+1+1,0,none⟩ (.slice p0 W.pool.n q0)).setCell ⟨w.heap.size+1+1,1,none⟩ (.slice p1 W.pool.hn q1)).setCell ⟨w.heap.size+1+1,2,none⟩ (.int .i64 W.time)).setCell ⟨w.heap.size+1+1,3,none⟩ (.int .i64 W.next)=W1 at HP1 HX1 HY1 HZ1 HS1 hB1 ⊢
 refine(toSetS_any _ W.sn lo hi W.sets W1 (H.out.sets.below hB1) (by omega)).mono ?_
 rintro e w2 ⟨⟨v',kb,kv,rfl,ho,hap,hpl⟩,hb2,hz2⟩
 obtain⟨-,av,cv,rfl,-,-⟩:=id ho
 have hQ:SetsIn w2 (fun k=>W1.heap.size≤k∧k<w2.heap.size) (.slice av W.sn cv) W.sn W.sets:=⟨W1.heap.size,kb,kv,ho,hap,fun k hk=>by
  rcases hk with⟨_,rfl⟩ | ⟨i,hi,h0,rfl⟩
  ·exact⟨Nat.le_refl _,hz2⟩
  ·have:=hpl i hi h0; omega⟩
 have hs1:=HS1.out
 have hz0:=HZ0.out
 have T2:=Turned.put w2 (w.heap.size+1+1) 4 (.slice av W.sn cv)
 have HQ2:=hideW (hQ.turned T2 (fun k hk e=>by omega))
 have HP2:=hideW ((HP1.out.below hb2).turned T2 (fun k e=>Or.inl (by show k<W0.heap.size; omega)))
 have HX2:=hideW ((HX1.out.below hb2).turned T2 (fun e=>absurd e (by omega)))
 have HY2:=hideW ((HY1.out.below hb2).turned T2 (fun e=>absurd e (by omega)))
 have HZ2:=hideW (show Box6 (w2.setCell ⟨w.heap.size+1+1,4,none⟩ (.slice av W.sn cv)) (w.heap.size+1+1) (.slice p0 W.pool.n q0) (.slice p1 W.pool.hn q1) (.int .i64 W.time) (.int .i64 W.next) (.slice av W.sn cv) (.slice none 0 0)from(by
  obtain⟨h0,h1,h2,h3,h4,h5⟩:=HZ1.out.below hb2
  exact⟨h0.other _ (Or.inr (by omega)),h1.other _ (Or.inr (by omega)),h2.other _ (Or.inr (by omega)),h3.other _ (Or.inr (by omega)),h4.set _,h5.other _ (Or.inr (by omega))⟩))
 have hB2:Below w.heap.size w (w2.setCell ⟨w.heap.size+1+1,4,none⟩ (.slice av W.sn cv)):=(below_next hB1 hb2).setCell (by show _≤w.heap.size+1+1; omega) _
 have HS2:=hideW (show(w2.setCell ⟨w.heap.size+1+1,4,none⟩ (.slice av W.sn cv)).heap.size=w2.heap.size by simp only [World.size_setCell])
 have HZ02:=hideW hz2
 obtain⟨⟨x0,x0'⟩,⟨x1,x1'⟩,⟨x2,x2'⟩,⟨x3,x3'⟩,⟨x4,x4'⟩,⟨x5,x5'⟩⟩:=HX1.out.below hb2
 obtain⟨⟨z0,z0'⟩,⟨z1,z1'⟩,⟨z2,z2'⟩,⟨z3,z3'⟩,⟨z4,z4'⟩,⟨z5,z5'⟩⟩:=HZ1.out.below hb2
 clear hb2 hB1 HX1 HY1 HZ1 HP1 ho hap hpl hQ hs1 hz0 T2 hz2
 go_wp2_with fail
 clear x0 x1 x2 x3 x4 x5 z0 z1 z2 z3 z4 z5 x0' x1' x2' x3' x4' x5' z0' z1' z2' z3' z4' z5'
 generalize w2.setCell ⟨w.heap.size+1+1,4,none⟩ (.slice av W.sn cv)=W2 at HQ2 HP2 HX2 HY2 HZ2 HS2 hB2 ⊢
 refine(toSnapS_any _ W.pn lo hi W.snaps W2 (H.out.snaps.below hB2) (by omega)).mono ?_
 rintro e w3 ⟨⟨v',kp,kw,rfl,ho,hap,hpl⟩,hb3,hz3⟩
 obtain⟨-,ap,cp,rfl,-,-⟩:=id ho
 have HR3:=hideW (show SnapsIn w3 (fun k=>W2.heap.size≤k∧k<w3.heap.size) (.slice ap W.pn cp) W.pn W.snaps from⟨W2.heap.size,kp,kw,ho,hap,fun k hk=>by
  rcases hk with⟨_,rfl⟩ | ⟨i,hi,h0,rfl⟩
  ·exact⟨Nat.le_refl _,hz3⟩
  ·have:=hpl i hi h0; omega⟩)
 have HP3:=hideW (HP2.out.below hb3)
 have HQ3:=hideW (HQ2.out.below hb3)
 have HX3:=hideW (HX2.out.below hb3)
 have HY3:=hideW (HY2.out.below hb3)
 have HZ3:=hideW (HZ2.out.below hb3)
 have hB3:=below_next hB2 hb3
 have HZ03:=hideW hz3
 clear hb3 hB2 HX2 HY2 HZ2 HP2 HQ2 ho hap hpl hz3
 obtain⟨⟨x0,x0'⟩,⟨x1,x1'⟩,⟨x2,x2'⟩,⟨x3,x3'⟩,⟨x4,x4'⟩,⟨x5,x5'⟩⟩:=HX3.out
 obtain⟨⟨y0,y0'⟩,⟨y1,y1'⟩,⟨y2,y2'⟩,⟨y3,y3'⟩,⟨y4,y4'⟩,⟨y5,y5'⟩⟩:=HY3.out
 obtain⟨⟨z0,z0'⟩,⟨z1,z1'⟩,⟨z2,z2'⟩,⟨z3,z3'⟩,⟨z4,z4'⟩,⟨z5,z5'⟩⟩:=HZ3.out
 go_wp2
 have T3:=Turned.put w3 (w.heap.size+1+1) 5 (.slice ap W.pn cp)
 have T4:=Turned.put6 (w3.setCell ⟨w.heap.size+1+1,5,none⟩ (.slice ap W.pn cp)) (w.heap.size+1) (.slice p0 W.pool.n q0) (.slice p1 W.pool.hn q1) (.int .i64 W.time) (.int .i64 W.next) (.slice av W.sn cv) (.slice ap W.pn cp)
 have HR:=(HY3.out.turned T3 (fun e=>absurd e (by omega))).put (.slice p0 W.pool.n q0) (.slice p1 W.pool.hn q1) (.int .i64 W.time) (.int .i64 W.next) (.slice av W.sn cv) (.slice ap W.pn cp)
 have hs1:=HS1.out
 have hs2:=HS2.out
 have hz0:=HZ0.out
 have hz2:=HZ02.out
 have hz3:=HZ03.out
 have TT:Turned (fun k=>k=w.heap.size+1∨k=w.heap.size+1+1) w3 (put6 (w3.setCell ⟨w.heap.size+1+1,5,none⟩ (.slice ap W.pn cp)) (w.heap.size+1) (.slice p0 W.pool.n q0) (.slice p1 W.pool.hn q1) (.int .i64 W.time) (.int .i64 W.next) (.slice av W.sn cv) (.slice ap W.pn cp)):=(T3.mono (fun k e=>Or.inr e)).trans (T4.mono (fun k e=>Or.inl e))
 have hsz3:(put6 (w3.setCell ⟨w.heap.size+1+1,5,none⟩ (.slice ap W.pn cp)) (w.heap.size+1) (.slice p0 W.pool.n q0) (.slice p1 W.pool.hn q1) (.int .i64 W.time) (.int .i64 W.next) (.slice av W.sn cv) (.slice ap W.pn cp)).heap.size=w3.heap.size:=by simp only [World.size_setCell]
 refine bodyPost_ret (v:=.agg #[.slice p0 W.pool.n q0,.slice p1 W.pool.hn q1,.int .i64 W.time,.int .i64 W.next,.slice av W.sn cv,.slice ap W.pn cp]) (by simp [results,Tryz.results9,go_sem,HR.1.1,HR.2.1.1,HR.2.2.1.1,HR.2.2.2.1.1,HR.2.2.2.2.1.1,HR.2.2.2.2.2.1]) rfl ⟨_,_,_,_,rfl,?_,?_⟩
 ·refine⟨fun k=>W0.heap.size≤k∧k<w1.heap.size,fun k=>W1.heap.size≤k∧k<w2.heap.size,fun k=>W2.heap.size≤k∧k<w3.heap.size,⟨?_,?_,?_,?_,?_,?_⟩,?_⟩
  ·exact(HP3.out.isIn (S:=fun k=>W0.heap.size≤k∧k<w1.heap.size) (fun k h1 h2=>⟨h1,h2⟩)).turned TT (fun k hk e=>by omega)
  ·exact HQ3.out.turned TT (fun k hk e=>by omega)
  ·exact HR3.out.turned TT (fun k hk e=>by omega)
  ·exact fun k hk e=>by omega
  ·exact fun k hk e=>by omega
  ·exact fun k hk e=>by omega
  ·intro k hk
   show w.heap.size≤k∧k<(put6 _ _ _ _ _ _ _ _).heap.size
   rw [hsz3]
   omega
 ·exact((hB3.trans (TT.below (B:=w.heap.size) (by omega) (fun k e=>by omega))))
end Go.Proofs.YtmgeglgboadfiaaGreatDoor
