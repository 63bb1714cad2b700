/- What laws.eqWorldOut, markWorldOut and heldWorldOut answer. -/
import Derived.Test.YteipkhpniokkgaaGreatDoorG20
import Derived.Test.YteipkhpniokkgaaGreatDoorG33
import Derived.Test.YteipkhpniokkgaaGreatDoorG31
import Derived.Test.YteipkhpniokkgaaGreatDoorProg
import GoSem.ClaimJoined
import GoSem.ClaimMapViews
import Derived.JoinedTies
import Derived.KernelRfl
import Derived.RowKit
import Derived.Test.YteipkhpniokkgaaGreatDoorG1
import Derived.ProofKit
import Derived.Deep.Slices
import Derived.Deep.SlicePairs
import Derived.Deep.Strs
import Derived.Deep.MidRow
import Derived.Lib.SmallJoins
import Derived.Test.YteipkhpniokkgaaGreatDoorG14
import Derived.Test.YteipkhpniokkgaaGreatDoorG32
import Derived.Test.YteipkhpniokkgaaGreatDoorG18
namespace Go.Proofs.YteipkhpniokkgaaGreatDoor
open Go.RowKit
set_option linter.unusedVariables false
set_option maxRecDepth 20000 in
set_option maxHeartbeats 2000000 in
theorem eqWOut_same(v0 v1 v2 v3 x0 x1 x2 x3:Value)(lo hi lo' hi':Nat)(o:WOutD)(w:World)(h1:WorldAt w lo hi v0 v1 v2 v3 o.world)(h2:WorldAt w lo' hi' x0 x1 x2 x3 o.world) :
  Calls Tryz.prog 10 #[woutV v0 v1 v2 v3 o,woutV x0 x1 x2 x3 o] w fun e w'=>e = .returned (.bool true)∧Below w.heap.size w w':=by
 obtain⟨a0,ac0,a1,ac1,a2,ac2,a3,ac3,rfl,rfl,rfl,rfl⟩:=h1.form
 obtain⟨c0,cc0,c1,cc1,c2,cc2,c3,cc3,rfl,rfl,rfl,rfl⟩:=h2.form
 have H1:=hideE h1
 have H2:=hideE h2
 clear h1 h2
 have ha:=below_alloc w (.cells #[.slice a0 o.world.pool.n ac0,.slice a1 o.world.pool.hn ac1,.int .i64 o.world.time,.int .i64 o.world.next,.slice a2 o.world.sn ac2,.slice a3 o.world.pn ac3,.int .i64 o.id,.int .i64 o.many,.int .i64 o.code] 39)
 have hb2:=below_alloc (w.alloc (.cells #[.slice a0 o.world.pool.n ac0,.slice a1 o.world.pool.hn ac1,.int .i64 o.world.time,.int .i64 o.world.next,.slice a2 o.world.sn ac2,.slice a3 o.world.pn ac3,.int .i64 o.id,.int .i64 o.many,.int .i64 o.code] 39)) (.cells #[.slice c0 o.world.pool.n cc0,.slice c1 o.world.pool.hn cc1,.int .i64 o.world.time,.int .i64 o.world.next,.slice c2 o.world.sn cc2,.slice c3 o.world.pn cc3,.int .i64 o.id,.int .i64 o.many,.int .i64 o.code] 39)
 have hb:=below_next ha hb2
 have HA:=(Box9.new w (.slice a0 o.world.pool.n ac0) (.slice a1 o.world.pool.hn ac1) (.int .i64 o.world.time) (.int .i64 o.world.next) (.slice a2 o.world.sn ac2) (.slice a3 o.world.pn ac3) (.int .i64 o.id) (.int .i64 o.many) (.int .i64 o.code) 39).below hb2
 have HB:=Box9.new (w.alloc (.cells #[.slice a0 o.world.pool.n ac0,.slice a1 o.world.pool.hn ac1,.int .i64 o.world.time,.int .i64 o.world.next,.slice a2 o.world.sn ac2,.slice a3 o.world.pn ac3,.int .i64 o.id,.int .i64 o.many,.int .i64 o.code] 39)) (.slice c0 o.world.pool.n cc0) (.slice c1 o.world.pool.hn cc1) (.int .i64 o.world.time) (.int .i64 o.world.next) (.slice c2 o.world.sn cc2) (.slice c3 o.world.pn cc3) (.int .i64 o.id) (.int .i64 o.many) (.int .i64 o.code) 39
 rw [World.size_alloc] at HB
 obtain⟨⟨p0,-⟩,⟨p1,-⟩,⟨p2,-⟩,⟨p3,-⟩,⟨p4,-⟩,⟨p5,-⟩,⟨p6,-⟩,⟨p7,-⟩,⟨p8,-⟩⟩:=id HA
 obtain⟨⟨q0,-⟩,⟨q1,-⟩,⟨q2,-⟩,⟨q3,-⟩,⟨q4,-⟩,⟨q5,-⟩,⟨q6,-⟩,⟨q7,-⟩,⟨q8,-⟩⟩:=id HB
 go_enter Tryz.func10,Tryz.ntmps10
 go_wp2_with fail
 clear p0 p1 p2 p3 p4 p5 p6 p7 p8 q0 q1 q2 q3 q4 q5 q6 q7 q8
 generalize ((w.alloc (.cells #[.slice a0 o.world.pool.n ac0,.slice a1 o.world.pool.hn ac1,.int .i64 o.world.time,.int .i64 o.world.next,.slice a2 o.world.sn ac2,.slice a3 o.world.pn ac3,.int .i64 o.id,.int .i64 o.many,.int .i64 o.code] 39)).alloc (.cells #[.slice c0 o.world.pool.n cc0,.slice c1 o.world.pool.hn cc1,.int .i64 o.world.time,.int .i64 o.world.next,.slice c2 o.world.sn cc2,.slice c3 o.world.pn cc3,.int .i64 o.id,.int .i64 o.many,.int .i64 o.code] 39))=W2 at hb HA HB ⊢
 clear ha hb2
 refine(eqWorld_same _ _ _ _ _ _ _ _ _ _ _ _ o.world W2 (H1.out.below hb) (H2.out.below hb)).mono ?_
 rintro e w3 ⟨rfl,hb3⟩
 obtain⟨-,-,-,-,-,-,⟨p6,-⟩,⟨p7,-⟩,⟨p8,-⟩⟩:=HA.below hb3
 obtain⟨-,-,-,-,-,-,⟨q6,-⟩,⟨q7,-⟩,⟨q8,-⟩⟩:=HB.below hb3
 have hid:(o.id != o.id)=false:=by simp
 have hmany:(o.many != o.many)=false:=by simp
 have hcode:(o.code != o.code)=false:=by simp
 go_wp2
 go_ret
 exact⟨rfl,below_next hb hb3⟩
set_option maxRecDepth 20000 in
set_option maxHeartbeats 2000000 in
theorem markWOut_any(lo hi:Nat)(v0 v1 v2 v3:Value)(o:WOutD)(k0:Int)(w:World)(h:WorldOwn w lo hi v0 v1 v2 v3 o.world)(hh:hi≤w.heap.size)(hk0:0≤k0)(hk1:endW o.world k0≤1000000000000) :
  Calls Tryz.prog 13 #[woutV v0 v1 v2 v3 o,.int .i64 k0] w fun e w'=>e = .returned (.int .i64 (endW o.world k0))∧WorldOwn w' lo hi v0 v1 v2 v3 (markW o.world k0)∧Turned (fun k=>lo≤k∧k<hi) w w':=by
 have H:=hideE h
 obtain⟨a0,ac0,a1,ac1,a2,ac2,a3,ac3,rfl,rfl,rfl,rfl⟩:=h.form
 clear h
 have ha:=below_alloc w (.cells #[.slice a0 o.world.pool.n ac0,.slice a1 o.world.pool.hn ac1,.int .i64 o.world.time,.int .i64 o.world.next,.slice a2 o.world.sn ac2,.slice a3 o.world.pn ac3,.int .i64 o.id,.int .i64 o.many,.int .i64 o.code] 39)
 obtain⟨⟨p0,-⟩,⟨p1,-⟩,⟨p2,-⟩,⟨p3,-⟩,⟨p4,-⟩,⟨p5,-⟩,⟨p6,-⟩,⟨p7,-⟩,⟨p8,-⟩⟩:=Box9.new w (.slice a0 o.world.pool.n ac0) (.slice a1 o.world.pool.hn ac1) (.int .i64 o.world.time) (.int .i64 o.world.next) (.slice a2 o.world.sn ac2) (.slice a3 o.world.pn ac3) (.int .i64 o.id) (.int .i64 o.many) (.int .i64 o.code) 39
 have hk2:¬endW o.world k0<0:=by have h1:=endW_le o.world k0; omega
 go_enter Tryz.func13,Tryz.ntmps13
 go_wp2_with fail
 clear p0 p1 p2 p3 p4 p5 p6 p7 p8
 generalize (w.alloc (.cells #[.slice a0 o.world.pool.n ac0,.slice a1 o.world.pool.hn ac1,.int .i64 o.world.time,.int .i64 o.world.next,.slice a2 o.world.sn ac2,.slice a3 o.world.pn ac3,.int .i64 o.id,.int .i64 o.many,.int .i64 o.code] 39))=W2 at ha ⊢
 refine(markWorld_any lo hi _ _ _ _ o.world k0 W2 (H.out.below ha) hk0 hk1).mono ?_
 rintro e w3 ⟨rfl,ho,hT⟩
 have Ho:=hideE ho
 clear ho
 go_wp2
 go_ret
 exact⟨rfl,Ho.out,(Turned.of_below ha).trans hT⟩
set_option maxRecDepth 20000 in
set_option maxHeartbeats 2000000 in
theorem heldWOut_any(lo hi:Nat)(v0 v1 v2 v3:Value)(o:WOutD)(k0:Int)(w:World)(h:WorldAt w lo hi v0 v1 v2 v3 (markW o.world k0))(hk0:0≤k0)(hk1:endW o.world k0≤1000000000000) :
  Calls Tryz.prog 14 #[woutV v0 v1 v2 v3 o,.int .i64 k0] w fun e w'=>e = .returned (.int .i64 (endW o.world k0))∧Below w.heap.size w w':=by
 have H:=hideE h
 clear h
 have hk2:¬endW o.world k0<0:=by have h1:=endW_le o.world k0; omega
 have ha:=below_alloc w (.cells #[v0,v1,.int .i64 o.world.time,.int .i64 o.world.next,v2,v3,.int .i64 o.id,.int .i64 o.many,.int .i64 o.code] 39)
 obtain⟨⟨p0,-⟩,⟨p1,-⟩,⟨p2,-⟩,⟨p3,-⟩,⟨p4,-⟩,⟨p5,-⟩,⟨p6,-⟩,⟨p7,-⟩,⟨p8,-⟩⟩:=Box9.new w (v0) (v1) (.int .i64 o.world.time) (.int .i64 o.world.next) (v2) (v3) (.int .i64 o.id) (.int .i64 o.many) (.int .i64 o.code) 39
 go_enter Tryz.func14,Tryz.ntmps14
 go_wp2_with fail
 clear p0 p1 p2 p3 p4 p5 p6 p7 p8
 generalize (w.alloc (.cells #[v0,v1,.int .i64 o.world.time,.int .i64 o.world.next,v2,v3,.int .i64 o.id,.int .i64 o.many,.int .i64 o.code] 39))=W2 at ha ⊢
 refine(heldWorld_any lo hi _ _ _ _ o.world k0 W2 (H.out.below ha) hk0 hk1).mono ?_
 rintro e w3 ⟨rfl,hb3⟩
 go_wp2
 go_ret
 exact⟨rfl,below_next ha hb3⟩
end Go.Proofs.YteipkhpniokkgaaGreatDoor

namespace Go.Proofs.YteipkhpniokkgaaGreatDoor
open Go.RowKit Go.Deep Go.Joins
open Go.ChangeShapes Go.WideShapes Go.ChangeAt
set_option linter.unusedVariables false
set_option maxRecDepth 20000
section
variable {H : Type} {enc : TypeId × Value → H} {W : World} {spare : Nat → Bool} {held : Bool}
theorem addr_of_cell{w:World}{a:Addr}{v:Value}(h:w.cell? a=some v):∃b off,a=⟨b,off,none⟩:=by
 obtain⟨b,off,spot⟩:=a
 have hs:spot=none:=by simpa using World.cell?_spot h
 subst hs
 exact⟨b,off,rfl⟩
theorem slice_val{v:Value}{a:Option Addr}{n c:Nat}(h:[v] = [Value.slice a n c]):v = .slice a n c:=by simpa using h
theorem open_ints_at{fuel:Nat}{v:Value}{x:DataW H×List MemPlace}(h:DataW.trod enc Tryz.prog W 0 spare held fuel 23 [v]=some x):∃n f,IntsAt W 0 W.heap.size v n f:=by
 rcases open_slice1 (t:=23) (e:=2) (by kernel_rfl) (by kernel_rfl) h with⟨hv,_⟩ | ⟨a,len,cap,m,n,V,D,Pl,hv,_,hl,hm,hmm,_,hx⟩
 ·exact⟨0,fun _=>0,Nat.zero_le _,none,0,slice_val hv,Nat.le_refl _,fun h=>absurd h (Nat.lt_irrefl _)⟩
 ·have hlm:len≤m:=by rw [hmm]; split <;> omega
  have hV:∀i,i<len→∃z:Int,V i = .int .i64 z:=fun i hi=>by
   obtain⟨_,ht⟩:=hx i (by omega)
   obtain⟨z,hz,_⟩:=DataW.trod_int (show Tryz.prog.underlying 2=some (.int .i64)by kernel_rfl) ht
   exact⟨z,by simpa using hz⟩
  refine⟨len,fun i=>intOf (V i),by unfold maxLen at *; omega,some a,cap,slice_val hv,hl,fun h0=>?_⟩
  have hc0:=(hx 0 (by omega)).1
  rw [show a.add 0=a by simp [Addr.add]] at hc0
  obtain⟨b,off,rfl⟩:=addr_of_cell hc0
  refine⟨b,off,rfl,Nat.zero_le _,lt_of_cell hc0,fun i hi=>?_⟩
  have hc:=(hx i (by omega)).1
  rw [Addr.add_mid] at hc
  obtain⟨z,hz⟩:=hV i hi
  show _=some (Value.int .i64 (intOf (V i)))
  rw [hc,hz]
  rfl
theorem field_of{t T o c i:Nat}{fuel:Nat}{cs:List Value}{x:DataW H×List MemPlace}(hs:Tryz.prog.underlying t=some (.struct (Tryz.prog.fieldsOf t)))(hf:((Tryz.prog.fieldsOf t)[i]?).map (fun f=>(f.type,f.offset))=some (T,o))
  (hc:Tryz.prog.cellsOf T=c) (h:DataW.trod enc Tryz.prog W 0 spare held fuel t cs=some x):∃n y,DataW.trod enc Tryz.prog W 0 spare held n T ((cs.drop o).take c)=some y:=by
 obtain⟨f,hf1,hf2⟩:=Option.map_eq_some_iff.1 hf
 simp only [Prod.mk.injEq] at hf2
 obtain⟨rfl,rfl⟩:=hf2
 obtain⟨xs,n,_,_,_,hxl,hfs⟩:=DataW.trod_struct hs h
 have hi:i<(Tryz.prog.fieldsOf t).size:=(Array.getElem?_eq_some_iff.1 hf1).1
 have:=hfs i f hf1
 rw [hc,List.getElem?_eq_getElem (by omega)] at this
 exact⟨n,_,this⟩
theorem open_ptr_cells{fuel:Nat}{c0 c1:Value}{x:DataW H×List MemPlace}(h:DataW.trod enc Tryz.prog W 0 spare held fuel 101 [c0,c1]=some x):∃y z:Int,c0 = .int .i64 y∧c1 = .int .i64 z:=by
 obtain⟨n0,y0,h0⟩:=field_of (t:=101) (T:=2) (o:=0) (c:=1) (i:=0) (by kernel_rfl) (by kernel_rfl) (by kernel_rfl) h
 obtain⟨n1,y1,h1⟩:=field_of (t:=101) (T:=2) (o:=1) (c:=1) (i:=1) (by kernel_rfl) (by kernel_rfl) (by kernel_rfl) h
 obtain⟨y,hy,_⟩:=DataW.trod_int (show Tryz.prog.underlying 2=some (.int .i64)by kernel_rfl) h0
 obtain⟨z,hz,_⟩:=DataW.trod_int (show Tryz.prog.underlying 2=some (.int .i64)by kernel_rfl) h1
 exact⟨y,z,by simpa using hy,by simpa using hz⟩
theorem open_ptrs_at{fuel:Nat}{v:Value}{x:DataW H×List MemPlace}(h:DataW.trod enc Tryz.prog W 0 spare held fuel 102 [v]=some x):∃n f g,PtrsAt W 0 W.heap.size v n f g:=by
 rcases open_slice (t:=102) (e:=101) (by kernel_rfl) h with⟨hv,_⟩ | ⟨a,len,cap,m,n,D,Pl,hv,_,hl,hm,hmm,_,hx⟩
 ·exact⟨0,fun _=>0,fun _=>0,Nat.zero_le _,none,0,slice_val hv,Nat.le_refl _,fun h=>absurd h (Nat.lt_irrefl _)⟩
 ·have hlm:len≤m:=by rw [hmm]; split <;> omega
  have hc2:Tryz.prog.cellsOf 101=2:=by kernel_rfl
  rw [hc2] at hx
  have hV:∀i,i<len→∃y z:Int,W.cell? (a.add (i*2))=some (.int .i64 y)∧W.cell? ((a.add (i*2)).add 1)=some (.int .i64 z):=fun i hi=>by
   obtain⟨cs,hcs,ht⟩:=hx i (by omega)
   obtain⟨_,hlen,hcell⟩:=World.cells?_some hcs
   match cs,hlen with
   | [c0,c1],_=>
    obtain⟨y,z,rfl,rfl⟩:=open_ptr_cells ht
    have q0:=hcell 0 (by omega)
    have q1:=hcell 1 (by omega)
    rw [show(a.add (i*2)).add 0=a.add (i*2)by simp [Addr.add]] at q0
    exact⟨y,z,by simpa using q0,by simpa using q1⟩
  refine⟨len,fun i=>intOf ((W.cell? (a.add (i*2))).getD undef),fun i=>intOf ((W.cell? ((a.add (i*2)).add 1)).getD undef),by unfold maxLen at *; omega,some a,cap,slice_val hv,hl,fun h0=>?_⟩
  obtain⟨y,z,hc0,_⟩:=hV 0 h0
  rw [show a.add (0*2)=a by simp [Addr.add]] at hc0
  obtain⟨b,off,rfl⟩:=addr_of_cell hc0
  refine⟨b,off,rfl,Nat.zero_le _,lt_of_cell hc0,fun i hi=>?_⟩
  obtain⟨y,z,q0,q1⟩:=hV i hi
  show _=some (Value.int .i64 (intOf ((W.cell? _).getD undef)))∧_=some (Value.int .i64 (intOf ((W.cell? _).getD undef)))
  rw [q0,q1]
  rw [Addr.add_mid,Addr.add_mid] at q1
  rw [Addr.add_mid] at q0
  exact⟨q0,q1⟩
theorem open_slot_cells{fuel:Nat}{c0 c1 c2:Value}{x:DataW H×List MemPlace}(h:DataW.trod enc Tryz.prog W 0 spare held fuel 143 [c0,c1,c2]=some x):∃s,SlotAt W 0 W.heap.size c0 c1 c2 s:=by
 obtain⟨n0,y0,h0⟩:=field_of (t:=143) (T:=2) (o:=0) (c:=1) (i:=0) (by kernel_rfl) (by kernel_rfl) (by kernel_rfl) h
 obtain⟨n1,y1,h1⟩:=field_of (t:=143) (T:=102) (o:=1) (c:=1) (i:=1) (by kernel_rfl) (by kernel_rfl) (by kernel_rfl) h
 obtain⟨n2,y2,h2⟩:=field_of (t:=143) (T:=9) (o:=2) (c:=1) (i:=2) (by kernel_rfl) (by kernel_rfl) (by kernel_rfl) h
 obtain⟨y,hy,_⟩:=DataW.trod_int (show Tryz.prog.underlying 2=some (.int .i64)by kernel_rfl) h0
 obtain⟨n,f,g,hp⟩:=open_ptrs_at (v:=c1) (by simpa using h1)
 obtain⟨d,hd,_,hsz⟩:=DataW.trod_string (show Tryz.prog.underlying 9=some .string by kernel_rfl) h2
 exact⟨⟨y,n,f,g,d⟩,by simpa using hy,hp,by simpa using hd,hsz⟩
theorem open_slots_at{fuel:Nat}{v:Value}{x:DataW H×List MemPlace}(h:DataW.trod enc Tryz.prog W 0 spare held fuel 22 [v]=some x):∃n f,SlotsAt W 0 W.heap.size v n f:=by
 rcases open_slice (t:=22) (e:=143) (by kernel_rfl) h with⟨hv,_⟩ | ⟨a,len,cap,m,n,D,Pl,hv,_,hl,hm,hmm,_,hx⟩
 ·exact⟨0,fun _=>⟨0,0,fun _=>0,fun _=>0,ByteArray.empty⟩,Nat.zero_le _,none,0,slice_val hv,Nat.le_refl _,fun h=>absurd h (Nat.lt_irrefl _)⟩
 ·have hlm:len≤m:=by rw [hmm]; split <;> omega
  have hc3:Tryz.prog.cellsOf 143=3:=by kernel_rfl
  rw [hc3] at hx
  have hV:∀i,i<len→∃s:SlotD,∃c0 c1 c2,W.cell? (a.add (i*3))=some c0∧W.cell? ((a.add (i*3)).add 1)=some c1∧W.cell? ((a.add (i*3)).add 2)=some c2∧SlotAt W 0 W.heap.size c0 c1 c2 s:=fun i hi=>by
   obtain⟨cs,hcs,ht⟩:=hx i (by omega)
   obtain⟨_,hlen,hcell⟩:=World.cells?_some hcs
   match cs,hlen with
   | [c0,c1,c2],_=>
    obtain⟨s,hs⟩:=open_slot_cells ht
    have q0:=hcell 0 (by omega)
    have q1:=hcell 1 (by omega)
    have q2:=hcell 2 (by omega)
    rw [show(a.add (i*3)).add 0=a.add (i*3)by simp [Addr.add]] at q0
    exact⟨s,c0,c1,c2,by simpa using q0,by simpa using q1,by simpa using q2,hs⟩
  have hinh:Inhabited SlotD:=⟨⟨0,0,fun _=>0,fun _=>0,ByteArray.empty⟩⟩
  obtain⟨f,hf⟩:=choose_lt (α:=SlotD) (p:=fun i s=>∃c0 c1 c2,W.cell? (a.add (i*3))=some c0∧W.cell? ((a.add (i*3)).add 1)=some c1∧W.cell? ((a.add (i*3)).add 2)=some c2∧SlotAt W 0 W.heap.size c0 c1 c2 s) hV
  refine⟨len,f,by unfold maxLen at *; omega,some a,cap,slice_val hv,hl,fun h0=>?_⟩
  obtain⟨c0,c1,c2,hc0,_⟩:=hf 0 h0
  rw [show a.add (0*3)=a by simp [Addr.add]] at hc0
  obtain⟨b,off,rfl⟩:=addr_of_cell hc0
  refine⟨b,off,rfl,Nat.zero_le _,lt_of_cell hc0,fun i hi=>?_⟩
  obtain⟨c0,c1,c2,q0,q1,q2,hs⟩:=hf i hi
  rw [Addr.add_mid,Addr.add_mid] at q1 q2
  rw [Addr.add_mid] at q0
  exact⟨c0,c1,c2,q0,q1,q2,hs⟩
end
end Go.Proofs.YteipkhpniokkgaaGreatDoor

namespace Go.Proofs.YteipkhpniokkgaaGreatDoor
open Go.RowKit Go.Deep Go.Joins
open Go.ChangeShapes Go.WideShapes Go.ChangeAt
set_option linter.unusedVariables false
set_option maxRecDepth 20000
section
variable {H : Type} {enc : TypeId × Value → H} {W : World} {spare : Nat → Bool} {held : Bool}
def SetWf(s:SetD):Prop:=(Lit.int .i64 s.origin).wf=true∧(Lit.int .i64 s.prev).wf=true
theorem open_set_cells{fuel:Nat}{c0 c1 c2 c3 c4 c5:Value}{x:DataW H×List MemPlace}(h:DataW.trod enc Tryz.prog W 0 spare held fuel 104 [c0,c1,c2,c3,c4,c5]=some x):∃s:SetD,c0 = .string s.name∧c1 = .int .i64 s.origin∧c2 = .int .i64 s.prev∧c3 = .int .i64 s.rs∧c4 = .int .i64 s.rb∧PtrsAt W 0 W.heap.size c5 s.dn s.ds s.db∧s.name.size≤maxLen∧SetWf s:=by
 obtain⟨n0,y0,h0⟩:=field_of (t:=104) (T:=9) (o:=0) (c:=1) (i:=0) (by kernel_rfl) (by kernel_rfl) (by kernel_rfl) h
 obtain⟨z0,e0,-,w0⟩:=DataW.trod_string (show Tryz.prog.underlying 9=some .string by kernel_rfl) h0
 obtain⟨n1,y1,h1⟩:=field_of (t:=104) (T:=2) (o:=1) (c:=1) (i:=1) (by kernel_rfl) (by kernel_rfl) (by kernel_rfl) h
 obtain⟨z1,e1,-,w1⟩:=DataW.trod_int (show Tryz.prog.underlying 2=some (.int .i64)by kernel_rfl) h1
 obtain⟨n2,y2,h2⟩:=field_of (t:=104) (T:=2) (o:=2) (c:=1) (i:=2) (by kernel_rfl) (by kernel_rfl) (by kernel_rfl) h
 obtain⟨z2,e2,-,w2⟩:=DataW.trod_int (show Tryz.prog.underlying 2=some (.int .i64)by kernel_rfl) h2
 obtain⟨n3,y3,h3⟩:=field_of (t:=104) (T:=101) (o:=3) (c:=2) (i:=3) (by kernel_rfl) (by kernel_rfl) (by kernel_rfl) h
 obtain⟨z3,z3',e3,e3'⟩:=open_ptr_cells (c0:=c3) (c1:=c4) (by simpa using h3)
 obtain⟨n4,y4,h4⟩:=field_of (t:=104) (T:=102) (o:=5) (c:=1) (i:=4) (by kernel_rfl) (by kernel_rfl) (by kernel_rfl) h
 obtain⟨dn,ds,db,hp⟩:=open_ptrs_at (v:=c5) (by simpa using h4)
 exact⟨⟨z0,z1,z2,z3,z3',dn,ds,db⟩,by simpa using e0,by simpa using e1,by simpa using e2,e3,e3',hp,w0,w1,w2⟩
theorem open_sets_at{fuel:Nat}{v:Value}{x:DataW H×List MemPlace}(h:DataW.trod enc Tryz.prog W 0 spare held fuel 26 [v]=some x):∃n f,SetsAt W 0 W.heap.size v n f∧∀i,i<n→SetWf (f i):=by
 rcases open_slice (t:=26) (e:=104) (by kernel_rfl) h with⟨hv,_⟩ | ⟨a,len,cap,m,n,D,Pl,hv,_,hl,hm,hmm,_,hx⟩
 ·exact⟨0,fun _=>⟨ByteArray.empty,0,0,0,0,0,fun _=>0,fun _=>0⟩,⟨Nat.zero_le _,none,0,slice_val hv,Nat.le_refl _,fun h=>absurd h (Nat.lt_irrefl _)⟩,fun i hi=>absurd hi (Nat.not_lt_zero _)⟩
 ·have hlm:len≤m:=by rw [hmm]; split <;> omega
  have hc3:Tryz.prog.cellsOf 104=6:=by kernel_rfl
  rw [hc3] at hx
  have hV:∀i,i<len→∃s:SetD,(∃c0 c1 c2 c3 c4 c5,W.cell? (a.add (i*6))=some c0∧W.cell? ((a.add (i*6)).add 1)=some c1∧W.cell? ((a.add (i*6)).add 2)=some c2∧W.cell? ((a.add (i*6)).add 3)=some c3∧W.cell? ((a.add (i*6)).add 4)=some c4∧W.cell? ((a.add (i*6)).add 5)=some c5∧c0 = .string s.name∧c1 = .int .i64 s.origin∧c2 = .int .i64 s.prev∧c3 = .int .i64 s.rs∧c4 = .int .i64 s.rb∧PtrsAt W 0 W.heap.size c5 s.dn s.ds s.db∧s.name.size≤maxLen∧SetWf s):=fun i hi=>by
   obtain⟨cs,hcs,ht⟩:=hx i (by omega)
   obtain⟨_,hlen,hcell⟩:=World.cells?_some hcs
   match cs,hlen with
   | [c0,c1,c2,c3,c4,c5],_=>
    obtain⟨s,hs⟩:=open_set_cells ht
    have q0:=hcell 0 (by omega)
    have q1:=hcell 1 (by omega)
    have q2:=hcell 2 (by omega)
    have q3:=hcell 3 (by omega)
    have q4:=hcell 4 (by omega)
    have q5:=hcell 5 (by omega)
    rw [show(a.add (i*6)).add 0=a.add (i*6)by simp [Addr.add]] at q0
    exact⟨s,c0,c1,c2,c3,c4,c5,by simpa using q0,by simpa using q1,by simpa using q2,by simpa using q3,by simpa using q4,by simpa using q5,hs⟩
  have hinh:Inhabited SetD:=⟨⟨ByteArray.empty,0,0,0,0,0,fun _=>0,fun _=>0⟩⟩
  obtain⟨f,hf⟩:=choose_lt (α:=SetD) (p:=fun i s=>(∃c0 c1 c2 c3 c4 c5,W.cell? (a.add (i*6))=some c0∧W.cell? ((a.add (i*6)).add 1)=some c1∧W.cell? ((a.add (i*6)).add 2)=some c2∧W.cell? ((a.add (i*6)).add 3)=some c3∧W.cell? ((a.add (i*6)).add 4)=some c4∧W.cell? ((a.add (i*6)).add 5)=some c5∧c0 = .string s.name∧c1 = .int .i64 s.origin∧c2 = .int .i64 s.prev∧c3 = .int .i64 s.rs∧c4 = .int .i64 s.rb∧PtrsAt W 0 W.heap.size c5 s.dn s.ds s.db∧s.name.size≤maxLen∧SetWf s)) hV
  refine⟨len,f,⟨by unfold maxLen at *; omega,some a,cap,slice_val hv,hl,fun h0=>?_⟩,fun i hi=>?_⟩
  ·obtain⟨c0,c1,c2,c3,c4,c5,hc0,_⟩:=hf 0 h0
   rw [show a.add (0*6)=a by simp [Addr.add]] at hc0
   obtain⟨b,off,rfl⟩:=addr_of_cell hc0
   refine⟨b,off,rfl,Nat.zero_le _,lt_of_cell hc0,fun i hi=>?_⟩
   obtain⟨c0,c1,c2,c3,c4,c5,q0,q1,q2,q3,q4,q5,rfl,rfl,rfl,rfl,rfl,hp,hsm,hwf⟩:=hf i hi
   rw [Addr.add_mid,Addr.add_mid] at q1 q2 q3 q4 q5
   rw [Addr.add_mid] at q0
   exact⟨c5,q0,q1,q2,q3,q4,q5,hp,hsm⟩
  ·obtain⟨c0,c1,c2,c3,c4,c5,-,-,-,-,-,-,-,-,-,-,-,-,-,hwf⟩:=hf i hi
   exact hwf
def SnapWf(s:SnapD):Prop:=(Lit.int .i64 s.id).wf=true∧(Lit.int .i64 s.prev).wf=true∧(Lit.int .i64 s.time).wf=true
theorem open_snap_cells{fuel:Nat}{c0 c1 c2 c3 c4 c5 c6 c7:Value}{x:DataW H×List MemPlace}(h:DataW.trod enc Tryz.prog W 0 spare held fuel 107 [c0,c1,c2,c3,c4,c5,c6,c7]=some x):∃s:SnapD,c0 = .int .i64 s.id∧c1 = .string s.name∧c2 = .string s.set∧c3 = .int .i64 s.prev∧c4 = .int .i64 s.time∧c5 = .int .i64 s.rs∧c6 = .int .i64 s.rb∧PtrsAt W 0 W.heap.size c7 s.dn s.ds s.db∧(s.name.size≤maxLen∧s.set.size≤maxLen)∧SnapWf s:=by
 obtain⟨n0,y0,h0⟩:=field_of (t:=107) (T:=2) (o:=0) (c:=1) (i:=0) (by kernel_rfl) (by kernel_rfl) (by kernel_rfl) h
 obtain⟨z0,e0,-,w0⟩:=DataW.trod_int (show Tryz.prog.underlying 2=some (.int .i64)by kernel_rfl) h0
 obtain⟨n1,y1,h1⟩:=field_of (t:=107) (T:=9) (o:=1) (c:=1) (i:=1) (by kernel_rfl) (by kernel_rfl) (by kernel_rfl) h
 obtain⟨z1,e1,-,w1⟩:=DataW.trod_string (show Tryz.prog.underlying 9=some .string by kernel_rfl) h1
 obtain⟨n2,y2,h2⟩:=field_of (t:=107) (T:=9) (o:=2) (c:=1) (i:=2) (by kernel_rfl) (by kernel_rfl) (by kernel_rfl) h
 obtain⟨z2,e2,-,w2⟩:=DataW.trod_string (show Tryz.prog.underlying 9=some .string by kernel_rfl) h2
 obtain⟨n3,y3,h3⟩:=field_of (t:=107) (T:=2) (o:=3) (c:=1) (i:=3) (by kernel_rfl) (by kernel_rfl) (by kernel_rfl) h
 obtain⟨z3,e3,-,w3⟩:=DataW.trod_int (show Tryz.prog.underlying 2=some (.int .i64)by kernel_rfl) h3
 obtain⟨n4,y4,h4⟩:=field_of (t:=107) (T:=2) (o:=4) (c:=1) (i:=4) (by kernel_rfl) (by kernel_rfl) (by kernel_rfl) h
 obtain⟨z4,e4,-,w4⟩:=DataW.trod_int (show Tryz.prog.underlying 2=some (.int .i64)by kernel_rfl) h4
 obtain⟨n5,y5,h5⟩:=field_of (t:=107) (T:=101) (o:=5) (c:=2) (i:=5) (by kernel_rfl) (by kernel_rfl) (by kernel_rfl) h
 obtain⟨z5,z5',e5,e5'⟩:=open_ptr_cells (c0:=c5) (c1:=c6) (by simpa using h5)
 obtain⟨n6,y6,h6⟩:=field_of (t:=107) (T:=102) (o:=7) (c:=1) (i:=6) (by kernel_rfl) (by kernel_rfl) (by kernel_rfl) h
 obtain⟨dn,ds,db,hp⟩:=open_ptrs_at (v:=c7) (by simpa using h6)
 exact⟨⟨z0,z1,z2,z3,z4,z5,z5',dn,ds,db⟩,by simpa using e0,by simpa using e1,by simpa using e2,by simpa using e3,by simpa using e4,e5,e5',hp,⟨w1,w2⟩,w0,w3,w4⟩
theorem open_snaps_at{fuel:Nat}{v:Value}{x:DataW H×List MemPlace}(h:DataW.trod enc Tryz.prog W 0 spare held fuel 27 [v]=some x):∃n f,SnapsAt W 0 W.heap.size v n f∧∀i,i<n→SnapWf (f i):=by
 rcases open_slice (t:=27) (e:=107) (by kernel_rfl) h with⟨hv,_⟩ | ⟨a,len,cap,m,n,D,Pl,hv,_,hl,hm,hmm,_,hx⟩
 ·exact⟨0,fun _=>⟨0,ByteArray.empty,ByteArray.empty,0,0,0,0,0,fun _=>0,fun _=>0⟩,⟨Nat.zero_le _,none,0,slice_val hv,Nat.le_refl _,fun h=>absurd h (Nat.lt_irrefl _)⟩,fun i hi=>absurd hi (Nat.not_lt_zero _)⟩
 ·have hlm:len≤m:=by rw [hmm]; split <;> omega
  have hc3:Tryz.prog.cellsOf 107=8:=by kernel_rfl
  rw [hc3] at hx
  have hV:∀i,i<len→∃s:SnapD,(∃c0 c1 c2 c3 c4 c5 c6 c7,W.cell? (a.add (i*8))=some c0∧W.cell? ((a.add (i*8)).add 1)=some c1∧W.cell? ((a.add (i*8)).add 2)=some c2∧W.cell? ((a.add (i*8)).add 3)=some c3∧W.cell? ((a.add (i*8)).add 4)=some c4∧W.cell? ((a.add (i*8)).add 5)=some c5∧W.cell? ((a.add (i*8)).add 6)=some c6∧W.cell? ((a.add (i*8)).add 7)=some c7∧c0 = .int .i64 s.id∧c1 = .string s.name∧c2 = .string s.set∧c3 = .int .i64 s.prev∧c4 = .int .i64 s.time∧c5 = .int .i64 s.rs∧c6 = .int .i64 s.rb∧PtrsAt W 0 W.heap.size c7 s.dn s.ds s.db∧(s.name.size≤maxLen∧s.set.size≤maxLen)∧SnapWf s):=fun i hi=>by
   obtain⟨cs,hcs,ht⟩:=hx i (by omega)
   obtain⟨_,hlen,hcell⟩:=World.cells?_some hcs
   match cs,hlen with
   | [c0,c1,c2,c3,c4,c5,c6,c7],_=>
    obtain⟨s,hs⟩:=open_snap_cells ht
    have q0:=hcell 0 (by omega)
    have q1:=hcell 1 (by omega)
    have q2:=hcell 2 (by omega)
    have q3:=hcell 3 (by omega)
    have q4:=hcell 4 (by omega)
    have q5:=hcell 5 (by omega)
    have q6:=hcell 6 (by omega)
    have q7:=hcell 7 (by omega)
    rw [show(a.add (i*8)).add 0=a.add (i*8)by simp [Addr.add]] at q0
    exact⟨s,c0,c1,c2,c3,c4,c5,c6,c7,by simpa using q0,by simpa using q1,by simpa using q2,by simpa using q3,by simpa using q4,by simpa using q5,by simpa using q6,by simpa using q7,hs⟩
  have hinh:Inhabited SnapD:=⟨⟨0,ByteArray.empty,ByteArray.empty,0,0,0,0,0,fun _=>0,fun _=>0⟩⟩
  obtain⟨f,hf⟩:=choose_lt (α:=SnapD) (p:=fun i s=>(∃c0 c1 c2 c3 c4 c5 c6 c7,W.cell? (a.add (i*8))=some c0∧W.cell? ((a.add (i*8)).add 1)=some c1∧W.cell? ((a.add (i*8)).add 2)=some c2∧W.cell? ((a.add (i*8)).add 3)=some c3∧W.cell? ((a.add (i*8)).add 4)=some c4∧W.cell? ((a.add (i*8)).add 5)=some c5∧W.cell? ((a.add (i*8)).add 6)=some c6∧W.cell? ((a.add (i*8)).add 7)=some c7∧c0 = .int .i64 s.id∧c1 = .string s.name∧c2 = .string s.set∧c3 = .int .i64 s.prev∧c4 = .int .i64 s.time∧c5 = .int .i64 s.rs∧c6 = .int .i64 s.rb∧PtrsAt W 0 W.heap.size c7 s.dn s.ds s.db∧(s.name.size≤maxLen∧s.set.size≤maxLen)∧SnapWf s)) hV
  refine⟨len,f,⟨by unfold maxLen at *; omega,some a,cap,slice_val hv,hl,fun h0=>?_⟩,fun i hi=>?_⟩
  ·obtain⟨c0,c1,c2,c3,c4,c5,c6,c7,hc0,_⟩:=hf 0 h0
   rw [show a.add (0*8)=a by simp [Addr.add]] at hc0
   obtain⟨b,off,rfl⟩:=addr_of_cell hc0
   refine⟨b,off,rfl,Nat.zero_le _,lt_of_cell hc0,fun i hi=>?_⟩
   obtain⟨c0,c1,c2,c3,c4,c5,c6,c7,q0,q1,q2,q3,q4,q5,q6,q7,rfl,rfl,rfl,rfl,rfl,rfl,rfl,hp,hsm,hwf⟩:=hf i hi
   rw [Addr.add_mid,Addr.add_mid] at q1 q2 q3 q4 q5 q6 q7
   rw [Addr.add_mid] at q0
   exact⟨c7,q0,q1,q2,q3,q4,q5,q6,q7,hp,hsm⟩
  ·obtain⟨c0,c1,c2,c3,c4,c5,c6,c7,-,-,-,-,-,-,-,-,-,-,-,-,-,-,-,-,-,hwf⟩:=hf i hi
   exact hwf
structure WorldWf (W:WorldD):Prop where
 time:(Lit.int .i64 W.time).wf=true
 next:(Lit.int .i64 W.next).wf=true
 sets:∀i,i<W.sn→SetWf (W.sets i)
 snaps:∀i,i<W.pn→SnapWf (W.snaps i)
theorem WorldWf.prevs{W:WorldD}(h:WorldWf W):PrevsWf W:=fun i hi=>by
 unfold memN at hi
 by_cases e:i<W.pn
 ·rw [memOf_snap e]; exact(h.snaps i e).2.1
 ·obtain⟨j,rfl⟩:∃j,i=W.pn+j:=⟨i - W.pn,by omega⟩
  rw [memOf_set]; exact(h.sets j (by omega)).2
theorem array6w{α : Type}{cs:Array α}(h:cs.size=6):∃c0 c1 c2 c3 c4 c5,cs=#[c0,c1,c2,c3,c4,c5]:=by
 obtain⟨l⟩:=cs
 match l,h with
 | [c0,c1,c2,c3,c4,c5],_=>exact⟨c0,c1,c2,c3,c4,c5,rfl⟩
theorem open_pool_cells{fuel:Nat}{c0 c1:Value}{x:DataW H×List MemPlace}(h:DataW.trod enc Tryz.prog W 0 spare held fuel 25 [c0,c1]=some x):∃p,PoolAt W 0 W.heap.size c0 c1 p:=by
 obtain⟨n0,y0,h0⟩:=field_of (t:=25) (T:=22) (o:=0) (c:=1) (i:=0) (by kernel_rfl) (by kernel_rfl) (by kernel_rfl) h
 obtain⟨n1,y1,h1⟩:=field_of (t:=25) (T:=23) (o:=1) (c:=1) (i:=1) (by kernel_rfl) (by kernel_rfl) (by kernel_rfl) h
 obtain⟨n,f,hsl⟩:=open_slots_at (v:=c0) (by simpa using h0)
 obtain⟨hn,g,hin⟩:=open_ints_at (v:=c1) (by simpa using h1)
 exact⟨⟨n,f,hn,g⟩,hsl,hin⟩
theorem open_world{r:Reach}{b0:Nat}{v:Value}{d:DataW H}{ps:List MemPlace}(hv:Value.okWide Tryz.prog W r b0 29 v)(h:DataW.Trod enc Tryz.prog W 0 spare held 29 v d ps) :
  ∃v0 v1 v2 v3 D,v=worldV v0 v1 v2 v3 D∧WorldAt W 0 W.heap.size v0 v1 v2 v3 D∧WorldWf D:=by
 have hs:Tryz.prog.underlying 29=some (.struct (Tryz.prog.fieldsOf 29)):=by kernel_rfl
 obtain⟨cs,rfl,hsz⟩:=okWide_struct hs hv
 obtain⟨c0,c1,c2,c3,c4,c5,rfl⟩:=array6w (hsz.trans (by kernel_rfl))
 obtain⟨fuel,hf⟩:=h
 have hf':DataW.trod enc Tryz.prog W 0 spare held fuel 29 [c0,c1,c2,c3,c4,c5]=some (d,ps):=by simpa [Value.cells] using hf
 obtain⟨n0,y0,h0⟩:=field_of (t:=29) (T:=25) (o:=0) (c:=2) (i:=0) (by kernel_rfl) (by kernel_rfl) (by kernel_rfl) hf'
 obtain⟨n1,y1,h1⟩:=field_of (t:=29) (T:=2) (o:=2) (c:=1) (i:=1) (by kernel_rfl) (by kernel_rfl) (by kernel_rfl) hf'
 obtain⟨n2,y2,h2⟩:=field_of (t:=29) (T:=2) (o:=3) (c:=1) (i:=2) (by kernel_rfl) (by kernel_rfl) (by kernel_rfl) hf'
 obtain⟨n3,y3,h3⟩:=field_of (t:=29) (T:=26) (o:=4) (c:=1) (i:=3) (by kernel_rfl) (by kernel_rfl) (by kernel_rfl) hf'
 obtain⟨n4,y4,h4⟩:=field_of (t:=29) (T:=27) (o:=5) (c:=1) (i:=4) (by kernel_rfl) (by kernel_rfl) (by kernel_rfl) hf'
 obtain⟨p,hp⟩:=open_pool_cells (c0:=c0) (c1:=c1) (by simpa using h0)
 obtain⟨z1,e1,-,w1⟩:=DataW.trod_int (show Tryz.prog.underlying 2=some (.int .i64)by kernel_rfl) h1
 obtain⟨z2,e2,-,w2⟩:=DataW.trod_int (show Tryz.prog.underlying 2=some (.int .i64)by kernel_rfl) h2
 obtain⟨sn,f,hS,hSw⟩:=open_sets_at (v:=c4) (by simpa using h3)
 obtain⟨pn,g,hP,hPw⟩:=open_snaps_at (v:=c5) (by simpa using h4)
 obtain rfl:c2 = .int .i64 z1:=by simpa using e1
 obtain rfl:c3 = .int .i64 z2:=by simpa using e2
 exact⟨c0,c1,c4,c5,⟨p,z1,z2,sn,f,pn,g⟩,rfl,⟨hp,hS,hP⟩,⟨w1,w2,hSw,hPw⟩⟩
end
end Go.Proofs.YteipkhpniokkgaaGreatDoor

namespace Go.Proofs.YteipkhpniokkgaaGreatDoor
open Go.RowKit Go.Maps
set_option linter.unusedVariables false
theorem setN_le(f:Nat→SetD):∀{n i:Nat},i<n→setN (f i)≤setsN f n
 | n+1,i,h=>by
  show setN (f i)≤setsN f n+setN (f n)
  by_cases e:i=n
  ·subst e; omega
  ·have:=setN_le f (show i<n by omega); omega
set_option maxRecDepth 20000 in
set_option maxHeartbeats 400000 in
theorem toSetS_any(v:Value)(n lo hi:Nat)(f:Nat→SetD)(w:World)(h1:SetsAt w lo hi v n f)(hn:n+setsN f n≤1048576) :
  Calls Tryz.prog 29 #[v] w fun e w'=>(∃v' kb kv,e = .returned v'∧SetsOwn w' w.heap.size kb kv v' n f∧SetsApart kb n f∧∀j,j<n→0<(f j).dn→w.heap.size<kb j∧kb j<w'.heap.size)∧Below w.heap.size w w'∧w.heap.size<w'.heap.size:=by
 have H1:=hideW h1
 obtain⟨m1,a,c,rfl,mc,-⟩:=id h1
 have hm1:=m1
 unfold maxLen at m1
 clear h1
 have Hn:=hideW hn
 have hmk:=make_zeros 34 65 (.agg #[.string ⟨#[]⟩,.int .i64 0,.int .i64 0,.int .i64 0,.int .i64 0,.slice none 0 0]) 6 72 (by kernel_rfl) infoSetT rfl n (by omega) (by omega)
 clear hn
 go_enter Tryz.func29,Tryz.ntmps29
 go_wp2
 go_loopw [4] (fun i wr=>∃(k:Nat) (kb:Nat→Nat) (kv:Nat→Value),k≤n∧i = .int .i64 k∧SetPart wr w.heap.size n k f kb kv∧Below w.heap.size w wr∧w.heap.size<wr.heap.size) (fun i _=>n - (intOf i).toNat)
 case atStart=>exact⟨0,fun _=>0,fun _=>.slice none 0 0,Nat.zero_le _,rfl,⟨fun j hj=>by rw [if_neg (by omega)]; exact nilSet_own hj rfl,fun i j hi=>absurd hi (by omega),fun j hj=>absurd hj (by omega)⟩,below_alloc _ _,by simp⟩
 case round=>
  obtain⟨k,kb,kv,hk,rfl,hpart,hb,hsz⟩:=hrel
  have Hpart:=hideW hpart
  clear hpart
  by_cases hlt:k<n
  ·have hlt':(k:Int)<(n:Int):=by omega
   obtain⟨b,off,vd,rfl,hs2⟩:=(H1.out.below hb).cells hlt
   obtain⟨-,ad,cd,rfl,-,-⟩:=id hs2.dead
   have q0:=hs2.c0
   have q1:=hs2.c1
   have q2:=hs2.c2
   have q3:=hs2.c3
   have q4:=hs2.c4
   have q5:=hs2.c5
   have Hs:=hideW hs2
   clear hs2
   go_wp2_with fail
   refine(toSet_any _ lo hi (f k) _ Hs.out.dead (by have h1:=Hn.out; have h2:=setN_le f hlt; unfold setN at h2; omega)).mono ?_
   rintro e w1 ⟨⟨nv,nb,rfl,hp,hnb1,hnb2⟩,hb1⟩
   have hb2:=below_next hb hb1
   have hz:=(Hpart.out.rows k hlt).below hb1
   obtain⟨e0,g0⟩:=hz.c0
   obtain⟨e1,g1⟩:=hz.c1
   obtain⟨e2,g2⟩:=hz.c2
   obtain⟨e3,g3⟩:=hz.c3
   obtain⟨e4,g4⟩:=hz.c4
   obtain⟨e5,g5⟩:=hz.c5
   clear q0 q1 q2 q3 q4 q5 hz
   rw [Nat.zero_add] at e0 g0 e1 g1 e2 g2 e3 g3 e4 g4 e5 g5
   have Hp:=hideW hp
   obtain⟨-,na,nc,rfl,-,-⟩:=id hp
   clear hp
   have hsz1:w.heap.size<w1.heap.size:=by have:=hb1.size; omega
   have Hb1:=hideW hb1
   clear hb1
   unfold setV
   go_wp2
   go_roundw
   case rel=>
    refine⟨k+1,(fun j=>if j=k then nb else kb j),(fun j=>if j=k then .slice na (f k).dn nc else kv j),by omega,by go_num,?_,?_,by simpa using hsz1⟩
    ·have hx:=Hpart.out.next hlt hsz Hb1.out Hp.out hnb1 hnb2 Hs.out.small
     rw [Nat.zero_add] at hx
     exact hx
    ·exact(((((hb2.setCell (Nat.le_refl _) _).setCell (Nat.le_refl _) _).setCell (Nat.le_refl _) _).setCell (Nat.le_refl _) _).setCell (Nat.le_refl _) _).setCell (Nat.le_refl _) _
   case measure=>simp [intOf]; omega
  ·obtain rfl:k=n:=by omega
   go_wp2
   go_ret
   refine⟨⟨_,kb,kv,rfl,⟨hm1,_,k,rfl,Nat.le_refl _,fun _=>⟨0,rfl,fun i hi=>?_⟩⟩,Hpart.out.apart,Hpart.out.place⟩,hb,hsz⟩
   have:=Hpart.out.rows i hi
   rw [if_pos hi] at this
   exact this
theorem snapN_le(f:Nat→SnapD):∀{n i:Nat},i<n→snapN (f i)≤snapsN f n
 | n+1,i,h=>by
  show snapN (f i)≤snapsN f n+snapN (f n)
  by_cases e:i=n
  ·subst e; omega
  ·have:=snapN_le f (show i<n by omega); omega
set_option maxRecDepth 20000 in
set_option maxHeartbeats 400000 in
theorem toSnapS_any(v:Value)(n lo hi:Nat)(f:Nat→SnapD)(w:World)(h1:SnapsAt w lo hi v n f)(hn:n+snapsN f n≤1048576) :
  Calls Tryz.prog 30 #[v] w fun e w'=>(∃v' kb kv,e = .returned v'∧SnapsOwn w' w.heap.size kb kv v' n f∧SnapsApart kb n f∧∀j,j<n→0<(f j).dn→w.heap.size<kb j∧kb j<w'.heap.size)∧Below w.heap.size w w'∧w.heap.size<w'.heap.size:=by
 have H1:=hideW h1
 obtain⟨m1,a,c,rfl,mc,-⟩:=id h1
 have hm1:=m1
 unfold maxLen at m1
 clear h1
 have Hn:=hideW hn
 have hmk:=make_zeros 35 92 (.agg #[.int .i64 0,.string ⟨#[]⟩,.string ⟨#[]⟩,.int .i64 0,.int .i64 0,.int .i64 0,.int .i64 0,.slice none 0 0]) 8 96 (by kernel_rfl) infoSnapT rfl n (by omega) (by omega)
 clear hn
 go_enter Tryz.func30,Tryz.ntmps30
 go_wp2
 go_loopw [4] (fun i wr=>∃(k:Nat) (kb:Nat→Nat) (kv:Nat→Value),k≤n∧i = .int .i64 k∧SnapPart wr w.heap.size n k f kb kv∧Below w.heap.size w wr∧w.heap.size<wr.heap.size) (fun i _=>n - (intOf i).toNat)
 case atStart=>exact⟨0,fun _=>0,fun _=>.slice none 0 0,Nat.zero_le _,rfl,⟨fun j hj=>by rw [if_neg (by omega)]; exact nilSnap_own hj rfl,fun i j hi=>absurd hi (by omega),fun j hj=>absurd hj (by omega)⟩,below_alloc _ _,by simp⟩
 case round=>
  obtain⟨k,kb,kv,hk,rfl,hpart,hb,hsz⟩:=hrel
  have Hpart:=hideW hpart
  clear hpart
  by_cases hlt:k<n
  ·have hlt':(k:Int)<(n:Int):=by omega
   obtain⟨b,off,vd,rfl,hs2⟩:=(H1.out.below hb).cells hlt
   obtain⟨-,ad,cd,rfl,-,-⟩:=id hs2.dead
   have q0:=hs2.c0
   have q1:=hs2.c1
   have q2:=hs2.c2
   have q3:=hs2.c3
   have q4:=hs2.c4
   have q5:=hs2.c5
   have q6:=hs2.c6
   have q7:=hs2.c7
   have Hs:=hideW hs2
   clear hs2
   go_wp2_with fail
   refine(toSnap_any _ lo hi (f k) _ Hs.out.dead (by have h1:=Hn.out; have h2:=snapN_le f hlt; unfold snapN at h2; omega)).mono ?_
   rintro e w1 ⟨⟨nv,nb,rfl,hp,hnb1,hnb2⟩,hb1⟩
   have hb2:=below_next hb hb1
   have hz:=(Hpart.out.rows k hlt).below hb1
   obtain⟨e0,g0⟩:=hz.c0
   obtain⟨e1,g1⟩:=hz.c1
   obtain⟨e2,g2⟩:=hz.c2
   obtain⟨e3,g3⟩:=hz.c3
   obtain⟨e4,g4⟩:=hz.c4
   obtain⟨e5,g5⟩:=hz.c5
   obtain⟨e6,g6⟩:=hz.c6
   obtain⟨e7,g7⟩:=hz.c7
   clear q0 q1 q2 q3 q4 q5 q6 q7 hz
   rw [Nat.zero_add] at e0 g0 e1 g1 e2 g2 e3 g3 e4 g4 e5 g5 e6 g6 e7 g7
   have Hp:=hideW hp
   obtain⟨-,na,nc,rfl,-,-⟩:=id hp
   clear hp
   have hsz1:w.heap.size<w1.heap.size:=by have:=hb1.size; omega
   have Hb1:=hideW hb1
   clear hb1
   unfold snapV
   go_wp2
   go_roundw
   case rel=>
    refine⟨k+1,(fun j=>if j=k then nb else kb j),(fun j=>if j=k then .slice na (f k).dn nc else kv j),by omega,by go_num,?_,?_,by simpa using hsz1⟩
    ·have hx:=Hpart.out.next hlt hsz Hb1.out Hp.out hnb1 hnb2 Hs.out.small
     rw [Nat.zero_add] at hx
     exact hx
    ·exact(((((((hb2.setCell (Nat.le_refl _) _).setCell (Nat.le_refl _) _).setCell (Nat.le_refl _) _).setCell (Nat.le_refl _) _).setCell (Nat.le_refl _) _).setCell (Nat.le_refl _) _).setCell (Nat.le_refl _) _).setCell (Nat.le_refl _) _
   case measure=>simp [intOf]; omega
  ·obtain rfl:k=n:=by omega
   go_wp2
   go_ret
   refine⟨⟨_,kb,kv,rfl,⟨hm1,_,k,rfl,Nat.le_refl _,fun _=>⟨0,rfl,fun i hi=>?_⟩⟩,Hpart.out.apart,Hpart.out.place⟩,hb,hsz⟩
   have:=Hpart.out.rows i hi
   rw [if_pos hi] at this
   exact this
end Go.Proofs.YteipkhpniokkgaaGreatDoor
