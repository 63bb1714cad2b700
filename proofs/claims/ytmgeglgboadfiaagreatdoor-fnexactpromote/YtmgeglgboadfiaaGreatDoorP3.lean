/- What (impl.deed).refused asks of the texts and of the names. -/
import Derived.Test.YtmgeglgboadfiaaGreatDoorP1
import Derived.Test.YtmgeglgboadfiaaGreatDoorP2
import Derived.Test.YtmgeglgboadfiaaGreatDoorProg
import GoSem.ClaimJoined
import GoSem.ClaimMapViews
import Derived.JoinedTies
import Derived.KernelRfl
import Derived.RowKit
import Derived.BigQuiet
import Derived.RegionTactic
import Derived.ChangeAlike
import Derived.BigRegion
import Derived.Maps.OwnSet
namespace Go.Proofs.YtmgeglgboadfiaaGreatDoor
open Go.RowKit
set_option linter.unusedVariables false
def TextsAt(w:World)(v:Value)(n:Nat)(f:Nat→ByteArray):Prop:=
 n≤1000∧∃a c,v = .slice a n c∧(∀i,i<n→(f i).size≤maxLen)∧(0<n→∃b off,a=some ⟨b,off,none⟩∧∀i,i<n→w.cell? ⟨b,off+i,none⟩=some (.string (f i)))
theorem TextsAt.below{w w':World}{v:Value}{n:Nat}{f:Nat→ByteArray}(h:TextsAt w v n f)(t:Below w.heap.size w w'):TextsAt w' v n f:=by
 obtain⟨m,a,c,hv,hs,hx⟩:=h
 refine⟨m,a,c,hv,hs,fun h0=>?_⟩
 obtain⟨b,off,ha,hc⟩:=hx h0
 exact⟨b,off,ha,fun i hi=>(t.cell (lt_of_cell (hc i hi))).trans (hc i hi)⟩
theorem TextsAt.cells{w:World}{a:Option Addr}{c n:Nat}{f:Nat→ByteArray}(h:TextsAt w (.slice a n c) n f){i:Nat}(hi:i<n):∃b off,a=some ⟨b,off,none⟩∧w.cell? ⟨b,off+i,none⟩=some (.string (f i)):=by
 obtain⟨m,a0,c0,hv,hs,hx⟩:=h
 simp only [Value.slice.injEq,true_and] at hv
 obtain⟨rfl,rfl⟩:=hv
 obtain⟨b,off,ha,hc⟩:=hx (by omega)
 exact⟨b,off,ha,hc i hi⟩
set_option maxRecDepth 20000 in
set_option maxHeartbeats 2000000 in
theorem longT_any(s:ByteArray)(w:World)(hs:s.size≤maxLen):Calls Tryz.prog 164 #[.string s] w fun e w'=>BoolIs (8000<s.size) e∧Below w.heap.size w w':=by
 unfold maxLen at hs
 by_cases h:8000<s.size
 ·have h':(8000:Int)<(s.size:Int):=by omega
  have H:=hideE h
  clear h
  go_enter Tryz.func164,Tryz.ntmps164
  go_wp2
  go_ret
  exact⟨BoolIs.yes H.out,Below.refl _ _⟩
 ·have h':¬(8000:Int)<(s.size:Int):=by omega
  have H:=hideE h
  clear h
  go_enter Tryz.func164,Tryz.ntmps164
  go_wp2
  go_ret
  exact⟨BoolIs.no H.out,Below.refl _ _⟩
set_option maxRecDepth 20000 in
set_option maxHeartbeats 2000000 in
theorem badT_any(s:ByteArray)(w:World)(hs:s.size≤maxLen):Calls Tryz.prog 166 #[.string s] w fun e w'=>BoolIs (¬NameP s) e∧Below w.heap.size w w':=by
 go_enter Tryz.func166,Tryz.ntmps166
 go_wp2_with fail
 refine(implName_any s w hs).mono ?_
 rintro e w1 ⟨⟨t,rfl,ht⟩,rfl⟩
 by_cases hf:NameP s
 ·obtain rfl:t=true:=ht.2 hf
  have HF:=hideE hf
  clear ht hf
  go_wp2
  go_ret
  exact⟨BoolIs.no (fun h=>h HF.out),Below.refl _ _⟩
 ·obtain rfl:t=false:=bool_no ht hf
  have HF:=hideE hf
  clear ht hf
  go_wp2
  go_ret
  exact⟨BoolIs.yes HF.out,Below.refl _ _⟩
set_option maxRecDepth 20000 in
set_option maxHeartbeats 2000000 in
theorem indexT1_any(v:Value)(n:Nat)(f:Nat→ByteArray)(w:World)(h:TextsAt w v n f) :
  Calls Tryz.prog 201 #[v,.func (.func 164) #[] #[]] w fun e w'=>((∃i:Nat,i<n∧8000<(f i).size∧e = .returned (.int .i64 (i:Int)))∨((∀j,j<n→¬8000<(f j).size)∧e = .returned (.int .i64 (-1))))∧Below w.heap.size w w':=by
 have Hp:=hideE h
 obtain⟨m1,a,c,rfl,hs,-⟩:=h
 have Hs:=hideE hs
 clear hs
 go_enter Tryz.func201,Tryz.ntmps201
 go_wp2
 go_loopw [8] (fun i wr=>∃k:Nat,k≤n∧i = .int .i64 k∧(∀j,j<k→¬8000<(f j).size)∧Below w.heap.size w wr) (fun i _=>n - (intOf i).toNat)
 case atStart=>exact⟨0,Nat.zero_le _,rfl,fun j hj=>absurd hj (Nat.not_lt_zero _),Below.refl _ _⟩
 case round=>
  obtain⟨k,hk,rfl,hall,hb⟩:=hrel
  have Hall:=hideE hall
  clear hall
  by_cases hlt:k<n
  ·have hlt':(k:Int)<(n:Int):=by omega
   obtain⟨b,off,rfl,q0⟩:=(Hp.out.below hb).cells hlt
   have hsz:=Hs.out k hlt
   go_wp2_with fail
   refine(longT_any (f k) _ hsz).mono ?_
   rintro e w1 ⟨⟨t,rfl,ht⟩,hb1⟩
   have hbn:=below_next hb hb1
   clear hb1 q0
   by_cases hf:8000<(f k).size
   ·obtain rfl:t=true:=ht.2 hf
    have HF:=hideE hf
    clear ht hf
    go_wp2
    go_ret
    exact⟨Or.inl ⟨k,hlt,HF.out,rfl⟩,hbn⟩
   ·obtain rfl:t=false:=bool_no ht hf
    have HF:=hideE hf
    clear ht hf
    go_wp2
    go_roundw
    case rel=>
     refine⟨k+1,by omega,by go_num,fun j hj=>?_,hbn⟩
     by_cases e:j=k
     ·subst e; exact HF.out
     ·exact Hall.out j (by omega)
    case measure=>simp [intOf]; omega
  ·obtain rfl:k=n:=by omega
   go_wp2
   go_ret
   exact⟨Or.inr ⟨Hall.out,rfl⟩,hb⟩
set_option maxRecDepth 20000 in
set_option maxHeartbeats 2000000 in
theorem hasT1_any(v:Value)(n:Nat)(f:Nat→ByteArray)(w:World)(h:TextsAt w v n f) :
  Calls Tryz.prog 163 #[v,.func (.func 164) #[] #[]] w fun e w'=>BoolIs (∃i,i<n∧8000<(f i).size) e∧Below w.heap.size w w':=by
 have Hp:=hideE h
 obtain⟨m1,a,c,rfl,hs,-⟩:=h
 go_enter Tryz.func163,Tryz.ntmps163
 go_wp2_with fail
 refine(indexT1_any _ n f w Hp.out).mono ?_
 rintro e w1 ⟨hr,hb1⟩
 rcases hr with⟨i,hi,hP,rfl⟩ | ⟨hno,rfl⟩
 ·have HP:=hideE (show ∃i,i<n∧8000<(f i).size from⟨i,hi,hP⟩)
  have h0:(0:Int)≤(i:Int):=by omega
  clear hP
  go_wp2
  go_ret
  exact⟨BoolIs.yes HP.out,hb1⟩
 ·have HP:=hideE hno
  clear hno
  go_wp2
  go_ret
  exact⟨BoolIs.no fun ⟨i,hi,hq⟩=>HP.out i hi hq,hb1⟩
set_option maxRecDepth 20000 in
set_option maxHeartbeats 2000000 in
theorem indexT2_any(v:Value)(n:Nat)(f:Nat→ByteArray)(w:World)(h:TextsAt w v n f) :
  Calls Tryz.prog 201 #[v,.func (.func 166) #[] #[]] w fun e w'=>((∃i:Nat,i<n∧¬NameP (f i)∧e = .returned (.int .i64 (i:Int)))∨((∀j,j<n→¬¬NameP (f j))∧e = .returned (.int .i64 (-1))))∧Below w.heap.size w w':=by
 have Hp:=hideE h
 obtain⟨m1,a,c,rfl,hs,-⟩:=h
 have Hs:=hideE hs
 clear hs
 go_enter Tryz.func201,Tryz.ntmps201
 go_wp2
 go_loopw [8] (fun i wr=>∃k:Nat,k≤n∧i = .int .i64 k∧(∀j,j<k→¬¬NameP (f j))∧Below w.heap.size w wr) (fun i _=>n - (intOf i).toNat)
 case atStart=>exact⟨0,Nat.zero_le _,rfl,fun j hj=>absurd hj (Nat.not_lt_zero _),Below.refl _ _⟩
 case round=>
  obtain⟨k,hk,rfl,hall,hb⟩:=hrel
  have Hall:=hideE hall
  clear hall
  by_cases hlt:k<n
  ·have hlt':(k:Int)<(n:Int):=by omega
   obtain⟨b,off,rfl,q0⟩:=(Hp.out.below hb).cells hlt
   have hsz:=Hs.out k hlt
   go_wp2_with fail
   refine(badT_any (f k) _ hsz).mono ?_
   rintro e w1 ⟨⟨t,rfl,ht⟩,hb1⟩
   have hbn:=below_next hb hb1
   clear hb1 q0
   by_cases hf:¬NameP (f k)
   ·obtain rfl:t=true:=ht.2 hf
    have HF:=hideE hf
    clear ht hf
    go_wp2
    go_ret
    exact⟨Or.inl ⟨k,hlt,HF.out,rfl⟩,hbn⟩
   ·obtain rfl:t=false:=bool_no ht hf
    have HF:=hideE hf
    clear ht hf
    go_wp2
    go_roundw
    case rel=>
     refine⟨k+1,by omega,by go_num,fun j hj=>?_,hbn⟩
     by_cases e:j=k
     ·subst e; exact HF.out
     ·exact Hall.out j (by omega)
    case measure=>simp [intOf]; omega
  ·obtain rfl:k=n:=by omega
   go_wp2
   go_ret
   exact⟨Or.inr ⟨Hall.out,rfl⟩,hb⟩
set_option maxRecDepth 20000 in
set_option maxHeartbeats 2000000 in
theorem hasT2_any(v:Value)(n:Nat)(f:Nat→ByteArray)(w:World)(h:TextsAt w v n f) :
  Calls Tryz.prog 163 #[v,.func (.func 166) #[] #[]] w fun e w'=>BoolIs (∃i,i<n∧¬NameP (f i)) e∧Below w.heap.size w w':=by
 have Hp:=hideE h
 obtain⟨m1,a,c,rfl,hs,-⟩:=h
 go_enter Tryz.func163,Tryz.ntmps163
 go_wp2_with fail
 refine(indexT2_any _ n f w Hp.out).mono ?_
 rintro e w1 ⟨hr,hb1⟩
 rcases hr with⟨i,hi,hP,rfl⟩ | ⟨hno,rfl⟩
 ·have HP:=hideE (show ∃i,i<n∧¬NameP (f i)from⟨i,hi,hP⟩)
  have h0:(0:Int)≤(i:Int):=by omega
  clear hP
  go_wp2
  go_ret
  exact⟨BoolIs.yes HP.out,hb1⟩
 ·have HP:=hideE hno
  clear hno
  go_wp2
  go_ret
  exact⟨BoolIs.no fun ⟨i,hi,hq⟩=>HP.out i hi hq,hb1⟩
structure SetD where
 name:ByteArray
 origin:Int
 prev:Int
 rs:Int
 rb:Int
 dn:Nat
 ds:Nat→Int
 db:Nat→Int
structure SnapD where
 id:Int
 name:ByteArray
 set:ByteArray
 prev:Int
 time:Int
 rs:Int
 rb:Int
 dn:Nat
 ds:Nat→Int
 db:Nat→Int
structure WorldD where
 pool:PoolD
 time:Int
 next:Int
 sn:Nat
 sets:Nat→SetD
 pn:Nat
 snaps:Nat→SnapD
structure SetCells (w:World) (b o lo hi:Nat) (vd:Value) (s:SetD):Prop where
 c0:w.cell? ⟨b,o,none⟩=some (.string s.name)
 c1:w.cell? ⟨b,o+1,none⟩=some (.int .i64 s.origin)
 c2:w.cell? ⟨b,o+2,none⟩=some (.int .i64 s.prev)
 c3:w.cell? ⟨b,o+3,none⟩=some (.int .i64 s.rs)
 c4:w.cell? ⟨b,o+4,none⟩=some (.int .i64 s.rb)
 c5:w.cell? ⟨b,o+5,none⟩=some vd
 dead:PtrsAt w lo hi vd s.dn s.ds s.db
 small:s.name.size≤maxLen
theorem SetCells.below{w w':World}{b o lo hi:Nat}{vd:Value}{s:SetD}(h:SetCells w b o lo hi vd s)(t:Below w.heap.size w w'):SetCells w' b o lo hi vd s:=
 ⟨(t.cell (lt_of_cell h.c0)).trans h.c0,(t.cell (lt_of_cell h.c1)).trans h.c1,(t.cell (lt_of_cell h.c2)).trans h.c2,(t.cell (lt_of_cell h.c3)).trans h.c3,(t.cell (lt_of_cell h.c4)).trans h.c4,(t.cell (lt_of_cell h.c5)).trans h.c5,h.dead.below t,h.small⟩
structure SnapCells (w:World) (b o lo hi:Nat) (vd:Value) (s:SnapD):Prop where
 c0:w.cell? ⟨b,o,none⟩=some (.int .i64 s.id)
 c1:w.cell? ⟨b,o+1,none⟩=some (.string s.name)
 c2:w.cell? ⟨b,o+2,none⟩=some (.string s.set)
 c3:w.cell? ⟨b,o+3,none⟩=some (.int .i64 s.prev)
 c4:w.cell? ⟨b,o+4,none⟩=some (.int .i64 s.time)
 c5:w.cell? ⟨b,o+5,none⟩=some (.int .i64 s.rs)
 c6:w.cell? ⟨b,o+6,none⟩=some (.int .i64 s.rb)
 c7:w.cell? ⟨b,o+7,none⟩=some vd
 dead:PtrsAt w lo hi vd s.dn s.ds s.db
 small:s.name.size≤maxLen∧s.set.size≤maxLen
theorem SnapCells.below{w w':World}{b o lo hi:Nat}{vd:Value}{s:SnapD}(h:SnapCells w b o lo hi vd s)(t:Below w.heap.size w w'):SnapCells w' b o lo hi vd s:=
 ⟨(t.cell (lt_of_cell h.c0)).trans h.c0,(t.cell (lt_of_cell h.c1)).trans h.c1,(t.cell (lt_of_cell h.c2)).trans h.c2,(t.cell (lt_of_cell h.c3)).trans h.c3,(t.cell (lt_of_cell h.c4)).trans h.c4,(t.cell (lt_of_cell h.c5)).trans h.c5,(t.cell (lt_of_cell h.c6)).trans h.c6,(t.cell (lt_of_cell h.c7)).trans h.c7,h.dead.below t,h.small⟩
def SetsAt(w:World)(lo hi:Nat)(v:Value)(n:Nat)(f:Nat→SetD):Prop:=
 n≤maxLen∧∃a cap,v = .slice a n cap∧n≤cap∧(0<n→∃b off,a=some ⟨b,off,none⟩∧lo≤b∧b<hi∧∀i,i<n→∃vd,SetCells w b (off+i*6) lo hi vd (f i))
def SnapsAt(w:World)(lo hi:Nat)(v:Value)(n:Nat)(f:Nat→SnapD):Prop:=
 n≤maxLen∧∃a cap,v = .slice a n cap∧n≤cap∧(0<n→∃b off,a=some ⟨b,off,none⟩∧lo≤b∧b<hi∧∀i,i<n→∃vd,SnapCells w b (off+i*8) lo hi vd (f i))
theorem SetsAt.below{w w':World}{lo hi:Nat}{v:Value}{n:Nat}{f:Nat→SetD}(h:SetsAt w lo hi v n f)(t:Below w.heap.size w w'):SetsAt w' lo hi v n f:=by
 obtain⟨h0,a,cap,hv,hcc,hc⟩:=h
 refine⟨h0,a,cap,hv,hcc,fun hn=>?_⟩
 obtain⟨b,off,ha,h1,h2,h3⟩:=hc hn
 refine⟨b,off,ha,h1,h2,fun i hi=>?_⟩
 obtain⟨vd,hs⟩:=h3 i hi
 exact⟨vd,hs.below t⟩
theorem SnapsAt.below{w w':World}{lo hi:Nat}{v:Value}{n:Nat}{f:Nat→SnapD}(h:SnapsAt w lo hi v n f)(t:Below w.heap.size w w'):SnapsAt w' lo hi v n f:=by
 obtain⟨h0,a,cap,hv,hcc,hc⟩:=h
 refine⟨h0,a,cap,hv,hcc,fun hn=>?_⟩
 obtain⟨b,off,ha,h1,h2,h3⟩:=hc hn
 refine⟨b,off,ha,h1,h2,fun i hi=>?_⟩
 obtain⟨vd,hs⟩:=h3 i hi
 exact⟨vd,hs.below t⟩
theorem SetsAt.cells{w:World}{lo hi:Nat}{a:Option Addr}{n c:Nat}{f:Nat→SetD}(h:SetsAt w lo hi (.slice a n c) n f){i:Nat}(hi':i<n):∃b off vd,a=some ⟨b,off,none⟩∧SetCells w b (off+i*6) lo hi vd (f i):=by
 obtain⟨h0,a2,cap,hv,hcc,hx⟩:=h
 simp only [Value.slice.injEq,true_and] at hv
 obtain⟨rfl,rfl⟩:=hv
 obtain⟨b,off,ha,h1,h2,h3⟩:=hx (by omega)
 obtain⟨vd,hs⟩:=h3 i hi'
 exact⟨b,off,vd,ha,hs⟩
theorem SnapsAt.cells{w:World}{lo hi:Nat}{a:Option Addr}{n c:Nat}{f:Nat→SnapD}(h:SnapsAt w lo hi (.slice a n c) n f){i:Nat}(hi':i<n):∃b off vd,a=some ⟨b,off,none⟩∧SnapCells w b (off+i*8) lo hi vd (f i):=by
 obtain⟨h0,a2,cap,hv,hcc,hx⟩:=h
 simp only [Value.slice.injEq,true_and] at hv
 obtain⟨rfl,rfl⟩:=hv
 obtain⟨b,off,ha,h1,h2,h3⟩:=hx (by omega)
 obtain⟨vd,hs⟩:=h3 i hi'
 exact⟨b,off,vd,ha,hs⟩
structure WorldAt (w:World) (lo hi:Nat) (v0 v1 v2 v3:Value) (W:WorldD):Prop where
 pool:PoolAt w lo hi v0 v1 W.pool
 sets:SetsAt w lo hi v2 W.sn W.sets
 snaps:SnapsAt w lo hi v3 W.pn W.snaps
theorem WorldAt.below{w w':World}{lo hi:Nat}{v0 v1 v2 v3:Value}{W:WorldD}(h:WorldAt w lo hi v0 v1 v2 v3 W)(t:Below w.heap.size w w'):WorldAt w' lo hi v0 v1 v2 v3 W:=⟨h.pool.below t,h.sets.below t,h.snaps.below t⟩
abbrev worldV(v0 v1 v2 v3:Value)(W:WorldD):Value:=.agg #[v0,v1,.int .i64 W.time,.int .i64 W.next,v2,v3]
def SnapNo(W:WorldD)(id:Int)(k:Nat):Prop:=k<W.pn∧(W.snaps k).id=id∧∀j,j<k→(W.snaps j).id≠id
def SetNo(W:WorldD)(name:ByteArray)(k:Nat):Prop:=k<W.sn∧(W.sets k).name=name∧∀j,j<k→(W.sets j).name≠name
theorem SnapNo.uniq{W:WorldD}{id:Int}{i j:Nat}(h:SnapNo W id i)(h':SnapNo W id j):i=j:=by
 rcases Nat.lt_trichotomy i j with e | e | e
 ·exact absurd h.2.1 (h'.2.2 i e)
 ·exact e
 ·exact absurd h'.2.1 (h.2.2 j e)
theorem SetNo.uniq{W:WorldD}{name:ByteArray}{i j:Nat}(h:SetNo W name i)(h':SetNo W name j):i=j:=by
 rcases Nat.lt_trichotomy i j with e | e | e
 ·exact absurd h.2.1 (h'.2.2 i e)
 ·exact e
 ·exact absurd h'.2.1 (h.2.2 j e)
end Go.Proofs.YtmgeglgboadfiaaGreatDoor

namespace Go.Proofs.YtmgeglgboadfiaaGreatDoor
open Go Go.RowKit
set_option linter.unusedVariables false
def Box6(w:World)(b:Nat)(v0 v1 v2 v3 v4 v5:Value):Prop:=Cell w b 0 v0∧Cell w b 1 v1∧Cell w b 2 v2∧Cell w b 3 v3∧Cell w b 4 v4∧Cell w b 5 v5
theorem Box6.below{w w':World}{b:Nat}{v0 v1 v2 v3 v4 v5:Value}(h:Box6 w b v0 v1 v2 v3 v4 v5)(t:Below w.heap.size w w'):Box6 w' b v0 v1 v2 v3 v4 v5:=⟨h.1.below t,h.2.1.below t,h.2.2.1.below t,h.2.2.2.1.below t,h.2.2.2.2.1.below t,h.2.2.2.2.2.below t⟩
theorem Box6.turned{S:Nat→Prop}{w w':World}{b:Nat}{v0 v1 v2 v3 v4 v5:Value}(h:Box6 w b v0 v1 v2 v3 v4 v5)(t:Turned S w w')(hs:¬S b):Box6 w' b v0 v1 v2 v3 v4 v5:=⟨h.1.turned t hs,h.2.1.turned t hs,h.2.2.1.turned t hs,h.2.2.2.1.turned t hs,h.2.2.2.2.1.turned t hs,h.2.2.2.2.2.turned t hs⟩
theorem Box6.new(w:World)(v0 v1 v2 v3 v4 v5:Value)(t:TypeId):Box6 (w.alloc (.cells #[v0,v1,v2,v3,v4,v5] t)) w.heap.size v0 v1 v2 v3 v4 v5:=by
 have hb:(w.alloc (.cells #[v0,v1,v2,v3,v4,v5] t)).heap[w.heap.size]?=some (.cells #[v0,v1,v2,v3,v4,v5] t):=heap_alloc_new _ _
 exact⟨cell_of_block hb rfl,cell_of_block hb rfl,cell_of_block hb rfl,cell_of_block hb rfl,cell_of_block hb rfl,cell_of_block hb rfl⟩
abbrev put6(w:World)(b:Nat)(u0 u1 u2 u3 u4 u5:Value):World:=(((((w.setCell ⟨b,0,none⟩ u0).setCell ⟨b,1,none⟩ u1).setCell ⟨b,2,none⟩ u2).setCell ⟨b,3,none⟩ u3).setCell ⟨b,4,none⟩ u4).setCell ⟨b,5,none⟩ u5
theorem Box6.put{w:World}{b:Nat}{v0 v1 v2 v3 v4 v5:Value}(h:Box6 w b v0 v1 v2 v3 v4 v5)(u0 u1 u2 u3 u4 u5:Value):Box6 (put6 w b u0 u1 u2 u3 u4 u5) b u0 u1 u2 u3 u4 u5:=by
 obtain⟨h0,h1,h2,h3,h4,h5⟩:=h
 refine⟨?_,?_,?_,?_,?_,?_⟩
 ·exact(((((h0.set _).other _ (Or.inr (by omega))).other _ (Or.inr (by omega))).other _ (Or.inr (by omega))).other _ (Or.inr (by omega))).other _ (Or.inr (by omega))
 ·exact(((((h1.other _ (Or.inr (by omega))).set _).other _ (Or.inr (by omega))).other _ (Or.inr (by omega))).other _ (Or.inr (by omega))).other _ (Or.inr (by omega))
 ·exact(((((h2.other _ (Or.inr (by omega))).other _ (Or.inr (by omega))).set _).other _ (Or.inr (by omega))).other _ (Or.inr (by omega))).other _ (Or.inr (by omega))
 ·exact(((((h3.other _ (Or.inr (by omega))).other _ (Or.inr (by omega))).other _ (Or.inr (by omega))).set _).other _ (Or.inr (by omega))).other _ (Or.inr (by omega))
 ·exact(((((h4.other _ (Or.inr (by omega))).other _ (Or.inr (by omega))).other _ (Or.inr (by omega))).other _ (Or.inr (by omega))).set _).other _ (Or.inr (by omega))
 ·exact(((((h5.other _ (Or.inr (by omega))).other _ (Or.inr (by omega))).other _ (Or.inr (by omega))).other _ (Or.inr (by omega))).other _ (Or.inr (by omega))).set _
theorem Turned.put6(w:World)(b:Nat)(u0 u1 u2 u3 u4 u5:Value):Turned (fun k=>k=b) w (put6 w b u0 u1 u2 u3 u4 u5):=
 (((((Turned.put w b 0 u0).trans (Turned.put _ b 1 u1)).trans (Turned.put _ b 2 u2)).trans (Turned.put _ b 3 u3)).trans (Turned.put _ b 4 u4)).trans (Turned.put _ b 5 u5)
end Go.Proofs.YtmgeglgboadfiaaGreatDoor

namespace Go.Proofs.YtmgeglgboadfiaaGreatDoor
open Go.RowKit
set_option linter.unusedVariables false
theorem hideW{P:Prop}(h:P):Hid P:=h
def FirstAt(n:Nat)(P:Nat→Prop)(r:Int):Prop:=(∃k:Nat,k<n∧P k∧(∀j,j<k→¬P j)∧r=k)∨((∀j,j<n→¬P j)∧r = -1)
set_option maxRecDepth 20000 in
set_option maxHeartbeats 1000000 in
theorem l04Snap_any(v0 v1 v2 v3:Value)(lo hi:Nat)(W:WorldD)(x:Int)(w:World)(h:WorldAt w lo hi v0 v1 v2 v3 W) :
  Calls Tryz.prog 49 #[worldV v0 v1 v2 v3 W,.int .i64 x] w fun e w'=>∃r:Int,e = .returned (.int .i64 r)∧FirstAt W.pn (fun k=>(W.snaps k).id=x) r∧Below w.heap.size w w':=by
 have Hp:=hideW h.snaps
 obtain⟨m1,a,c,rfl,mc,_⟩:=id h.snaps
 unfold maxLen at m1
 clear h
 have ha:=below_alloc w (.cells #[v0,v1,.int .i64 W.time,.int .i64 W.next,v2,.slice a W.pn c] 37)
 have HB:=hideW (Box6.new w v0 v1 (.int .i64 W.time) (.int .i64 W.next) v2 (.slice a W.pn c) 37)
 go_enter Tryz.func49,Tryz.ntmps49
 go_wp2
 go_loopw [5] (fun i wr=>∃k:Nat,k≤W.pn∧i = .int .i64 k∧(∀j,j<k→¬(W.snaps j).id=x)∧Box6 wr w.heap.size v0 v1 (.int .i64 W.time) (.int .i64 W.next) v2 (.slice a W.pn c)∧Below w.heap.size w wr) (fun i _=>W.pn - (intOf i).toNat)
 case atStart=>exact⟨0,Nat.zero_le _,rfl,fun j hj=>absurd hj (Nat.not_lt_zero _),HB.out,ha⟩
 case round=>
  obtain⟨k,hk,rfl,hno,hX,hb⟩:=hrel
  have Hno:=hideW hno
  have HX:=hideW hX
  clear hno hX
  obtain⟨⟨x0,x1⟩,⟨x2,x3⟩,⟨x4,x5⟩,⟨x6,x7⟩,⟨x8,x9⟩,⟨x10,x11⟩⟩:=HX.out
  by_cases hlt:k<W.pn
  ·have hlt':(k:Int)<(W.pn:Int):=by omega
   obtain⟨b,off,vd,rfl,hs⟩:=(Hp.out.below hb).cells hlt
   have q0:=hs.c0
   clear hs
   by_cases he:(W.snaps k).id=x
   ·have H:=hideW he
    rw [he] at q0
    clear he
    go_wp2
    go_ret
    exact⟨k,rfl,Or.inl ⟨k,hlt,H.out,Hno.out,rfl⟩,hb⟩
   ·have H:=hideW he
    have e0:((W.snaps k).id == x)=false:=by simp [he]
    clear he
    go_wp2
    go_roundw
    case rel=>
     refine⟨k+1,by omega,by go_num,?_,HX.out,hb⟩
     intro j hj
     by_cases e:j=k
     ·subst e; exact H.out
     ·exact Hno.out j (by omega)
    case measure=>simp [intOf]; omega
  ·obtain rfl:k=W.pn:=by omega
   go_wp2
   go_ret
   exact⟨-1,rfl,Or.inr ⟨Hno.out,rfl⟩,hb⟩
set_option maxRecDepth 20000 in
set_option maxHeartbeats 1000000 in
theorem l04Set_any(v0 v1 v2 v3:Value)(lo hi:Nat)(W:WorldD)(x:ByteArray)(w:World)(h:WorldAt w lo hi v0 v1 v2 v3 W) :
  Calls Tryz.prog 27 #[worldV v0 v1 v2 v3 W,.string x] w fun e w'=>∃r:Int,e = .returned (.int .i64 r)∧FirstAt W.sn (fun k=>(W.sets k).name=x) r∧Below w.heap.size w w':=by
 have Hp:=hideW h.sets
 obtain⟨m1,a,c,rfl,mc,_⟩:=id h.sets
 unfold maxLen at m1
 clear h
 have ha:=below_alloc w (.cells #[v0,v1,.int .i64 W.time,.int .i64 W.next,.slice a W.sn c,v3] 37)
 have HB:=hideW (Box6.new w v0 v1 (.int .i64 W.time) (.int .i64 W.next) (.slice a W.sn c) v3 37)
 go_enter Tryz.func27,Tryz.ntmps27
 go_wp2
 go_loopw [5] (fun i wr=>∃k:Nat,k≤W.sn∧i = .int .i64 k∧(∀j,j<k→¬(W.sets j).name=x)∧Box6 wr w.heap.size v0 v1 (.int .i64 W.time) (.int .i64 W.next) (.slice a W.sn c) v3∧Below w.heap.size w wr) (fun i _=>W.sn - (intOf i).toNat)
 case atStart=>exact⟨0,Nat.zero_le _,rfl,fun j hj=>absurd hj (Nat.not_lt_zero _),HB.out,ha⟩
 case round=>
  obtain⟨k,hk,rfl,hno,hX,hb⟩:=hrel
  have Hno:=hideW hno
  have HX:=hideW hX
  clear hno hX
  obtain⟨⟨x0,x1⟩,⟨x2,x3⟩,⟨x4,x5⟩,⟨x6,x7⟩,⟨x8,x9⟩,⟨x10,x11⟩⟩:=HX.out
  by_cases hlt:k<W.sn
  ·have hlt':(k:Int)<(W.sn:Int):=by omega
   obtain⟨b,off,vd,rfl,hs⟩:=(Hp.out.below hb).cells hlt
   have q0:=hs.c0
   clear hs
   by_cases he:(W.sets k).name=x
   ·have H:=hideW he
    rw [he] at q0
    clear he
    go_wp2
    go_ret
    exact⟨k,rfl,Or.inl ⟨k,hlt,H.out,Hno.out,rfl⟩,hb⟩
   ·have H:=hideW he
    have e0:((W.sets k).name.toList == x.toList)=false:=str_ne he
    clear he
    go_wp2
    go_roundw
    case rel=>
     refine⟨k+1,by omega,by go_num,?_,HX.out,hb⟩
     intro j hj
     by_cases e:j=k
     ·subst e; exact H.out
     ·exact Hno.out j (by omega)
    case measure=>simp [intOf]; omega
  ·obtain rfl:k=W.sn:=by omega
   go_wp2
   go_ret
   exact⟨-1,rfl,Or.inr ⟨Hno.out,rfl⟩,hb⟩
def AheadIs(W:WorldD)(x s b t:Int):Prop:=(∃k,x≠0∧SnapNo W x k∧s=(W.snaps k).rs∧b=(W.snaps k).rb∧t=(W.snaps k).time)∨((x=0∨∀k,k<W.pn→(W.snaps k).id≠x)∧s=0∧b=0∧t=0)
set_option maxRecDepth 20000 in
set_option maxHeartbeats 2000000 in
theorem l04Ahead_any(v0 v1 v2 v3:Value)(lo hi:Nat)(W:WorldD)(x:Int)(w:World)(h:WorldAt w lo hi v0 v1 v2 v3 W) :
  Calls Tryz.prog 52 #[worldV v0 v1 v2 v3 W,.int .i64 x] w fun e w'=>∃s b t:Int,e = .returned (.tuple #[.agg #[.int .i64 s,.int .i64 b],.int .i64 t])∧AheadIs W x s b t∧Below w.heap.size w w':=by
 have Hp:=hideW h
 obtain⟨m1,a,c,rfl,mc,_⟩:=id h.snaps
 unfold maxLen at m1
 clear h
 have ha:=below_alloc w (.cells #[v0,v1,.int .i64 W.time,.int .i64 W.next,v2,.slice a W.pn c] 37)
 have hB:=Box6.new w v0 v1 (.int .i64 W.time) (.int .i64 W.next) v2 (.slice a W.pn c) 37
 have ha2:=below_alloc (w.alloc (.cells #[v0,v1,.int .i64 W.time,.int .i64 W.next,v2,.slice a W.pn c] 37)) (.cells #[.int .i64 0,.int .i64 0] 61)
 have hR:=Box2.new (w.alloc (.cells #[v0,v1,.int .i64 W.time,.int .i64 W.next,v2,.slice a W.pn c] 37)) (.int .i64 0) (.int .i64 0) 61
 have hB2:=hB.below ha2
 have hb2:=below_next ha ha2
 have hsz:(w.alloc (.cells #[v0,v1,.int .i64 W.time,.int .i64 W.next,v2,.slice a W.pn c] 37)).heap.size=w.heap.size+1:=World.size_alloc _ _
 rw [hsz] at hR
 clear ha ha2 hB
 go_enter Tryz.func52,Tryz.ntmps52
 go_wp2_with fail
 generalize ((w.alloc (.cells #[v0,v1,.int .i64 W.time,.int .i64 W.next,v2,.slice a W.pn c] 37)).alloc (.cells #[.int .i64 0,.int .i64 0] 61))=W0 at hR hB2 hb2 ⊢
 refine(l04Snap_any v0 v1 v2 _ lo hi W x W0 (Hp.out.below hb2)).mono ?_
 rintro e w1 ⟨r,rfl,hF,hb1⟩
 have hR1:=hR.below hb1
 have hX1:=hB2.below hb1
 have hbw:=below_next hb2 hb1
 clear hR hB2 hb2 hb1 hsz
 have HR:=hideW hR1
 have HX:=hideW hX1
 clear hR1 hX1
 obtain⟨⟨y0,y1⟩,⟨y2,y3⟩⟩:=HR.out
 obtain⟨⟨x0,x1⟩,⟨x2,x3⟩,⟨x4,x5⟩,⟨x6,x7⟩,⟨x8,x9⟩,⟨x10,x11⟩⟩:=HX.out
 by_cases hx:x=0
 ·subst hx
  clear hF
  go_wp2
  refine bodyPost_ret (v:=.tuple #[.agg #[.int .i64 0,.int .i64 0],.int .i64 0]) (by simp [results,Tryz.results52,go_sem,y0,y2]) rfl ⟨0,0,0,rfl,Or.inr ⟨Or.inl rfl,rfl,rfl,rfl⟩,?_⟩
  exact(hbw.setCell (by show w.heap.size≤w.heap.size+1; omega) _).setCell (by show w.heap.size≤w.heap.size+1; omega) _
 ·have Hx:=hideW hx
  have f0:(x == 0)=false:=by simp [hx]
  clear hx
  rcases hF with⟨k,hk,hi',hm,rfl⟩ | ⟨hn,rfl⟩
  ·obtain⟨b,off,vd,rfl,hs⟩:=(Hp.out.snaps.below hbw).cells hk
   have q4:=hs.c4
   have q5:=hs.c5
   have q6:=hs.c6
   have hk':(k:Int)<(W.pn:Int):=by omega
   have hlt:b<w.heap.size:=by
    obtain⟨b2,off2,vd2,e2,hs2⟩:=Hp.out.snaps.cells hk
    cases e2
    exact lt_of_cell hs2.c0
   have hne:b≠w.heap.size+1:=by omega
   have hne2:w.heap.size≠w.heap.size+1:=by omega
   have Hk:=hideW (And.intro hi' hm)
   clear hs hi' hm hlt
   have hge:w.heap.size≤w.heap.size+1:=by omega
   generalize w.heap.size+1=R at *
   go_wp2
   go_region
   go_wp2
   refine bodyPost_ret (v:=.tuple #[.agg #[.int .i64 (W.snaps k).rs,.int .i64 (W.snaps k).rb],.int .i64 (W.snaps k).time]) (by simp [results,Tryz.results52,go_sem,y0,y2]) rfl ⟨_,_,_,rfl,Or.inl ⟨k,Hx.out,⟨hk,Hk.out.1,Hk.out.2⟩,rfl,rfl,rfl⟩,?_⟩
   exact((hbw.setCell hge _).setCell hge _).drew
  ·have Hn:=hideW hn
   clear hn
   go_wp2
   refine bodyPost_ret (v:=.tuple #[.agg #[.int .i64 0,.int .i64 0],.int .i64 0]) (by simp [results,Tryz.results52,go_sem,y0,y2]) rfl ⟨0,0,0,rfl,Or.inr ⟨Or.inr Hn.out,rfl,rfl,rfl⟩,?_⟩
   exact(hbw.setCell (by show w.heap.size≤w.heap.size+1; omega) _).setCell (by show w.heap.size≤w.heap.size+1; omega) _
end Go.Proofs.YtmgeglgboadfiaaGreatDoor

namespace Go.Proofs.YtmgeglgboadfiaaGreatDoor
open Go.RowKit Go.Maps
set_option linter.unusedVariables false
def TimeOk(t:Int):Prop:=0≤t∧t≤1000000
def PtrOk(s b:Int):Prop:=0≤s∧s≤199∧1≤b∧b≤1000000
def Dist(n:Nat)(f:Nat→Int):Prop:=∀i,i<n→∀k,k<i→f k≠f i
def PtrsOk(n:Nat)(f g:Nat→Int):Prop:=n≤200∧(∀i,i<n→PtrOk (f i) (g i))∧Dist n f
def PIn(n:Nat)(f g:Nat→Int)(x y:Int):Prop:=∃j,j<n∧f j=x∧g j=y
def PSame(n:Nat)(f g:Nat→Int)(m:Nat)(f' g':Nat→Int):Prop:=PtrsOk n f g∧PtrsOk m f' g'∧n=m∧∀i,i<n→PIn m f' g' (f i) (g i)
theorem Dist.inj{n:Nat}{f:Nat→Int}(h:Dist n f){i k:Nat}(hi:i<n)(hk:k<n)(e:f i=f k):i=k:=by
 rcases Nat.lt_trichotomy i k with h1 | h1 | h1
 ·exact absurd e (h k hk i h1)
 ·exact h1
 ·exact absurd e.symm (h i hi k h1)
theorem pigeonD:∀(n m:Nat) (h:Nat→Nat),(∀i,i<n→h i<m)→(∀i k,i<n→k<n→h i=h k→i=k)→n≤m
 | 0,_,_,_,_=>Nat.zero_le _
 | n+1,m,h,h1,h2=>by
  have hm:=h1 n (Nat.lt_succ_self n)
  have:=pigeonD n (m - 1) (fun i=>if h i<h n then h i else h i - 1) (fun i hi=>by
   have:=h1 i (by omega)
   have:h i≠h n:=fun e=>by have:=h2 i n (by omega) (by omega) e; omega
   show(if h i<h n then h i else h i - 1)<m - 1
   split <;> omega) (fun i k hi hk e=>by
   have a1:h i≠h n:=fun e=>by have:=h2 i n (by omega) (by omega) e; omega
   have a2:h k≠h n:=fun e=>by have:=h2 k n (by omega) (by omega) e; omega
   have e':(if h i<h n then h i else h i - 1)=(if h k<h n then h k else h k - 1):=e
   refine h2 i k (by omega) (by omega) ?_
   split at e' <;> split at e' <;> omega)
  omega
theorem same_flip{n:Nat}{f g f' g':Nat→Int}(h1:PtrsOk n f g)(h2:PtrsOk n f' g')(h:∀i,i<n→PIn n f' g' (f i) (g i)):∀j,j<n→PIn n f g (f' j) (g' j):=by
 intro j hj
 by_cases hx:PIn n f g (f' j) (g' j)
 ·exact hx
 ·exfalso
  have:=pigeonD n (n - 1) (fun i=>if hi:i<n then(if (h i hi).choose<j then(h i hi).choose else(h i hi).choose - 1)else 0) (fun i hi=>by
   have hs:=(h i hi).choose_spec
   have hne:(h i hi).choose≠j:=fun e=>hx ⟨i,hi,by rw [←hs.2.1,e],by rw [←hs.2.2,e]⟩
   simp only [hi,dif_pos]
   split <;> omega) (fun i k hi hk e=>by
   have hs:=(h i hi).choose_spec
   have hs':=(h k hk).choose_spec
   have hne:(h i hi).choose≠j:=fun e=>hx ⟨i,hi,by rw [←hs.2.1,e],by rw [←hs.2.2,e]⟩
   have hne':(h k hk).choose≠j:=fun e=>hx ⟨k,hk,by rw [←hs'.2.1,e],by rw [←hs'.2.2,e]⟩
   simp only [hi,hk,dif_pos] at e
   have e2:(h i hi).choose=(h k hk).choose:=by split at e <;> split at e <;> omega
   refine h1.2.2.inj hi hk ?_
   rw [←hs.2.1,←hs'.2.1,e2])
  omega
theorem PSame.symm{n m:Nat}{f g f' g':Nat→Int}(h:PSame n f g m f' g'):PSame m f' g' n f g:=by
 obtain⟨h1,h2,rfl,h3⟩:=h
 exact⟨h2,h1,rfl,same_flip h1 h2 h3⟩
def keyI(x:Int):Lit:=.int .i64 x
theorem keyI_ne{x y:Int}(h:x≠y):keyI x≠keyI y:=fun e=>h (by unfold keyI at e; injection e)
theorem keyI_key(x:Int):WideAt.IsKeyLit (keyI x):=trivial
def datI(x:Int):DataW Unit:=.lit (.int .i64 x)
theorem datI_inj{x y:Int}(h:datI x=datI y):x=y:=by unfold datI at h; injection h with h; injection h
def seenD(f g:Nat→Int):Nat→DataW Unit
 | 0=>.map []
 | k+1=>(seenD f g k).put (keyI (f k)) (datI (g k))
theorem seen_tidy(f g:Nat→Int):∀k,Tidy (seenD f g k)
 | 0=>tidy_empty
 | k+1=>(seen_tidy f g k).put (keyI_key _) _
theorem seen_has(f g:Nat→Int)(x:Int):∀k,Maps.has (seenD f g k) (keyI x)=true↔∃i,i<k∧f i=x
 | 0=>by
  constructor
  ·intro h; exact absurd h (by simp [seenD,Maps.has])
  ·rintro⟨i,hi,_⟩; omega
 | k+1=>by
  by_cases hx:f k=x
  ·subst hx
   exact⟨fun _=>⟨k,by omega,rfl⟩,fun _=>has_put_same (seen_tidy f g k).isMap (keyI_key _) _⟩
  ·rw [show Maps.has (seenD f g (k+1)) (keyI x)=Maps.has (seenD f g k) (keyI x)from has_put_other (keyI_ne (Ne.symm hx)) _,seen_has f g x k]
   constructor
   ·rintro⟨i,hi,e⟩; exact⟨i,by omega,e⟩
   ·rintro⟨i,hi,e⟩
    by_cases h:i=k
    ·subst h; exact absurd e hx
    ·exact⟨i,by omega,e⟩
theorem dist_succ{k:Nat}{f:Nat→Int}:Dist (k+1) f↔Dist k f∧∀i,i<k→f i≠f k:=by
 constructor
 ·exact fun h=>⟨fun i hi=>h i (by omega),fun i hi=>h k (by omega) i hi⟩
 ·rintro⟨h1,h2⟩ i hi j hj
  by_cases e:i=k
  ·subst e; exact h2 j hj
  ·exact h1 i (by omega) j hj
theorem seen_size(f g:Nat→Int):∀k,Maps.size (seenD f g k)≤k∧(Maps.size (seenD f g k)=k↔Dist k f)
 | 0=>⟨Nat.le_refl _,fun _ i hi=>by omega,fun _=>rfl⟩
 | k+1=>by
  obtain⟨h1,h2⟩:=seen_size f g k
  have e:Maps.size (seenD f g (k+1))=if Maps.has (seenD f g k) (keyI (f k))then Maps.size (seenD f g k)else Maps.size (seenD f g k)+1:=size_put (seen_tidy f g k) _
  by_cases hh:Maps.has (seenD f g k) (keyI (f k))=true
  ·rw [if_pos hh] at e
   rw [e,dist_succ]
   refine⟨by omega,fun h=>by omega,fun h=>?_⟩
   obtain⟨i,hi,he⟩:=(seen_has f g (f k) k).1 hh
   exact absurd he (h.2 i hi)
  ·rw [if_neg hh] at e
   rw [e,dist_succ,←h2]
   refine⟨by omega,fun h=>⟨by omega,fun i hi he=>hh ((seen_has f g (f k) k).2 ⟨i,hi,he⟩)⟩,fun h=>by omega⟩
theorem seen_at{n:Nat}{f:Nat→Int}(g:Nat→Int)(hd:Dist n f)(z:DataW Unit):∀k,k≤n→∀i,i<k→(seenD f g k).atKey (keyI (f i)) z=datI (g i)
 | 0,_,i,hi=>absurd hi (Nat.not_lt_zero _)
 | k+1,hk,i,hi=>by
  by_cases e:i=k
  ·subst e; exact atKey_put_same (seen_tidy f g i).isMap (keyI_key _) _ _
  ·exact(atKey_put_other (keyI_ne (fun h=>e (hd.inj (by omega) (by omega) h))) _ _).trans (seen_at g hd z k (by omega) i (by omega))
structure LeftD (n:Nat) (f g f':Nat→Int) (k:Nat) (D:DataW Unit):Prop where
 tidy:Tidy D
 size:Maps.size D+k=n
 at':∀x,(∀j,j<k→f' j≠x)→(∀i,i<n→f i=x→D.atKey (keyI x) (datI 0)=datI (g i))∧((∀i,i<n→f i≠x)→D.atKey (keyI x) (datI 0)=datI 0)
 has:∀x,Maps.has D (keyI x)=true↔(∃i,i<n∧f i=x)∧∀j,j<k→f' j≠x
theorem LeftD.start{n:Nat}{f g:Nat→Int}(h:PtrsOk n f g)(f':Nat→Int):LeftD n f g f' 0 (seenD f g n) where
 tidy:=seen_tidy f g n
 size:=by rw [(seen_size f g n).2.2 h.2.2]; rfl
 at':=fun x _=>⟨fun i hi e=>by subst e; exact seen_at g h.2.2 _ n (Nat.le_refl _) i hi,fun hno=>by
  refine atKey_of_not_has ?_ _
  rw [Bool.eq_false_iff]
  intro hh
  obtain⟨i,hi,e⟩:=(seen_has f g x n).1 hh
  exact hno i hi e⟩
 has:=fun x=>by
  rw [seen_has]
  exact⟨fun h=>⟨h,fun j hj=>absurd hj (Nat.not_lt_zero _)⟩,fun h=>h.1⟩
theorem LeftD.next{n m:Nat}{f g f' g':Nat→Int}{k:Nat}{D:DataW Unit}(h:LeftD n f g f' k D)(h2:PtrsOk m f' g')(hk:k<m)(e:D.atKey (keyI (f' k)) (datI 0)=datI (g' k)):LeftD n f g f' (k+1) (D.del (keyI (f' k))):=by
 have hhas:Maps.has D (keyI (f' k))=true:=by
  by_cases hh:Maps.has D (keyI (f' k))=true
  ·exact hh
  ·rw [atKey_of_not_has (by simpa using hh)] at e
   have:=datI_inj e
   have:=(h2.2.1 k hk).2.2.1
   omega
 have hs:=size_del (k:=keyI (f' k)) h.tidy
 rw [hhas] at hs
 refine⟨h.tidy.del _,?_,fun x hx=>?_,fun x=>?_⟩
 ·have:=h.size
  have hs':Maps.size (D.del (keyI (f' k)))+1=Maps.size D:=hs
  omega
 ·have hne:f' k≠x:=hx k (by omega)
  rw [atKey_del_other (keyI_ne (Ne.symm hne))]
  exact h.at' x (fun j hj=>hx j (by omega))
 ·by_cases hne:f' k=x
  ·subst hne
   rw [has_del_same]
   exact⟨fun h=>absurd h (by simp),fun h=>absurd rfl (h.2 k (by omega))⟩
  ·rw [has_del_other (keyI_ne (Ne.symm hne)),h.has x]
   refine and_congr_right fun _=>⟨fun h j hj=>?_,fun h j hj=>h j (by omega)⟩
   by_cases ej:j=k
   ·subst ej; exact hne
   ·exact h j (by omega)
theorem LeftD.no{n m:Nat}{f g f' g':Nat→Int}{k:Nat}{D:DataW Unit}(h:LeftD n f g f' k D)(h1:PtrsOk n f g)(h2:PtrsOk m f' g')(hk:k<m){c:Int}(e:D.atKey (keyI (f' k)) (datI 0)=datI c)(hc:c≠g' k):¬PSame n f g m f' g':=by
 intro hs
 obtain⟨i,hi,e1,e2⟩:=hs.symm.2.2.2 k hk
 have:=(h.at' (f' k) (fun j hj=>h2.2.2 k hk j hj)).1 i hi e1
 rw [e] at this
 exact hc ((datI_inj this).trans e2)
theorem LeftD.end{n m:Nat}{f g f' g':Nat→Int}{D:DataW Unit}(h:LeftD n f g f' m D)(h1:PtrsOk n f g)(h2:PtrsOk m f' g')(hin:∀j,j<m→PIn n f g (f' j) (g' j)):Maps.size D=0↔PSame n f g m f' g':=by
 have hs:=h.size
 constructor
 ·intro h0
  obtain rfl:m=n:=by omega
  exact PSame.symm ⟨h2,h1,rfl,hin⟩
 ·intro hp
  have:=hp.2.2.1
  omega
theorem LeftD.in{n m:Nat}{f g f' g':Nat→Int}{k:Nat}{D:DataW Unit}(h:LeftD n f g f' k D)(h2:PtrsOk m f' g')(hk:k<m)(e:D.atKey (keyI (f' k)) (datI 0)=datI (g' k)):PIn n f g (f' k) (g' k):=by
 by_cases hx:∃i,i<n∧f i=f' k
 ·obtain⟨i,hi,ei⟩:=hx
  have:=(h.at' (f' k) (fun j hj=>h2.2.2 k hk j hj)).1 i hi ei
  rw [e] at this
  exact⟨i,hi,ei,(datI_inj this).symm⟩
 ·have:=(h.at' (f' k) (fun j hj=>h2.2.2 k hk j hj)).2 (fun i hi e=>hx ⟨i,hi,e⟩)
  rw [e] at this
  have:=datI_inj this
  have:=(h2.2.1 k hk).2.2.1
  omega
def youngL(f g:Nat→Int)(t:Int):Nat→List (Int×Int)
 | 0=>[]
 | k+1=>if t<g k then youngL f g t k ++ [(f k,g k)] else youngL f g t k
def oldL(f g:Nat→Int)(t:Int):Nat→List (Int×Int)
 | 0=>[]
 | k+1=>if t<g k then oldL f g t k else oldL f g t k ++ [(f k,g k)]
theorem young_len(f g:Nat→Int)(t:Int):∀k,(youngL f g t k).length+(oldL f g t k).length=k
 | 0=>rfl
 | k+1=>by
  have:=young_len f g t k
  unfold youngL oldL
  split <;> simp <;> omega
theorem hideD{P:Prop}(h:P):Hid P:=h
theorem PtrsAt.cellsD{w:World}{lo hi:Nat}{a:Option Addr}{n c:Nat}{f g:Nat→Int}(h:PtrsAt w lo hi (.slice a n c) n f g){k:Nat}(hk:k<n):∃b off,a=some ⟨b,off,none⟩∧w.cell? ⟨b,off+k*2,none⟩=some (.int .i64 (f k))∧w.cell? ⟨b,off+k*2+1,none⟩=some (.int .i64 (g k)):=by
 obtain⟨_,a2,c2,hv,_,hx⟩:=h
 simp only [Value.slice.injEq,true_and] at hv
 obtain⟨rfl,rfl⟩:=hv
 obtain⟨b,off,ha,_,_,h3⟩:=hx (by omega)
 exact⟨b,off,ha,(h3 k hk).1,(h3 k hk).2⟩
set_option maxRecDepth 20000 in
set_option maxHeartbeats 400000 in
theorem ptrRight_any(x y:Int)(w:World):Calls Tryz.prog 214 #[.agg #[.int .i64 x,.int .i64 y]] w fun e w'=>BoolIs (PtrOk x y) e∧Below w.heap.size w w':=by
 have hbw:=below_alloc w (.cells #[.int .i64 x,.int .i64 y] 61)
 by_cases h1:0≤x
 ·by_cases h2:x<200
  ·by_cases h3:BirthOk y
   ·have H:=hideD (show PtrOk x y from⟨h1,by omega,h3.1,h3.2⟩)
    have H3:=hideD h3
    clear h3
    go_enter Tryz.func214,Tryz.ntmps214
    go_wp2_with (first | (go_at_call 156; refine(birthRight_any y _).mono ?_; rintro e w1 ⟨⟨t,rfl,ht⟩,rfl⟩; obtain rfl:t=true:=ht.2 H3.out; clear ht) | fail)
    go_wp2
    go_ret
    exact⟨BoolIs.yes H.out,hbw⟩
   ·have H:=hideD (show ¬PtrOk x y from fun h=>h3 ⟨h.2.2.1,h.2.2.2⟩)
    have H3:=hideD h3
    clear h3
    go_enter Tryz.func214,Tryz.ntmps214
    go_wp2_with (first | (go_at_call 156; refine(birthRight_any y _).mono ?_; rintro e w1 ⟨⟨t,rfl,ht⟩,rfl⟩; obtain rfl:t=false:=bool_no ht H3.out; clear ht) | fail)
    go_wp2
    go_ret
    exact⟨BoolIs.no H.out,hbw⟩
  ·go_enter Tryz.func214,Tryz.ntmps214
   go_wp2
   go_ret
   exact⟨BoolIs.no fun h=>by have:=h.2.1; omega,hbw⟩
 ·go_enter Tryz.func214,Tryz.ntmps214
  go_wp2
  go_ret
  exact⟨BoolIs.no fun h=>by have:=h.1; omega,hbw⟩
theorem lawK:Keyed Tryz.prog 2:=int_keyed (q:=.i64) (by kernel_rfl)
theorem mapT:Tryz.prog.underlying 243=some (.map 2 2):=by kernel_rfl
theorem intT:Tryz.prog.underlying 2=some (.int .i64):=by kernel_rfl
theorem zeroK(w:World):(zeroValue 2).run Tryz.prog w = .ok (.int .i64 0) w:=by kernel_rfl
theorem wf_small{x:Int}(h0:0≤x)(h1:x≤1000000):(Lit.int .i64 x).wf=true:=WalkArith.wf_i64 (by omega)
def MapAt(w:World)(B n:Nat)(D:DataW Unit):Prop:=w.ownsMap Tryz.prog 2 (plainElem Tryz.prog 2) B n D
set_option maxRecDepth 20000 in
set_option maxHeartbeats 400000 in
theorem slotsSeen_any(v:Value)(n lo hi:Nat)(f g:Nat→Int)(w:World)(h1:PtrsAt w lo hi v n f g)(hn:n≤200)(hok:∀i,i<n→PtrOk (f i) (g i)) :
  Calls Tryz.prog 215 #[v] w fun e w'=>e = .returned (.map (some w.heap.size))∧MapAt w' w.heap.size n (seenD f g n)∧Below w.heap.size w w':=by
 have Hp:=hideD h1
 have Hok:=hideD hok
 obtain⟨m1,a,c,rfl,mc,_⟩:=id h1
 clear h1 hok
 have hmm:=@run_makeMap Tryz.prog
 go_enter Tryz.func215,Tryz.ntmps215
 go_wp2
 go_loopw [9] (fun i wr=>∃k:Nat,k≤n∧i = .int .i64 k∧MapAt wr w.heap.size k (seenD f g k)∧Below w.heap.size w wr) (fun i _=>n - (intOf i).toNat)
 case atStart=>exact⟨0,Nat.zero_le _,rfl,World.ownsMap_made _ _ _ _,(Below.refl _ _).alloc (Nat.le_refl _) _⟩
 case round=>
  obtain⟨k,hk,rfl,hown,hb⟩:=hrel
  have Hown:=hideD hown
  clear hown
  by_cases hlt:k<n
  ·have hlt':(k:Int)<(n:Int):=by omega
   obtain⟨b,off,rfl,q0,q1⟩:=(Hp.out.below hb).cellsD hlt
   have hkey:keyOf Tryz.prog 2 (.int .i64 (f k))=some (keyI (f k)):=keyOf_int_mk intT (wf_small (Hok.out k hlt).1 (by have:=(Hok.out k hlt).2.1; omega))
   have hwv:=wf_small (x:=g k) (by have:=(Hok.out k hlt).2.2.1; omega) (Hok.out k hlt).2.2.2
   have Hkey:=hideD hkey
   have Hwv:=hideD hwv
   clear hkey hwv
   go_wp2_with (first
    | (at_mapUpdate; refine wpList_mapUpdate_own _ rfl _ _ _ 243 rfl 2 2 lawK mapT _ w.heap.size k _ rfl (Hown.out.alloc _) (by unfold maxLen; omega) _ _ _ rfl rfl Hkey.out _ [] (plainElem_int intT Hwv.out) ?_; intro w1 hown1 hgrow1)
    | go_in)
   go_roundw
   case rel=>exact⟨k+1,by omega,by go_num,hown1,(hb.alloc hb.size _).grown hgrow1 (by rw [World.size_alloc]; have:=hb.size; omega) (fun j hj=>by cases hj; exact Nat.le_refl _)⟩
   case measure=>simp [intOf]; omega
  ·obtain rfl:k=n:=by omega
   go_wp2
   go_ret
   exact⟨rfl,Hown.out,hb⟩
set_option maxRecDepth 20000 in
set_option maxHeartbeats 400000 in
theorem implPtrsRight_any(v:Value)(n lo hi:Nat)(f g:Nat→Int)(w:World)(h1:PtrsAt w lo hi v n f g) :
  Calls Tryz.prog 186 #[v] w fun e w'=>BoolIs (PtrsOk n f g) e∧Below w.heap.size w w':=by
 have Hp:=hideD h1
 obtain⟨m1,a,c,rfl,mc,_⟩:=id h1
 clear h1
 unfold maxLen at m1
 by_cases hn:n≤200
 ·have hn':¬(200:Int)<(n:Int):=by omega
  go_enter Tryz.func186,Tryz.ntmps186
  go_wp2
  go_loopw [10] (fun i wr=>∃k:Nat,k≤n∧i = .int .i64 k∧(∀i,i<k→PtrOk (f i) (g i))∧Below w.heap.size w wr) (fun i _=>n - (intOf i).toNat)
  case atStart=>exact⟨0,Nat.zero_le _,rfl,fun j hj=>absurd hj (Nat.not_lt_zero _),Below.refl _ _⟩
  case round=>
   obtain⟨k,hk,rfl,hall,hb⟩:=hrel
   have Hall:=hideD hall
   clear hall
   by_cases hlt:k<n
   ·have hlt':(k:Int)<(n:Int):=by omega
    obtain⟨b,off,rfl,q0,q1⟩:=(Hp.out.below hb).cellsD hlt
    have hal:=below_next hb (below_alloc wr (.cells #[.int .i64 (f k),.int .i64 (g k)] 61))
    go_wp2_with fail
    refine(ptrRight_any (f k) (g k) _).mono ?_
    rintro e w1 ⟨⟨t,rfl,ht⟩,hb1⟩
    have hB1:=below_next hal hb1
    clear hb1 hal q0 q1
    by_cases hok:PtrOk (f k) (g k)
    ·have Hk:=hideD hok
     obtain rfl:t=true:=ht.2 hok
     clear ht hok
     go_wp2
     go_roundw
     case rel=>exact⟨k+1,by omega,by go_num,relNext hlt Hall.out Hk.out,hB1⟩
     case measure=>simp [intOf]; omega
    ·have Hk:=hideD hok
     obtain rfl:t=false:=bool_no ht hok
     clear ht hok
     go_wp2
     go_ret
     exact⟨BoolIs.no fun h=>Hk.out (h.2.1 k hlt),hB1⟩
   ·obtain rfl:k=n:=by omega
    go_wp2_with fail
    refine(slotsSeen_any _ k lo hi f g _ (Hp.out.below hb) hn Hall.out).mono ?_
    rintro e w1 ⟨rfl,hm,hb1⟩
    have hB1:=below_next hb hb1
    have Hm:=hideD hm
    have hsz:=seen_size f g k
    clear hm hb1
    obtain⟨hs1,hs2⟩:=hsz
    have Hs2:=hideD hs2
    clear hs2
    go_wp2_with (first
     | (at_len; refine wpList_len_own _ rfl _ 243 rfl 2 2 mapT _ wr.heap.size k _ rfl Hm.out ?_)
     | go_in)
    go_ret
    refine⟨⟨_,rfl,?_⟩,hB1⟩
    have Ho:=Hs2.out
    have Ha:=Hall.out
    simp only [beq_iff_eq,Int.natCast_inj]
    exact Ho.trans ⟨fun h=>⟨hn,Ha,h⟩,fun h=>h.2.2⟩
 ·have hn':(200:Int)<(n:Int):=by omega
  go_enter Tryz.func186,Tryz.ntmps186
  go_wp2
  go_ret
  exact⟨BoolIs.no fun h=>hn h.1,Below.refl _ _⟩
end Go.Proofs.YtmgeglgboadfiaaGreatDoor
