/- What spec.NameRight and impl.NameRight answer; how texts are ordered. -/
import Derived.Test.YtmgeglgboadfiaaGreatDoorProg
import GoSem.ClaimJoined
import GoSem.ClaimMapViews
import Derived.JoinedTies
import Derived.KernelRfl
import Derived.RowKit
import Derived.Test.YtmgeglgboadfiaaGreatDoorP1
import Derived.WalkKit
import Derived.WalkSpells
import Derived.WalkLawsBesides
import Derived.ProofKit
import Derived.Deep.RegionHeld3
import Derived.Deep.QuietTactic
import Derived.BigQuiet
import Derived.Laws.CopyOwn
import Derived.Deep.RegionLaw
import Derived.Deep.WholeRow
namespace Go.Proofs.YtmgeglgboadfiaaGreatDoor
open Go.RowKit
set_option linter.unusedVariables false
def OkAt(i:Nat)(c:Int):Prop:=(97≤c∧c≤122)∨(i≠0∧((48≤c∧c≤57)∨c=95))
def NameP(s:ByteArray):Prop:=1≤s.size∧s.size≤20∧∀j,(h:j<s.size)→OkAt j (s[j].toNat:Int)
theorem relKN{s:ByteArray}{k:Nat}(hlt:k<s.size)(hall:∀j,(h:j<k)→(h':j<s.size)→OkAt j (s[j].toNat:Int))(hok:OkAt k (s[k].toNat:Int)) :
  ∃m:Nat,m≤s.size∧Value.int .i64 ((k:Int)+1) = .int .i64 (m:Int)∧∀j,(h:j<m)→(h':j<s.size)→OkAt j (s[j].toNat:Int):=by
 refine⟨k+1,by omega,by simp,fun j h h'=>?_⟩
 by_cases e:j=k
 ·subst e; exact hok
 ·exact hall j (by omega) h'
theorem rel0N{s:ByteArray}(hlt:0<s.size)(hok:OkAt 0 (s[0].toNat:Int)) :
  ∃m:Nat,m≤s.size∧Value.int .i64 1 = .int .i64 (m:Int)∧∀j,(h:j<m)→(h':j<s.size)→OkAt j (s[j].toNat:Int):=by
 refine⟨1,by omega,by simp,fun j h h'=>?_⟩
 obtain rfl:j=0:=by omega
 exact hok
set_option maxHeartbeats 400000 in
theorem specName_any(s:ByteArray)(w:World)(hs:s.size≤maxLen) :
  Calls Tryz.prog 138 #[.string s] w fun e w'=>BoolIs (NameP s) e∧w'=w:=by
 unfold maxLen at hs
 by_cases h1:s.size<1
 ·have h1':(s.size:Int)<1:=by omega
  go_enter Tryz.func138,Tryz.ntmps138
  go_wp2
  go_ret
  exact⟨⟨false,rfl,by simp [NameP]; omega⟩,rfl⟩
 by_cases h2:20<s.size
 ·have h2':(20:Int)<(s.size:Int):=by omega
  have h1':¬(s.size:Int)<1:=by omega
  go_enter Tryz.func138,Tryz.ntmps138
  go_wp2
  go_ret
  exact⟨⟨false,rfl,by simp [NameP]; omega⟩,rfl⟩
 have h1':¬(s.size:Int)<1:=by omega
 have h2':¬(20:Int)<(s.size:Int):=by omega
 go_enter Tryz.func138,Tryz.ntmps138
 go_wp2
 go_loop [3] (fun i=>∃k:Nat,k≤s.size∧i = .int .i64 k∧∀j,(h:j<k)→(h':j<s.size)→OkAt j (s[j].toNat:Int)) (fun i=>s.size - (intOf i).toNat)
 case atStart=>exact⟨0,Nat.zero_le _,rfl,fun j h=>absurd h (Nat.not_lt_zero _)⟩
 case round=>
  obtain⟨k,hk,rfl,hall⟩:=hrel
  have Hall:Hid (∀j,(h:j<k)→(h':j<s.size)→OkAt j (s[j].toNat:Int)):=hall
  clear hall
  by_cases hlt:k<s.size
  ·by_cases hk0:k=0
   all_goals try subst hk0
   all_goals go_wp2
   all_goals try (go_ret; refine⟨⟨false,rfl,?_⟩,rfl⟩; simp only [Bool.false_eq_true,false_iff]; intro h; have h3:=h.2.2 _ hlt; unfold OkAt at h3; first | omega | grind)
   all_goals
    go_round
    case measure=>simp [intOf]; omega
    case rel=>first | exact rel0N hlt (by unfold OkAt; first | omega | grind) | exact relKN hlt Hall.out (by unfold OkAt; first | omega | grind)
  ·go_wp2
   go_ret
   refine⟨⟨true,rfl,?_⟩,rfl⟩
   simp only [true_iff]
   exact⟨by omega,by omega,fun j h=>Hall.out j (by omega) h⟩
set_option maxHeartbeats 400000 in
theorem implName_any(s:ByteArray)(w:World)(hs:s.size≤maxLen) :
  Calls Tryz.prog 167 #[.string s] w fun e w'=>BoolIs (NameP s) e∧w'=w:=by
 unfold maxLen at hs
 by_cases h1:s.size<1
 ·have h1':(s.size:Int)<1:=by omega
  go_enter Tryz.func167,Tryz.ntmps167
  go_wp2
  go_ret
  exact⟨⟨false,rfl,by simp [NameP]; omega⟩,rfl⟩
 by_cases h2:20<s.size
 ·have h2':(20:Int)<(s.size:Int):=by omega
  have h1':¬(s.size:Int)<1:=by omega
  go_enter Tryz.func167,Tryz.ntmps167
  go_wp2
  go_ret
  exact⟨⟨false,rfl,by simp [NameP]; omega⟩,rfl⟩
 have h1':¬(s.size:Int)<1:=by omega
 have h2':¬(20:Int)<(s.size:Int):=by omega
 have h0:0<s.size:=by omega
 by_cases hc0:97≤(s[0].toNat:Int)∧(s[0].toNat:Int)≤122
 ·obtain⟨hc1,hc2⟩:=hc0
  go_enter Tryz.func167,Tryz.ntmps167
  go_wp2
  go_loop [20] (fun i=>∃k:Nat,k≤s.size∧i = .int .i64 k∧∀j,(h:j<k)→(h':j<s.size)→OkAt j (s[j].toNat:Int)) (fun i=>s.size - (intOf i).toNat)
  case atStart=>exact⟨0,Nat.zero_le _,rfl,fun j h=>absurd h (Nat.not_lt_zero _)⟩
  case round=>
   obtain⟨k,hk,rfl,hall⟩:=hrel
   have Hall:Hid (∀j,(h:j<k)→(h':j<s.size)→OkAt j (s[j].toNat:Int)):=hall
   clear hall
   by_cases hlt:k<s.size
   ·by_cases hk0:k=0
    all_goals try subst hk0
    all_goals go_wp2
    all_goals try (go_ret; refine⟨⟨false,rfl,?_⟩,rfl⟩; simp only [Bool.false_eq_true,false_iff]; intro h; have h3:=h.2.2 _ hlt; unfold OkAt at h3; first | omega | grind)
    all_goals
     go_round
     case measure=>simp [intOf]; omega
     case rel=>first | exact rel0N hlt (by unfold OkAt; first | omega | grind) | exact relKN hlt Hall.out (by unfold OkAt; first | omega | grind)
   ·go_wp2
    go_ret
    refine⟨⟨true,rfl,?_⟩,rfl⟩
    simp only [true_iff]
    exact⟨by omega,by omega,fun j h=>Hall.out j (by omega) h⟩
 ·by_cases hc1:97≤(s[0].toNat:Int)
  ·have hc2:¬(s[0].toNat:Int)≤122:=fun h=>hc0 ⟨hc1,h⟩
   clear hc0
   go_enter Tryz.func167,Tryz.ntmps167
   go_wp2
   go_ret
   refine⟨⟨false,rfl,?_⟩,rfl⟩; simp only [Bool.false_eq_true,false_iff]; intro h; have h3:=h.2.2 _ h0; unfold OkAt at h3; omega
  ·clear hc0
   go_enter Tryz.func167,Tryz.ntmps167
   go_wp2
   go_ret
   refine⟨⟨false,rfl,?_⟩,rfl⟩; simp only [Bool.false_eq_true,false_iff]; intro h; have h3:=h.2.2 _ h0; unfold OkAt at h3; omega
def Rises(a b:ByteArray):Prop:=Op.bytesLess a.toList b.toList=true
theorem bl_total:∀x y:List UInt8,Op.bytesLess x y=true∨x=y∨Op.bytesLess y x=true
 | [],[]=>Or.inr (Or.inl rfl)
 | [],b :: y=>Or.inl (by simp [Op.bytesLess])
 | a :: x,[]=>Or.inr (Or.inr (by simp [Op.bytesLess]))
 | a :: x,b :: y=>by
  simp only [Op.bytesLess,Bool.or_eq_true,decide_eq_true_eq,Bool.and_eq_true,beq_iff_eq,List.cons.injEq]
  by_cases h:a=b
  ·subst h
   rcases bl_total x y with h | h | h
   ·exact Or.inl (Or.inr ⟨rfl,h⟩)
   ·exact Or.inr (Or.inl ⟨rfl,h⟩)
   ·exact Or.inr (Or.inr (Or.inr ⟨rfl,h⟩))
  ·have:a<b∨b<a:=by
    have hne:a.toNat≠b.toNat:=fun e=>h (UInt8.toNat_inj.1 e)
    rw [UInt8.lt_iff_toNat_lt,UInt8.lt_iff_toNat_lt]
    omega
   rcases this with h | h
   ·exact Or.inl (Or.inl h)
   ·exact Or.inr (Or.inr (Or.inl h))
theorem bl_irrefl:∀x:List UInt8,Op.bytesLess x x=false
 | []=>rfl
 | a :: x=>by simp [Op.bytesLess,bl_irrefl x]
theorem bl_asymm:∀x y:List UInt8,Op.bytesLess x y=true→Op.bytesLess y x=false
 | [],[],h=>by simp [Op.bytesLess] at h
 | [],b :: y,_=>by simp [Op.bytesLess]
 | a :: x,[],h=>by simp [Op.bytesLess] at h
 | a :: x,b :: y,h=>by
  simp only [Op.bytesLess,Bool.or_eq_true,decide_eq_true_eq,Bool.and_eq_true,beq_iff_eq] at h
  rw [←Bool.not_eq_true]
  simp only [Op.bytesLess,Bool.or_eq_true,decide_eq_true_eq,Bool.and_eq_true,beq_iff_eq,UInt8.lt_iff_toNat_lt] at h ⊢
  rintro(h' | ⟨h',h2⟩)
  ·rcases h with h | ⟨h,_⟩
   ·omega
   ·subst h; omega
  ·subst h'
   rcases h with h | ⟨_,h⟩
   ·omega
   ·rw [bl_asymm x y h] at h2
    exact absurd h2 (by simp)
theorem bytes_eq{a b:ByteArray}(h:a.toList=b.toList):a=b:=by
 rw [Go.ByteArray.toList_eq,Go.ByteArray.toList_eq] at h
 cases a; cases b
 simp only [ByteArray.mk.injEq] at *
 exact Array.toList_inj.1 h
theorem leq_iff(a b:ByteArray):(Op.bytesLess a.toList b.toList || a.toList == b.toList)=false↔Rises b a:=by
 unfold Rises
 rw [Bool.or_eq_false_iff,beq_eq_false_iff_ne]
 constructor
 ·rintro⟨h1,h2⟩
  rcases bl_total a.toList b.toList with h | h | h
  ·rw [h1] at h; exact absurd h (by simp)
  ·exact absurd h h2
  ·exact h
 ·intro h
  refine⟨bl_asymm _ _ h,fun e=>?_⟩
  rw [e,bl_irrefl] at h
  exact absurd h (by simp)
theorem rises_ne{a b:ByteArray}(h:Rises a b):a≠b:=fun e=>by
 subst e
 unfold Rises at h
 rw [bl_irrefl] at h
 exact absurd h (by simp)
theorem bl_trans:∀x y z:List UInt8,Op.bytesLess x y=true→Op.bytesLess y z=true→Op.bytesLess x z=true
 | _,[],_,h,_=>by cases ‹List UInt8› <;> simp [Op.bytesLess] at h
 | [],_ :: _,[],_,h=>by simp [Op.bytesLess] at h
 | [],_ :: _,_ :: _,_,_=>by simp [Op.bytesLess]
 | _ :: _,_ :: _,[],_,h=>by simp [Op.bytesLess] at h
 | a :: x,b :: y,c :: z,h,h'=>by
  simp only [Op.bytesLess,Bool.or_eq_true,decide_eq_true_eq,Bool.and_eq_true,beq_iff_eq,UInt8.lt_iff_toNat_lt] at h h' ⊢
  rcases h with h | ⟨h,h1⟩
  ·rcases h' with h' | ⟨h',h2⟩
   ·left; omega
   ·subst h'; left; exact h
  ·subst h
   rcases h' with h' | ⟨h',h2⟩
   ·left; exact h'
   ·subst h'; right; exact⟨rfl,bl_trans x y z h1 h2⟩
theorem rises_trans{a b c:ByteArray}(h:Rises a b)(h':Rises b c):Rises a c:=bl_trans _ _ _ h h'
theorem IntsAt.take{w:World}{lo hi:Nat}{a:Option Addr}{n c m c':Nat}{f:Nat→Int}(h:IntsAt w lo hi (.slice a n c) n f)(hm:m≤n)(hc:m≤c'):IntsAt w lo hi (.slice a m c') m f:=by
 obtain⟨h0,a2,cap,hv,hcc,hx⟩:=h
 simp only [Value.slice.injEq,true_and] at hv
 obtain⟨rfl,rfl⟩:=hv
 refine⟨by omega,a,c',rfl,hc,fun h0=>?_⟩
 obtain⟨b,off,ha,h1,h2,h3⟩:=hx (by omega)
 exact⟨b,off,ha,h1,h2,fun i hi=>h3 i (by omega)⟩
structure SlotCells (w:World) (b o:Nat) (lo hi:Nat) (ka:Option Addr) (kc:Nat) (s:SlotD):Prop where
 c0:w.cell? ⟨b,o,none⟩=some (.int .i64 s.birth)
 c1:w.cell? ⟨b,o+1,none⟩=some (.slice ka s.kn kc)
 c2:w.cell? ⟨b,o+2,none⟩=some (.string s.data)
 slot:SlotAt w lo hi (.int .i64 s.birth) (.slice ka s.kn kc) (.string s.data) s
theorem SlotCells.below{w w':World}{b o lo hi:Nat}{ka:Option Addr}{kc:Nat}{s:SlotD}(h:SlotCells w b o lo hi ka kc s)(t:Below w.heap.size w w'):SlotCells w' b o lo hi ka kc s:=
 ⟨(t.cell (lt_of_cell h.c0)).trans h.c0,(t.cell (lt_of_cell h.c1)).trans h.c1,(t.cell (lt_of_cell h.c2)).trans h.c2,h.slot.below t⟩
theorem SlotsAt.cells{w:World}{lo hi:Nat}{a:Option Addr}{n c:Nat}{f:Nat→SlotD}(h:SlotsAt w lo hi (.slice a n c) n f){i:Nat}(hi':i<n) :
  ∃b off ka kc,a=some ⟨b,off,none⟩∧SlotCells w b (off+i*3) lo hi ka kc (f i):=by
 obtain⟨h0,a2,cap,hv,hcc,hx⟩:=h
 simp only [Value.slice.injEq,true_and] at hv
 obtain⟨rfl,rfl⟩:=hv
 obtain⟨b,off,ha,h1,h2,h3⟩:=hx (by omega)
 obtain⟨v0,v1,v2,c0,c1,c2,hs⟩:=h3 i hi'
 have hs':=hs
 obtain⟨rfl,⟨_,ka,kc,rfl,_⟩,rfl,_⟩:=hs
 exact⟨b,off,ka,kc,ha,⟨c0,c1,c2,hs'⟩⟩
theorem bool_no{P:Prop}{t:Bool}(ht:t=true↔P)(h:¬P):t=false:=Bool.eq_false_iff.2 (fun e=>h (ht.1 e))
def Free(s:SlotD):Prop:=s.birth=0∧s.kn=0∧s.data.toList.isEmpty=true
def BirthOk(n:Int):Prop:=1≤n∧n≤1000000
def Points(p:PoolD)(xs xb:Int):Prop:=1≤xb∧0≤xs∧xs<p.n∧(p.s xs.toNat).birth=xb
def KidOk(p:PoolD)(b:Int)(xs xb:Int):Prop:=(xs=0∧xb=0)∨(Points p xs xb∧xb≤b)
def Fits(p:PoolD)(s:SlotD):Prop:=BirthOk s.birth∧((s.kn=0∧s.data.size=16)∨(s.kn=8∧s.data.toList.isEmpty=true∧∀i,i<s.kn→KidOk p s.birth (s.ks i) (s.kb i)))
def Has(n:Nat)(f:Nat→Int)(x:Int):Prop:=∃j,j<n∧f j=x
def HeldOk(p:PoolD)(i:Nat):Prop:=0≤p.h i∧p.h i<p.n∧¬Free (p.s (p.h i).toNat)∧¬Has i p.h (p.h i)
def Right(p:PoolD):Prop:=p.n≤200∧(∀i,i<p.n→Free (p.s i)∨Fits p (p.s i))∧∀i,i<p.hn→HeldOk p i
set_option maxRecDepth 20000 in
set_option maxHeartbeats 400000 in
theorem l01Free_any(v0 v1 v2:Value)(lo hi:Nat)(s:SlotD)(w:World)(h1:SlotAt w lo hi v0 v1 v2 s) :
  Calls Tryz.prog 74 #[.agg #[v0,v1,v2]] w fun e w'=>BoolIs (Free s) e∧Below w.heap.size w w':=by
 obtain⟨rfl,⟨m1,a,c,rfl,_⟩,rfl,_⟩:=h1
 unfold maxLen at m1
 have hbw:=(Below.refl w.heap.size w).alloc (Nat.le_refl _) (.cells #[.int .i64 s.birth,.slice a s.kn c,.string s.data] 127)
 by_cases h1:s.birth=0
 ·by_cases h2:s.kn=0
  ·by_cases h3:s.data.toList.isEmpty=true
   ·have H:Hid (Free s):=⟨h1,h2,h3⟩
    have e1:(s.birth == 0)=true:=by simp [h1]
    have e2:((s.kn:Int) == 0)=true:=by simp [h2]
    clear h1 h2
    go_enter Tryz.func74,Tryz.ntmps74
    go_wp2
    go_ret
    exact⟨BoolIs.yes H.out,hbw⟩
   ·have H:Hid (¬Free s):=fun h=>h3 h.2.2
    have e1:(s.birth == 0)=true:=by simp [h1]
    have e2:((s.kn:Int) == 0)=true:=by simp [h2]
    have e3:s.data.toList.isEmpty=false:=by simpa using h3
    clear h1 h2 h3
    go_enter Tryz.func74,Tryz.ntmps74
    go_wp2
    go_ret
    exact⟨BoolIs.no H.out,hbw⟩
  ·have H:Hid (¬Free s):=fun h=>h2 h.2.1
   have e1:(s.birth == 0)=true:=by simp [h1]
   have e2:((s.kn:Int) == 0)=false:=by simp; omega
   clear h1 h2
   go_enter Tryz.func74,Tryz.ntmps74
   go_wp2
   go_ret
   exact⟨BoolIs.no H.out,hbw⟩
 ·have H:Hid (¬Free s):=fun h=>h1 h.1
  have e1:(s.birth == 0)=false:=by simp [h1]
  clear h1
  go_enter Tryz.func74,Tryz.ntmps74
  go_wp2
  go_ret
  exact⟨BoolIs.no H.out,hbw⟩
set_option maxRecDepth 20000 in
set_option maxHeartbeats 400000 in
theorem l01Birth_any(n:Int)(w:World):Calls Tryz.prog 145 #[.int .i64 n] w fun e w'=>BoolIs (BirthOk n) e∧w'=w:=by
 by_cases h1:1≤n
 ·by_cases h2:n≤1000000
  ·go_enter Tryz.func145,Tryz.ntmps145
   go_wp2
   go_ret
   exact⟨BoolIs.yes ⟨h1,h2⟩,rfl⟩
  ·go_enter Tryz.func145,Tryz.ntmps145
   go_wp2
   go_ret
   exact⟨BoolIs.no fun h=>by have:=h.2; omega,rfl⟩
 ·go_enter Tryz.func145,Tryz.ntmps145
  go_wp2
  go_ret
  exact⟨BoolIs.no fun h=>by have:=h.1; omega,rfl⟩
set_option maxRecDepth 20000 in
set_option maxHeartbeats 400000 in
theorem l01None_any(a b:Int)(w:World):Calls Tryz.prog 119 #[.agg #[.int .i64 a,.int .i64 b]] w fun e w'=>BoolIs (PtrEq a b 0 0) e∧Below w.heap.size w w':=by
 have hbw:=(Below.refl w.heap.size w).alloc (Nat.le_refl _) (.cells #[.int .i64 a,.int .i64 b] 61)
 by_cases h1:a=0
 ·by_cases h2:b=0
  ·subst h1 h2
   go_enter Tryz.func119,Tryz.ntmps119
   go_wp2
   go_ret
   exact⟨BoolIs.yes ⟨rfl,rfl⟩,hbw⟩
  ·subst h1
   have H:Hid (¬PtrEq 0 b 0 0):=fun h=>h2 h.2
   have e2:(b == 0)=false:=by simp [h2]
   clear h2
   go_enter Tryz.func119,Tryz.ntmps119
   go_wp2
   go_ret
   exact⟨BoolIs.no H.out,hbw⟩
 ·have H:Hid (¬PtrEq a b 0 0):=fun h=>h1 h.1
  have e2:(a == 0)=false:=by simp [h1]
  clear h1
  go_enter Tryz.func119,Tryz.ntmps119
  go_wp2
  go_ret
  exact⟨BoolIs.no H.out,hbw⟩
set_option maxRecDepth 20000 in
set_option maxHeartbeats 400000 in
theorem l01Has_any(v:Value)(n lo hi:Nat)(f:Nat→Int)(x:Int)(w:World)(h1:IntsAt w lo hi v n f) :
  Calls Tryz.prog 75 #[v,.int .i64 x] w fun e w'=>BoolIs (Has n f x) e∧w'=w:=by
 obtain⟨m1,a,c,rfl,mc,g1⟩:=h1
 unfold maxLen at m1
 have G1:Hid (0<n→∃b off,a=some ⟨b,off,none⟩∧lo≤b∧b<hi∧∀i,i<n→w.cell? ⟨b,off+i,none⟩=some (.int .i64 (f i))):=g1
 clear g1
 go_enter Tryz.func75,Tryz.ntmps75
 go_wp2
 go_loop [5] (fun i=>∃k:Nat,k≤n∧i = .int .i64 k∧¬Has k f x) (fun i=>n - (intOf i).toNat)
 case atStart=>exact⟨0,Nat.zero_le _,rfl,fun ⟨j,hj,_⟩=>absurd hj (Nat.not_lt_zero _)⟩
 case round=>
  obtain⟨k,hk,rfl,hno⟩:=hrel
  have Hno:Hid (¬Has k f x):=hno
  clear hno
  by_cases hlt:k<n
  ·have hlt':(k:Int)<(n:Int):=by omega
   obtain⟨b,off,rfl,_,_,k1⟩:=G1.out (by omega)
   have hc1:=k1 k hlt
   clear k1 G1
   by_cases he:f k=x
   ·have H:Hid (Has n f x):=⟨k,hlt,he⟩
    have he':(f k == x)=true:=by simp [he]
    clear he
    go_wp2
    go_ret
    exact⟨BoolIs.yes H.out,rfl⟩
   ·have H:Hid (¬f k=x):=he
    have he':(f k == x)=false:=by simp [he]
    clear he
    go_wp2
    go_round
    case rel=>
     refine⟨k+1,by omega,by go_num,?_⟩
     rintro⟨j,hj,hjx⟩
     by_cases e:j=k
     ·subst e; exact H.out hjx
     ·exact Hno.out ⟨j,by omega,hjx⟩
    case measure=>simp [intOf]; omega
  ·obtain rfl:k=n:=by omega
   go_wp2
   go_ret
   exact⟨BoolIs.no Hno.out,rfl⟩
def Page(s:SlotD):Prop:=BirthOk s.birth∧s.kn=0∧s.data.size=16
def Node(s:SlotD):Prop:=BirthOk s.birth∧s.kn=8∧s.data.toList.isEmpty=true
set_option maxRecDepth 20000 in
set_option maxHeartbeats 400000 in
theorem isFree_any(v0 v1 v2:Value)(lo hi:Nat)(s:SlotD)(w:World)(h1:SlotAt w lo hi v0 v1 v2 s) :
  Calls Tryz.prog 157 #[.agg #[v0,v1,v2]] w fun e w'=>BoolIs (Free s) e∧Below w.heap.size w w':=by
 obtain⟨rfl,⟨m1,a,c,rfl,_⟩,rfl,_⟩:=h1
 unfold maxLen at m1
 have hbw:=(Below.refl w.heap.size w).alloc (Nat.le_refl _) (.cells #[.int .i64 s.birth,.slice a s.kn c,.string s.data] 127)
 by_cases h1:s.birth=0
 ·by_cases h2:s.kn=0
  ·by_cases h3:s.data.toList.isEmpty=true
   ·have H:Hid (Free s):=⟨h1,h2,h3⟩
    have e1:(s.birth == 0)=true:=by simp [h1]
    have e2:((s.kn:Int) == 0)=true:=by simp [h2]
    clear h1 h2
    go_enter Tryz.func157,Tryz.ntmps157
    go_wp2
    go_ret
    exact⟨BoolIs.yes H.out,hbw⟩
   ·have H:Hid (¬Free s):=fun h=>h3 h.2.2
    have e1:(s.birth == 0)=true:=by simp [h1]
    have e2:((s.kn:Int) == 0)=true:=by simp [h2]
    have e3:s.data.toList.isEmpty=false:=by simpa using h3
    clear h1 h2 h3
    go_enter Tryz.func157,Tryz.ntmps157
    go_wp2
    go_ret
    exact⟨BoolIs.no H.out,hbw⟩
  ·have H:Hid (¬Free s):=fun h=>h2 h.2.1
   have e1:(s.birth == 0)=true:=by simp [h1]
   have e2:((s.kn:Int) == 0)=false:=by simp; omega
   clear h1 h2
   go_enter Tryz.func157,Tryz.ntmps157
   go_wp2
   go_ret
   exact⟨BoolIs.no H.out,hbw⟩
 ·have H:Hid (¬Free s):=fun h=>h1 h.1
  have e1:(s.birth == 0)=false:=by simp [h1]
  clear h1
  go_enter Tryz.func157,Tryz.ntmps157
  go_wp2
  go_ret
  exact⟨BoolIs.no H.out,hbw⟩
set_option maxRecDepth 20000 in
set_option maxHeartbeats 400000 in
theorem birthRight_any(n:Int)(w:World):Calls Tryz.prog 156 #[.int .i64 n] w fun e w'=>BoolIs (BirthOk n) e∧w'=w:=by
 by_cases h1:1≤n
 ·by_cases h2:n≤1000000
  ·go_enter Tryz.func156,Tryz.ntmps156
   go_wp2
   go_ret
   exact⟨BoolIs.yes ⟨h1,h2⟩,rfl⟩
  ·go_enter Tryz.func156,Tryz.ntmps156
   go_wp2
   go_ret
   exact⟨BoolIs.no fun h=>by have:=h.2; omega,rfl⟩
 ·go_enter Tryz.func156,Tryz.ntmps156
  go_wp2
  go_ret
  exact⟨BoolIs.no fun h=>by have:=h.1; omega,rfl⟩
set_option maxRecDepth 20000 in
set_option maxHeartbeats 400000 in
theorem isPage_any(v0 v1 v2:Value)(lo hi:Nat)(s:SlotD)(w:World)(h1:SlotAt w lo hi v0 v1 v2 s) :
  Calls Tryz.prog 198 #[.agg #[v0,v1,v2]] w fun e w'=>BoolIs (Page s) e∧Below w.heap.size w w':=by
 obtain⟨rfl,⟨m1,a,c,rfl,_⟩,rfl,m2⟩:=h1
 unfold maxLen at m1 m2
 have hbw:=(Below.refl w.heap.size w).alloc (Nat.le_refl _) (.cells #[.int .i64 s.birth,.slice a s.kn c,.string s.data] 127)
 by_cases h1:BirthOk s.birth
 ·have HB:Hid (BirthOk s.birth):=h1
  by_cases h2:s.kn=0
  ·by_cases h3:s.data.size=16
   ·have H:Hid (Page s):=⟨h1,h2,h3⟩
    have e2:((s.kn:Int) == 0)=true:=by simp [h2]
    have e3:((s.data.size:Int) == 16)=true:=by simp [h3]
    clear h1 h2 h3
    go_enter Tryz.func198,Tryz.ntmps198
    go_wp2_with (go_at_call 156; refine(birthRight_any _ _).mono ?_; rintro e w' ⟨⟨t,rfl,ht⟩,rfl⟩; obtain rfl:t=true:=ht.2 HB.out; clear ht)
    go_ret
    exact⟨BoolIs.yes H.out,hbw⟩
   ·have H:Hid (¬Page s):=fun h=>h3 h.2.2
    have e2:((s.kn:Int) == 0)=true:=by simp [h2]
    have e3:((s.data.size:Int) == 16)=false:=by simp; omega
    clear h1 h2 h3
    go_enter Tryz.func198,Tryz.ntmps198
    go_wp2_with (go_at_call 156; refine(birthRight_any _ _).mono ?_; rintro e w' ⟨⟨t,rfl,ht⟩,rfl⟩; obtain rfl:t=true:=ht.2 HB.out; clear ht)
    go_ret
    exact⟨BoolIs.no H.out,hbw⟩
  ·have H:Hid (¬Page s):=fun h=>h2 h.2.1
   have e2:((s.kn:Int) == 0)=false:=by simp; omega
   clear h1 h2
   go_enter Tryz.func198,Tryz.ntmps198
   go_wp2_with (go_at_call 156; refine(birthRight_any _ _).mono ?_; rintro e w' ⟨⟨t,rfl,ht⟩,rfl⟩; obtain rfl:t=true:=ht.2 HB.out; clear ht)
   go_ret
   exact⟨BoolIs.no H.out,hbw⟩
 ·have HB:Hid (¬BirthOk s.birth):=h1
  clear h1
  go_enter Tryz.func198,Tryz.ntmps198
  go_wp2_with (go_at_call 156; refine(birthRight_any _ _).mono ?_; rintro e w' ⟨⟨t,rfl,ht⟩,rfl⟩; obtain rfl:t=false:=bool_no ht HB.out; clear ht)
  go_ret
  exact⟨BoolIs.no fun h=>HB.out h.1,hbw⟩
set_option maxRecDepth 20000 in
set_option maxHeartbeats 400000 in
theorem isNode_any(v0 v1 v2:Value)(lo hi:Nat)(s:SlotD)(w:World)(h1:SlotAt w lo hi v0 v1 v2 s) :
  Calls Tryz.prog 199 #[.agg #[v0,v1,v2]] w fun e w'=>BoolIs (Node s) e∧Below w.heap.size w w':=by
 obtain⟨rfl,⟨m1,a,c,rfl,_⟩,rfl,m2⟩:=h1
 unfold maxLen at m1 m2
 have hbw:=(Below.refl w.heap.size w).alloc (Nat.le_refl _) (.cells #[.int .i64 s.birth,.slice a s.kn c,.string s.data] 127)
 by_cases h1:BirthOk s.birth
 ·have HB:Hid (BirthOk s.birth):=h1
  by_cases h2:s.kn=8
  ·by_cases h3:s.data.toList.isEmpty=true
   ·have H:Hid (Node s):=⟨h1,h2,h3⟩
    have e2:((s.kn:Int) == 8)=true:=by simp [h2]
    clear h1 h2
    go_enter Tryz.func199,Tryz.ntmps199
    go_wp2_with (go_at_call 156; refine(birthRight_any _ _).mono ?_; rintro e w' ⟨⟨t,rfl,ht⟩,rfl⟩; obtain rfl:t=true:=ht.2 HB.out; clear ht)
    go_ret
    exact⟨BoolIs.yes H.out,hbw⟩
   ·have H:Hid (¬Node s):=fun h=>h3 h.2.2
    have e2:((s.kn:Int) == 8)=true:=by simp [h2]
    have e3:s.data.toList.isEmpty=false:=by simpa using h3
    clear h1 h2 h3
    go_enter Tryz.func199,Tryz.ntmps199
    go_wp2_with (go_at_call 156; refine(birthRight_any _ _).mono ?_; rintro e w' ⟨⟨t,rfl,ht⟩,rfl⟩; obtain rfl:t=true:=ht.2 HB.out; clear ht)
    go_ret
    exact⟨BoolIs.no H.out,hbw⟩
  ·have H:Hid (¬Node s):=fun h=>h2 h.2.1
   have e2:((s.kn:Int) == 8)=false:=by simp; omega
   clear h1 h2
   go_enter Tryz.func199,Tryz.ntmps199
   go_wp2_with (go_at_call 156; refine(birthRight_any _ _).mono ?_; rintro e w' ⟨⟨t,rfl,ht⟩,rfl⟩; obtain rfl:t=true:=ht.2 HB.out; clear ht)
   go_ret
   exact⟨BoolIs.no H.out,hbw⟩
 ·have HB:Hid (¬BirthOk s.birth):=h1
  clear h1
  go_enter Tryz.func199,Tryz.ntmps199
  go_wp2_with (go_at_call 156; refine(birthRight_any _ _).mono ?_; rintro e w' ⟨⟨t,rfl,ht⟩,rfl⟩; obtain rfl:t=false:=bool_no ht HB.out; clear ht)
  go_ret
  exact⟨BoolIs.no fun h=>HB.out h.1,hbw⟩
set_option maxRecDepth 20000 in
set_option maxHeartbeats 400000 in
theorem index_any(v:Value)(n lo hi:Nat)(f:Nat→Int)(x:Int)(w:World)(h1:IntsAt w lo hi v n f) :
  Calls Tryz.prog 217 #[v,.int .i64 x] w fun e w'=>(∃r:Int,e = .returned (.int .i64 r)∧(0≤r↔Has n f x))∧w'=w:=by
 obtain⟨m1,a,c,rfl,mc,g1⟩:=h1
 unfold maxLen at m1
 have G1:Hid (0<n→∃b off,a=some ⟨b,off,none⟩∧lo≤b∧b<hi∧∀i,i<n→w.cell? ⟨b,off+i,none⟩=some (.int .i64 (f i))):=g1
 clear g1
 go_enter Tryz.func217,Tryz.ntmps217
 go_wp2
 go_loop [8] (fun i=>∃k:Nat,k≤n∧i = .int .i64 k∧¬Has k f x) (fun i=>n - (intOf i).toNat)
 case atStart=>exact⟨0,Nat.zero_le _,rfl,fun ⟨j,hj,_⟩=>absurd hj (Nat.not_lt_zero _)⟩
 case round=>
  obtain⟨k,hk,rfl,hno⟩:=hrel
  have Hno:Hid (¬Has k f x):=hno
  clear hno
  by_cases hlt:k<n
  ·have hlt':(k:Int)<(n:Int):=by omega
   obtain⟨b,off,rfl,_,_,k1⟩:=G1.out (by omega)
   have hc1:=k1 k hlt
   clear k1 G1
   by_cases he:f k=x
   ·have H:Hid (Has n f x):=⟨k,hlt,he⟩
    have he':(x == f k)=true:=by simp [he]
    clear he
    go_wp2
    go_ret
    exact⟨⟨_,rfl,⟨fun _=>H.out,fun _=>Int.natCast_nonneg _⟩⟩,rfl⟩
   ·have H:Hid (¬f k=x):=he
    have he':(x == f k)=false:=by simp; exact fun e=>he e.symm
    clear he
    go_wp2
    go_round
    case rel=>
     refine⟨k+1,by omega,by go_num,?_⟩
     rintro⟨j,hj,hjx⟩
     by_cases e:j=k
     ·subst e; exact H.out hjx
     ·exact Hno.out ⟨j,by omega,hjx⟩
    case measure=>simp [intOf]; omega
  ·obtain rfl:k=n:=by omega
   go_wp2
   go_ret
   exact⟨⟨-1,rfl,⟨fun h=>absurd h (by omega),fun h=>absurd h Hno.out⟩⟩,rfl⟩
set_option maxRecDepth 20000 in
set_option maxHeartbeats 400000 in
theorem contains_any(v:Value)(n lo hi:Nat)(f:Nat→Int)(x:Int)(w:World)(h1:IntsAt w lo hi v n f) :
  Calls Tryz.prog 192 #[v,.int .i64 x] w fun e w'=>BoolIs (Has n f x) e∧w'=w:=by
 have Hi:Hid (IntsAt w lo hi v n f):=h1
 obtain⟨m1,a,c,rfl,mc,g1⟩:=h1
 clear g1
 go_enter Tryz.func192,Tryz.ntmps192
 go_wp2_with fail
 refine(index_any _ n lo hi f x _ Hi.out).mono ?_
 rintro e w' ⟨⟨r,rfl,hr⟩,rfl⟩
 have Hr:Hid (0≤r↔Has n f x):=hr
 clear hr
 go_wp2
 go_ret
 exact⟨⟨_,rfl,by simpa using Hr.out⟩,rfl⟩
def PtrOf(n:Nat)(f:Nat→SlotD)(x ps pb:Int):Prop:=
 (0≤x∧x<n∧¬Free (f x.toNat)∧ps=x∧pb=(f x.toNat).birth)∨(¬(0≤x∧x<n∧¬Free (f x.toNat))∧ps=0∧pb=0)
set_option maxRecDepth 20000 in
set_option maxHeartbeats 400000 in
theorem ptrOf_any(v:Value)(n lo hi:Nat)(f:Nat→SlotD)(x:Int)(w:World)(h1:SlotsAt w lo hi v n f) :
  Calls Tryz.prog 216 #[v,.int .i64 x] w fun e w'=>(∃ps pb,e = .returned (.agg #[.int .i64 ps,.int .i64 pb])∧PtrOf n f x ps pb)∧Below w.heap.size w w':=by
 have Hi:Hid (SlotsAt w lo hi v n f):=h1
 obtain⟨m1,a,c,rfl,mc,g1⟩:=h1
 unfold maxLen at m1
 clear g1
 have Hbw:Hid (Below w.heap.size w (w.alloc (.cells #[.int .i64 0,.int .i64 0] 61))):=below_alloc _ _
 by_cases h1:x<0
 ·have H:Hid (PtrOf n f x 0 0):=Or.inr ⟨fun h=>by omega,rfl,rfl⟩
  go_enter Tryz.func216,Tryz.ntmps216
  go_wp2
  refine bodyPost_ret (v:=.agg #[.int .i64 0,.int .i64 0]) (by simp [results,Tryz.results216,go_sem]) rfl ⟨⟨0,0,rfl,H.out⟩,Hbw.out⟩
 ·by_cases h2:(n:Int)≤x
  ·have H:Hid (PtrOf n f x 0 0):=Or.inr ⟨fun h=>by omega,rfl,rfl⟩
   go_enter Tryz.func216,Tryz.ntmps216
   go_wp2
   refine bodyPost_ret (v:=.agg #[.int .i64 0,.int .i64 0]) (by simp [results,Tryz.results216,go_sem]) rfl ⟨⟨0,0,rfl,H.out⟩,Hbw.out⟩
  ·obtain⟨k,rfl⟩:=Int.eq_ofNat_of_zero_le (show 0≤x by omega)
   have hk:k<n:=by omega
   have hkl:(k:Int)<(n:Int):=by omega
   obtain⟨b,off,ka,kc,rfl,hs⟩:=Hi.out.cells hk
   have Hs:Hid (SlotCells w b (off+k*3) lo hi ka kc (f k)):=hs
   have hlt:=lt_of_cell hs.c0
   obtain⟨q0,q1,q2,_⟩:=hs
   by_cases hf:Free (f k)
   ·have H:Hid (PtrOf n f k 0 0):=Or.inr ⟨fun h=>h.2.2 (by rw [Int.toNat_natCast]; exact hf),rfl,rfl⟩
    have HF:Hid (Free (f k)):=hf
    clear hf
    go_enter Tryz.func216,Tryz.ntmps216
    go_wp2_with fail
    refine(isFree_any _ _ _ lo hi (f k) _ (Hs.out.slot.below Hbw.out)).mono ?_
    rintro e w1 ⟨⟨t,rfl,hx⟩,hb1⟩
    obtain rfl:t=true:=hx.2 HF.out
    clear hx
    have HX:Hid (Box2 w1 w.heap.size (.int .i64 0) (.int .i64 0)):=(Box2.new w _ _ _).below hb1
    have hbn:=below_next Hbw.out hb1
    clear hb1 q0 q1 q2
    obtain⟨⟨y0,y1⟩,⟨y2,y3⟩⟩:=HX.out
    go_wp2
    have HY:=HX.out.put (.int .i64 0) (.int .i64 0)
    refine bodyPost_ret (v:=.agg #[.int .i64 0,.int .i64 0]) (by simp [results,Tryz.results216,go_sem,HY.1.1,HY.2.1]) rfl ⟨⟨0,0,rfl,H.out⟩,(hbn.setCell (Nat.le_refl _) _).setCell (Nat.le_refl _) _⟩
   ·have H:Hid (PtrOf n f k k (f k).birth):=Or.inl ⟨by omega,hkl,by rw [Int.toNat_natCast]; exact hf,rfl,by rw [Int.toNat_natCast]⟩
    have HF:Hid (¬Free (f k)):=hf
    clear hf
    go_enter Tryz.func216,Tryz.ntmps216
    go_wp2_with fail
    refine(isFree_any _ _ _ lo hi (f k) _ (Hs.out.slot.below Hbw.out)).mono ?_
    rintro e w1 ⟨⟨t,rfl,hx⟩,hb1⟩
    obtain rfl:t=false:=bool_no hx HF.out
    clear hx
    have HX:Hid (Box2 w1 w.heap.size (.int .i64 0) (.int .i64 0)):=(Box2.new w _ _ _).below hb1
    have hbn:=below_next Hbw.out hb1
    have q5:=(Hs.out.below hbn).c0
    clear hb1 q0 q1 q2
    obtain⟨⟨y0,y1⟩,⟨y2,y3⟩⟩:=HX.out
    go_wp2
    have HY:=HX.out.put (.int .i64 k) (.int .i64 (f k).birth)
    refine bodyPost_ret (v:=.agg #[.int .i64 k,.int .i64 (f k).birth]) (by simp [results,Tryz.results216,go_sem,HY.1.1,HY.2.1]) rfl ⟨⟨_,_,rfl,H.out⟩,(hbn.setCell (Nat.le_refl _) _).setCell (Nat.le_refl _) _⟩
theorem run_copy_sized{P:Program}(w:World)(dT sT ty elem:TypeId)(size g o dLen dCap:Nat)(a:Addr)(sLen sCap:Nat)(cur:Array Value)(t:TypeId)(cs:List Value)
  (hu:P.underlying dT=some (.slice elem)) (hs:(P.info? elem).map (·.size)=some size)
  (hg:w.heap[g]?=some (.cells cur t (0,0))) (hn:cs.length=Nat.min sLen dLen*size)
  (hsrc:∀j v,cs[j]?=some v→w.cell? (a.add j)=some v) (hfit:o+cs.length≤cur.size) (h1:∀v∈cs,v.oneCell'=true) :
  (Builtin.copy_ #[dT,sT] ty #[.slice (some ⟨g,o,none⟩) dLen dCap,.slice (some a) sLen sCap]).run P w =
   .ok (goInt (Nat.min sLen dLen)) (w.setRow g (cur.toList.take o ++ cs ++ cur.toList.drop (o+cs.length)).toArray):=by
 have hl:=run_loadCells_list (P:=P) w a cs hsrc
 have hst:=run_storeCells_at P g o t cs 0 cur w hg (by simpa using hfit) h1
 cases hq:P.info? elem with
 | none=>simp [hq] at hs
 | some i=>
  have hi:i.size=size:=by simpa [hq] using hs
  have e:Nat.min sLen dLen*i.size=cs.length:=by rw [hi,hn]
  simp [Builtin.copy_,run_underlying hu,Builtin.lenOf,Builtin.firstCells,sizeOf,typeInfo,hq,e,hl,hst]
theorem run_copy_zero{P:Program}(w:World)(dT sT ty elem:TypeId)(size:Nat)(d a:Option Addr)(dLen dCap sCap:Nat)
  (hu:P.underlying dT=some (.slice elem)) (hs:(P.info? elem).map (·.size)=some size) :
  (Builtin.copy_ #[dT,sT] ty #[.slice d dLen dCap,.slice a 0 sCap]).run P w = .ok (goInt 0) w:=by
 cases hq:P.info? elem with
 | none=>simp [hq] at hs
 | some i=>
  cases a with
  | none=>cases d <;> simp [Builtin.copy_,run_underlying hu,Builtin.lenOf,Builtin.firstCells,sizeOf,typeInfo,hq,storeCells]
  | some a=>cases d <;> simp [Builtin.copy_,run_underlying hu,Builtin.lenOf,Builtin.firstCells,sizeOf,typeInfo,hq,storeCells,loadCells,loadCellsFrom]
def kidCell(s:SlotD)(j:Nat):Int:=if j / 2<s.kn then(if j % 2=0 then s.ks (j / 2)else s.kb (j / 2))else 0
def arr16(f:Nat→Int):Array Value:=((List.range 16).map fun j=>Value.int .i64 (f j)).toArray
def kidsA(s:SlotD):Array Value:=arr16 (kidCell s)
theorem arr16_size(f:Nat→Int):(arr16 f).size=16:=by simp [arr16]
theorem arr16_at(f:Nat→Int){j:Nat}(h:j<16):(arr16 f)[j]?=some (.int .i64 (f j)):=by simp [arr16,h]
theorem arr16_one(f:Nat→Int):(arr16 f).all (·.oneCell')=true:=by
 unfold arr16
 rw [Array.all_eq_true_iff_forall_mem]
 intro v hv
 simp at hv
 obtain⟨j,_,rfl⟩:=hv
 rfl
theorem arr16_ext{f g:Nat→Int}(h:∀j,j<16→f j=g j):arr16 f=arr16 g:=by
 unfold arr16
 congr 1
 apply List.map_congr_left
 intro j hj
 rw [h j (by simpa using hj)]
theorem infoArr:(Tryz.prog.info? 155).map (·.size)=some 16:=by kernel_rfl
theorem infoPtrSize:(Tryz.prog.info? 61).map (·.size)=some 2:=by kernel_rfl
theorem arrU:Tryz.prog.underlying 155=some (.array 8 61):=by kernel_rfl
theorem three_alloc(w:World)(o1 o2 o3:Obj):(((w.alloc o1).alloc o2).alloc o3).heap[w.heap.size+1]?=some o2∧(((w.alloc o1).alloc o2).alloc o3).heap[w.heap.size+1+1]?=some o3∧w.heap.size+1+1<(((w.alloc o1).alloc o2).alloc o3).heap.size:=by
 refine⟨?_,?_,by simp⟩
 ·rw [Below.heap_alloc _ _ _ (by simp)]
  have:=heap_alloc_last (w.alloc o1) o2
  rw [World.size_alloc] at this
  exact this
 ·have:=heap_alloc_last ((w.alloc o1).alloc o2) o3
  rw [World.size_alloc,World.size_alloc] at this
  exact this
theorem Turned.setRow(w:World)(g:Nat)(cs:Array Value):Turned (fun k=>k=g) w (w.setRow g cs):=
 ⟨rfl,rfl,rfl,by simp [World.setRow],fun k _ hs=>setRow_other w g k cs hs⟩
theorem step_copy_kids{ops:Array Oper}{o:Oper}{a:Act}{w:World}{K:Act→World→Prop}{Q:Exit→Act→World→Prop}{E:Prop}(hgd:o.guard=none)(d s:Operand)
  (ho:o.op = .call {callee:=.builtin .copy,args:=#[d,s],argTypes:=#[62,62]})
  (g:Nat) (ka:Option Addr) (kc:Nat) (sl:SlotD) (hd:a.eval d = .slice (some ⟨g,0,none⟩) 8 8) (hs:a.eval s = .slice ka sl.kn kc)
  (hg:w.heap[g]?=some (.cells (arr16 fun _=>0) 155 (0,0))) (hk:sl.kn=0∨(sl.kn=8∧∃b off,ka=some ⟨b,off,none⟩∧∀i,i<sl.kn→w.cell? ⟨b,off+i*2,none⟩=some (.int .i64 (sl.ks i))∧w.cell? ⟨b,off+i*2+1,none⟩=some (.int .i64 (sl.kb i))))
  (h:∀w' v,Hid (w'.heap[g]?=some (.cells (kidsA sl) 155 (0,0)))→Turned (fun k=>k=g) w w'→K (a.put o.dst v) w') :
  if Region.wanted o (yielded ops a.tmps)=true then Oper.wp Tryz.prog o a w K Q else E:=by
 have hw:Region.wanted o (yielded ops a.tmps)=true:=by simp [Region.wanted,hgd]
 rw [if_pos hw]
 have hu:Tryz.prog.underlying 62=some (.slice 61):=by kernel_rfl
 rcases hk with hk | ⟨hk,b,off,rfl,hc⟩
 ·rw [hk] at hs
  have hrun:=run_copy_zero (P:=Tryz.prog) w 62 62 o.type 61 2 (some ⟨g,0,none⟩) ka 8 8 kc hu infoPtrSize
  unfold Oper.wp
  simp [execOp,ho,resolve,invoke,builtin,hd,hs,hrun,Result.andThen]
  refine h _ _ ?_ (Turned.refl _ _)
  show _=_
  rw [hg]
  have:kidsA sl=arr16 (fun _=>0):=arr16_ext fun j _=>by unfold kidCell; rw [if_neg (by omega)]
  rw [this]
 ·rw [hk] at hs
  have hrun:=run_copy_sized (P:=Tryz.prog) w 62 62 o.type 61 2 g 0 8 8 ⟨b,off,none⟩ 8 kc (arr16 fun _=>0) 155 (kidsA sl).toList hu infoPtrSize hg (by simp [kidsA,arr16]) (fun j v hj=>by
    have hj16:j<16:=by
     have:=(List.getElem?_eq_some_iff.1 hj).1
     simpa [kidsA,arr16_size] using this
    have e:(kidsA sl).toList[j]?=some (.int .i64 (kidCell sl j)):=by rw [Array.getElem?_toList]; exact arr16_at (kidCell sl) hj16
    rw [e] at hj
    simp only [Option.some.injEq] at hj
    subst hj
    have hadd:(⟨b,off,none⟩:Addr).add j=⟨b,off+j,none⟩:=by unfold Addr.add; split <;> simp_all
    rw [hadd]
    unfold kidCell
    rw [if_pos (by omega)]
    have hcj:=hc (j / 2) (by omega)
    split
    ·rw [show off+j=off+j / 2*2 by omega]; exact hcj.1
    ·rw [show off+j=off+j / 2*2+1 by omega]; exact hcj.2) (by simp [kidsA,arr16]) (fun v hv=>(Array.all_eq_true_iff_forall_mem.1 (arr16_one _)) v (by simpa [kidsA] using hv))
  unfold Oper.wp
  simp [execOp,ho,resolve,invoke,builtin,hd,hs,hrun,Result.andThen]
  refine h _ _ ?_ (Turned.setRow _ _ _)
  show _=_
  rw [setRow_heap w g _ _ 155 (0,0) hg]
  have e0:((arr16 fun _=>0).toList.drop 16) = []:=List.drop_eq_nil_of_le (by simp [arr16])
  simp [kidsA,arr16_size,e0]
set_option maxRecDepth 20000 in
set_option maxHeartbeats 400000 in
theorem kidsOf_any(v0 v1 v2:Value)(lo hi:Nat)(s:SlotD)(w:World)(h1:SlotAt w lo hi v0 v1 v2 s)(hk:s.kn=0∨s.kn=8) :
  Calls Tryz.prog 162 #[.agg #[v0,v1,v2]] w fun e w'=>e = .returned (.agg (kidsA s))∧Below w.heap.size w w':=by
 obtain⟨rfl,⟨m1,a,c,rfl,mc,g1⟩,rfl,m2⟩:=h1
 unfold maxLen at m1 m2
 have G1:Hid (0<s.kn→∃b off,a=some ⟨b,off,none⟩∧lo≤b∧b<hi∧∀i,i<s.kn→w.cell? ⟨b,off+i*2,none⟩=some (.int .i64 (s.ks i))∧w.cell? ⟨b,off+i*2+1,none⟩=some (.int .i64 (s.kb i))):=g1
 have Hk:Hid (s.kn=0∨s.kn=8):=hk
 clear g1 hk
 go_enter Tryz.func162,Tryz.ntmps162
 go_wp2_with fail
 obtain⟨W,hW⟩:∃W:World,W=((w.alloc (.cells #[.int .i64 s.birth,.slice a s.kn c,.string s.data] 127)).alloc (.cells #[Value.int .i64 0,Value.int .i64 0,Value.int .i64 0,Value.int .i64 0,Value.int .i64 0,Value.int .i64 0,Value.int .i64 0,Value.int .i64 0,Value.int .i64 0,Value.int .i64 0,Value.int .i64 0,Value.int .i64 0,Value.int .i64 0,Value.int .i64 0,Value.int .i64 0,Value.int .i64 0] 155)).alloc (.cells #[Value.int .i64 0,Value.int .i64 0,Value.int .i64 0,Value.int .i64 0,Value.int .i64 0,Value.int .i64 0,Value.int .i64 0,Value.int .i64 0,Value.int .i64 0,Value.int .i64 0,Value.int .i64 0,Value.int .i64 0,Value.int .i64 0,Value.int .i64 0,Value.int .i64 0,Value.int .i64 0] 155):=⟨_,rfl⟩
 have z16:(#[Value.int .i64 0,Value.int .i64 0,Value.int .i64 0,Value.int .i64 0,Value.int .i64 0,Value.int .i64 0,Value.int .i64 0,Value.int .i64 0,Value.int .i64 0,Value.int .i64 0,Value.int .i64 0,Value.int .i64 0,Value.int .i64 0,Value.int .i64 0,Value.int .i64 0,Value.int .i64 0]:Array Value)=arr16 (fun _=>0):=rfl
 have hb:Below w.heap.size w W:=by rw [hW]; exact below_next (below_next (below_alloc _ _) (below_alloc _ _)) (below_alloc _ _)
 have Hx:Hid (Box3 W w.heap.size (.int .i64 s.birth) (.slice a s.kn c) (.string s.data)):=by rw [hW]; exact((Box3.new w _ _ _ _).below (below_alloc _ _)).below (below_alloc _ _)
 have HRG:=three_alloc w (.cells #[.int .i64 s.birth,.slice a s.kn c,.string s.data] 127) (.cells #[Value.int .i64 0,Value.int .i64 0,Value.int .i64 0,Value.int .i64 0,Value.int .i64 0,Value.int .i64 0,Value.int .i64 0,Value.int .i64 0,Value.int .i64 0,Value.int .i64 0,Value.int .i64 0,Value.int .i64 0,Value.int .i64 0,Value.int .i64 0,Value.int .i64 0,Value.int .i64 0] 155) (.cells #[Value.int .i64 0,Value.int .i64 0,Value.int .i64 0,Value.int .i64 0,Value.int .i64 0,Value.int .i64 0,Value.int .i64 0,Value.int .i64 0,Value.int .i64 0,Value.int .i64 0,Value.int .i64 0,Value.int .i64 0,Value.int .i64 0,Value.int .i64 0,Value.int .i64 0,Value.int .i64 0] 155)
 rw [←hW] at HRG
 have HR:Hid (W.heap[w.heap.size+1]?=some (.cells (arr16 fun _=>0) 155 (0,0))):=HRG.1
 have HG:Hid (W.heap[w.heap.size+1+1]?=some (.cells (arr16 fun _=>0) 155 (0,0))):=HRG.2.1
 have hsz:w.heap.size+1+1<W.heap.size:=HRG.2.2
 clear HRG
 have HC:Hid (s.kn=0∨(s.kn=8∧∃b off,a=some ⟨b,off,none⟩∧∀i,i<s.kn→W.cell? ⟨b,off+i*2,none⟩=some (.int .i64 (s.ks i))∧W.cell? ⟨b,off+i*2+1,none⟩=some (.int .i64 (s.kb i)))):=by
  rcases Hk.out with h | h
  ·exact Or.inl h
  ·obtain⟨b,off,ha,_,_,k1⟩:=G1.out (by omega)
   exact Or.inr ⟨h,b,off,ha,fun i hi=>⟨(hb.cell (lt_of_cell (k1 i hi).1)).trans (k1 i hi).1,(hb.cell (lt_of_cell (k1 i hi).2)).trans (k1 i hi).2⟩⟩
 rw [←hW]
 clear hW z16
 obtain⟨⟨x0,x1⟩,⟨x2,x3⟩,⟨x4,x5⟩⟩:=Hx.out
 go_region_law (refine step_copy_kids rfl (.tmp 4) (.tmp 6) rfl (w.heap.size+1+1) a c s (by simp [Act.eval]) (by simp [Act.eval]) HG.out HC.out ?_; intro w1 cv HG1 ht1)
 have hR1:w1.heap[w.heap.size+1]?=some (.cells (arr16 fun _=>0) 155 (0,0)):=(ht1.block _ (by show _<W.heap.size; omega) (by omega)).trans HR.out
 have HR1:Hid (w1.heap[w.heap.size+1]?=some (.cells (arr16 fun _=>0) 155 (0,0))):=hR1
 have hb1:Below w.heap.size w w1:=hb.drew.trans (ht1.below (by show _≤W.heap.size; omega) (by intro k hk; omega))
 clear hR1 ht1 x0 x1 x2 x3 x4 x5
 have hi16:(Tryz.prog.info? 155).map (·.size)=some (kidsA s).size:=by rw [kidsA,arr16_size]; exact infoArr
 have Hi16:Hid ((Tryz.prog.info? 155).map (·.size)=some (kidsA s).size):=hi16
 clear hi16
 go_wp2_with (first
  | (refine wpList_load_row rfl 155 (.tmp 3) rfl (w.heap.size+1+1) rfl 155 (kidsA s) (0,0) _ HG1.out arrU rfl Hi16.out ?_)
  | (refine wpList_store_row rfl 155 (.tmp 2) (.tmp 8) rfl (w.heap.size+1) (kidsA s) rfl rfl 155 (arr16 fun _=>0) HR1.out Hi16.out (by rw [kidsA,arr16_size,arr16_size]) (arr16_one _) ?_))
 refine bodyPost_ret (v:=.agg (kidsA s)) (results_cell_row (P:=Tryz.prog) (ty:=155) Tryz.results162 _ _ (w.heap.size+1) 155 (kidsA s) (0,0) _ rfl (setRow_heap _ _ _ _ _ _ HR1.out) arrU rfl Hi16.out) rfl ⟨rfl,?_⟩
 exact below_setRow hb1 (by omega) _
def KidFound(n:Nat)(f:Nat→SlotD)(b ks kb rs rb:Int):Prop:=
 ∃ps pb,PtrOf n f ks ps pb∧(((PtrEq ks kb 0 0∨b<pb)∧rs=0∧rb=0)∨(¬(PtrEq ks kb 0 0∨b<pb)∧rs=ps∧rb=pb))
set_option maxRecDepth 20000 in
set_option maxHeartbeats 400000 in
theorem kidFound_any(v:Value)(n lo hi:Nat)(f:Nat→SlotD)(ks kb b:Int)(w:World)(h1:SlotsAt w lo hi v n f) :
  Calls Tryz.prog 221 #[v,.agg #[.int .i64 ks,.int .i64 kb],.int .i64 b] w fun e w'=>(∃rs rb,e = .returned (.agg #[.int .i64 rs,.int .i64 rb])∧KidFound n f b ks kb rs rb)∧Below w.heap.size w w':=by
 have Hi:Hid (SlotsAt w lo hi v n f):=h1
 obtain⟨m1,a,c,rfl,mc,g1⟩:=h1
 clear g1
 have Hbw:Hid (Below w.heap.size w ((w.alloc (.cells #[.int .i64 ks,.int .i64 kb] 61)).alloc (.cells #[.int .i64 0,.int .i64 0] 61))):=below_next (below_alloc _ _) (below_alloc _ _)
 go_enter Tryz.func221,Tryz.ntmps221
 go_wp2_with fail
 refine(ptrOf_any _ n lo hi f _ _ (Hi.out.below Hbw.out)).mono ?_
 rintro e w1 ⟨⟨ps,pb,rfl,hp⟩,hb1⟩
 have Hp:Hid (PtrOf n f ks ps pb):=hp
 have HX:Hid (Box2 w1 w.heap.size (.int .i64 ks) (.int .i64 kb)):=((Box2.new w _ _ _).below (below_alloc _ _)).below hb1
 have HR:Hid (Box2 w1 (w.heap.size+1) (.int .i64 0) (.int .i64 0)):=by
  have:=(Box2.new (w.alloc (.cells #[.int .i64 ks,.int .i64 kb] 61)) (.int .i64 0) (.int .i64 0) 61).below hb1
  rw [World.size_alloc] at this
  exact this
 have hbn:=below_next Hbw.out hb1
 have hz:w.heap.size<w1.heap.size:=HX.out.1.lt
 have hz1:w.heap.size+1<w1.heap.size:=HR.out.1.lt
 clear hp hb1
 obtain⟨⟨x0,x1⟩,⟨x2,x3⟩⟩:=HX.out
 obtain⟨⟨y0,y1⟩,⟨y2,y3⟩⟩:=HR.out
 have HY:=fun u0 u1=>(HR.out.put u0 u1).below (below_alloc _ (.cells #[.int .i64 ps,.int .i64 pb] 61))
 have HYh:Hid (∀u0 u1,Box2 (((w1.setCell ⟨w.heap.size+1,0,none⟩ u0).setCell ⟨w.heap.size+1,1,none⟩ u1).alloc (.cells #[.int .i64 ps,.int .i64 pb] 61)) (w.heap.size+1) u0 u1):=HY
 clear HY
 have HBh:Hid (∀u0 u1,Below w.heap.size w (((w1.setCell ⟨w.heap.size+1,0,none⟩ u0).setCell ⟨w.heap.size+1,1,none⟩ u1).alloc (.cells #[.int .i64 ps,.int .i64 pb] 61))):=fun u0 u1=>((hbn.setCell (by show _≤w.heap.size+1; omega) _).setCell (by show _≤w.heap.size+1; omega) _).alloc (by simp; omega) _
 by_cases hnone:PtrEq ks kb 0 0
 ·obtain⟨rfl,rfl⟩:=hnone
  have HK:Hid (KidFound n f b 0 0 0 0):=⟨ps,pb,Hp.out,Or.inl ⟨Or.inl ⟨rfl,rfl⟩,rfl,rfl⟩⟩
  go_wp2
  have hy:=HYh.out (.int .i64 0) (.int .i64 0)
  refine bodyPost_ret (v:=.agg #[.int .i64 0,.int .i64 0]) (by simp [results,Tryz.results221,go_sem,hy.1.1,hy.2.1]) rfl ⟨⟨_,_,rfl,HK.out⟩,HBh.out _ _⟩
 ·have HN:Hid (¬PtrEq ks kb 0 0):=hnone
  have e0:(ks == 0)=false∨(ks == 0)=true∧(kb == 0)=false:=by
   by_cases h:ks=0
   ·right
    refine⟨by simp [h],?_⟩
    have:kb≠0:=fun h'=>hnone ⟨h,h'⟩
    simp [this]
   ·left; simp [h]
  clear hnone
  by_cases hlt:b<pb
  ·have HK:Hid (KidFound n f b ks kb 0 0):=⟨ps,pb,Hp.out,Or.inl ⟨Or.inr hlt,rfl,rfl⟩⟩
   have hy:=HYh.out (.int .i64 0) (.int .i64 0)
   have Hy:Hid (Box2 (((w1.setCell ⟨w.heap.size+1,0,none⟩ (.int .i64 0)).setCell ⟨w.heap.size+1,1,none⟩ (.int .i64 0)).alloc (.cells #[.int .i64 ps,.int .i64 pb] 61)) (w.heap.size+1) (.int .i64 0) (.int .i64 0)):=hy
   clear hy
   rcases e0 with e0 | ⟨e0,e1⟩
   all_goals
    go_wp2
    have hy:=Hy.out
    refine bodyPost_ret (v:=.agg #[.int .i64 0,.int .i64 0]) (by simp [results,Tryz.results221,go_sem,hy.1.1,hy.2.1]) rfl ⟨⟨_,_,rfl,HK.out⟩,HBh.out _ _⟩
  ·have HK:Hid (KidFound n f b ks kb ps pb):=⟨ps,pb,Hp.out,Or.inr ⟨fun h=>by rcases h with h | h; exact HN.out h; exact hlt h,rfl,rfl⟩⟩
   rcases e0 with e0 | ⟨e0,e1⟩
   all_goals
    go_wp2
    have hy:=HYh.out (.int .i64 ps) (.int .i64 pb)
    refine bodyPost_ret (v:=.agg #[.int .i64 ps,.int .i64 pb]) (by simp [results,Tryz.results221,go_sem,hy.1.1,hy.2.1]) rfl ⟨⟨_,_,rfl,HK.out⟩,HBh.out _ _⟩
end Go.Proofs.YtmgeglgboadfiaaGreatDoor
