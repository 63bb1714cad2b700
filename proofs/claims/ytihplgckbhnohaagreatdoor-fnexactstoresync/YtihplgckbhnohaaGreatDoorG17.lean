/- What spec.NameRight and impl.NameRight answer; how texts are ordered. -/
import Derived.Test.YtihplgckbhnohaaGreatDoorProg
import GoSem.ClaimJoined
import GoSem.ClaimMapViews
import Derived.JoinedTies
import Derived.KernelRfl
import Derived.RowKit
import Derived.Test.YtihplgckbhnohaaGreatDoorG1
import Derived.WalkKit
import Derived.WalkSpells
import Derived.WalkLawsBesides
import Derived.ProofKit
import Derived.Test.YtihplgckbhnohaaGreatDoorG15
import Derived.Deep.RegionHeld3
import Derived.BigQuiet
namespace Go.Proofs.YtihplgckbhnohaaGreatDoor
open Go.RowKit
set_option linter.unusedVariables false
def OkAt(i:Nat)(c:Int):Prop:=(97≤c∧c≤122)∨(i≠0∧((48≤c∧c≤57)∨c=95))
def NameP(s:ByteArray):Prop:=1≤s.size∧s.size≤20∧∀j,(h:j<s.size)→OkAt j (s[j].toNat:Int)
theorem relKN{s:ByteArray}{k:Nat}(hlt:k<s.size)(hall:∀j,(h:j<k)→(h':j<s.size)→OkAt j (s[j].toNat:Int))(hok:OkAt k (s[k].toNat:Int)) :
  ∃m:Nat,m≤s.size∧Value.int .i64 ((k:Int)+1) = .int .i64 (m:Int)∧∀j,(h:j<m)→(h':j<s.size)→OkAt j (s[j].toNat:Int):=by
 refine⟨k+1,by omega,by simp,fun j h h'=>?_⟩
 by_cases e:j=k
 ·subst e; exact hok
 ·exact hall j (by omega) h'
theorem rel0N{s:ByteArray}(hlt:0<s.size)(hok:OkAt 0 (s[0].toNat:Int)) :
  ∃m:Nat,m≤s.size∧Value.int .i64 1 = .int .i64 (m:Int)∧∀j,(h:j<m)→(h':j<s.size)→OkAt j (s[j].toNat:Int):=by
 refine⟨1,by omega,by simp,fun j h h'=>?_⟩
 obtain rfl:j=0:=by omega
 exact hok
set_option maxHeartbeats 400000 in
theorem specName_any(s:ByteArray)(w:World)(hs:s.size≤maxLen) :
  Calls Tryz.prog 94 #[.string s] w fun e w'=>BoolIs (NameP s) e∧w'=w:=by
 unfold maxLen at hs
 by_cases h1:s.size<1
 ·have h1':(s.size:Int)<1:=by omega
  go_enter Tryz.func94,Tryz.ntmps94
  go_wp2
  go_ret
  exact⟨⟨false,rfl,by simp [NameP]; omega⟩,rfl⟩
 by_cases h2:20<s.size
 ·have h2':(20:Int)<(s.size:Int):=by omega
  have h1':¬(s.size:Int)<1:=by omega
  go_enter Tryz.func94,Tryz.ntmps94
  go_wp2
  go_ret
  exact⟨⟨false,rfl,by simp [NameP]; omega⟩,rfl⟩
 have h1':¬(s.size:Int)<1:=by omega
 have h2':¬(20:Int)<(s.size:Int):=by omega
 go_enter Tryz.func94,Tryz.ntmps94
 go_wp2
 go_loop [3] (fun i=>∃k:Nat,k≤s.size∧i = .int .i64 k∧∀j,(h:j<k)→(h':j<s.size)→OkAt j (s[j].toNat:Int)) (fun i=>s.size - (intOf i).toNat)
 case atStart=>exact⟨0,Nat.zero_le _,rfl,fun j h=>absurd h (Nat.not_lt_zero _)⟩
 case round=>
  obtain⟨k,hk,rfl,hall⟩:=hrel
  have Hall:Hid (∀j,(h:j<k)→(h':j<s.size)→OkAt j (s[j].toNat:Int)):=hall
  clear hall
  by_cases hlt:k<s.size
  ·by_cases hk0:k=0
   all_goals try subst hk0
   all_goals go_wp2
   all_goals try (go_ret; refine⟨⟨false,rfl,?_⟩,rfl⟩; simp only [Bool.false_eq_true,false_iff]; intro h; have h3:=h.2.2 _ hlt; unfold OkAt at h3; first | omega | grind)
   all_goals
    go_round
    case measure=>simp [intOf]; omega
    case rel=>first | exact rel0N hlt (by unfold OkAt; first | omega | grind) | exact relKN hlt Hall.out (by unfold OkAt; first | omega | grind)
  ·go_wp2
   go_ret
   refine⟨⟨true,rfl,?_⟩,rfl⟩
   simp only [true_iff]
   exact⟨by omega,by omega,fun j h=>Hall.out j (by omega) h⟩
set_option maxHeartbeats 400000 in
theorem implName_any(s:ByteArray)(w:World)(hs:s.size≤maxLen) :
  Calls Tryz.prog 131 #[.string s] w fun e w'=>BoolIs (NameP s) e∧w'=w:=by
 unfold maxLen at hs
 by_cases h1:s.size<1
 ·have h1':(s.size:Int)<1:=by omega
  go_enter Tryz.func131,Tryz.ntmps131
  go_wp2
  go_ret
  exact⟨⟨false,rfl,by simp [NameP]; omega⟩,rfl⟩
 by_cases h2:20<s.size
 ·have h2':(20:Int)<(s.size:Int):=by omega
  have h1':¬(s.size:Int)<1:=by omega
  go_enter Tryz.func131,Tryz.ntmps131
  go_wp2
  go_ret
  exact⟨⟨false,rfl,by simp [NameP]; omega⟩,rfl⟩
 have h1':¬(s.size:Int)<1:=by omega
 have h2':¬(20:Int)<(s.size:Int):=by omega
 have h0:0<s.size:=by omega
 by_cases hc0:97≤(s[0].toNat:Int)∧(s[0].toNat:Int)≤122
 ·obtain⟨hc1,hc2⟩:=hc0
  go_enter Tryz.func131,Tryz.ntmps131
  go_wp2
  go_loop [20] (fun i=>∃k:Nat,k≤s.size∧i = .int .i64 k∧∀j,(h:j<k)→(h':j<s.size)→OkAt j (s[j].toNat:Int)) (fun i=>s.size - (intOf i).toNat)
  case atStart=>exact⟨0,Nat.zero_le _,rfl,fun j h=>absurd h (Nat.not_lt_zero _)⟩
  case round=>
   obtain⟨k,hk,rfl,hall⟩:=hrel
   have Hall:Hid (∀j,(h:j<k)→(h':j<s.size)→OkAt j (s[j].toNat:Int)):=hall
   clear hall
   by_cases hlt:k<s.size
   ·by_cases hk0:k=0
    all_goals try subst hk0
    all_goals go_wp2
    all_goals try (go_ret; refine⟨⟨false,rfl,?_⟩,rfl⟩; simp only [Bool.false_eq_true,false_iff]; intro h; have h3:=h.2.2 _ hlt; unfold OkAt at h3; first | omega | grind)
    all_goals
     go_round
     case measure=>simp [intOf]; omega
     case rel=>first | exact rel0N hlt (by unfold OkAt; first | omega | grind) | exact relKN hlt Hall.out (by unfold OkAt; first | omega | grind)
   ·go_wp2
    go_ret
    refine⟨⟨true,rfl,?_⟩,rfl⟩
    simp only [true_iff]
    exact⟨by omega,by omega,fun j h=>Hall.out j (by omega) h⟩
 ·by_cases hc1:97≤(s[0].toNat:Int)
  ·have hc2:¬(s[0].toNat:Int)≤122:=fun h=>hc0 ⟨hc1,h⟩
   clear hc0
   go_enter Tryz.func131,Tryz.ntmps131
   go_wp2
   go_ret
   refine⟨⟨false,rfl,?_⟩,rfl⟩; simp only [Bool.false_eq_true,false_iff]; intro h; have h3:=h.2.2 _ h0; unfold OkAt at h3; omega
  ·clear hc0
   go_enter Tryz.func131,Tryz.ntmps131
   go_wp2
   go_ret
   refine⟨⟨false,rfl,?_⟩,rfl⟩; simp only [Bool.false_eq_true,false_iff]; intro h; have h3:=h.2.2 _ h0; unfold OkAt at h3; omega
def Rises(a b:ByteArray):Prop:=Op.bytesLess a.toList b.toList=true
theorem bl_total:∀x y:List UInt8,Op.bytesLess x y=true∨x=y∨Op.bytesLess y x=true
 | [],[]=>Or.inr (Or.inl rfl)
 | [],b :: y=>Or.inl (by simp [Op.bytesLess])
 | a :: x,[]=>Or.inr (Or.inr (by simp [Op.bytesLess]))
 | a :: x,b :: y=>by
  simp only [Op.bytesLess,Bool.or_eq_true,decide_eq_true_eq,Bool.and_eq_true,beq_iff_eq,List.cons.injEq]
  by_cases h:a=b
  ·subst h
   rcases bl_total x y with h | h | h
   ·exact Or.inl (Or.inr ⟨rfl,h⟩)
   ·exact Or.inr (Or.inl ⟨rfl,h⟩)
   ·exact Or.inr (Or.inr (Or.inr ⟨rfl,h⟩))
  ·have:a<b∨b<a:=by
    have hne:a.toNat≠b.toNat:=fun e=>h (UInt8.toNat_inj.1 e)
    rw [UInt8.lt_iff_toNat_lt,UInt8.lt_iff_toNat_lt]
    omega
   rcases this with h | h
   ·exact Or.inl (Or.inl h)
   ·exact Or.inr (Or.inr (Or.inl h))
theorem bl_irrefl:∀x:List UInt8,Op.bytesLess x x=false
 | []=>rfl
 | a :: x=>by simp [Op.bytesLess,bl_irrefl x]
theorem bl_asymm:∀x y:List UInt8,Op.bytesLess x y=true→Op.bytesLess y x=false
 | [],[],h=>by simp [Op.bytesLess] at h
 | [],b :: y,_=>by simp [Op.bytesLess]
 | a :: x,[],h=>by simp [Op.bytesLess] at h
 | a :: x,b :: y,h=>by
  simp only [Op.bytesLess,Bool.or_eq_true,decide_eq_true_eq,Bool.and_eq_true,beq_iff_eq] at h
  rw [←Bool.not_eq_true]
  simp only [Op.bytesLess,Bool.or_eq_true,decide_eq_true_eq,Bool.and_eq_true,beq_iff_eq,UInt8.lt_iff_toNat_lt] at h ⊢
  rintro(h' | ⟨h',h2⟩)
  ·rcases h with h | ⟨h,_⟩
   ·omega
   ·subst h; omega
  ·subst h'
   rcases h with h | ⟨_,h⟩
   ·omega
   ·rw [bl_asymm x y h] at h2
    exact absurd h2 (by simp)
theorem bytes_eq{a b:ByteArray}(h:a.toList=b.toList):a=b:=by
 rw [Go.ByteArray.toList_eq,Go.ByteArray.toList_eq] at h
 cases a; cases b
 simp only [ByteArray.mk.injEq] at *
 exact Array.toList_inj.1 h
theorem leq_iff(a b:ByteArray):(Op.bytesLess a.toList b.toList || a.toList == b.toList)=false↔Rises b a:=by
 unfold Rises
 rw [Bool.or_eq_false_iff,beq_eq_false_iff_ne]
 constructor
 ·rintro⟨h1,h2⟩
  rcases bl_total a.toList b.toList with h | h | h
  ·rw [h1] at h; exact absurd h (by simp)
  ·exact absurd h h2
  ·exact h
 ·intro h
  refine⟨bl_asymm _ _ h,fun e=>?_⟩
  rw [e,bl_irrefl] at h
  exact absurd h (by simp)
theorem bl_trans:∀x y z:List UInt8,Op.bytesLess x y=true→Op.bytesLess y z=true→Op.bytesLess x z=true
 | _,[],_,h,_=>by cases ‹List UInt8› <;> simp [Op.bytesLess] at h
 | [],_ :: _,[],_,h=>by simp [Op.bytesLess] at h
 | [],_ :: _,_ :: _,_,_=>by simp [Op.bytesLess]
 | _ :: _,_ :: _,[],_,h=>by simp [Op.bytesLess] at h
 | a :: x,b :: y,c :: z,h,h'=>by
  simp only [Op.bytesLess,Bool.or_eq_true,decide_eq_true_eq,Bool.and_eq_true,beq_iff_eq,UInt8.lt_iff_toNat_lt] at h h' ⊢
  rcases h with h | ⟨h,h1⟩
  ·rcases h' with h' | ⟨h',h2⟩
   ·left; omega
   ·subst h'; left; exact h
  ·subst h
   rcases h' with h' | ⟨h',h2⟩
   ·left; exact h'
   ·subst h'; right; exact⟨rfl,bl_trans x y z h1 h2⟩
end Go.Proofs.YtihplgckbhnohaaGreatDoor

namespace Go.Proofs.YtihplgckbhnohaaGreatDoor
open Go.RowKit Go.Maps
set_option linter.unusedVariables false
def HasId(W:WorldD)(x:Int):Prop:=∃k,k<W.pn∧(W.snaps k).id=x
def HasSet(W:WorldD)(x:ByteArray):Prop:=∃k,k<W.sn∧(W.sets k).name=x
def SetOk(W:WorldD)(i:Nat):Prop:=NameP (W.sets i).name∧(0<i→Rises (W.sets (i - 1)).name (W.sets i).name)∧((W.sets i).prev≠0→HasId W (W.sets i).prev)∧((W.sets i).origin≠0→HasId W (W.sets i).origin)
def SnapA(W:WorldD)(i:Nat):Prop:=1≤(W.snaps i).id∧(W.snaps i).id<W.next∧1≤(W.snaps i).time∧(W.snaps i).time<W.time∧NameP (W.snaps i).name∧HasSet W (W.snaps i).set
def SnapB(W:WorldD)(i:Nat):Prop:=(0<i→(W.snaps (i - 1)).id<(W.snaps i).id∧(W.snaps (i - 1)).time<(W.snaps i).time)∧((W.snaps i).prev≠0→(W.snaps i).prev<(W.snaps i).id∧HasId W (W.snaps i).prev)
def SnapC(W:WorldD)(i j:Nat):Prop:=∀k,k<j→¬((W.snaps k).set=(W.snaps i).set∧(W.snaps k).name=(W.snaps i).name)
def SnapOk(W:WorldD)(i:Nat):Prop:=SnapA W i∧SnapB W i∧SnapC W i i
def SpecNames(W:WorldD):Prop:=Between W.time 1 900000∧Between W.next 1 900000∧W.sn≤8∧W.pn≤20∧(∀i,i<W.sn→SetOk W i)∧∀i,i<W.pn→SnapOk W i
theorem first_snap{W:WorldD}{x r:Int}(h:FirstAt W.pn (fun k=>(W.snaps k).id=x) r):(HasId W x∧0≤r∧r<W.pn∧(W.snaps r.toNat).id=x)∨(¬HasId W x∧r = -1):=by
 rcases h with⟨k,hk,e,_,rfl⟩ | ⟨hn,rfl⟩
 ·exact Or.inl ⟨⟨k,hk,e⟩,by omega,by omega,by simpa using e⟩
 ·exact Or.inr ⟨fun ⟨k,hk,e⟩=>hn k hk e,rfl⟩
theorem first_set{W:WorldD}{x:ByteArray}{r:Int}(h:FirstAt W.sn (fun k=>(W.sets k).name=x) r):(HasSet W x∧0≤r)∨(¬HasSet W x∧r = -1):=by
 rcases h with⟨k,hk,e,_,rfl⟩ | ⟨hn,rfl⟩
 ·exact Or.inl ⟨⟨k,hk,e⟩,by omega⟩
 ·exact Or.inr ⟨fun ⟨k,hk,e⟩=>hn k hk e,rfl⟩
def Box8(w:World)(b:Nat)(v0 v1 v2 v3 v4 v5 v6 v7:Value):Prop:=(Cell w b 0 v0∧Cell w b 1 v1∧Cell w b 2 v2∧Cell w b 3 v3)∧(Cell w b 4 v4∧Cell w b 5 v5∧Cell w b 6 v6∧Cell w b 7 v7)
theorem Box8.below{w w':World}{b:Nat}{v0 v1 v2 v3 v4 v5 v6 v7:Value}(h:Box8 w b v0 v1 v2 v3 v4 v5 v6 v7)(t:Below w.heap.size w w'):Box8 w' b v0 v1 v2 v3 v4 v5 v6 v7:=
 ⟨⟨h.1.1.below t,h.1.2.1.below t,h.1.2.2.1.below t,h.1.2.2.2.below t⟩,h.2.1.below t,h.2.2.1.below t,h.2.2.2.1.below t,h.2.2.2.2.below t⟩
theorem Box8.new(w:World)(v0 v1 v2 v3 v4 v5 v6 v7:Value)(t:TypeId):Box8 (w.alloc (.cells #[v0,v1,v2,v3,v4,v5,v6,v7] t)) w.heap.size v0 v1 v2 v3 v4 v5 v6 v7:=by
 have hb:(w.alloc (.cells #[v0,v1,v2,v3,v4,v5,v6,v7] t)).heap[w.heap.size]?=some (.cells #[v0,v1,v2,v3,v4,v5,v6,v7] t):=heap_alloc_new _ _
 exact⟨⟨cell_of_block hb rfl,cell_of_block hb rfl,cell_of_block hb rfl,cell_of_block hb rfl⟩,cell_of_block hb rfl,cell_of_block hb rfl,cell_of_block hb rfl,cell_of_block hb rfl⟩
end Go.Proofs.YtihplgckbhnohaaGreatDoor

namespace Go.Proofs.YtihplgckbhnohaaGreatDoor
open Go.RowKit Go.Maps
set_option linter.unusedVariables false
open Classical in
noncomputable def ownN(W:WorldD)(name:ByteArray):Nat→Nat
 | 0=>0
 | k+1=>ownN W name k+(if (W.snaps k).set=name then 1 else 0)
theorem ownN_yes{W:WorldD}{name:ByteArray}{k:Nat}(h:(W.snaps k).set=name):ownN W name (k+1)=ownN W name k+1:=by simp [ownN,h]
theorem ownN_no{W:WorldD}{name:ByteArray}{k:Nat}(h:¬(W.snaps k).set=name):ownN W name (k+1)=ownN W name k:=by simp [ownN,h]
theorem ownN_le(W:WorldD)(name:ByteArray):∀k,ownN W name k≤k
 | 0=>Nat.le_refl _
 | k+1=>by
  have:=ownN_le W name k
  by_cases h:(W.snaps k).set=name
  ·rw [ownN_yes h]; omega
  ·rw [ownN_no h]; omega
inductive Steps (W:WorldD) (name:ByteArray) (start:Int):Nat→Int→Prop
 | zero:Steps W name start 0 start
 | next {n:Nat} {x:Int} {k:Nat}:Steps W name start n x→SnapNo W x k→(W.snaps k).set=name→Steps W name start (n+1) (W.snaps k).prev
def OwnAt(W:WorldD)(name:ByteArray)(x:Int):Prop:=∃k,SnapNo W x k∧(W.snaps k).set=name
def LineOk(W:WorldD)(name:ByteArray)(start origin:Int):Prop:=∃n e,Steps W name start n e∧¬OwnAt W name e∧n=ownN W name W.pn∧e=origin
theorem Steps.det{W:WorldD}{name:ByteArray}{start:Int}:∀{n:Nat} {x y:Int},Steps W name start n x→Steps W name start n y→x=y
 | 0,_,_,.zero,.zero=>rfl
 | n+1,_,_,.next h hk _,.next h' hk' _=>by
  have e:=Steps.det h h'
  subst e
  rw [SnapNo.uniq hk hk']
theorem Steps.less{W:WorldD}{name:ByteArray}{start:Int}:∀{n m:Nat} {x:Int},Steps W name start m x→n<m→∃y,Steps W name start n y∧OwnAt W name y
 | n,0,_,_,h=>absurd h (Nat.not_lt_zero _)
 | n,m+1,_,.next (x:=x) h hk hs,hl=>by
  by_cases e:n=m
  ·subst e; exact⟨x,h,_,hk,hs⟩
  ·exact Steps.less h (by omega)
theorem Steps.end{W:WorldD}{name:ByteArray}{start:Int}{n m:Nat}{x y:Int}(h:Steps W name start n x)(hx:¬OwnAt W name x)(h':Steps W name start m y)(hy:¬OwnAt W name y):n=m∧x=y:=by
 have e:n=m:=by
  rcases Nat.lt_trichotomy n m with hl | hl | hl
  ·obtain⟨z,hz,ho⟩:=h'.less hl
   rw [h.det hz] at hx
   exact absurd ho hx
  ·exact hl
  ·obtain⟨z,hz,ho⟩:=h.less hl
   rw [h'.det hz] at hy
   exact absurd ho hy
 subst e
 exact⟨rfl,h.det h'⟩
theorem line_iff{W:WorldD}{name:ByteArray}{start origin:Int}{n:Nat}{x:Int}(h:Steps W name start n x)(hx:¬OwnAt W name x):LineOk W name start origin↔n=ownN W name W.pn∧x=origin:=by
 constructor
 ·rintro⟨m,y,hs,hy,h1,h2⟩
  obtain⟨rfl,rfl⟩:=h.end hx hs hy
  exact⟨h1,h2⟩
 ·rintro⟨h1,h2⟩
  exact⟨n,x,h,hx,h1,h2⟩
theorem first_no{W:WorldD}{x r:Int}{k:Nat}(hk:SnapNo W x k)(h:FirstAt W.pn (fun k=>(W.snaps k).id=x) r):r=(k:Int):=by
 rcases h with⟨j,hj,e,hm,rfl⟩ | ⟨hn,_⟩
 ·rw [SnapNo.uniq hk ⟨hj,e,hm⟩]
 ·exact absurd hk.2.1 (hn k hk.1)
theorem HasId.no{W:WorldD}{x:Int}(h:HasId W x):∃k,SnapNo W x k:=snapNo_of (Nat.le_refl _) h
structure PrevOk (W:WorldD):Prop where
 ids:∀k,k<W.pn→1≤(W.snaps k).id∧(W.snaps k).id<900000
 prev:∀k,k<W.pn→(W.snaps k).prev=0∨HasId W (W.snaps k).prev
 less:∀k,k<W.pn→(W.snaps k).prev<(W.snaps k).id
 sets:∀k,k<W.sn→(W.sets k).prev=0∨HasId W (W.sets k).prev
 names:∀k,k<W.sn→(W.sets k).name.toList.isEmpty=false
theorem PrevOk.pos{W:WorldD}(h:PrevOk W):IdsPos W:=fun k hk=>(h.ids k hk).1
theorem HasId.range{W:WorldD}(h:PrevOk W){x:Int}(hx:HasId W x):1≤x∧x<900000:=by
 obtain⟨k,hk,rfl⟩:=hx
 exact h.ids k hk
theorem name_nonempty{s:ByteArray}(h:NameP s):s.toList.isEmpty=false:=by
 have:=h.1
 rw [Go.ByteArray.toList_eq]
 cases s with
 | mk d=>
  cases hd:d.toList with
  | nil=>
   have h0:d.size=0:=by rw [←Array.length_toList,hd]; rfl
   have h1:1≤d.size:=this
   omega
  | cons a l=>simp
theorem SpecNames.prevOk{W:WorldD}(h:SpecNames W):PrevOk W where
 ids:=fun k hk=>⟨(h.2.2.2.2.2 k hk).1.1,by have:=(h.2.2.2.2.2 k hk).1.2.1; have:=h.2.1.2; omega⟩
 prev:=fun k hk=>by
  by_cases e:(W.snaps k).prev=0
  ·exact Or.inl e
  ·exact Or.inr ((h.2.2.2.2.2 k hk).2.1.2 e).2
 less:=fun k hk=>by
  by_cases e:(W.snaps k).prev=0
  ·have:=(h.2.2.2.2.2 k hk).1.1; omega
  ·exact((h.2.2.2.2.2 k hk).2.1.2 e).1
 sets:=fun k hk=>by
  by_cases e:(W.sets k).prev=0
  ·exact Or.inl e
  ·exact Or.inr ((h.2.2.2.2.1 k hk).2.2.1 e)
 names:=fun k hk=>name_nonempty (h.2.2.2.2.1 k hk).1
structure WalkAt (W:WorldD) (name:ByteArray) (start:Int) (n:Nat) (x:Int):Prop where
 steps:Steps W name start n x
 there:x=0∨HasId W x
 least:0≤x
 sum:(n:Int)+x≤900000
theorem WalkAt.start{W:WorldD}(h:PrevOk W)(name:ByteArray){x:Int}(hx:x=0∨HasId W x):WalkAt W name x 0 x where
 steps:=.zero
 there:=hx
 least:=by rcases hx with rfl | hx; exact Int.le_refl _; have:=hx.range h; omega
 sum:=by rcases hx with rfl | hx; decide; have:=hx.range h; omega
theorem WalkAt.next{W:WorldD}(h:PrevOk W){name:ByteArray}{start:Int}{n:Nat}{x:Int}(hw:WalkAt W name start n x){k:Nat}(hk:SnapNo W x k)(hs:(W.snaps k).set=name):WalkAt W name start (n+1) (W.snaps k).prev where
 steps:=hw.steps.next hk hs
 there:=h.prev k hk.1
 least:=by rcases h.prev k hk.1 with e | e; omega; have:=e.range h; omega
 sum:=by have h1:=h.less k hk.1; have h2:=hw.sum; have h3:=hk.2.1; omega
theorem not_own_zero{W:WorldD}(h:PrevOk W)(name:ByteArray):¬OwnAt W name 0:=fun ⟨k,hk,_⟩=>by
 have:=(h.ids k hk.1).1
 have:=hk.2.1
 omega
theorem not_own_no{W:WorldD}{name:ByteArray}{x:Int}{k:Nat}(hk:SnapNo W x k)(hs:¬(W.snaps k).set=name):¬OwnAt W name x:=fun ⟨j,hj,e⟩=>hs (by rw [SnapNo.uniq hk hj]; exact e)
end Go.Proofs.YtihplgckbhnohaaGreatDoor

namespace Go.Proofs.YtihplgckbhnohaaGreatDoor
open Go.RowKit Go.Maps
set_option linter.unusedVariables false
set_option maxRecDepth 20000 in
set_option maxHeartbeats 4000000 in
theorem l04Chains_any(v0 v1 v2 v3:Value)(lo hi:Nat)(W:WorldD)(w:World)(h:WorldAt w lo hi v0 v1 v2 v3 W)(hP:PrevOk W)(hs:W.sn≤8)(hp:W.pn≤20) :
  Calls Tryz.prog 68 #[worldV v0 v1 v2 v3 W] w fun e w'=>BoolIs (∀i,i<W.sn→LineOk W (W.sets i).name (W.sets i).prev (W.sets i).origin) e∧Below w.heap.size w w':=by
 have Hp:=hideW h
 have HP:=hideW hP
 obtain⟨m1,a,c,rfl,mc,-⟩:=id h.snaps
 obtain⟨m2,a',c',rfl,mc',-⟩:=id h.sets
 unfold maxLen at m1 m2
 clear h hP
 have ha:=below_alloc w (.cells #[v0,v1,.int .i64 W.time,.int .i64 W.next,.slice a' W.sn c',.slice a W.pn c] 39)
 have HB:=hideW (Box6.new w v0 v1 (.int .i64 W.time) (.int .i64 W.next) (.slice a' W.sn c') (.slice a W.pn c) 39)
 go_enter Tryz.func68,Tryz.ntmps68
 go_wp2
 go_loopw [3] (fun i wr=>∃k:Nat,k≤W.sn∧i = .int .i64 k∧(∀j,j<k→LineOk W (W.sets j).name (W.sets j).prev (W.sets j).origin)∧Box6 wr w.heap.size v0 v1 (.int .i64 W.time) (.int .i64 W.next) (.slice a' W.sn c') (.slice a W.pn c)∧Below w.heap.size w wr) (fun i _=>W.sn - (intOf i).toNat)
 case atStart=>exact⟨0,Nat.zero_le _,rfl,fun j hj=>absurd hj (Nat.not_lt_zero _),HB.out,ha⟩
 case round=>
  obtain⟨k,hk,rfl,hall,hX,hb⟩:=hrel
  have Hall:=hideW hall
  have HX:=hideW hX
  clear hall hX ha HB
  obtain⟨⟨x0,-⟩,⟨x2,-⟩,⟨x4,-⟩,⟨x6,-⟩,⟨x8,-⟩,⟨x10,-⟩⟩:=HX.out
  by_cases hlt:k<W.sn
  rotate_left
  ·obtain rfl:k=W.sn:=by omega
   go_wp2
   go_ret
   exact⟨BoolIs.yes Hall.out,hb⟩
  have hlt':(k:Int)<(W.sn:Int):=by omega
  obtain⟨b,off,vd,rfl,-⟩:=(Hp.out.sets.below hb).cells hlt
  go_wp2
  clear x0 x2 x4 x6 x8 x10
  go_loopw [5,6] (fun o i wr=>∃j:Nat,j≤W.pn∧i = .int .i64 j∧o = .int .i64 (ownN W (W.sets k).name j)∧Box6 wr w.heap.size v0 v1 (.int .i64 W.time) (.int .i64 W.next) (.slice (some ⟨b,off,none⟩) W.sn c') (.slice a W.pn c)∧Below w.heap.size w wr) (fun _ i _=>W.pn - (intOf i).toNat)
  case atStart=>exact⟨0,Nat.zero_le _,rfl,rfl,HX.out,hb⟩
  case round=>
   clear HX hb
   obtain⟨j,hj,rfl,rfl,hX,hb⟩:=hrel
   have HX:=hideW hX
   clear hX
   obtain⟨⟨x0,-⟩,⟨x2,-⟩,⟨x4,-⟩,⟨x6,-⟩,⟨x8,-⟩,⟨x10,-⟩⟩:=HX.out
   obtain⟨b',off',vd',e',hsk⟩:=(Hp.out.sets.below hb).cells hlt
   cases e'
   have n0:=hsk.c0
   have n1:=hsk.c1
   have n2:=hsk.c2
   clear hsk
   have hol:=ownN_le W (W.sets k).name j
   by_cases hjt:j<W.pn
   ·have hjt':(j:Int)<(W.pn:Int):=by omega
    obtain⟨b2,off2,vd2,rfl,hs2⟩:=(Hp.out.snaps.below hb).cells hjt
    have q2:=hs2.c2
    clear hs2
    have hbo:((ownN W (W.sets k).name j:Nat):Int)<1000:=by omega
    by_cases he:(W.snaps j).set=(W.sets k).name
    ·have f1:=str_eq he
     have H1:=hideW (ownN_yes he)
     clear he
     go_wp2
     go_quiet (fail)
     go_wp2
     go_roundw
     case rel=>exact⟨j+1,by omega,by go_num,by rw [H1.out]; go_num,HX.out.below (below_drewN (Below.refl _ _) _),below_drewN hb _⟩
     case measure=>simp [intOf]; omega
    ·have f1:=str_ne he
     have H1:=hideW (ownN_no he)
     clear he
     go_wp2
     go_quiet (fail)
     go_wp2
     go_roundw
     case rel=>exact⟨j+1,by omega,by go_num,by rw [H1.out],HX.out.below (below_drewN (Below.refl _ _) _),below_drewN hb _⟩
     case measure=>simp [intOf]; omega
   ·obtain rfl:j=W.pn:=by omega
    go_wp2
    clear x0 x2 x4 x6 x8 x10 n0 n1 n2
    go_loopw [4,7] (fun i x wr=>∃(n:Nat) (y:Int),i = .int .i64 n∧x = .int .i64 y∧WalkAt W (W.sets k).name (W.sets k).prev n y∧Box6 wr w.heap.size v0 v1 (.int .i64 W.time) (.int .i64 W.next) (.slice (some ⟨b,off,none⟩) W.sn c') (.slice a W.pn c)∧Below w.heap.size w wr) (fun _ x _=>(intOf x).toNat)
    case atStart=>exact⟨0,_,rfl,rfl,WalkAt.start HP.out _ (HP.out.sets k hlt),HX.out,hb⟩
    case round=>
     clear HX hb
     obtain⟨n,y,rfl,rfl,hw,hX,hb⟩:=hrel
     have HX:=hideW hX
     have Hw:=hideW hw
     have hsum:=hw.sum
     have hle:=hw.least
     clear hX hw
     obtain⟨⟨x0,-⟩,⟨x2,-⟩,⟨x4,-⟩,⟨x6,-⟩,⟨x8,-⟩,⟨x10,-⟩⟩:=HX.out
     obtain⟨b',off',vd',e',hsk⟩:=(Hp.out.sets.below hb).cells hlt
     cases e'
     have n0:=hsk.c0
     have n1:=hsk.c1
     clear hsk
     by_cases hz:y=0
     ·have Hno:=hideW (show ¬OwnAt W (W.sets k).name y by rw [hz]; exact not_own_zero HP.out _)
      have hzb:(y == 0)=true:=by simp [hz]
      have hzc:decide (y=0)=true:=by simp [hz]
      have hzd:(y != 0)=false:=by simp [hz]
      clear hz
      go_wp2_with fail
      go_quiet (fail)
      clear hzb hzc hzd
      have HXe:=hideW HX.out
      clear x0 x2 x4 x6 x8 x10
      obtain⟨⟨e0,-⟩,⟨e2,-⟩,⟨e4,-⟩,⟨e6,-⟩,⟨e8,-⟩,⟨e10,-⟩⟩:=HXe.out
      by_cases h1:n=ownN W (W.sets k).name W.pn
      ·by_cases h2:y=(W.sets k).origin
       ·have Hl:=hideW ((line_iff (origin:=(W.sets k).origin) Hw.out.steps Hno.out).2 ⟨h1,h2⟩)
        have g1:((n:Int) == (ownN W (W.sets k).name W.pn:Int))=true:=by simp [h1]
        have g2:((n:Int) != (ownN W (W.sets k).name W.pn:Int))=false:=by simp [h1]
        have g3:decide ((n:Int)=(ownN W (W.sets k).name W.pn:Int))=true:=by simp [h1]
        have g4:(y == (W.sets k).origin)=true:=by simp [h2]
        have g5:(y != (W.sets k).origin)=false:=by simp [h2]
        have g6:decide (y=(W.sets k).origin)=true:=by simp [h2]
        clear h1 h2
        go_wp2
        go_roundw
        case rel=>exact⟨k+1,by omega,by go_num,relNext hlt Hall.out Hl.out,HX.out.below (below_drewN (Below.refl _ _) _),below_drewN hb _⟩
        case measure=>simp [intOf]; omega
       ·have Hl:=hideW (show ¬LineOk W (W.sets k).name (W.sets k).prev (W.sets k).origin from fun h=>h2 ((line_iff Hw.out.steps Hno.out).1 h).2)
        have g1:((n:Int) == (ownN W (W.sets k).name W.pn:Int))=true:=by simp [h1]
        have g2:((n:Int) != (ownN W (W.sets k).name W.pn:Int))=false:=by simp [h1]
        have g3:decide ((n:Int)=(ownN W (W.sets k).name W.pn:Int))=true:=by simp [h1]
        have g4:(y == (W.sets k).origin)=false:=by simp [h2]
        have g5:(y != (W.sets k).origin)=true:=by simp [h2]
        have g6:decide (y=(W.sets k).origin)=false:=by simp [h2]
        clear h1 h2
        go_wp2
        go_ret
        exact⟨BoolIs.no fun hA=>Hl.out (hA k hlt),below_drewN hb _⟩
      ·have Hl:=hideW (show ¬LineOk W (W.sets k).name (W.sets k).prev (W.sets k).origin from fun h=>h1 ((line_iff Hw.out.steps Hno.out).1 h).1)
       have h3:¬(n:Int)=(ownN W (W.sets k).name W.pn:Int):=by omega
       have g1:((n:Int) == (ownN W (W.sets k).name W.pn:Int))=false:=by simp [h3]
       have g2:((n:Int) != (ownN W (W.sets k).name W.pn:Int))=true:=by simp [h3]
       have g3:decide ((n:Int)=(ownN W (W.sets k).name W.pn:Int))=false:=by simp [h3]
       clear h1 h3
       go_wp2
       go_ret
       exact⟨BoolIs.no fun hA=>Hl.out (hA k hlt),below_drewN hb _⟩
     ·obtain⟨kk,hkk⟩:=(Hw.out.there.resolve_left hz).no
      have Hkk:=hideW hkk
      have hkl:kk<W.pn:=hkk.1
      have hkl':(kk:Int)<(W.pn:Int):=by omega
      have hpos:=(HP.out.ids kk hkl).1
      have hyid:=hkk.2.1
      have hy1:1≤y:=by omega
      have hless:=HP.out.less kk hkl
      have Hle:=hideW (show(W.snaps kk).prev<y by omega)
      clear hkk hpos hyid hless
      have hzb:(y == 0)=false:=by simp [hz]
      have hzc:decide (y=0)=false:=by simp [hz]
      have hzd:(y != 0)=true:=by simp [hz]
      clear hz
      obtain⟨b2,off2,vd2,rfl,hs2⟩:=(Hp.out.snaps.below hb).cells hkl
      have q2:=hs2.c2
      have q3:=hs2.c3
      clear hs2
      by_cases he:(W.snaps kk).set=(W.sets k).name
      ·have Hnx:=hideW (Hw.out.next HP.out Hkk.out he)
       rw [he] at q2
       clear he
       go_wp2_with fail
       go_region_held3 (fun w'=>w'.cell? ⟨w.heap.size,0,none⟩=some v0∧w'.cell? ⟨w.heap.size,1,none⟩=some v1∧w'.cell? ⟨w.heap.size,2,none⟩=some (.int .i64 W.time)∧w'.cell? ⟨w.heap.size,3,none⟩=some (.int .i64 W.next)∧w'.cell? ⟨w.heap.size,4,none⟩=some (.slice (some ⟨b,off,none⟩) W.sn c')∧w'.cell? ⟨w.heap.size,5,none⟩=some (.slice (some ⟨b2,off2,none⟩) W.pn c)∧w'.cell? ⟨b2,off2+kk*8+2,none⟩=some (.string (W.sets k).name)∧w'.cell? ⟨b,off+k*6,none⟩=some (.string (W.sets k).name)) (go_keep)
        (first | (go_at_call 95; refine(l04Snap_any v0 v1 _ _ lo hi W y _ ?_).mono ?_; (exact(Hp.out.below hb).below (Below.refl _ _).drew); rintro e w6 ⟨r,rfl,hF,hb6⟩; obtain rfl:=first_no Hkk.out hF; obtain⟨⟨y0,_⟩,⟨y1,_⟩,⟨y2,_⟩,⟨y3,_⟩,⟨y4,_⟩,⟨y5,_⟩⟩:=HX.out.below (below_undrew hb6); have z2:=(hb6.cell (p:=⟨b2,off2+kk*8+2,none⟩) (lt_of_cell q2)).trans q2; have z0:=(hb6.cell (p:=⟨b,off+k*6,none⟩) (lt_of_cell n0)).trans n0))
       have HXe:=hideW (HX.out.below (below_undrew hb6))
       have hbe:=below_call hb hb6
       have z3:=(hb6.cell (p:=⟨b2,off2+kk*8+3,none⟩) (lt_of_cell q3)).trans q3
       have z1:=(hb6.cell (p:=⟨b,off+k*6+1,none⟩) (lt_of_cell n1)).trans n1
       clear hb6 HX hb hF y0 y1 y2 y3 y4 y5 x0 x2 x4 x6 x8 x10 q2 q3 n0 n1 hzb hzc hzd
       have hnb:(n:Int)<1000000:=by omega
       obtain⟨⟨e0,-⟩,⟨e2,-⟩,⟨e4,-⟩,⟨e6,-⟩,⟨e8,-⟩,⟨e10,-⟩⟩:=HXe.out
       go_wp2_with fail
       go_region_held3 (fun w'=>w'.cell? ⟨w.heap.size,0,none⟩=some v0∧w'.cell? ⟨w.heap.size,1,none⟩=some v1∧w'.cell? ⟨w.heap.size,2,none⟩=some (.int .i64 W.time)∧w'.cell? ⟨w.heap.size,3,none⟩=some (.int .i64 W.next)∧w'.cell? ⟨w.heap.size,4,none⟩=some (.slice (some ⟨b,off,none⟩) W.sn c')∧w'.cell? ⟨w.heap.size,5,none⟩=some (.slice (some ⟨b2,off2,none⟩) W.pn c)∧w'.cell? ⟨b2,off2+kk*8+3,none⟩=some (.int .i64 (W.snaps kk).prev)) (go_keep)
        (first | (go_at_call 95; refine(l04Snap_any v0 v1 _ _ lo hi W y _ ?_).mono ?_; (exact(Hp.out.below hbe).below (Below.refl _ _).drew); rintro e w7 ⟨r,rfl,hF,hb7⟩; obtain rfl:=first_no Hkk.out hF; obtain⟨⟨y0,_⟩,⟨y1,_⟩,⟨y2,_⟩,⟨y3,_⟩,⟨y4,_⟩,⟨y5,_⟩⟩:=HXe.out.below (below_undrew hb7); have z4:=(hb7.cell (p:=⟨b2,off2+kk*8+3,none⟩) (lt_of_cell z3)).trans z3))
       have HX8:=hideW (HXe.out.below (below_undrew hb7))
       have hb8:=below_call hbe hb7
       clear hb7 HXe hbe hF y0 y1 y2 y3 y4 y5 e0 e2 e4 e6 e8 e10
       go_wp2
       go_roundw
       case rel=>exact⟨n+1,_,by go_num,rfl,Hnx.out,HX8.out,hb8⟩
       case measure=>simp [intOf]; have:=Hle.out; have:=Hnx.out.least; omega
      have Hno:=hideW (not_own_no Hkk.out he)
      have f1:=str_ne he
      clear he
      go_wp2_with fail
      go_region_held3 (fun w'=>w'.cell? ⟨w.heap.size,0,none⟩=some v0∧w'.cell? ⟨w.heap.size,1,none⟩=some v1∧w'.cell? ⟨w.heap.size,2,none⟩=some (.int .i64 W.time)∧w'.cell? ⟨w.heap.size,3,none⟩=some (.int .i64 W.next)∧w'.cell? ⟨w.heap.size,4,none⟩=some (.slice (some ⟨b,off,none⟩) W.sn c')∧w'.cell? ⟨w.heap.size,5,none⟩=some (.slice (some ⟨b2,off2,none⟩) W.pn c)∧w'.cell? ⟨b2,off2+kk*8+2,none⟩=some (.string (W.snaps kk).set)∧w'.cell? ⟨b,off+k*6,none⟩=some (.string (W.sets k).name)) (go_keep)
       (first | (go_at_call 95; refine(l04Snap_any v0 v1 _ _ lo hi W y _ ?_).mono ?_; (exact(Hp.out.below hb).below (Below.refl _ _).drew); rintro e w6 ⟨r,rfl,hF,hb6⟩; obtain rfl:=first_no Hkk.out hF; obtain⟨⟨y0,_⟩,⟨y1,_⟩,⟨y2,_⟩,⟨y3,_⟩,⟨y4,_⟩,⟨y5,_⟩⟩:=HX.out.below (below_undrew hb6); have z2:=(hb6.cell (p:=⟨b2,off2+kk*8+2,none⟩) (lt_of_cell q2)).trans q2; have z0:=(hb6.cell (p:=⟨b,off+k*6,none⟩) (lt_of_cell n0)).trans n0))
      have HXe:=hideW (HX.out.below (below_undrew hb6))
      have hbe:=below_call hb hb6
      have z3:=(hb6.cell (p:=⟨b2,off2+kk*8+3,none⟩) (lt_of_cell q3)).trans q3
      have z1:=(hb6.cell (p:=⟨b,off+k*6+1,none⟩) (lt_of_cell n1)).trans n1
      clear hb6 HX hb hF y0 y1 y2 y3 y4 y5 x0 x2 x4 x6 x8 x10 q2 q3 n0 n1 hzb hzc hzd
      clear f1
      obtain⟨⟨e0,-⟩,⟨e2,-⟩,⟨e4,-⟩,⟨e6,-⟩,⟨e8,-⟩,⟨e10,-⟩⟩:=HXe.out
      by_cases h1:n=ownN W (W.sets k).name W.pn
      ·by_cases h2:y=(W.sets k).origin
       ·have Hl:=hideW ((line_iff (origin:=(W.sets k).origin) Hw.out.steps Hno.out).2 ⟨h1,h2⟩)
        have g1:((n:Int) == (ownN W (W.sets k).name W.pn:Int))=true:=by simp [h1]
        have g2:((n:Int) != (ownN W (W.sets k).name W.pn:Int))=false:=by simp [h1]
        have g3:decide ((n:Int)=(ownN W (W.sets k).name W.pn:Int))=true:=by simp [h1]
        have g4:(y == (W.sets k).origin)=true:=by simp [h2]
        have g5:(y != (W.sets k).origin)=false:=by simp [h2]
        have g6:decide (y=(W.sets k).origin)=true:=by simp [h2]
        clear h1 h2
        go_wp2
        go_roundw
        case rel=>exact⟨k+1,by omega,by go_num,relNext hlt Hall.out Hl.out,HXe.out,hbe⟩
        case measure=>simp [intOf]; omega
       ·have Hl:=hideW (show ¬LineOk W (W.sets k).name (W.sets k).prev (W.sets k).origin from fun h=>h2 ((line_iff Hw.out.steps Hno.out).1 h).2)
        have g1:((n:Int) == (ownN W (W.sets k).name W.pn:Int))=true:=by simp [h1]
        have g2:((n:Int) != (ownN W (W.sets k).name W.pn:Int))=false:=by simp [h1]
        have g3:decide ((n:Int)=(ownN W (W.sets k).name W.pn:Int))=true:=by simp [h1]
        have g4:(y == (W.sets k).origin)=false:=by simp [h2]
        have g5:(y != (W.sets k).origin)=true:=by simp [h2]
        have g6:decide (y=(W.sets k).origin)=false:=by simp [h2]
        clear h1 h2
        go_wp2
        go_ret
        exact⟨BoolIs.no fun hA=>Hl.out (hA k hlt),hbe⟩
      ·have Hl:=hideW (show ¬LineOk W (W.sets k).name (W.sets k).prev (W.sets k).origin from fun h=>h1 ((line_iff Hw.out.steps Hno.out).1 h).1)
       have h3:¬(n:Int)=(ownN W (W.sets k).name W.pn:Int):=by omega
       have g1:((n:Int) == (ownN W (W.sets k).name W.pn:Int))=false:=by simp [h3]
       have g2:((n:Int) != (ownN W (W.sets k).name W.pn:Int))=true:=by simp [h3]
       have g3:decide ((n:Int)=(ownN W (W.sets k).name W.pn:Int))=false:=by simp [h3]
       clear h1 h3
       go_wp2
       go_ret
       exact⟨BoolIs.no fun hA=>Hl.out (hA k hlt),hbe⟩
end Go.Proofs.YtihplgckbhnohaaGreatDoor
