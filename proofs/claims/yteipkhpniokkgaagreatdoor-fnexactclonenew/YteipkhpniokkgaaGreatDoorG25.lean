/- A set is put among the others: where, the row, and the world behind it (no law is proved here). -/
import Derived.Test.YteipkhpniokkgaaGreatDoorG24
import Derived.Test.YteipkhpniokkgaaGreatDoorG2
import Derived.Test.YteipkhpniokkgaaGreatDoorG12
import Derived.Test.YteipkhpniokkgaaGreatDoorG11
import Derived.Test.YteipkhpniokkgaaGreatDoorProg
import Derived.Shelf.SlSortCmp.WholeK
import Derived.Lib.Bytealg
import Derived.Test.YteipkhpniokkgaaGreatDoorG22
import Derived.Test.YteipkhpniokkgaaGreatDoorG13
import Derived.Test.YteipkhpniokkgaaGreatDoorG17
import Derived.Test.YteipkhpniokkgaaGreatDoorG3
import Derived.Deep.RegionHeld3
import Derived.Test.YteipkhpniokkgaaGreatDoorG6
import Derived.Test.YteipkhpniokkgaaGreatDoorG18
import Derived.Test.YteipkhpniokkgaaGreatDoorG9
import Derived.Deep.RegionLaw
import Derived.Test.YteipkhpniokkgaaGreatDoorG23
import Derived.Test.YteipkhpniokkgaaGreatDoorG4
namespace Go.Proofs.YteipkhpniokkgaaGreatDoor
open Go.RowKit
set_option linter.unusedVariables false
def ins{α : Type}(f:Nat→α)(k:Nat)(s:α):Nat→α:=fun j=>if j<k then f j else if j=k then s else f (j - 1)
theorem ins_lo{α : Type}{f:Nat→α}{k j:Nat}{s:α}(h:j<k):ins f k s j=f j:=if_pos h
theorem ins_at{α : Type}{f:Nat→α}{k:Nat}{s:α}:ins f k s k=s:=by
 unfold ins
 rw [if_neg (Nat.lt_irrefl _),if_pos rfl]
theorem ins_hi{α : Type}{f:Nat→α}{k j:Nat}{s:α}(h:k<j):ins f k s j=f (j - 1):=by
 unfold ins
 rw [if_neg (by omega),if_neg (by omega)]
def cellOne(s:SetD)(dv:Value)(r:Nat):Value:=cellSet (fun _=>s) (fun _=>dv) 0 r
theorem cell_lo(f:Nat→SetD)(kv:Nat→Value)(s:SetD)(dv:Value){k j:Nat}(r:Nat)(h:j<k):cellSet (ins f k s) (ins kv k dv) j r=cellSet f kv j r:=by
 unfold cellSet
 rw [ins_lo h,ins_lo h]
theorem cell_at(f:Nat→SetD)(kv:Nat→Value)(s:SetD)(dv:Value)(k r:Nat):cellSet (ins f k s) (ins kv k dv) k r=cellOne s dv r:=by
 unfold cellOne cellSet
 rw [ins_at,ins_at]
theorem cell_hi(f:Nat→SetD)(kv:Nat→Value)(s:SetD)(dv:Value){k j:Nat}(r:Nat)(h:k<j):cellSet (ins f k s) (ins kv k dv) j r=cellSet f kv (j - 1) r:=by
 unfold cellSet
 rw [ins_hi h,ins_hi h]
def PutAt(W:WorldD)(x:ByteArray)(k:Nat):Prop:=k≤W.sn∧(∀j,j<k→Rises (W.sets j).name x)∧∀j,k≤j→j<W.sn→Rises x (W.sets j).name
theorem rises_not{a b:ByteArray}(h:Rises a b):¬Rises b a:=fun h'=>rises_ne (rises_trans h h') rfl
theorem rises_or(a b:ByteArray)(hne:a≠b):Rises a b∨Rises b a:=by
 rcases bl_total a.toList b.toList with h | h | h
 ·exact Or.inl h
 ·have:=str_ne hne
  rw [h] at this
  simp at this
 ·exact Or.inr h
theorem rises_all{n:Nat}{f:Nat→SetD}(h:SetsI n f):∀{i j:Nat},i<j→j<n→Rises (f i).name (f j).name:=by
 intro i j hij hj
 induction j with
 | zero=>omega
 | succ j ih=>
  have h1:=(h.2 (j+1) hj).2
  have h2:lastN f (j+1)=(f j).name:=by unfold lastN; simp
  rw [h2] at h1
  by_cases e:i=j
  ·subst e; exact h1
  ·exact rises_trans (ih (by omega) (by omega)) h1
theorem PutAt.of{W:WorldD}{x:ByteArray}{k:Nat}(hI:SetsI W.sn W.sets)(hno:¬HasSet W x)(hk:k≤W.sn)(h1:∀j,j<k→Rises (W.sets j).name x)(h2:k<W.sn→¬Rises (W.sets k).name x):PutAt W x k:=by
 refine⟨hk,h1,fun j hj hjn=>?_⟩
 have h3:Rises x (W.sets k).name:=by
  rcases rises_or (W.sets k).name x (fun e=>hno ⟨k,by omega,e⟩)with h | h
  ·exact absurd h (h2 (by omega))
  ·exact h
 by_cases e:j=k
 ·subst e; exact h3
 ·exact rises_trans h3 (rises_all hI (by omega) hjn)
theorem PutAt.has{W:WorldD}{x:ByteArray}(hI:SetsI W.sn W.sets)(hno:¬HasSet W x):∃k,PutAt W x k:=by
 have:∀m,m≤W.sn→(∃k,PutAt W x k)∨∀j,j<m→Rises (W.sets j).name x:=by
  intro m
  induction m with
  | zero=>exact fun _=>Or.inr (fun j hj=>absurd hj (Nat.not_lt_zero _))
  | succ m ih=>
   intro hm
   rcases ih (by omega)with h | h
   ·exact Or.inl h
   ·by_cases e:Rises (W.sets m).name x
    ·refine Or.inr (fun j hj=>?_)
     by_cases e2:j=m
     ·subst e2; exact e
     ·exact h j (by omega)
    ·exact Or.inl ⟨m,PutAt.of hI hno (by omega) h (fun _=>e)⟩
 rcases this W.sn (Nat.le_refl _)with h | h
 ·exact h
 ·exact⟨W.sn,Nat.le_refl _,h,fun j h1 h2=>by omega⟩
theorem PutAt.uniq{W:WorldD}{x:ByteArray}{k k':Nat}(h:PutAt W x k)(h':PutAt W x k'):k=k':=by
 rcases Nat.lt_trichotomy k k' with e | e | e
 ·exact absurd (h.2.2 k (Nat.le_refl _) (by have:=h'.1; omega)) (rises_not (h'.2.1 k e))
 ·exact e
 ·exact absurd (h'.2.2 k' (Nat.le_refl _) (by have:=h.1; omega)) (rises_not (h.2.1 k' e))
def addSetW(W:WorldD)(k:Nat)(s:SetD):WorldD:={W with sn:=W.sn+1,sets:=ins W.sets k s}
theorem sets_ins{w w':World}{bs g cap n k:Nat}{kb:Nat→Nat}{kv:Nat→Value}{v:Value}{f:Nat→SetD}{s:SetD}{S:Nat→Prop}(ho:SetsOwn w bs kb kv v n f)(hap:SetsApart kb n f)(hk:k≤n)(hs0:s.dn=0)(hsm:s.name.size≤maxLen)
  (ht:Turned S w w') (hS:∀i,i<n→0<(f i).dn→¬S (kb i)∧kb i≠g) (hm:n+1≤maxLen) (hcap:n+1≤cap)
  (hc:∀j,j<n+1→∀r,r<6→Cell w' g (j*6+r) (cellSet (ins f k s) (ins kv k (.slice none 0 0)) j r)) :
  SetsOwn w' g (ins kb k g) (ins kv k (.slice none 0 0)) (.slice (some ⟨g,0,none⟩) (n+1) cap) (n+1) (ins f k s)∧SetsApart (ins kb k g) (n+1) (ins f k s):=by
 have hel:∀i,i<n→∃o,SetOwn w bs o (kb i) (kv i) (f i):=fun i hi=>by
  obtain⟨_,a,c,hv,_,hx⟩:=ho
  obtain⟨off,ha,h⟩:=hx (by omega)
  exact⟨_,h i hi⟩
 have hold:∀i,i<n→PtrsOwn w' (kb i) (kv i) (f i).dn (f i).ds (f i).db∧(f i).name.size≤maxLen∧(0<(f i).dn→kb i≠g):=fun i hi=>by
  obtain⟨o,h⟩:=hel i hi
  exact⟨h.dead.turned ht (fun h0=>(hS i hi h0).1),h.small,fun h0=>(hS i hi h0).2⟩
 have hnew:∀i,i<n+1→PtrsOwn w' (ins kb k g i) (ins kv k (.slice none 0 0) i) (ins f k s i).dn (ins f k s i).ds (ins f k s i).db∧(ins f k s i).name.size≤maxLen∧(0<(ins f k s i).dn→ins kb k g i≠g):=fun i hi=>by
  rcases Nat.lt_trichotomy i k with e | e | e
  ·rw [ins_lo e,ins_lo e,ins_lo e]; exact hold i (by omega)
  ·subst e
   rw [ins_at,ins_at,ins_at]
   refine⟨⟨by omega,none,0,by rw [hs0],by omega,fun h=>by omega⟩,hsm,fun h=>by omega⟩
  ·rw [ins_hi e,ins_hi e,ins_hi e]; exact hold (i - 1) (by omega)
 refine⟨⟨hm,_,_,rfl,hcap,fun _=>⟨0,rfl,fun i hi=>?_⟩⟩,?_⟩
 ·rw [Nat.zero_add]
  obtain⟨h1,h2,h3⟩:=hnew i hi
  have hc':=hc i hi
  exact⟨hc' 0 (by omega),hc' 1 (by omega),hc' 2 (by omega),hc' 3 (by omega),hc' 4 (by omega),hc' 5 (by omega),h1,h2,h3⟩
 ·intro i j hi hj hij h1 h2
  have key:∀i,i<n+1→0<(ins f k s i).dn→∃i',i'<n∧ins kb k g i=kb i'∧0<(f i').dn∧i=(if i'<k then i' else i'+1):=fun i hi h0=>by
   rcases Nat.lt_trichotomy i k with e | e | e
   ·rw [ins_lo e] at h0
    exact⟨i,by omega,ins_lo e,h0,by rw [if_pos e]⟩
   ·subst e; rw [ins_at] at h0; omega
   ·rw [ins_hi e] at h0
    exact⟨i - 1,by omega,ins_hi e,h0,by rw [if_neg (by omega)]; omega⟩
  obtain⟨i',hi',e1,g1,f1⟩:=key i hi h1
  obtain⟨j',hj',e2,g2,f2⟩:=key j hj h2
  rw [e1,e2]
  exact hap i' j' hi' hj' (fun e=>hij (by rw [f1,f2,e])) g1 g2
theorem addSet_own{w w':World}{P Q R S:Nat→Prop}{v0 v1 v2 v3:Value}{W:WorldD}{lo hi m bs g cap k:Nat}{kb:Nat→Nat}{kv:Nat→Value}{s:SetD}
  (hP:PoolIn w P v0 v1 W.pool) (hO:SetsOwn w bs kb kv v2 W.sn W.sets) (hap:SetsApart kb W.sn W.sets) (hq:∀j,SetsB bs kb W.sn W.sets j→Q j) (hZ:SnapsIn w R v3 W.pn W.snaps) (pq:∀j,P j→¬Q j) (pr:∀j,P j→¬R j) (qr:∀j,Q j→¬R j)
  (hlt:∀j,P j∨Q j∨R j→lo≤j∧j<hi) (hk:k≤W.sn) (hs0:s.dn=0) (hsm:s.name.size≤maxLen) (ht:Turned S w w') (hS:∀j,S j→(0<W.sn∧j=bs)∨j<lo∨hi≤j) (hg:(0<W.sn∧g=bs)∨(hi≤g∧m≤g)) (hgz:g<w'.heap.size) (hm:W.sn+1≤maxLen) (hcap:W.sn+1≤cap)
  (hc:∀j,j<W.sn+1→∀r,r<6→Cell w' g (j*6+r) (cellSet (ins W.sets k s) (ins kv k (.slice none 0 0)) j r)) :
  WorldOwn2 w' lo hi m w'.heap.size v0 v1 (.slice (some ⟨g,0,none⟩) (W.sn+1) cap) v3 (addSetW W k s):=by
 have hbs:0<W.sn→Q bs:=fun h0=>hq _ (Or.inl ⟨h0,rfl⟩)
 have hPS:∀j,P j→¬S j:=fun j hj e=>by
  have h1:=hlt j (Or.inl hj)
  rcases hS j e with⟨h0,rfl⟩ | h | h
  ·exact pq _ hj (hbs h0)
  ·omega
  ·omega
 have hRS:∀j,R j→¬S j:=fun j hj e=>by
  have h1:=hlt j (Or.inr (Or.inr hj))
  rcases hS j e with⟨h0,rfl⟩ | h | h
  ·exact qr _ (hbs h0) hj
  ·omega
  ·omega
 have hel:∀i,i<W.sn→0<(W.sets i).dn→kb i≠bs:=fun i hi h0=>by
  obtain⟨_,a,c,hv,_,hx⟩:=hO
  obtain⟨off,ha,h⟩:=hx (by omega)
  exact(h i hi).apart h0
 have hD:∀i,i<W.sn→0<(W.sets i).dn→¬S (kb i)∧kb i≠g:=fun i hi h0=>by
  have h1:=hlt _ (Or.inr (Or.inl (hq _ (Or.inr ⟨i,hi,h0,rfl⟩))))
  refine⟨fun e=>?_,fun e=>?_⟩
  ·rcases hS _ e with⟨_,h⟩ | h | h
   ·exact hel i hi h0 h
   ·omega
   ·omega
  ·rcases hg with⟨_,h⟩ | h
   ·exact hel i hi h0 (e.trans h)
   ·omega
 obtain⟨hO',hap'⟩:=sets_ins hO hap hk hs0 hsm ht hD hm hcap hc
 have hQ':∀j,SetsB g (ins kb k g) (W.sn+1) (ins W.sets k s) j→Q j∨(hi≤j∧m≤j∧j<w'.heap.size):=by
  rintro j (⟨_,rfl⟩ | ⟨i,hi',h0,rfl⟩)
  ·rcases hg with⟨h0,rfl⟩ | ⟨h1,h2⟩
   ·exact Or.inl (hbs h0)
   ·exact Or.inr ⟨h1,h2,hgz⟩
  ·rcases Nat.lt_trichotomy i k with e | e | e
   ·rw [ins_lo e] at h0 ⊢
    exact Or.inl (hq _ (Or.inr ⟨i,by omega,h0,rfl⟩))
   ·subst e; rw [ins_at] at h0; omega
   ·rw [ins_hi e] at h0 ⊢
    exact Or.inl (hq _ (Or.inr ⟨i - 1,by omega,h0,rfl⟩))
 refine⟨P,_,R,⟨hP.turned ht hPS,⟨g,_,_,hO',hap',fun j hj=>hj⟩,hZ.turned ht hRS,?_,pr,?_⟩,?_⟩
 ·intro j hj h
  rcases hQ' j h with h | h
  ·exact pq j hj h
  ·have:=hlt j (Or.inl hj); omega
 ·intro j hj h
  rcases hQ' j hj with h' | h'
  ·exact qr j h' h
  ·have:=hlt j (Or.inr (Or.inr h)); omega
 ·rintro j (h | h | h)
  ·exact Or.inl (hlt j (Or.inl h))
  ·rcases hQ' j h with h | h
   ·exact Or.inl (hlt j (Or.inr (Or.inl h)))
   ·exact Or.inr h.2
  ·exact Or.inl (hlt j (Or.inr (Or.inr h)))
end Go.Proofs.YteipkhpniokkgaaGreatDoor

namespace Go.Proofs.YteipkhpniokkgaaGreatDoor
open Go.Shelf
def sortSetsL_ren:Go.Shelf.Ren:=⟨fun | 6=>76 | 15=>119 | 14=>118 | 28=>155 | 29=>156 | 20=>147 | 21=>148 | 22=>149 | 23=>150 | 24=>151 | 25=>152 | 26=>153 | 27=>154 | 46=>174 | 47=>175 | 48=>176 | 49=>177 | 50=>178 | 57=>192 | n=>n,fun | 22=>34 | 24=>65 | 25=>127 | 3=>3 | 39=>163 | 0=>0 | 53=>194 | 55=>196 | 4=>4 | 46=>187 | 45=>186 | 50=>191 | 5=>5 | 9=>9 | 66=>208 | 70=>212 | 76=>239 | 77=>240 | n=>n,fun | n=>n⟩
theorem sortSetsL:Go.Proofs.SlLaysF0.n6 Tryz.prog sortSetsL_ren:={
 mixed:=by kernel_rfl
 f6:=⟨Tryz.f76.name,by decide,Tryz.func76.trans (congrArg some (by kernel_rfl))⟩
 f14:=⟨Tryz.f118.name,by decide,Tryz.func118.trans (congrArg some (by kernel_rfl))⟩
 f15:=Tryz.func119.trans (congrArg some (by kernel_rfl))
 f20:=⟨Tryz.f147.name,by decide,Tryz.func147.trans (congrArg some (by kernel_rfl))⟩
 f21:=⟨Tryz.f148.name,by decide,Tryz.func148.trans (congrArg some (by kernel_rfl))⟩
 f22:=⟨Tryz.f149.name,by decide,Tryz.func149.trans (congrArg some (by kernel_rfl))⟩
 f23:=⟨Tryz.f150.name,by decide,Tryz.func150.trans (congrArg some (by kernel_rfl))⟩
 f24:=⟨Tryz.f151.name,by decide,Tryz.func151.trans (congrArg some (by kernel_rfl))⟩
 f25:=⟨Tryz.f152.name,by decide,Tryz.func152.trans (congrArg some (by kernel_rfl))⟩
 f26:=⟨Tryz.f153.name,by decide,Tryz.func153.trans (congrArg some (by kernel_rfl))⟩
 f27:=⟨Tryz.f154.name,by decide,Tryz.func154.trans (congrArg some (by kernel_rfl))⟩
 f28:=Tryz.func155.trans (congrArg some (by kernel_rfl))
 f29:=Tryz.func156.trans (congrArg some (by kernel_rfl))
 f46:=⟨Tryz.f174.name,by decide,Tryz.func174.trans (congrArg some (by kernel_rfl))⟩
 f47:=Tryz.func175.trans (congrArg some (by kernel_rfl))
 f48:=Tryz.func176.trans (congrArg some (by kernel_rfl))
 f49:=⟨Tryz.f177.name,by decide,Tryz.func177.trans (congrArg some (by kernel_rfl))⟩
 f50:=⟨Tryz.f178.name,by decide,Tryz.func178.trans (congrArg some (by kernel_rfl))⟩
 f57:=⟨Tryz.f192.name,by decide,Tryz.func192.trans (congrArg some (by kernel_rfl))⟩
 t0:=Tryz.underlying0
 a0:=Tryz.isAgg0
 z0:=Tryz.sizeOf0
 v0:=Tryz.zeroValue0
 t3:=Tryz.underlying3
 a3:=Tryz.isAgg3
 z3:=Tryz.sizeOf3
 v3:=Tryz.zeroValue3
 t4:=Tryz.underlying4
 a4:=Tryz.isAgg4
 z4:=Tryz.sizeOf4
 v4:=Tryz.zeroValue4
 t5:=Tryz.underlying5
 a5:=Tryz.isAgg5
 z5:=Tryz.sizeOf5
 v5:=Tryz.zeroValue5
 t9:=Tryz.underlying9
 a9:=Tryz.isAgg9
 z9:=Tryz.sizeOf9
 v9:=Tryz.zeroValue9
 t22:=Tryz.underlying34
 a22:=Tryz.isAgg34
 z22:=Tryz.sizeOf34
 v22:=Tryz.zeroValue34
 t25:=Tryz.underlying127
 a25:=Tryz.isAgg127
 z25:=Tryz.sizeOf127
 v25:=Tryz.zeroValue127
 t39:=Tryz.underlying163
 a39:=Tryz.isAgg163
 z39:=Tryz.sizeOf163
 v39:=Tryz.zeroValue163
 t45:=Tryz.underlying186
 a45:=Tryz.isAgg186
 z45:=Tryz.sizeOf186
 v45:=Tryz.zeroValue186
 t46:=Tryz.underlying187
 a46:=Tryz.isAgg187
 z46:=Tryz.sizeOf187
 v46:=Tryz.zeroValue187
 t50:=Tryz.underlying191
 a50:=Tryz.isAgg191
 z50:=Tryz.sizeOf191
 v50:=Tryz.zeroValue191
 t53:=Tryz.underlying194
 a53:=Tryz.isAgg194
 z53:=Tryz.sizeOf194
 v53:=Tryz.zeroValue194
 t55:=Tryz.underlying196
 a55:=Tryz.isAgg196
 z55:=Tryz.sizeOf196
 v55:=Tryz.zeroValue196
 t66:=Tryz.underlying208
 a66:=Tryz.isAgg208
 z66:=Tryz.sizeOf208
 v66:=Tryz.zeroValue208
 t70:=Tryz.underlying212
 a70:=Tryz.isAgg212
 z70:=Tryz.sizeOf212
 v70:=Tryz.zeroValue212
 t76:=Tryz.underlying239
 a76:=Tryz.isAgg239
 z76:=Tryz.sizeOf239
 v76:=Tryz.zeroValue239
 t77:=Tryz.underlying240
 a77:=Tryz.isAgg240
 z77:=Tryz.sizeOf240
 v77:=Tryz.zeroValue240}
end Go.Proofs.YteipkhpniokkgaaGreatDoor

namespace Go.Proofs.YteipkhpniokkgaaGreatDoor
open Go.RowKit
set_option linter.unusedVariables false
theorem cmp_less : ∀ x y : List UInt8, Lib.compareBytes x y < 0 ↔ Op.bytesLess x y = true
  | [], [] => by simp [Lib.compareBytes, Op.bytesLess]
  | [], b :: y => by simp [Lib.compareBytes, Op.bytesLess]
  | a :: x, [] => by simp [Lib.compareBytes, Op.bytesLess]
  | a :: x, b :: y => by
    simp only [Lib.compareBytes, Op.bytesLess, Bool.or_eq_true, decide_eq_true_eq, Bool.and_eq_true, beq_iff_eq]
    by_cases h1 : a < b
    · rw [if_pos h1]; simp [h1]
    · rw [if_neg h1]
      by_cases h2 : b < a
      · rw [if_pos h2]
        have h3 : a ≠ b := fun e => by subst e; exact h1 h2
        simp [h1, h3]
      · rw [if_neg h2]
        have h3 : a = b := by
          rw [UInt8.lt_iff_toNat_lt] at h1 h2
          exact UInt8.toNat_inj.1 (by omega)
        rw [cmp_less x y]
        simp [h3]
/-- How the names of two of a row compare. -/
def cmpN (f : Nat → SetD) (x y : Nat) : Int := Lib.compareBytes (f x).name.data.toList (f y).name.data.toList
theorem cmpN_lt (f : Nat → SetD) (x y : Nat) : ltOf (cmpN f) x y = true ↔ Rises (f x).name (f y).name := by
  unfold ltOf cmpN Rises
  rw [decide_eq_true_eq, cmp_less, Go.ByteArray.toList_eq, Go.ByteArray.toList_eq]
theorem cmpN_not (f : Nat → SetD) (x y : Nat) : ltOf (cmpN f) x y = false ↔ ¬ Rises (f x).name (f y).name := by
  rw [← cmpN_lt, Bool.not_eq_true]
theorem swoN (f : Nat → SetD) : Go.Sort.SWO (ltOf (cmpN f)) where
  irrefl x := (cmpN_not f x x).2 (fun h => rises_ne h rfl)
  trans x y z h1 h2 := (cmpN_lt f x z).2 (rises_trans ((cmpN_lt f x y).1 h1) ((cmpN_lt f y z).1 h2))
  ntrans x y z h1 h2 := (cmpN_not f x z).2 (fun h => by
    rw [cmpN_not] at h1 h2
    by_cases e : (f x).name = (f y).name
    · rw [e] at h; exact h2 h
    · rcases rises_or _ _ e with h3 | h3
      · exact h1 h3
      · exact h2 (rises_trans h3 h))
/-- The one order. -/
theorem sorted_ins {n k : Nat} (hk : k ≤ n) {lt : Nat → Nat → Bool} (hl : ∀ i j, i < j → j < n → lt j i = false ∧ lt i j = true) (h1 : ∀ i, i < k → lt n i = false ∧ lt i n = true) (h2 : ∀ i, k ≤ i → i < n → lt i n = false ∧ lt n i = true)
    {d' : Array Nat} (hsz : d'.size = n + 1) (hp : d'.toList.Perm (List.range (n + 1))) (hs : ∀ i j, i < j → j < n + 1 → lt d'[j]! d'[i]! = false) : d'.toList = List.range k ++ n :: List.range' k (n - k) := by
  have hrg : List.range (n + 1) = (List.range k ++ List.range' k (n - k)) ++ [n] := by
    rw [List.range_succ]
    congr 1
    rw [List.range_eq_range', List.range_eq_range']
    have := List.range'_append_1 (s := 0) (m := k) (n := n - k)
    rw [Nat.zero_add] at this
    rw [this, show k + (n - k) = n by omega]
  refine List.Perm.eq_of_pairwise (le := fun x y => lt y x = false) ?_ ?_ ?_ (hp.trans ?_)
  · intro a b ha hb h3 h4
    have ha' : a < n + 1 := List.mem_range.1 (hp.mem_iff.1 ha)
    have hb' : b < n + 1 := by
      rw [List.mem_append, List.mem_cons, List.mem_range, List.mem_range'_1] at hb
      omega
    by_cases e : a = b
    · exact e
    · exfalso
      rcases Nat.lt_or_gt_of_ne e with e | e
      · by_cases e2 : b < n
        · rw [(hl a b e e2).2] at h4; cases h4
        · obtain rfl : b = n := by omega
          by_cases e3 : a < k
          · rw [(h1 a e3).2] at h4; cases h4
          · rw [(h2 a (by omega) e).2] at h3; cases h3
      · by_cases e2 : a < n
        · rw [(hl b a e e2).2] at h3; cases h3
        · obtain rfl : a = n := by omega
          by_cases e3 : b < k
          · rw [(h1 b e3).2] at h3; cases h3
          · rw [(h2 b (by omega) e).2] at h4; cases h4
  · rw [List.pairwise_iff_getElem]
    intro i j hi hj hij
    have hi' : i < d'.size := by simpa using hi
    have hj' : j < d'.size := by simpa using hj
    have := hs i j hij (by omega)
    rw [getElem!_pos d' i hi', getElem!_pos d' j hj'] at this
    simpa using this
  · rw [List.pairwise_append]
    refine ⟨?_, ?_, ?_⟩
    · refine List.Pairwise.imp_of_mem ?_ (List.pairwise_lt_range (n := k))
      intro a b ha hb hab
      exact (hl a b hab (by have := List.mem_range.1 hb; omega)).1
    · rw [List.pairwise_cons]
      refine ⟨fun a ha => ?_, ?_⟩
      · rw [List.mem_range'_1] at ha
        exact (h2 a (by omega) (by omega)).1
      · refine List.Pairwise.imp_of_mem ?_ (List.pairwise_lt_range' (s := k) (n := n - k))
        intro a b ha hb hab
        rw [List.mem_range'_1] at hb
        exact (hl a b hab (by omega)).1
    · intro a ha b hb
      have ha' := List.mem_range.1 ha
      rw [List.mem_cons, List.mem_range'_1] at hb
      rcases hb with rfl | hb
      · exact (h1 a ha').1
      · exact (hl a b (by omega) (by omega)).1
  · rw [hrg, List.append_assoc]
    exact List.Perm.append_left _ (List.perm_append_singleton n _)
theorem ins_list {n k j : Nat} (hk : k ≤ n) (hj : j < n + 1) {d' : Array Nat} (h : d'.toList = List.range k ++ n :: List.range' k (n - k)) : d'[j]! = if j < k then j else if j = k then n else j - 1 := by
  have hsz : d'.size = n + 1 := by
    have := congrArg List.length h
    simp at this
    omega
  rw [getElem!_pos d' j (by omega)]
  have e : d'.toList[j]? = some d'[j] := by
    rw [Array.getElem?_toList]
    exact Array.getElem?_eq_getElem (by omega)
  rw [h] at e
  rcases Nat.lt_trichotomy j k with h3 | h3 | h3
  · rw [if_pos h3]
    rw [List.getElem?_append_left (by simpa using h3), List.getElem?_range h3] at e
    injection e with e
    exact e.symm
  · subst h3
    rw [if_neg (Nat.lt_irrefl _), if_pos rfl]
    rw [List.getElem?_append_right (by simp), List.length_range, Nat.sub_self] at e
    simp at e
    exact e.symm
  · rw [if_neg (by omega), if_neg (by omega)]
    rw [List.getElem?_append_right (by simp; omega), List.length_range, show j - k = (j - 1 - k) + 1 by omega, List.getElem?_cons_succ, List.getElem?_range' (by omega)] at e
    injection e with e
    omega
set_option maxRecDepth 20000 in
theorem cmpString_any (a b : ByteArray) (w : World) : Calls Tryz.prog 120 #[.string a, .string b] w fun e w' => e = .returned (.int .i64 (Lib.compareBytes a.data.toList b.data.toList)) ∧ w' = w := by
  go_enter Tryz.func120, Tryz.ntmps120
  go_wp2
  rw [run_callFunc_extern Tryz.func157 (by kernel_rfl) (by kernel_rfl) (by kernel_rfl) (e := Extern.BytealgCompare.compare) (by kernel_rfl), Lib.run_compareString]
  simp only [Result.andThen]
  rw [Oper.upon_value]
  go_wp2
  go_ret
  exact ⟨rfl, rfl⟩
set_option maxRecDepth 20000 in
theorem strCompare_any (a b : ByteArray) (w : World) : Calls Tryz.prog 78 #[.string a, .string b] w fun e w' => e = .returned (.int .i64 (Lib.compareBytes a.data.toList b.data.toList)) ∧ w' = w := by
  go_enter Tryz.func78, Tryz.ntmps78
  go_wp2_with (go_at_call 120; refine (cmpString_any _ _ _).mono ?_; rintro e w' ⟨rfl, rfl⟩)
  go_ret
  exact ⟨rfl, rfl⟩
def encS (f : Nat → SetD) (kv : Nat → Value) (i : Nat) : List Value := [.string (f i).name, .int .i64 (f i).origin, .int .i64 (f i).prev, .int .i64 (f i).rs, .int .i64 (f i).rb, kv i]
set_option maxRecDepth 20000 in
theorem addCmp_any (f : Nat → SetD) (kv : Nat → Value) (hkv : ∀ i, ∃ a m c, kv i = .slice a m c) (x y : Nat) (W : World) : Calls Tryz.prog 77 #[.agg (encS f kv x).toArray, .agg (encS f kv y).toArray] W fun e w' => e = .returned (.int .i64 (cmpN f x y)) ∧ ∃ q os', w' = Go.Sort.grow (W.drewN q) os' := by
  obtain ⟨a1, m1, c1, e1⟩ := hkv x
  obtain ⟨a2, m2, c2, e2⟩ := hkv y
  have hcon := fun W' => strCompare_any (f x).name (f y).name W'
  unfold encS
  rw [e1, e2]
  unfold cmpN
  generalize Lib.compareBytes (f x).name.data.toList (f y).name.data.toList = r at hcon ⊢
  clear hkv
  go_enter Tryz.func77, Tryz.ntmps77
  go_wp2_with (go_at_call 78; refine (hcon _).mono ?_; rintro e w' ⟨rfl, rfl⟩)
  go_ret
  exact ⟨rfl, 0, _, by rw [Go.Sort.alloc_eq_grow, Go.Sort.alloc_eq_grow, Go.Sort.grow_grow]; rfl⟩
theorem encS_at (f : Nat → SetD) (kv : Nat → Value) (i : Nat) : ∀ r, r < 6 → (encS f kv i)[r]! = cellSet f kv i r
  | 0, _ => rfl
  | 1, _ => rfl
  | 2, _ => rfl
  | 3, _ => rfl
  | 4, _ => rfl
  | 5, _ => rfl
  | n + 6, h => absurd h (by omega)
theorem turned_sort {α : Type} [Inhabited α] (enc : α → List Value) (k : Nat) (w : World) (g m : Nat) (d : Array α) (os : Array Obj) : Turned (fun j => j = g) w (sortWorldK enc k w g 0 m d os) := by
  refine ⟨rfl, rfl, rfl, ?_, fun j hj hne => ?_⟩
  · simp [sortWorldK, Go.Sort.grow, Go.Sort.putRowK, Go.Sort.putRow, Go.Sort.mapBlock, Go.Sort.ahead]
  · have hne' : ¬ g = j := fun e => hne e.symm
    simp [sortWorldK, Go.Sort.grow, Go.Sort.putRowK, Go.Sort.putRow, Go.Sort.mapBlock, Go.Sort.ahead, Array.getElem?_append, Array.getElem_modify, hj, hne']
theorem sortSets_any (n k g cap : Nat) (f : Nat → SetD) (kv : Nat → Value) (hkv : ∀ i, ∃ a m c, kv i = .slice a m c) (w : World) (hg : g < w.heap.size) (hk : k ≤ n) (hn : n ≤ 1000)
    (hc : ∀ i, i < n + 1 → ∀ r, r < 6 → Cell w g (i * 6 + r) (cellSet f kv i r)) (hl : ∀ i j, i < j → j < n → Rises (f i).name (f j).name) (h1 : ∀ i, i < k → Rises (f i).name (f n).name) (h2 : ∀ i, k ≤ i → i < n → Rises (f n).name (f i).name) :
    Calls Tryz.prog 76 #[.slice (some ⟨g, 0, none⟩) (n + 1) cap, .func (.func 77) #[] #[]] w fun e w' => e = .returned (.tuple #[]) ∧ Turned (fun j => j = g) w w' ∧ ∀ j, j < n + 1 → ∀ r, r < 6 → Cell w' g (j * 6 + r) (cellSet (ins f k (f n)) (ins kv k (kv n)) j r) := by
  have hsz : (Array.range (n + 1)).size = n + 1 := Array.size_range
  have hH : Go.Sort.HoldsK (encS f kv) 6 w g 0 (Array.range (n + 1)) := by
    intro j hj
    rw [Go.Sort.size_flatK, hsz] at hj
    rw [Go.Sort.get_flatK _ _ _ _ (by rw [hsz]; exact hj), Nat.zero_add]
    have hd : j / 6 < n + 1 := by omega
    rw [getElem!_pos (Array.range (n + 1)) (j / 6) (by omega), Array.getElem_range, encS_at _ _ _ _ (by omega)]
    have := hc (j / 6) hd (j % 6) (by omega)
    rw [show j / 6 * 6 + j % 6 = j by omega] at this
    exact this
  have hcon := AnyQ.slices_SortFunc sortSetsL 6 Tryz.isAgg65 Tryz.sizeOf65 (encS f kv) (fun _ => rfl) (fun x v hv => by
    obtain ⟨a, m, c, e⟩ := hkv x
    simp only [encS, List.mem_cons, List.not_mem_nil, or_false] at hv
    rcases hv with rfl | rfl | rfl | rfl | rfl | rfl
    all_goals first | rfl | (rw [e]; rfl)) (cmpN f) (swoN f) 77 #[] g 0 cap (Array.range (n + 1)) w (enters_of Tryz.func77 (by kernel_rfl) rfl) (fun m os dk hs x y => addCmp_any f kv hkv x y _) hH hg (by omega)
  change Calls Tryz.prog 76 _ _ _ at hcon
  rw [hsz] at hcon
  refine hcon.mono ?_
  rintro e w' ⟨rfl, d', m, os, hp, hs, rfl⟩
  refine ⟨rfl, turned_sort _ _ _ _ _ _ _, fun j hj r hr => ?_⟩
  have hsz' : d'.size = n + 1 := hp.1.trans hsz
  have hL := sorted_ins hk (lt := ltOf (cmpN f)) (d' := d') (fun i j hij hjn => ⟨(cmpN_not f j i).2 (rises_not (hl i j hij hjn)), (cmpN_lt f i j).2 (hl i j hij hjn)⟩)
    (fun i hi => ⟨(cmpN_not f n i).2 (rises_not (h1 i hi)), (cmpN_lt f i n).2 (h1 i hi)⟩)
    (fun i hi hin => ⟨(cmpN_not f i n).2 (rises_not (h2 i hi hin)), (cmpN_lt f n i).2 (h2 i hi hin)⟩) hsz'
    (by
      have h3 := hp.2.2
      rw [show d'.extract 0 (n + 1) = d' by rw [← hsz']; exact Array.extract_size, show (Array.range (n + 1)).extract 0 (n + 1) = Array.range (n + 1) by
        have := Array.extract_size (xs := Array.range (n + 1))
        rwa [hsz] at this] at h3
      simpa using h3)
    (fun i j hij hj => hs i j (Nat.zero_le _) hij hj)
  have hw : Go.Sort.HoldsK (encS f kv) 6 (sortWorldK (encS f kv) 6 w g 0 m d' os) g 0 d' :=
    Go.Sort.holdsK_grow _ _ _ os g 0 d' (by simpa [Go.Sort.putRowK] using hg) (Go.Sort.holdsK_putRowK _ _ _ g 0 (Array.range (n + 1)) d' (Go.Sort.holdsK_ahead _ _ w m g 0 _ hH) (by omega))
  have h3 := hw.cell (i := j) (c := r) (by omega) hr
  rw [Nat.zero_add, ins_list hk hj hL, encS_at _ _ _ _ hr] at h3
  have e : cellSet (ins f k (f n)) (ins kv k (kv n)) j r = cellSet f kv (if j < k then j else if j = k then n else j - 1) r := by
    rcases Nat.lt_trichotomy j k with h | h | h
    · rw [if_pos h]; exact cell_lo f kv (f n) (kv n) r h
    · rw [if_neg (by omega), if_pos h, h]; exact cell_at f kv (f n) (kv n) k r
    · rw [if_neg (by omega), if_neg (by omega)]; exact cell_hi f kv (f n) (kv n) r h
  rw [e]
  exact h3
end Go.Proofs.YteipkhpniokkgaaGreatDoor

namespace Go.Proofs.YteipkhpniokkgaaGreatDoor
open Go.RowKit
set_option linter.unusedVariables false
theorem setOwn_cell{w:World}{bs o nb:Nat}{f:Nat→SetD}{kv:Nat→Value}{i:Nat}(h:SetOwn w bs o nb (kv i) (f i)):∀r,r<6→w.cell? ⟨bs,o+r,none⟩=some (cellSet f kv i r)
 | 0,_=>h.c0.1
 | 1,_=>h.c1.1
 | 2,_=>h.c2.1
 | 3,_=>h.c3.1
 | 4,_=>h.c4.1
 | 5,_=>h.c5.1
 | n+6,h=>absurd h (by omega)
def setC(s:SetD):List Value:=[.string s.name,.int .i64 s.origin,.int .i64 s.prev,.int .i64 s.rs,.int .i64 s.rb,.slice none 0 0]
theorem setC_at(s:SetD):∀r,r<6→(setC s)[r]?=some (cellOne s (.slice none 0 0) r)
 | 0,_=>rfl
 | 1,_=>rfl
 | 2,_=>rfl
 | 3,_=>rfl
 | 4,_=>rfl
 | 5,_=>rfl
 | n+6,h=>absurd h (by omega)
def endS(f:Nat→SetD)(n:Nat)(s:SetD):Nat→SetD:=fun j=>if j<n then f j else s
def endV(kv:Nat→Value)(n:Nat):Nat→Value:=fun j=>if j<n then kv j else .slice none 0 0
theorem setT:Tryz.prog.underlying 34=some (.slice 65):=by kernel_rfl
theorem addr_add(b j:Nat):(⟨b,0,none⟩:Addr).add j=⟨b,j,none⟩:=by
 unfold Addr.add
 split
 ·simp_all
 ·simp
theorem run_addSet{w:World}{bs n B base:Nat}{kb:Nat→Nat}{kv:Nat→Value}{v:Value}{f:Nat→SetD}{s:SetD}(ho:SetsOwn w bs kb kv v n f)(hB:RowB w 65 6 v n)(hn:n<8)(hbs:0<n→base≤bs)(hnew:∀j u,(setC s)[j]?=some u→w.cell? ⟨B,j,none⟩=some u)(hbase:base≤w.heap.size)(ty:TypeId) :
  ∃g cap w',(Builtin.append_ #[34,34] ty #[v,.slice (some ⟨B,0,none⟩) 1 1]).run Tryz.prog w = .ok (.slice (some ⟨g,0,none⟩) (n+1) cap) w'∧Turned (fun j=>0<n∧j=bs) w w'∧((0<n∧g=bs)∨g=w.heap.size)∧g<w'.heap.size∧n+1≤cap∧RowB w' 65 6 (.slice (some ⟨g,0,none⟩) (n+1) cap) (n+1)∧
   ∀i,i<n+1→∀r,r<6→Cell w' g (i*6+r) (cellSet (endS f n s) (endV kv n) i r):=by
 obtain⟨i0,hi0,hzz⟩:=Option.map_eq_some_iff.1 infoSetT
 simp only [Prod.mk.injEq] at hzz
 obtain⟨hzv,hsz,hby⟩:=hzz
 have hob:0<n→v.ownBlock=some bs:=fun h0=>by
  obtain⟨_,a,c,hv,_,hx⟩:=ho
  obtain⟨off,ha,_⟩:=hx h0
  rw [hv,ha]; rfl
 obtain⟨g,cap,w',row,hr,hrow,hg,hrr,hgg,hgz⟩:=RowB.append (P:=Tryz.prog) 34 ty 65 i0 _ 6 72 base setT hi0 hzv hsz hby rfl (by decide) hB (clSet_len f kv n)
  (fun h0 g hgb=>by
   rw [hob h0] at hgb; injection hgb with hgb
   exact hgb▸hbs h0)
  (fun h0 g hgb j u hj=>by
   have hjl:j<n*6:=by
    have:=(List.getElem?_eq_some_iff.1 hj).1
    rwa [clSet_len] at this
   obtain⟨_,a,c,hv,_,hx⟩:=ho
   obtain⟨off,ha',hall⟩:=hx h0
   rcases hB with⟨e,_⟩ | ⟨_,g',cap',cur,hv',_⟩
   ·omega
   ·rw [hv,ha'] at hv'
    simp only [Value.slice.injEq,Option.some.injEq,Addr.mk.injEq,and_true,true_and] at hv'
    obtain⟨⟨rfl,rfl⟩,rfl⟩:=hv'
    rw [hv,ha'] at hgb
    obtain rfl:bs=g:=by injection hgb
    have hd:j / 6<n:=by omega
    have h8:=setOwn_cell (hall (j / 6) hd) (j % 6) (by omega)
    have e1:0+j / 6*6+j % 6=j:=by omega
    have e2:=clSet_at f kv n hd (show j % 6<6 by omega)
    rw [show j / 6*6+j % 6=j by omega,hj] at e2
    rw [e1] at h8
    rw [h8,e2])
  ⟨B,0,none⟩ 1 1 (setC s) rfl (fun j u hj=>by rw [addr_add]; exact hnew j u hj) (fun u hu=>by
   simp only [setC,List.mem_cons,List.not_mem_nil,or_false] at hu
   rcases hu with rfl | rfl | rfl | rfl | rfl | rfl <;> rfl) (by omega) (by unfold maxLen; omega) (by omega) hbase
 obtain⟨g',cap',hv',hcap,_,_,hcell⟩:=owns_cell hrow (by omega)
 simp only [Value.slice.injEq,Option.some.injEq,Addr.mk.injEq,and_true,true_and] at hv'
 obtain⟨rfl,rfl⟩:=hv'
 refine⟨g,cap,w',hr,(turned_grown hg).mono ?_,?_,hgz,hcap,rowB_of_owns hrow (fun h=>by omega),?_⟩
 ·intro j hj
  rcases hrr with h | ⟨h0,h⟩
  ·rw [h] at hj; cases hj
  ·rw [h,hob h0] at hj; injection hj with hj
   exact⟨h0,hj.symm⟩
 ·rcases hgg with⟨h0,h⟩ | h
  ·rw [hob h0] at h; injection h with h
   exact Or.inl ⟨h0,h.symm⟩
  ·exact Or.inr h
 ·intro i hi r hr'
  by_cases e:i<n
  ·have e1:cellSet (endS f n s) (endV kv n) i r=cellSet f kv i r:=by
    unfold cellSet endS endV
    rw [if_pos e,if_pos e]
   rw [e1]
   exact hcell _ _ (by rw [List.getElem?_append_left (by rw [clSet_len]; omega)]; exact clSet_at f kv n e hr')
  ·obtain rfl:i=n:=by omega
   have e1:cellSet (endS f i s) (endV kv i) i r=cellOne s (.slice none 0 0) r:=by
    unfold cellOne cellSet endS endV
    rw [if_neg e,if_neg e]
   rw [e1]
   exact hcell _ _ (by rw [List.getElem?_append_right (by rw [clSet_len]; omega),clSet_len,show i*6+r - i*6=r by omega]; exact setC_at s r hr')
end Go.Proofs.YteipkhpniokkgaaGreatDoor

namespace Go.Proofs.YteipkhpniokkgaaGreatDoor
open Go.RowKit
set_option linter.unusedVariables false
end Go.Proofs.YteipkhpniokkgaaGreatDoor

namespace Go.Proofs.YteipkhpniokkgaaGreatDoor
open Go.RowKit
set_option linter.unusedVariables false
end Go.Proofs.YteipkhpniokkgaaGreatDoor

namespace Go.Proofs.YteipkhpniokkgaaGreatDoor
open Go.RowKit
set_option linter.unusedVariables false
theorem wpList_append_run{P:Program}{w w1:World}{ops:Array Oper}{rest:List Oper}{o:Oper}{a:Act}{Q:Exit→Act→World→Prop}(hgd:o.guard=none)(s x:Operand)(t:TypeId)
  (ho:o.op = .call {callee:=.builtin .append,args:=#[s,x],argTypes:=#[t,t]}) (vs vx v':Value) (hs:a.eval s=vs) (hx:a.eval x=vx) (hrun:(Builtin.append_ #[t,t] o.type #[vs,vx]).run P w = .ok v' w1)
  (h:wpList P ops Q rest (a.put o.dst v') w1):wpList P ops Q (o :: rest) a w:=by
 refine wpList_plain hgd fun K hK=>?_
 unfold Oper.wp
 simp [execOp,ho,resolve,invoke,builtin,hs,hx,hrun,Result.andThen]
 exact hK _ _ h
end Go.Proofs.YteipkhpniokkgaaGreatDoor

namespace Go.Proofs.YteipkhpniokkgaaGreatDoor
open Go.RowKit
set_option linter.unusedVariables false
theorem step_append_run{P:Program}{w w1:World}{ops:Array Oper}{o:Oper}{a:Act}{K:Act→World→Prop}{Q:Exit→Act→World→Prop}{E:Prop}(hgd:o.guard=none)(s x:Operand)(t:TypeId)
  (ho:o.op = .call {callee:=.builtin .append,args:=#[s,x],argTypes:=#[t,t]}) (vs vx v':Value) (hs:a.eval s=vs) (hx:a.eval x=vx) (hrun:(Builtin.append_ #[t,t] o.type #[vs,vx]).run P w = .ok v' w1)
  (h:K (a.put o.dst v') w1):if Region.wanted o (yielded ops a.tmps)=true then Oper.wp P o a w K Q else E:=by
 have hw:Region.wanted o (yielded ops a.tmps)=true:=by simp [Region.wanted,hgd]
 rw [if_pos hw]
 unfold Oper.wp
 simp [execOp,ho,resolve,invoke,builtin,hs,hx,hrun,Result.andThen]
 exact h
def rowG(G:Nat→Value)(i n:Nat):List Value:=(List.range n).map (fun j=>G (i+j))
theorem rowG_len(G:Nat→Value)(i n:Nat):(rowG G i n).length=n:=by simp [rowG]
theorem rowG_at{G:Nat→Value}{i n j:Nat}(h:j<n):(rowG G i n)[j]?=some (G (i+j)):=by simp [rowG,h]
end Go.Proofs.YteipkhpniokkgaaGreatDoor

namespace Go.Proofs.YteipkhpniokkgaaGreatDoor
open Go.RowKit
set_option linter.unusedVariables false
theorem SetsOwn.nth{w:World}{bs n:Nat}{kb:Nat→Nat}{kv:Nat→Value}{v:Value}{f:Nat→SetD}(h:SetsOwn w bs kb kv v n f){k:Nat}(hk:k<n):∃off c,v = .slice (some ⟨bs,off,none⟩) n c∧SetOwn w bs (off+k*6) (kb k) (kv k) (f k):=by
 obtain⟨_,a,c,hv,_,hx⟩:=h
 obtain⟨off,ha,h⟩:=hx (by omega)
 exact⟨off,c,by rw [hv,ha],h k hk⟩
theorem ptrs_one{w:World}{b:Nat}{v:Value}{n:Nat}{fs fb:Nat→Int}(h:PtrsOwn w b v n fs fb):v.oneCell'=true:=by
 obtain⟨_,a,c,rfl,_⟩:=h
 rfl
end Go.Proofs.YteipkhpniokkgaaGreatDoor

namespace Go.Proofs.YteipkhpniokkgaaGreatDoor
open Go.RowKit
set_option linter.unusedVariables false
def RoomSnap(W:WorldD):Prop:=W.pn<20∧W.time<900000∧W.next<900000
end Go.Proofs.YteipkhpniokkgaaGreatDoor

namespace Go.Proofs.YteipkhpniokkgaaGreatDoor
open Go.RowKit
set_option linter.unusedVariables false
structure Kept (p:Prop):Prop where
 out:p
theorem join_one{A B:Prop}(f:Kept A→B)(h:A):B:=f ⟨h⟩
end Go.Proofs.YteipkhpniokkgaaGreatDoor
