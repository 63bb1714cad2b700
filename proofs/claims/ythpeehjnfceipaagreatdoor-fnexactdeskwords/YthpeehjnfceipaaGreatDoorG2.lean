/- What impl.forms and spec.DeskWords answer; the first words of the forms. -/
import Derived.Test.YthpeehjnfceipaaGreatDoorG1
import Derived.Deep.RegionHeld3
import Derived.Deep.QuietTactic
import Derived.BigQuiet
import Derived.BigRegion
import Derived.Test.YthpeehjnfceipaaGreatDoorProg
import Derived.Shelf.Sort.Plain
import Derived.Ground.NamesProg
import Derived.Lib.OwnBridge
import Derived.Sort.OwnSorted
import Derived.LaidEql
import Derived.Stop.Asserts
import Derived.RowKitTokens
namespace Go.Proofs.YthpeehjnfceipaaGreatDoor
open Go Go.RowKit
set_option linter.unusedVariables false
def lineB:Nat→ByteArray
 | 0=>⟨#[110,101,119,32,78,65,77,69]⟩
 | 1=>⟨#[119,114,105,116,101,32,78,65,77,69,32,78,32,87,79,82,68]⟩
 | 2=>⟨#[116,114,105,109,32,78,65,77,69,32,78]⟩
 | 3=>⟨#[115,110,97,112,32,78,65,77,69,32,87,79,82,68]⟩
 | 4=>⟨#[99,108,111,110,101,32,78,32,78,65,77,69]⟩
 | 5=>⟨#[100,114,111,112,32,78]⟩
 | 6=>⟨#[100,101,115,116,114,111,121,32,78,65,77,69]⟩
 | 7=>⟨#[98,97,99,107,32,78,65,77,69]⟩
 | 8=>⟨#[112,114,111,109,111,116,101,32,78,65,77,69]⟩
 | 9=>⟨#[114,101,97,100,32,78,65,77,69,32,78]⟩
 | 10=>⟨#[102,114,101,101]⟩
 | 11=>⟨#[115,121,110,99]⟩
 | _=>⟨#[99,114,97,115,104]⟩
def wordB:Nat→ByteArray
 | 0=>⟨#[110,101,119]⟩
 | 1=>⟨#[119,114,105,116,101]⟩
 | 2=>⟨#[116,114,105,109]⟩
 | 3=>⟨#[115,110,97,112]⟩
 | 4=>⟨#[99,108,111,110,101]⟩
 | 5=>⟨#[100,114,111,112]⟩
 | 6=>⟨#[100,101,115,116,114,111,121]⟩
 | 7=>⟨#[98,97,99,107]⟩
 | 8=>⟨#[112,114,111,109,111,116,101]⟩
 | 9=>⟨#[114,101,97,100]⟩
 | 10=>⟨#[102,114,101,101]⟩
 | 11=>⟨#[115,121,110,99]⟩
 | _=>⟨#[99,114,97,115,104]⟩
def sortB:Nat→ByteArray
 | 0=>⟨#[98,97,99,107]⟩
 | 1=>⟨#[99,108,111,110,101]⟩
 | 2=>⟨#[99,114,97,115,104]⟩
 | 3=>⟨#[100,101,115,116,114,111,121]⟩
 | 4=>⟨#[100,114,111,112]⟩
 | 5=>⟨#[102,114,101,101]⟩
 | 6=>⟨#[110,101,119]⟩
 | 7=>⟨#[112,114,111,109,111,116,101]⟩
 | 8=>⟨#[114,101,97,100]⟩
 | 9=>⟨#[115,110,97,112]⟩
 | 10=>⟨#[115,121,110,99]⟩
 | 11=>⟨#[116,114,105,109]⟩
 | _=>⟨#[119,114,105,116,101]⟩
def formN:Nat→Nat
 | 0=>13
 | 1=>16
 | 2=>19
 | 3=>21
 | 4=>24
 | 5=>26
 | 6=>29
 | 7=>31
 | 8=>33
 | 9=>35
 | 10=>37
 | 11=>40
 | _=>43
theorem first0{f:ByteArray}(h:IsFirst ⟨#[110,101,119,32,78,65,77,69]⟩ f):f=⟨#[110,101,119]⟩:=by
 obtain⟨q,h1,rfl,h2,h3⟩:=h
 have h1':q≤8:=h1
 have e:q=3:=by
  rcases Nat.lt_trichotomy q 3 with h | h | h
  ·exfalso
   rcases(by omega:q=0∨q=1∨q=2)with rfl | rfl | rfl
   all_goals exact absurd (h3 (by decide)) (by decide)
  ·exact h
  ·exact absurd rfl (h2 3 h (by decide))
 subst e
 decide
theorem first1{f:ByteArray}(h:IsFirst ⟨#[119,114,105,116,101,32,78,65,77,69,32,78,32,87,79,82,68]⟩ f):f=⟨#[119,114,105,116,101]⟩:=by
 obtain⟨q,h1,rfl,h2,h3⟩:=h
 have h1':q≤17:=h1
 have e:q=5:=by
  rcases Nat.lt_trichotomy q 5 with h | h | h
  ·exfalso
   rcases(by omega:q=0∨q=1∨q=2∨q=3∨q=4)with rfl | rfl | rfl | rfl | rfl
   all_goals exact absurd (h3 (by decide)) (by decide)
  ·exact h
  ·exact absurd rfl (h2 5 h (by decide))
 subst e
 decide
theorem first2{f:ByteArray}(h:IsFirst ⟨#[116,114,105,109,32,78,65,77,69,32,78]⟩ f):f=⟨#[116,114,105,109]⟩:=by
 obtain⟨q,h1,rfl,h2,h3⟩:=h
 have h1':q≤11:=h1
 have e:q=4:=by
  rcases Nat.lt_trichotomy q 4 with h | h | h
  ·exfalso
   rcases(by omega:q=0∨q=1∨q=2∨q=3)with rfl | rfl | rfl | rfl
   all_goals exact absurd (h3 (by decide)) (by decide)
  ·exact h
  ·exact absurd rfl (h2 4 h (by decide))
 subst e
 decide
theorem first3{f:ByteArray}(h:IsFirst ⟨#[115,110,97,112,32,78,65,77,69,32,87,79,82,68]⟩ f):f=⟨#[115,110,97,112]⟩:=by
 obtain⟨q,h1,rfl,h2,h3⟩:=h
 have h1':q≤14:=h1
 have e:q=4:=by
  rcases Nat.lt_trichotomy q 4 with h | h | h
  ·exfalso
   rcases(by omega:q=0∨q=1∨q=2∨q=3)with rfl | rfl | rfl | rfl
   all_goals exact absurd (h3 (by decide)) (by decide)
  ·exact h
  ·exact absurd rfl (h2 4 h (by decide))
 subst e
 decide
theorem first4{f:ByteArray}(h:IsFirst ⟨#[99,108,111,110,101,32,78,32,78,65,77,69]⟩ f):f=⟨#[99,108,111,110,101]⟩:=by
 obtain⟨q,h1,rfl,h2,h3⟩:=h
 have h1':q≤12:=h1
 have e:q=5:=by
  rcases Nat.lt_trichotomy q 5 with h | h | h
  ·exfalso
   rcases(by omega:q=0∨q=1∨q=2∨q=3∨q=4)with rfl | rfl | rfl | rfl | rfl
   all_goals exact absurd (h3 (by decide)) (by decide)
  ·exact h
  ·exact absurd rfl (h2 5 h (by decide))
 subst e
 decide
theorem first5{f:ByteArray}(h:IsFirst ⟨#[100,114,111,112,32,78]⟩ f):f=⟨#[100,114,111,112]⟩:=by
 obtain⟨q,h1,rfl,h2,h3⟩:=h
 have h1':q≤6:=h1
 have e:q=4:=by
  rcases Nat.lt_trichotomy q 4 with h | h | h
  ·exfalso
   rcases(by omega:q=0∨q=1∨q=2∨q=3)with rfl | rfl | rfl | rfl
   all_goals exact absurd (h3 (by decide)) (by decide)
  ·exact h
  ·exact absurd rfl (h2 4 h (by decide))
 subst e
 decide
theorem first6{f:ByteArray}(h:IsFirst ⟨#[100,101,115,116,114,111,121,32,78,65,77,69]⟩ f):f=⟨#[100,101,115,116,114,111,121]⟩:=by
 obtain⟨q,h1,rfl,h2,h3⟩:=h
 have h1':q≤12:=h1
 have e:q=7:=by
  rcases Nat.lt_trichotomy q 7 with h | h | h
  ·exfalso
   rcases(by omega:q=0∨q=1∨q=2∨q=3∨q=4∨q=5∨q=6)with rfl | rfl | rfl | rfl | rfl | rfl | rfl
   all_goals exact absurd (h3 (by decide)) (by decide)
  ·exact h
  ·exact absurd rfl (h2 7 h (by decide))
 subst e
 decide
theorem first7{f:ByteArray}(h:IsFirst ⟨#[98,97,99,107,32,78,65,77,69]⟩ f):f=⟨#[98,97,99,107]⟩:=by
 obtain⟨q,h1,rfl,h2,h3⟩:=h
 have h1':q≤9:=h1
 have e:q=4:=by
  rcases Nat.lt_trichotomy q 4 with h | h | h
  ·exfalso
   rcases(by omega:q=0∨q=1∨q=2∨q=3)with rfl | rfl | rfl | rfl
   all_goals exact absurd (h3 (by decide)) (by decide)
  ·exact h
  ·exact absurd rfl (h2 4 h (by decide))
 subst e
 decide
theorem first8{f:ByteArray}(h:IsFirst ⟨#[112,114,111,109,111,116,101,32,78,65,77,69]⟩ f):f=⟨#[112,114,111,109,111,116,101]⟩:=by
 obtain⟨q,h1,rfl,h2,h3⟩:=h
 have h1':q≤12:=h1
 have e:q=7:=by
  rcases Nat.lt_trichotomy q 7 with h | h | h
  ·exfalso
   rcases(by omega:q=0∨q=1∨q=2∨q=3∨q=4∨q=5∨q=6)with rfl | rfl | rfl | rfl | rfl | rfl | rfl
   all_goals exact absurd (h3 (by decide)) (by decide)
  ·exact h
  ·exact absurd rfl (h2 7 h (by decide))
 subst e
 decide
theorem first9{f:ByteArray}(h:IsFirst ⟨#[114,101,97,100,32,78,65,77,69,32,78]⟩ f):f=⟨#[114,101,97,100]⟩:=by
 obtain⟨q,h1,rfl,h2,h3⟩:=h
 have h1':q≤11:=h1
 have e:q=4:=by
  rcases Nat.lt_trichotomy q 4 with h | h | h
  ·exfalso
   rcases(by omega:q=0∨q=1∨q=2∨q=3)with rfl | rfl | rfl | rfl
   all_goals exact absurd (h3 (by decide)) (by decide)
  ·exact h
  ·exact absurd rfl (h2 4 h (by decide))
 subst e
 decide
theorem first10{f:ByteArray}(h:IsFirst ⟨#[102,114,101,101]⟩ f):f=⟨#[102,114,101,101]⟩:=by
 obtain⟨q,h1,rfl,h2,h3⟩:=h
 have h1':q≤4:=h1
 have e:q=4:=by
  rcases Nat.lt_trichotomy q 4 with h | h | h
  ·exfalso
   rcases(by omega:q=0∨q=1∨q=2∨q=3)with rfl | rfl | rfl | rfl
   all_goals exact absurd (h3 (by decide)) (by decide)
  ·exact h
  ·omega
 subst e
 decide
theorem first11{f:ByteArray}(h:IsFirst ⟨#[115,121,110,99]⟩ f):f=⟨#[115,121,110,99]⟩:=by
 obtain⟨q,h1,rfl,h2,h3⟩:=h
 have h1':q≤4:=h1
 have e:q=4:=by
  rcases Nat.lt_trichotomy q 4 with h | h | h
  ·exfalso
   rcases(by omega:q=0∨q=1∨q=2∨q=3)with rfl | rfl | rfl | rfl
   all_goals exact absurd (h3 (by decide)) (by decide)
  ·exact h
  ·omega
 subst e
 decide
theorem first12{f:ByteArray}(h:IsFirst ⟨#[99,114,97,115,104]⟩ f):f=⟨#[99,114,97,115,104]⟩:=by
 obtain⟨q,h1,rfl,h2,h3⟩:=h
 have h1':q≤5:=h1
 have e:q=5:=by
  rcases Nat.lt_trichotomy q 5 with h | h | h
  ·exfalso
   rcases(by omega:q=0∨q=1∨q=2∨q=3∨q=4)with rfl | rfl | rfl | rfl | rfl
   all_goals exact absurd (h3 (by decide)) (by decide)
  ·exact h
  ·omega
 subst e
 decide
theorem first_is{i:Nat}(hi:i<13){f:ByteArray}(h:IsFirst (lineB i) f):f=wordB i:=by
 rcases(by omega:i=0∨i=1∨i=2∨i=3∨i=4∨i=5∨i=6∨i=7∨i=8∨i=9∨i=10∨i=11∨i=12)with rfl | rfl | rfl | rfl | rfl | rfl | rfl | rfl | rfl | rfl | rfl | rfl | rfl
 ·exact first0 h
 ·exact first1 h
 ·exact first2 h
 ·exact first3 h
 ·exact first4 h
 ·exact first5 h
 ·exact first6 h
 ·exact first7 h
 ·exact first8 h
 ·exact first9 h
 ·exact first10 h
 ·exact first11 h
 ·exact first12 h
set_option maxRecDepth 20000 in
set_option maxHeartbeats 2000000 in
theorem forms_any(w:World):Calls Tryz.prog 9 #[] w fun e w'=>∃g,e = .returned (.slice (some ⟨g,0,none⟩) 13 13)∧(∀i,i<13→w'.cell? ⟨g,i*2,none⟩=some (.string (lineB i))∧w'.cell? ⟨g,i*2+1,none⟩=some (.func (.func (formN i)) #[] #[]))∧Below w.heap.size w w':=by
 have hb:=below_alloc w (.cells #[.string ⟨#[110,101,119,32,78,65,77,69]⟩,.func (.func 13) #[] #[],.string ⟨#[119,114,105,116,101,32,78,65,77,69,32,78,32,87,79,82,68]⟩,.func (.func 16) #[] #[],.string ⟨#[116,114,105,109,32,78,65,77,69,32,78]⟩,.func (.func 19) #[] #[],.string ⟨#[115,110,97,112,32,78,65,77,69,32,87,79,82,68]⟩,.func (.func 21) #[] #[],.string ⟨#[99,108,111,110,101,32,78,32,78,65,77,69]⟩,.func (.func 24) #[] #[],.string ⟨#[100,114,111,112,32,78]⟩,.func (.func 26) #[] #[],.string ⟨#[100,101,115,116,114,111,121,32,78,65,77,69]⟩,.func (.func 29) #[] #[],.string ⟨#[98,97,99,107,32,78,65,77,69]⟩,.func (.func 31) #[] #[],.string ⟨#[112,114,111,109,111,116,101,32,78,65,77,69]⟩,.func (.func 33) #[] #[],.string ⟨#[114,101,97,100,32,78,65,77,69,32,78]⟩,.func (.func 35) #[] #[],.string ⟨#[102,114,101,101]⟩,.func (.func 37) #[] #[],.string ⟨#[115,121,110,99]⟩,.func (.func 40) #[] #[],.string ⟨#[99,114,97,115,104]⟩,.func (.func 43) #[] #[]] 31)
 have hc:∀i,i<13→(w.alloc (.cells #[.string ⟨#[110,101,119,32,78,65,77,69]⟩,.func (.func 13) #[] #[],.string ⟨#[119,114,105,116,101,32,78,65,77,69,32,78,32,87,79,82,68]⟩,.func (.func 16) #[] #[],.string ⟨#[116,114,105,109,32,78,65,77,69,32,78]⟩,.func (.func 19) #[] #[],.string ⟨#[115,110,97,112,32,78,65,77,69,32,87,79,82,68]⟩,.func (.func 21) #[] #[],.string ⟨#[99,108,111,110,101,32,78,32,78,65,77,69]⟩,.func (.func 24) #[] #[],.string ⟨#[100,114,111,112,32,78]⟩,.func (.func 26) #[] #[],.string ⟨#[100,101,115,116,114,111,121,32,78,65,77,69]⟩,.func (.func 29) #[] #[],.string ⟨#[98,97,99,107,32,78,65,77,69]⟩,.func (.func 31) #[] #[],.string ⟨#[112,114,111,109,111,116,101,32,78,65,77,69]⟩,.func (.func 33) #[] #[],.string ⟨#[114,101,97,100,32,78,65,77,69,32,78]⟩,.func (.func 35) #[] #[],.string ⟨#[102,114,101,101]⟩,.func (.func 37) #[] #[],.string ⟨#[115,121,110,99]⟩,.func (.func 40) #[] #[],.string ⟨#[99,114,97,115,104]⟩,.func (.func 43) #[] #[]] 31)).cell? ⟨w.heap.size,i*2,none⟩=some (.string (lineB i))∧(w.alloc (.cells #[.string ⟨#[110,101,119,32,78,65,77,69]⟩,.func (.func 13) #[] #[],.string ⟨#[119,114,105,116,101,32,78,65,77,69,32,78,32,87,79,82,68]⟩,.func (.func 16) #[] #[],.string ⟨#[116,114,105,109,32,78,65,77,69,32,78]⟩,.func (.func 19) #[] #[],.string ⟨#[115,110,97,112,32,78,65,77,69,32,87,79,82,68]⟩,.func (.func 21) #[] #[],.string ⟨#[99,108,111,110,101,32,78,32,78,65,77,69]⟩,.func (.func 24) #[] #[],.string ⟨#[100,114,111,112,32,78]⟩,.func (.func 26) #[] #[],.string ⟨#[100,101,115,116,114,111,121,32,78,65,77,69]⟩,.func (.func 29) #[] #[],.string ⟨#[98,97,99,107,32,78,65,77,69]⟩,.func (.func 31) #[] #[],.string ⟨#[112,114,111,109,111,116,101,32,78,65,77,69]⟩,.func (.func 33) #[] #[],.string ⟨#[114,101,97,100,32,78,65,77,69,32,78]⟩,.func (.func 35) #[] #[],.string ⟨#[102,114,101,101]⟩,.func (.func 37) #[] #[],.string ⟨#[115,121,110,99]⟩,.func (.func 40) #[] #[],.string ⟨#[99,114,97,115,104]⟩,.func (.func 43) #[] #[]] 31)).cell? ⟨w.heap.size,i*2+1,none⟩=some (.func (.func (formN i)) #[] #[]):=fun i hi=>by
  rcases(by omega:i=0∨i=1∨i=2∨i=3∨i=4∨i=5∨i=6∨i=7∨i=8∨i=9∨i=10∨i=11∨i=12)with rfl | rfl | rfl | rfl | rfl | rfl | rfl | rfl | rfl | rfl | rfl | rfl | rfl
  all_goals exact⟨World.cell?_alloc_at _ _ _ _ rfl,World.cell?_alloc_at _ _ _ _ rfl⟩
 have Hc:=hideK hc
 clear hc
 go_enter Tryz.func9,Tryz.ntmps9
 go_wp2
 go_ret
 exact⟨_,rfl,Hc.out,hb⟩
set_option maxRecDepth 20000 in
set_option maxHeartbeats 2000000 in
theorem specDeskWords_any(w:World):Calls Tryz.prog 4 #[] w fun e w'=>∃g,e = .returned (.slice (some ⟨g,0,none⟩) 13 13)∧(∀i,i<13→w'.cell? ⟨g,i,none⟩=some (.string (sortB i)))∧Below w.heap.size w w'∧w.heap.size≤g:=by
 have hb:=below_alloc w (.cells #[.string ⟨#[98,97,99,107]⟩,.string ⟨#[99,108,111,110,101]⟩,.string ⟨#[99,114,97,115,104]⟩,.string ⟨#[100,101,115,116,114,111,121]⟩,.string ⟨#[100,114,111,112]⟩,.string ⟨#[102,114,101,101]⟩,.string ⟨#[110,101,119]⟩,.string ⟨#[112,114,111,109,111,116,101]⟩,.string ⟨#[114,101,97,100]⟩,.string ⟨#[115,110,97,112]⟩,.string ⟨#[115,121,110,99]⟩,.string ⟨#[116,114,105,109]⟩,.string ⟨#[119,114,105,116,101]⟩] 9)
 have hc:∀i,i<13→(w.alloc (.cells #[.string ⟨#[98,97,99,107]⟩,.string ⟨#[99,108,111,110,101]⟩,.string ⟨#[99,114,97,115,104]⟩,.string ⟨#[100,101,115,116,114,111,121]⟩,.string ⟨#[100,114,111,112]⟩,.string ⟨#[102,114,101,101]⟩,.string ⟨#[110,101,119]⟩,.string ⟨#[112,114,111,109,111,116,101]⟩,.string ⟨#[114,101,97,100]⟩,.string ⟨#[115,110,97,112]⟩,.string ⟨#[115,121,110,99]⟩,.string ⟨#[116,114,105,109]⟩,.string ⟨#[119,114,105,116,101]⟩] 9)).cell? ⟨w.heap.size,i,none⟩=some (.string (sortB i)):=fun i hi=>by
  rcases(by omega:i=0∨i=1∨i=2∨i=3∨i=4∨i=5∨i=6∨i=7∨i=8∨i=9∨i=10∨i=11∨i=12)with rfl | rfl | rfl | rfl | rfl | rfl | rfl | rfl | rfl | rfl | rfl | rfl | rfl
  all_goals exact World.cell?_alloc_at _ _ _ _ rfl
 have Hc:=hideK hc
 clear hc
 go_enter Tryz.func4,Tryz.ntmps4
 go_wp2
 go_ret
 exact⟨_,rfl,Hc.out,hb,Nat.le_refl _⟩
end Go.Proofs.YthpeehjnfceipaaGreatDoor

namespace Go.Proofs.YthpeehjnfceipaaGreatDoor
open Go.RowKit
set_option linter.unusedVariables false
def mtLoop(k:Nat)(out:ByteArray):ByteArray:=
 if h:k=0 then out else mtLoop (k / 10) (⟨#[48+UInt8.ofNat (k % 10)]⟩ ++ out)
termination_by k
decreasing_by omega
def mtF(k:Int):ByteArray:=if k≤0 then⟨#[109,48]⟩else⟨#[109]⟩ ++ mtLoop k.toNat ⟨#[]⟩
theorem mt_start{n:Nat}(h:(n:Int)≤1000000000000):n<10 ^ (13 - (⟨#[]⟩:ByteArray).size):=by
 show n<10 ^ 13
 omega
theorem size_one(x:UInt8)(out:ByteArray):((⟨#[x]⟩:ByteArray) ++ out).size=out.size+1:=by
 rw [ByteArray.size_append]
 show 1+out.size=_
 omega
theorem mt_bound{m:Nat}{out:ByteArray}(h:m<10 ^ (13 - out.size)):m≤10000000000000:=by
 have h2:10 ^ (13 - out.size)≤10 ^ 13:=Nat.pow_le_pow_right (by omega) (by omega)
 omega
theorem mt_next{m:Nat}{out:ByteArray}(x:UInt8)(h0:¬m=0)(h:m<10 ^ (13 - out.size))(h2:out.size≤13) :
  m / 10<10 ^ (13 - ((⟨#[x]⟩:ByteArray) ++ out).size)∧((⟨#[x]⟩:ByteArray) ++ out).size≤13:=by
 rw [size_one]
 by_cases e:out.size=13
 ·rw [e] at h; simp at h; omega
 ·obtain⟨j,hj⟩:∃j,13 - out.size=j+1:=⟨12 - out.size,by omega⟩
  rw [hj,Nat.pow_succ] at h
  have:13 - (out.size+1)=j:=by omega
  rw [this]
  exact⟨by omega,by omega⟩
theorem mt_step{m:Nat}{out:ByteArray}(h0:¬m=0):mtLoop (m / 10) (⟨#[48+UInt8.ofNat (m % 10)]⟩ ++ out)=mtLoop m out:=by
 conv=>rhs; rw [mtLoop]
 rw [dif_neg h0]
theorem conv_one(w:World)(n:Int):(convert 69 9 (.slice (some ⟨w.heap.size,0,none⟩) 1 1)).run Tryz.prog (w.alloc (.cells #[.int .u8 n] 5)) = .ok (.string ⟨#[UInt8.ofNat n.toNat]⟩) (w.alloc (.cells #[.int .u8 n] 5)):=
 run_convert_bytes_arg (P:=Tryz.prog) (w.alloc (.cells #[.int .u8 n] 5)) 69 5 (by kernel_rfl) (by kernel_rfl) w.heap.size 0 1 1 [n] rfl (fun i hi=>by
  obtain rfl:i=0:=by omega
  simp) 9 (by kernel_rfl)
set_option maxRecDepth 20000 in
set_option maxHeartbeats 400000 in
theorem markText_any(k:Int)(w:World)(hk:k≤1000000000000) :
  Calls Tryz.prog 12 #[.int .i64 k] w fun e w'=>e = .returned (.string (mtF k))∧Below w.heap.size w w':=by
 by_cases h0:k≤0
 ·have hm:Hid (mtF k=⟨#[109,48]⟩):=if_pos h0
  go_enter Tryz.func12,Tryz.ntmps12
  go_wp2
  go_ret
  exact⟨by rw [hm.out]; rfl,Below.refl _ _⟩
 ·obtain⟨n,rfl⟩:=Int.eq_ofNat_of_zero_le (by omega:0≤k)
  have hm:Hid (mtF (n:Int)=⟨#[109]⟩ ++ mtLoop n ⟨#[]⟩):=if_neg h0
  have hst:Hid (n<10 ^ (13 - (⟨#[]⟩:ByteArray).size)):=mt_start hk
  have hcv:=conv_one
  go_enter Tryz.func12,Tryz.ntmps12
  go_wp2
  go_loopw [0,3] (fun v s wr=>∃(m:Nat) (out:ByteArray),v = .int .i64 m∧s = .string out∧m<10 ^ (13 - out.size)∧out.size≤13∧mtLoop m out=mtLoop n ⟨#[]⟩∧Below w.heap.size w wr) (fun v _ _=>(intOf v).toNat)
  case atStart=>exact⟨n,⟨#[]⟩,rfl,rfl,hst.out,Nat.zero_le _,rfl,Below.refl _ _⟩
  case round=>
   obtain⟨m,out,rfl,rfl,hm1,hm2,hm3,hb⟩:=hrel
   have Hm3:Hid (m<10 ^ (13 - out.size)∧mtLoop m out=mtLoop n ⟨#[]⟩):=⟨hm1,hm3⟩
   have hmb:=mt_bound hm1
   clear hm1 hm3
   by_cases hz:m=0
   ·subst hz
    go_wp2
    go_ret
    refine⟨?_,hb⟩
    have e1:=Hm3.out.2
    rw [mtLoop,dif_pos rfl] at e1
    rw [hm.out,←e1]
    rfl
   ·have hz':(0:Int)<(m:Int):=by omega
    have Hz:Hid (¬m=0):=hz
    clear hz
    go_wp2
    go_roundw
    case rel=>
     have hn:=mt_next (48+UInt8.ofNat (m % 10)) Hz.out Hm3.out.1 hm2
     exact⟨m / 10,_,by go_num,rfl,hn.1,hn.2,(mt_step Hz.out).trans Hm3.out.2,hb.alloc hb.size _⟩
    case measure=>simp [intOf]; omega
end Go.Proofs.YthpeehjnfceipaaGreatDoor

namespace Go.Proofs.YthpeehjnfceipaaGreatDoor
open Go Go.RowKit
set_option linter.unusedVariables false
def Txts(w:World)(g n:Nat)(f:Nat→ByteArray):Prop:=∀i,i<n→Cell w g i (.string (f i))
theorem Txts.below{w w':World}{g n:Nat}{f:Nat→ByteArray}(h:Txts w g n f)(t:Below w.heap.size w w'):Txts w' g n f:=fun i hi=>(h i hi).below t
set_option maxRecDepth 20000 in
set_option maxHeartbeats 2000000 in
theorem eqStringS_any(ga gb n ca cb:Nat)(f:Nat→ByteArray)(w:World)(ha:∀i,i<n→w.cell? ⟨ga,i,none⟩=some (.string (f i)))(hb:∀i,i<n→w.cell? ⟨gb,i,none⟩=some (.string (f i)))(hn:n≤1000) :
  Calls Tryz.prog 6 #[.slice (some ⟨ga,0,none⟩) n ca,.slice (some ⟨gb,0,none⟩) n cb] w fun e w'=>e = .returned (.bool true)∧Below w.heap.size w w':=by
 have HA:=hideK ha
 have HB:=hideK hb
 clear ha hb
 go_enter Tryz.func6,Tryz.ntmps6
 go_wp2
 go_loopw [5] (fun i wr=>∃k:Nat,k≤n∧i = .int .i64 k∧Below w.heap.size w wr) (fun i _=>n - (intOf i).toNat)
 case atStart=>exact⟨0,Nat.zero_le _,rfl,Below.refl _ _⟩
 case round=>
  obtain⟨k,hk,rfl,hb⟩:=hrel
  by_cases hlt:k<n
  ·have hlt':(k:Int)<(n:Int):=by omega
   have q0:=(hb.cell (lt_of_cell (HA.out k hlt))).trans (HA.out k hlt)
   have q1:=(hb.cell (lt_of_cell (HB.out k hlt))).trans (HB.out k hlt)
   go_wp2
   go_region
   go_wp2
   go_roundw
   case rel=>exact⟨k+1,by omega,by go_num,hb.drew⟩
   case measure=>simp [intOf]; omega
  ·obtain rfl:k=n:=by omega
   go_wp2
   go_ret
   exact⟨rfl,hb⟩
set_option maxRecDepth 20000 in
set_option maxHeartbeats 2000000 in
theorem markStringS_any(g n c:Nat)(f:Nat→ByteArray)(k0:Int)(w:World)(h:Txts w g n f)(h0:0≤k0)(h1:k0≤1000)(hn:n≤1000) :
  Calls Tryz.prog 7 #[.slice (some ⟨g,0,none⟩) n c,.int .i64 k0] w fun e w'=>e = .returned (.int .i64 (k0+n))∧Txts w' g n (fun i=>mtF (k0+i))∧Turned (fun j=>j=g) w w':=by
 have HT:=hideK h
 clear h
 go_enter Tryz.func7,Tryz.ntmps7
 go_wp2
 go_loopw [1,5] (fun kk i wr=>∃k:Nat,k≤n∧i = .int .i64 k∧kk = .int .i64 (k0+k)∧Txts wr g n (fun i=>if i<k then mtF (k0+i)else f i)∧Turned (fun j=>j=g) w wr) (fun _ i _=>n - (intOf i).toNat)
 case atStart=>exact⟨0,Nat.zero_le _,rfl,by simp,fun i hi=>by dsimp only; rw [if_neg (by omega)]; exact HT.out i hi,Turned.refl _ _⟩
 case round=>
  obtain⟨k,hk,rfl,rfl,hT,ht⟩:=hrel
  have HT2:=hideK hT
  have Ht:=hideK ht
  clear hT ht
  by_cases hlt:k<n
  ·have hlt':(k:Int)<(n:Int):=by omega
   obtain⟨q0,q0'⟩:=HT2.out k hlt
   go_wp2_with fail
   refine(markText_any (k0+k) wr (by omega)).mono ?_
   rintro e w1 ⟨rfl,hb1⟩
   clear q0 q0'
   obtain⟨q0,q0'⟩:=(HT2.out k hlt).below hb1
   have hTp:=Turned.put w1 g k (.string (mtF (k0+k)))
   go_wp2_with fail
   go_roundw
   case rel=>
    refine⟨k+1,by omega,by go_num,by go_num,fun i hi=>?_,(Ht.out.trans (Turned.of_below hb1)).trans hTp⟩
    dsimp only
    by_cases e:i=k
    ·subst e
     rw [if_pos (by omega)]
     exact((HT2.out i hlt).below hb1).set _
    ·have h:=((HT2.out i hi).below hb1).other (b':=g) (o':=k) (.string (mtF (k0+k))) (Or.inr (fun e'=>e e'.symm))
     dsimp only at h
     by_cases e2:i<k
     ·rw [if_pos (by omega)]; rw [if_pos e2] at h; exact h
     ·rw [if_neg (by omega)]; rw [if_neg e2] at h; exact h
   case measure=>simp [intOf]; omega
  ·obtain rfl:k=n:=by omega
   go_wp2
   go_ret
   exact⟨rfl,fun i hi=>by have:=HT2.out i hi; dsimp only at this; rw [if_pos hi] at this; exact this,Ht.out⟩
set_option maxRecDepth 20000 in
set_option maxHeartbeats 2000000 in
theorem heldStringS_any(g n c:Nat)(k0:Int)(w:World)(h:∀i,i<n→w.cell? ⟨g,i,none⟩=some (.string (mtF (k0+i))))(h0:0≤k0)(h1:k0≤1000)(hn:n≤1000) :
  Calls Tryz.prog 8 #[.slice (some ⟨g,0,none⟩) n c,.int .i64 k0] w fun e w'=>e = .returned (.int .i64 (k0+n))∧Below w.heap.size w w':=by
 have HT:=hideK h
 clear h
 go_enter Tryz.func8,Tryz.ntmps8
 go_wp2
 go_loopw [1,5] (fun kk i wr=>∃k:Nat,k≤n∧i = .int .i64 k∧kk = .int .i64 (k0+k)∧Below w.heap.size w wr) (fun _ i _=>n - (intOf i).toNat)
 case atStart=>exact⟨0,Nat.zero_le _,rfl,by simp,Below.refl _ _⟩
 case round=>
  obtain⟨k,hk,rfl,rfl,hb⟩:=hrel
  by_cases hlt:k<n
  ·have hlt':(k:Int)<(n:Int):=by omega
   have hz:=(hb.cell (lt_of_cell (HT.out k hlt))).trans (HT.out k hlt)
   have hse:=str_eq (rfl:mtF (k0+k)=mtF (k0+k))
   go_wp2_with fail
   go_region_held3 (fun w'=>w'.cell? ⟨g,k,none⟩=some (.string (mtF (k0+k)))) (go_keep)
     (first | (go_at_call 12; refine(markText_any _ _ (by omega)).mono ?_; rintro e w2 ⟨rfl,hb2⟩; have z1:=(hb2.cell (p:=⟨g,k,none⟩) (lt_of_cell hz)).trans hz))
   have hbc:=below_call hb hb2
   clear hb2 z1
   go_wp2
   go_roundw
   case rel=>exact⟨k+1,by omega,by go_num,by go_num,hbc⟩
   case measure=>simp [intOf]; omega
  ·obtain rfl:k=n:=by omega
   go_wp2
   go_ret
   exact⟨rfl,hb⟩
end Go.Proofs.YthpeehjnfceipaaGreatDoor

namespace Go.Proofs.YthpeehjnfceipaaGreatDoor
open Go.Shelf
def sortStrL_ren:Go.Shelf.Ren:=⟨fun | 190=>11 | 125=>46 | 258=>45 | 128=>99 | 129=>100 | 302=>90 | 303=>91 | 304=>92 | 305=>93 | 306=>94 | 307=>95 | 308=>96 | 309=>97 | 310=>98 | 333=>158 | 329=>159 | 330=>160 | 334=>161 | 335=>162 | 336=>163 | 344=>219 | n=>n,fun | 31=>22 | 9=>9 | 3=>3 | 46=>68 | 0=>0 | 51=>132 | 53=>134 | 4=>4 | 183=>124 | 182=>123 | 131=>129 | 5=>5 | 218=>196 | 222=>200 | 228=>250 | 229=>251 | n=>n,fun | n=>n⟩
theorem sortStrL:Go.Proofs.Lays.n190 Tryz.prog sortStrL_ren:={
 mixed:=by kernel_rfl
 f125:=Tryz.func46.trans (congrArg some (by kernel_rfl))
 f128:=Tryz.func99.trans (congrArg some (by kernel_rfl))
 f129:=Tryz.func100.trans (congrArg some (by kernel_rfl))
 f190:=Tryz.func11.trans (congrArg some (by kernel_rfl))
 f258:=Tryz.func45.trans (congrArg some (by kernel_rfl))
 f302:=Tryz.func90.trans (congrArg some (by kernel_rfl))
 f303:=Tryz.func91.trans (congrArg some (by kernel_rfl))
 f304:=Tryz.func92.trans (congrArg some (by kernel_rfl))
 f305:=Tryz.func93.trans (congrArg some (by kernel_rfl))
 f306:=Tryz.func94.trans (congrArg some (by kernel_rfl))
 f307:=Tryz.func95.trans (congrArg some (by kernel_rfl))
 f308:=Tryz.func96.trans (congrArg some (by kernel_rfl))
 f309:=Tryz.func97.trans (congrArg some (by kernel_rfl))
 f310:=Tryz.func98.trans (congrArg some (by kernel_rfl))
 f329:=Tryz.func159.trans (congrArg some (by kernel_rfl))
 f330:=Tryz.func160.trans (congrArg some (by kernel_rfl))
 f333:=Tryz.func158.trans (congrArg some (by kernel_rfl))
 f334:=Tryz.func161.trans (congrArg some (by kernel_rfl))
 f335:=Tryz.func162.trans (congrArg some (by kernel_rfl))
 f336:=Tryz.func163.trans (congrArg some (by kernel_rfl))
 f344:=Tryz.func219.trans (congrArg some (by kernel_rfl))
 t0:=Tryz.underlying0
 a0:=Tryz.isAgg0
 z0:=Tryz.sizeOf0
 v0:=Tryz.zeroValue0
 t3:=Tryz.underlying3
 a3:=Tryz.isAgg3
 z3:=Tryz.sizeOf3
 v3:=Tryz.zeroValue3
 t4:=Tryz.underlying4
 a4:=Tryz.isAgg4
 z4:=Tryz.sizeOf4
 v4:=Tryz.zeroValue4
 t5:=Tryz.underlying5
 a5:=Tryz.isAgg5
 z5:=Tryz.sizeOf5
 v5:=Tryz.zeroValue5
 t9:=Tryz.underlying9
 a9:=Tryz.isAgg9
 z9:=Tryz.sizeOf9
 v9:=Tryz.zeroValue9
 t31:=Tryz.underlying22
 a31:=Tryz.isAgg22
 z31:=Tryz.sizeOf22
 v31:=Tryz.zeroValue22
 t46:=Tryz.underlying68
 a46:=Tryz.isAgg68
 z46:=Tryz.sizeOf68
 v46:=Tryz.zeroValue68
 t51:=Tryz.underlying132
 a51:=Tryz.isAgg132
 z51:=Tryz.sizeOf132
 v51:=Tryz.zeroValue132
 t53:=Tryz.underlying134
 a53:=Tryz.isAgg134
 z53:=Tryz.sizeOf134
 v53:=Tryz.zeroValue134
 t131:=Tryz.underlying129
 a131:=Tryz.isAgg129
 z131:=Tryz.sizeOf129
 v131:=Tryz.zeroValue129
 t182:=Tryz.underlying123
 a182:=Tryz.isAgg123
 z182:=Tryz.sizeOf123
 v182:=Tryz.zeroValue123
 t183:=Tryz.underlying124
 a183:=Tryz.isAgg124
 z183:=Tryz.sizeOf124
 v183:=Tryz.zeroValue124
 t218:=Tryz.underlying196
 a218:=Tryz.isAgg196
 z218:=Tryz.sizeOf196
 v218:=Tryz.zeroValue196
 t222:=Tryz.underlying200
 a222:=Tryz.isAgg200
 z222:=Tryz.sizeOf200
 v222:=Tryz.zeroValue200
 t228:=Tryz.underlying250
 a228:=Tryz.isAgg250
 z228:=Tryz.sizeOf250
 v228:=Tryz.zeroValue250
 t229:=Tryz.underlying251
 a229:=Tryz.isAgg251
 z229:=Tryz.sizeOf251
 v229:=Tryz.zeroValue251}
end Go.Proofs.YthpeehjnfceipaaGreatDoor

namespace Go.Proofs.YthpeehjnfceipaaGreatDoor
open Go Go.RowKit Go.Shelf Go.Sort
set_option linter.unusedVariables false
theorem line_size{i:Nat}(hi:i<13):(lineB i).size≤100:=by
 rcases(by omega:i=0∨i=1∨i=2∨i=3∨i=4∨i=5∨i=6∨i=7∨i=8∨i=9∨i=10∨i=11∨i=12)with rfl | rfl | rfl | rfl | rfl | rfl | rfl | rfl | rfl | rfl | rfl | rfl | rfl <;> decide
def wordsS:List (List UInt8):=[[110,101,119],[119,114,105,116,101],[116,114,105,109],[115,110,97,112],[99,108,111,110,101],[100,114,111,112],[100,101,115,116,114,111,121],[98,97,99,107],[112,114,111,109,111,116,101],[114,101,97,100],[102,114,101,101],[115,121,110,99],[99,114,97,115,104]]
def sortedS:List (List UInt8):=[[98,97,99,107],[99,108,111,110,101],[99,114,97,115,104],[100,101,115,116,114,111,121],[100,114,111,112],[102,114,101,101],[110,101,119],[112,114,111,109,111,116,101],[114,101,97,100],[115,110,97,112],[115,121,110,99],[116,114,105,109],[119,114,105,116,101]]
theorem words_sorted:wordsS.mergeSort (fun x y=>decide (x≤y))=sortedS:=by
 have tr:∀a b c:List UInt8,decide (a≤b)=true→decide (b≤c)=true→decide (a≤c)=true:=fun a b c h1 h2=>by simp only [decide_eq_true_eq] at *; exact List.le_trans h1 h2
 have to:∀a b:List UInt8,(decide (a≤b) || decide (b≤a))=true:=fun a b=>by simp only [Bool.or_eq_true,decide_eq_true_eq]; exact List.le_total a b
 refine List.Perm.eq_of_pairwise (le:=fun a b=>decide (a≤b)=true) (fun a b _ _ h1 h2=>?_) (List.pairwise_mergeSort tr to wordsS) (by decide) ((List.mergeSort_perm wordsS _).trans (by decide))
 simp only [decide_eq_true_eq] at h1 h2
 exact List.le_antisymm h1 h2
def wv(k:Nat):List Value:=(List.range k).map fun i=>.string (wordB i)
theorem wv_next(k:Nat):wv (k+1)=wv k ++ [.string (wordB k)]:=by unfold wv; rw [List.range_succ,List.map_append]; rfl
theorem wv_all:wv 13=wordsS.map encStr:=rfl
set_option maxRecDepth 20000 in
set_option maxHeartbeats 2000000 in
theorem implDeskWords_any(w:World):Calls Tryz.prog 5 #[] w fun e w'=>∃g c,e = .returned (.slice (some ⟨g,0,none⟩) 13 c)∧Txts w' g 13 sortB∧w.heap.size≤g∧Below w.heap.size w w':=by
 obtain⟨i0,hi0,hzz⟩:=Option.map_eq_some_iff.1 infoStrK
 simp only [Prod.mk.injEq] at hzz
 have HI:=hideK (And.intro hi0 hzz)
 clear hi0 hzz
 go_enter Tryz.func5,Tryz.ntmps5
 go_wp2_with fail
 refine(forms_any w).mono ?_
 rintro e w1 ⟨g,rfl,hc,hb1⟩
 have HC:=hideK hc
 clear hc
 go_wp2_with fail
 go_loopw [1,6] (fun vw i wr=>∃k:Nat,k≤13∧i = .int .i64 k∧wr.ownsRow w1.heap.size 9 1 vw k (wv k)∧Below w1.heap.size w1 wr∧Below w.heap.size w wr) (fun _ i _=>13 - (intOf i).toNat)
 case atStart=>exact⟨0,Nat.zero_le _,rfl,⟨rfl,Or.inl ⟨rfl,rfl⟩⟩,Below.refl _ _,hb1⟩
 case round=>
  obtain⟨k,hk,rfl,ho,hbr,hbw⟩:=hrel
  have HO:=hideK ho
  clear ho
  by_cases hlt:k<13
  ·have hlt':(k:Int)<13:=by omega
   have c:=HC.out k hlt
   have q0:=(hbr.cell (lt_of_cell c.1)).trans c.1
   have q1:=(hbr.cell (lt_of_cell c.2)).trans c.2
   clear c
   have hst:=fun (ww:World) (a:Addr)=>run_store Tryz.prog ww a (.func (.func (formN k)) #[] #[]) .plain rfl
   have ha:=below_alloc wr (.cells #[.string (lineB k),.func (.func (formN k)) #[] #[]] 31)
   obtain⟨⟨y0,-⟩,⟨y1,-⟩⟩:=Box2.new wr (.string (lineB k)) (.func (.func (formN k)) #[] #[]) 31
   have hls:=line_size hlt
   obtain⟨ln,hln⟩:∃ln,ln=lineB k:=⟨_,rfl⟩
   rw [←hln] at q0 y0 y1 ha hls
   have Hln:=hideK hln
   clear hln
   go_wp2_with fail
   clear y0 y1 q0 q1
   generalize wr.alloc (.cells #[.string ln,.func (.func (formN k)) #[] #[]] 31)=w2 at ha ⊢
   refine(wordsOf_any ln w2 (by omega)).mono ?_
   rintro e w3 ⟨g3,c3,n3,f,ys,rfl,q3,hf,hb3,-⟩
   rw [Hln.out] at hf
   have ef:=first_is hlt hf
   subst ef
   have hb13:=below_next (below_next hbr ha) hb3
   have hbw3:=below_next (below_next hbw ha) hb3
   have HO3:=hideK (ownsBelow (ownsBelow HO.out ha) hb3)
   have h0n:(0:Int)<((n3+1:Nat):Int):=by omega
   obtain⟨wd,hwd⟩:∃wd,wd=wordB k:=⟨_,rfl⟩
   rw [←hwd] at q3
   have Hwd:=hideK hwd
   clear hf hwd
   have hba:=below_alloc w3 (.cells #[.string wd] 9)
   have HO4:=hideK (ownsBelow HO3.out hba)
   have HN:=hideK (World.news_of_block (heap_alloc_last w3 (.cells #[.string wd] 9)))
   have hz4:(w3.alloc (.cells #[.string wd] 9)).heap.size=w3.heap.size+1:=World.size_alloc _ _
   have HB4:=hideK (below_next hb13 hba)
   have HBw:=hideK (below_next hbw3 hba)
   have hzw:=hb13.size
   have hz1:=hb1.size
   clear hba
   go_wp2_with (first
    | (at_builtin; refine wpList_append_lies _ rfl _ _ 22 rfl w1.heap.size 9 i0 (.string ⟨#[]⟩) 1 16 (by kernel_rfl) HI.out.1 HI.out.2.1 HI.out.2.2.1 HI.out.2.2.2 rfl (by decide) _ _ _ rfl HO4.out ⟨w3.heap.size,0,none⟩ 1 1 [.string wd] rfl rfl HN.out (by simp [Value.oneCell']) (by decide) (by unfold maxLen; omega) (by omega) (by omega) _ rfl ?_; intro g' cap' w4 hown4 hgrow4 hat4 hlt4)
    | go_in)
   go_roundw
   case rel=>
    refine⟨k+1,by omega,by go_num,by rw [wv_next,←Hwd.out]; exact hown4,HB4.out.grown hgrow4 HB4.out.size (fun q hq=>(HO4.out.lt q hq).1),HBw.out.grown hgrow4 HBw.out.size (fun q hq=>Nat.le_trans hz1 (HO4.out.lt q hq).1)⟩
   case measure=>simp [intOf]; omega
  ·obtain rfl:k=13:=by omega
   have ho:=HO.out
   rw [wv_all] at ho
   have hz1:=hb1.size
   rcases id ho.2 with⟨-,h⟩ | ⟨g2,cap,cur,rfl,hbase,hb,h1,h2,h3,h4⟩
   ·exact absurd h (by decide)
   obtain⟨g3,cap3,e3,-,hg2,-,-,-,hH⟩:=Lib.holds_of_ownsRow ho (by simp)
   simp only [Value.slice.injEq,Option.some.injEq,Addr.mk.injEq,and_true,true_and] at e3
   obtain⟨rfl,rfl⟩:=e3
   have HS:=hideK (show Calls Tryz.prog 11 #[.slice (some ⟨g2,0,none⟩) 13 cap] wr fun e w'=>e = .returned (.tuple #[])∧∃n os,w'=grow (putRow encStr (Sort.ahead wr n) g2 0 (wordsS.mergeSort fun x y=>decide (x≤y)).toArray) os from Any.slices_Sort_string sortStrL g2 0 cap wordsS wr hH hg2 (by decide))
   clear ho hH
   go_wp2_with fail
   refine HS.out.mono ?_
   rintro e w5 ⟨rfl,nn,os,rfl⟩
   rw [words_sorted]
   have hrow:=ownsRow_sorted (n:=nn) (os:=os) (ts:=sortedS) (ss:=wordsS) rfl hbase hb h1 h2 h3
   have hbel:=hbw.grown (grownBy_sorted (w:=wr) (g:=g2) (n:=nn) (os:=os) sortedS.toArray) hbw.size (fun j hj=>by obtain rfl:g2=j:=Option.some.inj hj; omega)
   have HRow:=hideK hrow
   have HBel:=hideK hbel
   clear hrow hbel
   generalize grow (putRow encStr (Sort.ahead wr nn) g2 0 sortedS.toArray) os=w6 at HRow HBel ⊢
   go_wp2_with fail
   go_ret
   obtain⟨g4,cap4,e4,-,-,-,hcell⟩:=owns_cell HRow.out (by decide)
   cases e4
   refine⟨_,_,rfl,fun i hi=>?_,by omega,HBel.out⟩
   rcases(by omega:i=0∨i=1∨i=2∨i=3∨i=4∨i=5∨i=6∨i=7∨i=8∨i=9∨i=10∨i=11∨i=12)with rfl | rfl | rfl | rfl | rfl | rfl | rfl | rfl | rfl | rfl | rfl | rfl | rfl
   all_goals exact hcell _ _ rfl
end Go.Proofs.YthpeehjnfceipaaGreatDoor

namespace Go.Proofs.YthpeehjnfceipaaGreatDoor
open Go Go.RowKit
set_option linter.unusedVariables false
set_option maxRecDepth 20000 in
set_option maxHeartbeats 2000000 in
theorem fnExactDeskWords_walk(w:World):Calls Tryz.prog 3 #[] w fun e w'=>e = .returned (.bool true)∧Below w.heap.size w w':=by
 go_enter Tryz.func3,Tryz.ntmps3
 go_wp2_with fail
 refine(specDeskWords_any w).mono ?_
 rintro e w1 ⟨g1,rfl,hc1,hb1,hl1⟩
 have H1:=hideK hc1
 clear hc1
 go_wp2_with fail
 refine(implDeskWords_any w1).mono ?_
 rintro e w2 ⟨g2,c2,rfl,hc2,hl2,hb2⟩
 have H2:=hideK hc2
 have H12:=hideK (show ∀i,i<13→w2.cell? ⟨g1,i,none⟩=some (.string (sortB i))from fun i hi=>(hb2.cell (lt_of_cell (H1.out i hi))).trans (H1.out i hi))
 have hB2:=below_next hb1 hb2
 clear hc2
 go_wp2_with fail
 refine(eqStringS_any g2 g1 13 c2 13 sortB w2 (fun i hi=>(H2.out i hi).1) H12.out (by omega)).mono ?_
 rintro e w3 ⟨rfl,hb3⟩
 have hB3:=below_next hB2 hb3
 have hz1:=hb1.size
 have hz2:=hb2.size
 have hz3:=hb3.size
 have hg1:g1<w1.heap.size:=lt_of_cell (H1.out 0 (by omega))
 have H23:=hideK (H2.out.below hb3)
 have H13:=hideK (show ∀i,i<13→w3.cell? ⟨g1,i,none⟩=some (.string (sortB i))from fun i hi=>(hb3.cell (lt_of_cell (H12.out i hi))).trans (H12.out i hi))
 go_wp2_with fail
 refine(markStringS_any g2 13 c2 sortB 1 w3 H23.out (by omega) (by omega) (by omega)).mono ?_
 rintro e w4 ⟨rfl,hm,ht⟩
 have HM:=hideK hm
 have hB4:Below w.heap.size w w4:=hB3.trans (ht.below (B:=w.heap.size) hB3.size (fun j e=>by omega))
 have hz4:=ht.size
 have H14:=hideK (show ∀i,i<13→w4.cell? ⟨g1,i,none⟩=some (.string (sortB i))from fun i hi=>(ht.cell (lt_of_cell (H13.out i hi)) (by omega)).trans (H13.out i hi))
 clear hm
 go_wp2_with fail
 refine(heldStringS_any g2 13 c2 1 w4 (fun i hi=>(HM.out i hi).1) (by omega) (by omega) (by omega)).mono ?_
 rintro e w5 ⟨rfl,hb5⟩
 have hB5:=below_next hB4 hb5
 have hz5:=hb5.size
 have H15:=hideK (show ∀i,i<13→w5.cell? ⟨g1,i,none⟩=some (.string (sortB i))from fun i hi=>(hb5.cell (lt_of_cell (H14.out i hi))).trans (H14.out i hi))
 have HM5:=hideK (HM.out.below hb5)
 go_wp2_with fail
 refine(implDeskWords_any w5).mono ?_
 rintro e w6 ⟨g6,c6,rfl,hc6,hl6,hb6⟩
 have H6:=hideK hc6
 have H16:=hideK (show ∀i,i<13→w6.cell? ⟨g1,i,none⟩=some (.string (sortB i))from fun i hi=>(hb6.cell (lt_of_cell (H15.out i hi))).trans (H15.out i hi))
 have HM6:=hideK (HM5.out.below hb6)
 have hB6:=below_next hB5 hb6
 clear hc6
 go_wp2_with fail
 refine(eqStringS_any g6 g1 13 c6 13 sortB w6 (fun i hi=>(H6.out i hi).1) H16.out (by omega)).mono ?_
 rintro e w7 ⟨rfl,hb7⟩
 have hB7:=below_next hB6 hb7
 have HM7:=hideK (HM6.out.below hb7)
 go_wp2_with fail
 refine(heldStringS_any g2 13 c2 1 w7 (fun i hi=>(HM7.out i hi).1) (by omega) (by omega) (by omega)).mono ?_
 rintro e w8 ⟨rfl,hb8⟩
 have hB8:=below_next hB7 hb8
 go_wp2_with fail
 go_ret
 exact⟨rfl,hB8⟩
end Go.Proofs.YthpeehjnfceipaaGreatDoor

namespace Go.Proofs.YthpeehjnfceipaaGreatDoor
open Go.RowKit Go.Extern.Stop Go.Stop Go.Extern
set_option linter.unusedVariables false
abbrev errV(a:Addr):Value:=.iface 324 (.pointer (some a))
def errG:Nat→Nat
 | 0=>5
 | 1=>4
 | 2=>2
 | 3=>0
 | 4=>1
 | 5=>3
 | _=>7
structure Errs (w:World) (p:Nat→Addr):Prop where
 cell:∀i,i<7→w.cell? ⟨errG i,0,none⟩=some (errV (p i))
 row:∀i,i<7→∃cs t,w.heap[(p i).block]?=some (.cells cs t (0,0))
 ne:∀i j,i<7→j<7→i≠j→p i≠p j
theorem Errs.below{w w':World}{p:Nat→Addr}(h:Errs w p)(t:Below w.heap.size w w'):Errs w' p:=
 ⟨fun i hi=>(t.cell (lt_of_cell (h.cell i hi))).trans (h.cell i hi),fun i hi=>by
  obtain⟨cs,ty,hc⟩:=h.row i hi
  exact⟨cs,ty,(t.block _ (Array.getElem?_eq_some_iff.1 hc).1).trans hc⟩,h.ne⟩
end Go.Proofs.YthpeehjnfceipaaGreatDoor
