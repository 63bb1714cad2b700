/- A part of the proof. -/
import Derived.Test.YtgabgheflgjgiaaGreatDoorU2
import Derived.Laws.RangeString
import Derived.RegionTactic
import Derived.ChangeAlike
set_option linter.unusedVariables false
set_option maxRecDepth 20000
set_option maxHeartbeats 4000000
namespace Go.Proofs.YtgabgheflgjgiaaGreatDoor
open Go.RowKit
theorem zEz(s:ByteArray)(c:UInt8)(w:World)(hs:s.size<=100000) :
  Calls Tryz.prog 9 #[.string s,.int .u8 (c.toNat:Int)] w fun e w'=>∃v,e = .returned v/\zBj w' w.heap.size v (spl c (bs s))/\Below w.heap.size w w':=by
 obtain⟨i0,kA,jA⟩:=Option.map_eq_some_iff.1 zEx;simp only[Prod.mk.injEq]at jA;have HI:=zG (And.intro kA jA);clear kA jA;have ha:=zC w (.cells #[] 9);have H0:=zG (show zBj (w.alloc (.cells #[] 9)) w.heap.size (.slice (some ⟨w.heap.size,0,none⟩) 0 0) [] from World.ownsRow_lit (e:=9) (size:=1) w #[] 0 (Nat.le_refl _) (by unfold maxLen;omega) rfl);go_enter Tryz.func9,Tryz.ntmps9;go_wp2
 go_loopw [5,6,7] (fun v pA vi wr=>∃(st p:Nat) (L:List (List UInt8)),st<=p/\p<=s.size/\L.length<=p/\pA = .int .i64 st/\vi = .int .i64 p/\zBj wr w.heap.size v L/\zBu c s st p L/\Below w.heap.size w wr) (fun _ _ i _=>s.size - (intOf i).toNat)
 case atStart=>exact⟨0,0,[],Nat.le_refl _,Nat.zero_le _,Nat.le_refl _,rfl,rfl,H0.out,zBu.start c s,ha⟩
 case round=>
  clear H0 ha;obtain⟨st,p,L,h1,h2,h4,rfl,rfl,h5,h6,h7⟩:=hrel;have HO:=zG h5;have HW:=zG h6;have HB:=zG h7;have h0:(0:Int)<=(p:Int):=(by omega);have tA:(st:Int)<=(p:Int):=(by omega);have rA:(0:Int)<=(st:Int):=(by omega);have sA:(p:Int)<=(s.size:Int):=(by omega);have vA:=h7.size;clear h5 h6 h7;by_cases lA:p<s.size
  ·have nA:(p:Int)<(s.size:Int):=(by omega);have cA:=zC wr (.cells #[.string (s.extract st p)] 9);have eA:=zG (HO.out.zOp cA);have HN:=zG (World.news_of_block (heap_alloc_last wr (.cells #[.string (s.extract st p)] 9)));have oA:(wr.alloc (.cells #[.string (s.extract st p)] 9)).heap.size=wr.heap.size+1:=World.size_alloc _ _;have dA:=zG (zA HB.out cA);clear cA;by_cases hc:s[p]=c
   ·have mA:((s[p].toNat:Int) == (c.toNat:Int))=true:=(by rw[hc];exact beq_self_eq_true _);have Hc:=zG hc;clear hc;go_wp2_with (first
    | (at_builtin;refine wpList_append_lies _ rfl _ _ 30 rfl w.heap.size 9 i0 (.string ⟨#[]⟩) 1 16 (by kernel_rfl) HI.out.1 HI.out.2.1 HI.out.2.2.1 HI.out.2.2.2 rfl (by decide) _ _ _ rfl eA.out ⟨wr.heap.size,0,none⟩ 1 1 [.string (s.extract st p)] rfl rfl HN.out (by simp[Value.oneCell']) (by decide) (by unfold maxLen;omega) (by omega) (by omega) _ rfl ?_;intro g' fA w4 bA aA gA iA)
    | go_in)
    go_roundw
    case rel=>exact⟨p+1,p+1,L ++ [sub s st p],Nat.le_refl _,by omega,by simp;omega,by go_num,by go_num,zC1 bA,HW.out.yes lA Hc.out,dA.out.grown aA dA.out.size (fun q hq=>(eA.out.lt q hq).1)⟩
    case measure=>simp[intOf];omega
   ·have mA:((s[p].toNat:Int) == (c.toNat:Int))=false:=by
     simp only[beq_eq_false_iff_ne,ne_eq];intro h;exact hc (UInt8.toNat_inj.1 (by omega))
    have Hc:=zG hc;clear hc;go_wp2_with fail;go_roundw
    case rel=>exact⟨st,p+1,L,by omega,by omega,by omega,rfl,by go_num,HO.out,HW.out.no h1 lA Hc.out,HB.out⟩
    case measure=>simp[intOf];omega
  ·obtain rfl:p=s.size:=(by omega);have cA:=zC wr (.cells #[.string (s.extract st s.size)] 9);have eA:=zG (HO.out.zOp cA);have HN:=zG (World.news_of_block (heap_alloc_last wr (.cells #[.string (s.extract st s.size)] 9)));have oA:(wr.alloc (.cells #[.string (s.extract st s.size)] 9)).heap.size=wr.heap.size+1:=World.size_alloc _ _;have dA:=zG (zA HB.out cA);clear cA;go_wp2_with (first
    | (at_builtin;refine wpList_append_lies _ rfl _ _ 30 rfl w.heap.size 9 i0 (.string ⟨#[]⟩) 1 16 (by kernel_rfl) HI.out.1 HI.out.2.1 HI.out.2.2.1 HI.out.2.2.2 rfl (by decide) _ _ _ rfl eA.out ⟨wr.heap.size,0,none⟩ 1 1 [.string (s.extract st s.size)] rfl rfl HN.out (by simp[Value.oneCell']) (by decide) (by unfold maxLen;omega) (by omega) (by omega) _ rfl ?_;intro g' fA w4 bA aA gA iA)
    | go_in)
   go_ret;have hd:=HW.out.done;refine⟨_,rfl,?_,dA.out.grown aA dA.out.size (fun q hq=>(eA.out.lt q hq).1)⟩;rw[<-hd];exact zC1 bA
def shF(s:ByteArray):ByteArray×Bool:=
 if s.toList = [110,101,119] then(⟨#[119]⟩,true)else
 if s.toList = [100,101,115,116,114,111,121] then(⟨#[119]⟩,true)else
 if s.toList = [98,97,99,107] then(⟨#[119]⟩,true)else
 if s.toList = [112,114,111,109,111,116,101] then(⟨#[119]⟩,true)else
 if s.toList = [119,114,105,116,101] then(⟨#[119,110,119]⟩,true)else
 if s.toList = [116,114,105,109] then(⟨#[119,110]⟩,true)else
 if s.toList = [114,101,97,100] then(⟨#[119,110]⟩,true)else
 if s.toList = [115,110,97,112] then(⟨#[119,119]⟩,true)else
 if s.toList = [99,108,111,110,101] then(⟨#[110,119]⟩,true)else
 if s.toList = [100,114,111,112] then(⟨#[110]⟩,true)else
 if s.toList = [102,114,101,101] then(⟨#[]⟩,true)else
 if s.toList = [115,121,110,99] then(⟨#[]⟩,true)else
 if s.toList = [99,114,97,115,104] then(⟨#[]⟩,true)else
 (⟨#[]⟩,false)
theorem zIf(s:ByteArray)(w:World) :
  Calls Tryz.prog 17 #[.string s] w fun e w'=>e = .returned (.tuple #[.string (shF s).1,.bool (shF s).2])/\w'=w:=by
 by_cases h0:s.toList = [110,101,119]
 ·have e0:(s.toList == [110,101,119])=true:=(by rw[h0];rfl);have H:=zG h0;clear h0;go_enter Tryz.func17,Tryz.ntmps17;go_wp2
  go_ret2
  exact⟨by rw[show shF s=(⟨#[119]⟩,true)by unfold shF;rw[if_pos H.out]];rfl,rfl⟩
 have e0:(s.toList == [110,101,119])=false:=by rw[beq_eq_false_iff_ne];exact h0
 have G0:=zG h0;clear h0;by_cases h1:s.toList = [100,101,115,116,114,111,121]
 ·have e1:(s.toList == [100,101,115,116,114,111,121])=true:=(by rw[h1];rfl);have H:=zG h1;clear h1;go_enter Tryz.func17,Tryz.ntmps17;go_wp2
  go_ret2
  exact⟨by rw[show shF s=(⟨#[119]⟩,true)by unfold shF;rw[if_neg G0.out];rw[if_pos H.out]];rfl,rfl⟩
 have e1:(s.toList == [100,101,115,116,114,111,121])=false:=by rw[beq_eq_false_iff_ne];exact h1
 have G1:=zG h1;clear h1;by_cases h2:s.toList = [98,97,99,107]
 ·have e2:(s.toList == [98,97,99,107])=true:=(by rw[h2];rfl);have H:=zG h2;clear h2;go_enter Tryz.func17,Tryz.ntmps17;go_wp2
  go_ret2
  exact⟨by rw[show shF s=(⟨#[119]⟩,true)by unfold shF;rw[if_neg G0.out,if_neg G1.out];rw[if_pos H.out]];rfl,rfl⟩
 have e2:(s.toList == [98,97,99,107])=false:=by rw[beq_eq_false_iff_ne];exact h2
 have G2:=zG h2;clear h2;by_cases h3:s.toList = [112,114,111,109,111,116,101]
 ·have e3:(s.toList == [112,114,111,109,111,116,101])=true:=(by rw[h3];rfl);have H:=zG h3;clear h3;go_enter Tryz.func17,Tryz.ntmps17;go_wp2
  go_ret2
  exact⟨by rw[show shF s=(⟨#[119]⟩,true)by unfold shF;rw[if_neg G0.out,if_neg G1.out,if_neg G2.out];rw[if_pos H.out]];rfl,rfl⟩
 have e3:(s.toList == [112,114,111,109,111,116,101])=false:=by rw[beq_eq_false_iff_ne];exact h3
 have G3:=zG h3;clear h3;by_cases h4:s.toList = [119,114,105,116,101]
 ·have e4:(s.toList == [119,114,105,116,101])=true:=(by rw[h4];rfl);have H:=zG h4;clear h4;go_enter Tryz.func17,Tryz.ntmps17;go_wp2
  go_ret2
  exact⟨by rw[show shF s=(⟨#[119,110,119]⟩,true)by unfold shF;rw[if_neg G0.out,if_neg G1.out,if_neg G2.out,if_neg G3.out];rw[if_pos H.out]];rfl,rfl⟩
 have e4:(s.toList == [119,114,105,116,101])=false:=by rw[beq_eq_false_iff_ne];exact h4
 have G4:=zG h4;clear h4;by_cases h5:s.toList = [116,114,105,109]
 ·have e5:(s.toList == [116,114,105,109])=true:=(by rw[h5];rfl);have H:=zG h5;clear h5;go_enter Tryz.func17,Tryz.ntmps17;go_wp2
  go_ret2
  exact⟨by rw[show shF s=(⟨#[119,110]⟩,true)by unfold shF;rw[if_neg G0.out,if_neg G1.out,if_neg G2.out,if_neg G3.out,if_neg G4.out];rw[if_pos H.out]];rfl,rfl⟩
 have e5:(s.toList == [116,114,105,109])=false:=by rw[beq_eq_false_iff_ne];exact h5
 have G5:=zG h5;clear h5;by_cases h6:s.toList = [114,101,97,100]
 ·have e6:(s.toList == [114,101,97,100])=true:=(by rw[h6];rfl);have H:=zG h6;clear h6;go_enter Tryz.func17,Tryz.ntmps17;go_wp2
  go_ret2
  exact⟨by rw[show shF s=(⟨#[119,110]⟩,true)by unfold shF;rw[if_neg G0.out,if_neg G1.out,if_neg G2.out,if_neg G3.out,if_neg G4.out,if_neg G5.out];rw[if_pos H.out]];rfl,rfl⟩
 have e6:(s.toList == [114,101,97,100])=false:=by rw[beq_eq_false_iff_ne];exact h6
 have G6:=zG h6;clear h6;by_cases h7:s.toList = [115,110,97,112]
 ·have e7:(s.toList == [115,110,97,112])=true:=(by rw[h7];rfl);have H:=zG h7;clear h7;go_enter Tryz.func17,Tryz.ntmps17;go_wp2
  go_ret2
  exact⟨by rw[show shF s=(⟨#[119,119]⟩,true)by unfold shF;rw[if_neg G0.out,if_neg G1.out,if_neg G2.out,if_neg G3.out,if_neg G4.out,if_neg G5.out,if_neg G6.out];rw[if_pos H.out]];rfl,rfl⟩
 have e7:(s.toList == [115,110,97,112])=false:=by rw[beq_eq_false_iff_ne];exact h7
 have G7:=zG h7;clear h7;by_cases h8:s.toList = [99,108,111,110,101]
 ·have e8:(s.toList == [99,108,111,110,101])=true:=(by rw[h8];rfl);have H:=zG h8;clear h8;go_enter Tryz.func17,Tryz.ntmps17;go_wp2
  go_ret2
  exact⟨by rw[show shF s=(⟨#[110,119]⟩,true)by unfold shF;rw[if_neg G0.out,if_neg G1.out,if_neg G2.out,if_neg G3.out,if_neg G4.out,if_neg G5.out,if_neg G6.out,if_neg G7.out];rw[if_pos H.out]];rfl,rfl⟩
 have e8:(s.toList == [99,108,111,110,101])=false:=by rw[beq_eq_false_iff_ne];exact h8
 have G8:=zG h8;clear h8;by_cases h9:s.toList = [100,114,111,112]
 ·have e9:(s.toList == [100,114,111,112])=true:=(by rw[h9];rfl);have H:=zG h9;clear h9;go_enter Tryz.func17,Tryz.ntmps17;go_wp2
  go_ret2
  exact⟨by rw[show shF s=(⟨#[110]⟩,true)by unfold shF;rw[if_neg G0.out,if_neg G1.out,if_neg G2.out,if_neg G3.out,if_neg G4.out,if_neg G5.out,if_neg G6.out,if_neg G7.out,if_neg G8.out];rw[if_pos H.out]];rfl,rfl⟩
 have e9:(s.toList == [100,114,111,112])=false:=by rw[beq_eq_false_iff_ne];exact h9
 have G9:=zG h9;clear h9;by_cases aA:s.toList = [102,114,101,101]
 ·have gA:(s.toList == [102,114,101,101])=true:=(by rw[aA];rfl);have H:=zG aA;clear aA;go_enter Tryz.func17,Tryz.ntmps17;go_wp2
  go_ret2
  exact⟨by rw[show shF s=(⟨#[]⟩,true)by unfold shF;rw[if_neg G0.out,if_neg G1.out,if_neg G2.out,if_neg G3.out,if_neg G4.out,if_neg G5.out,if_neg G6.out,if_neg G7.out,if_neg G8.out,if_neg G9.out];rw[if_pos H.out]];rfl,rfl⟩
 have gA:(s.toList == [102,114,101,101])=false:=by rw[beq_eq_false_iff_ne];exact aA
 have dA:=zG aA;clear aA;by_cases bA:s.toList = [115,121,110,99]
 ·have iA:(s.toList == [115,121,110,99])=true:=(by rw[bA];rfl);have H:=zG bA;clear bA;go_enter Tryz.func17,Tryz.ntmps17;go_wp2
  go_ret2
  exact⟨by rw[show shF s=(⟨#[]⟩,true)by unfold shF;rw[if_neg G0.out,if_neg G1.out,if_neg G2.out,if_neg G3.out,if_neg G4.out,if_neg G5.out,if_neg G6.out,if_neg G7.out,if_neg G8.out,if_neg G9.out,if_neg dA.out];rw[if_pos H.out]];rfl,rfl⟩
 have iA:(s.toList == [115,121,110,99])=false:=by rw[beq_eq_false_iff_ne];exact bA
 have eA:=zG bA;clear bA;by_cases cA:s.toList = [99,114,97,115,104]
 ·have jA:(s.toList == [99,114,97,115,104])=true:=(by rw[cA];rfl);have H:=zG cA;clear cA;go_enter Tryz.func17,Tryz.ntmps17;go_wp2
  go_ret2
  exact⟨by rw[show shF s=(⟨#[]⟩,true)by unfold shF;rw[if_neg G0.out,if_neg G1.out,if_neg G2.out,if_neg G3.out,if_neg G4.out,if_neg G5.out,if_neg G6.out,if_neg G7.out,if_neg G8.out,if_neg G9.out,if_neg dA.out,if_neg eA.out];rw[if_pos H.out]];rfl,rfl⟩
 have jA:(s.toList == [99,114,97,115,104])=false:=by rw[beq_eq_false_iff_ne];exact cA
 have fA:=zG cA;clear cA;go_enter Tryz.func17,Tryz.ntmps17;go_wp2
 go_ret2
 exact⟨by rw[show shF s=(⟨#[]⟩,false)by unfold shF;rw[if_neg G0.out,if_neg G1.out,if_neg G2.out,if_neg G3.out,if_neg G4.out,if_neg G5.out,if_neg G6.out,if_neg G7.out,if_neg G8.out,if_neg G9.out,if_neg dA.out,if_neg eA.out,if_neg fA.out]];rfl,rfl⟩
def zBN(L:List (List UInt8))(j:Nat):Prop:=(j+1<L.length->j<60/\zFI ⟨(L.getD j []).toArray⟩)/\(j+1=L.length->L.getD j [] = [])
def zDS(L:List (List UInt8))(ln c:Int):Prop:=(∃i:Nat,i<L.length/\(∀j,j<i->zBN L j)/\¬zBN L i/\ln=i/\c=3)\/((∀j,j<L.length->zBN L j)/\ln=0/\c=0)
def zDw(s:ByteArray)(ln c:Int):Prop:=(8000<s.size/\ln=0/\c=2)\/(¬8000<s.size/\zDS (spl 10 (bs s)) ln c)
theorem zDS.uniq{L:List (List UInt8)}{a b c d:Int}(h:zDS L a b)(h':zDS L c d):a=c/\b=d:=by
 rcases h with⟨i,h1,h2,h3,rfl,rfl⟩ | ⟨h1,rfl,rfl⟩<;>rcases h' with⟨j,g1,g2,g3,rfl,rfl⟩ | ⟨g1,rfl,rfl⟩
 ·have:i=j:=by
   rcases Nat.lt_trichotomy i j with h | h | h
   ·exact absurd (g2 i h) h3
   ·exact h
   ·exact absurd (h2 j h) g3
  subst this;exact⟨rfl,rfl⟩
 ·exact absurd (g1 i h1) h3
 ·exact absurd (h1 j g1) g3
 ·exact⟨rfl,rfl⟩
theorem zDw.uniq{s:ByteArray}{a b c d:Int}(h:zDw s a b)(h':zDw s c d):a=c/\b=d:=by
 rcases h with⟨h1,rfl,rfl⟩ | ⟨h1,h2⟩<;>rcases h' with⟨g1,rfl,rfl⟩ | ⟨g1,g2⟩
 ·exact⟨rfl,rfl⟩
 ·exact absurd h1 g1
 ·exact absurd g1 h1
 ·exact h2.uniq g2
def zL2(s:ByteArray)(e:Ending):Prop:=∃ln c:Int,e = .returned (.agg #[.string ⟨#[]⟩,.int .i64 ln,.int .i64 c])/\zDw s ln c
theorem zNa{L:List (List UInt8)}{k:Nat}(h:k<L.length)(l:List UInt8):(L ++ [l]).getD k []=L[k]:=by
 rw[List.getD_eq_getElem?_getD,List.getElem?_append_left h,List.getElem?_eq_getElem h];rfl
theorem zMY(L:List (List UInt8))(l:List UInt8):(L ++ [l]).getD L.length []=l:=by
 rw[List.getD_eq_getElem?_getD,List.getElem?_append_right (Nat.le_refl _),Nat.sub_self];rfl
theorem zGj(s:ByteArray)(q:Nat)(h:q<s.size):s.get! q=s[q]:=by
 simp[ByteArray.get!,getElem!_pos,h];rfl
structure zMG (s:ByteArray) (pos:Nat) (d:Nat×Nat):Prop where
 some:1<=d.2
 fits:pos+d.2<=s.size
 feed:d.1=10↔(s.get! pos).toNat=10
 one:d.1=10->d.2=1
 zO8:∀j,1<=j->j<d.2->¬(s.get! (pos+j)).toNat=10
theorem zJE(s:ByteArray)(aA:Nat)(h:aA<s.size):zMG s aA (Utf8.decode s aA):=by
 unfold Utf8.decode;simp only[Nat.add_zero];split
 ·exact⟨Nat.le_refl _,h,Iff.rfl,fun _=>rfl,fun j h1 h2=>by simp at h2;omega⟩
 ·rename_i hb
  have bA:zMG s aA (Utf8.runeError,1):=⟨Nat.le_refl _,h,⟨fun e=>absurd e (by decide),fun e=>by omega⟩,fun _=>rfl,fun j h1 h2=>by simp at h2;omega⟩;split
  ·rename_i hc
   simp only[Bool.and_eq_true,decide_eq_true_eq,beq_iff_eq]at hc;split
   ·rename_i hd
    refine⟨(by show 1<=2;omega),by show aA+2<=_;omega,⟨fun e=>by simp only at e;omega,fun e=>by omega⟩,fun e=>by simp only at e;omega,fun j h1 h2=>?_⟩;obtain rfl:j=1:=(by simp only at h2;omega);omega
   ·exact bA
  ·split
   ·rename_i hc
    simp only[Bool.and_eq_true,decide_eq_true_eq,beq_iff_eq]at hc;split
    ·rename_i hd
     simp only[Bool.and_eq_true,decide_eq_true_eq]at hd;obtain⟨hd,-⟩:=hd;refine⟨(by show 1<=3;omega),by show aA+3<=_;omega,⟨fun e=>by simp only at e;omega,fun e=>by omega⟩,fun e=>by simp only at e;omega,fun j h1 h2=>?_⟩;obtain rfl | rfl:j=1\/j=2:=by simp only at h2;omega
     ·omega
     ·omega
    ·exact bA
   ·split
    ·rename_i hc
     simp only[Bool.and_eq_true,decide_eq_true_eq,beq_iff_eq]at hc;split
     ·rename_i hd
      simp only[Bool.and_eq_true,decide_eq_true_eq]at hd;obtain⟨hd,-⟩:=hd;refine⟨(by show 1<=4;omega),by show aA+4<=_;omega,⟨fun e=>by simp only at e;omega,fun e=>by omega⟩,fun e=>by simp only at e;omega,fun j h1 h2=>?_⟩;obtain rfl | rfl | rfl:j=1\/j=2\/j=3:=by simp only at h2;omega
      ·omega
      ·omega
      ·omega
     ·exact bA
    ·exact bA
def zFR(w:World)(b:Nat)(s:ByteArray)(q:Nat):World:={w with heap:=w.heap.setIfInBounds b (.stringIter s q)}
theorem zLR{w:World}{b:Nat}{s:ByteArray}{p:Nat}(h:w.heap[b]?=some (.stringIter s p))(q:Nat):(zFR w b s q).heap[b]?=some (.stringIter s q):=by
 have hb:b<w.heap.size:=(Array.getElem?_eq_some_iff.1 h).1;show(w.heap.setIfInBounds b (.stringIter s q))[b]?=_;rw[Array.getElem?_setIfInBounds_self_of_lt hb]
theorem zHb(w:World)(b:Nat)(s:ByteArray)(q:Nat):zE (fun k=>k=b) w (zFR w b s q):=by
 refine⟨rfl,rfl,rfl,?_,fun k hk hn=>?_⟩
 ·show _<=(w.heap.setIfInBounds b (.stringIter s q)).size;rw[Array.size_setIfInBounds];exact Nat.le_refl _
 ·show(w.heap.setIfInBounds b (.stringIter s q))[k]?=_;rw[Array.getElem?_setIfInBounds_ne (fun e=>hn e.symm)]
theorem zJe{P:Program}(w:World)(b:Nat)(s:ByteArray)(aA r n:Nat)(h:w.heap[b]?=some (.stringIter s aA))(bA:aA<s.size)(hd:Utf8.decode s aA=(r,n))(ty:TypeId) :
  (Instr.next (.pointer (some ⟨b,0,none⟩)) true ty).run P w = .ok (.tuple #[.bool true,.int .i64 aA,.int .i32 r]) (zFR w b s (aA+n)):=by
 simp only[Instr.next,getObj,setObj,Sem.run_bind,Sem.run,h,Result.andThen,bA,if_true,hd];simp[goInt,zFR]
theorem zIy{P:Program}(w:World)(b:Nat)(s:ByteArray)(aA:Nat)(h:w.heap[b]?=some (.stringIter s aA))(bA:¬aA<s.size)(ty:TypeId) :
  (Instr.next (.pointer (some ⟨b,0,none⟩)) true ty).run P w = .ok (.tuple #[.bool false]) w:=by
 simp[Instr.next,getObj,Sem.run,h,bA]
def zIa(w:World)(b:Nat):Nat:=match w.heap[b]? with
 | some (.stringIter _ p)=>p
 | _=>0
theorem zDA{w:World}{b:Nat}{s:ByteArray}{p:Nat}(h:w.heap[b]?=some (.stringIter s p)):zIa w b=p:=by unfold zIa;rw[h]
theorem zBu.nos{s:ByteArray}{st p:Nat}{L:List (List UInt8)}:∀{n:Nat},zBu 10 s st p L->st<=p->p+n<=s.size->(∀j,j<n->¬(s.get! (p+j)).toNat=10)->zBu 10 s st (p+n) L
 | 0,h,_,_,_=>h
 | n+1,h,h1,h2,h3=>by
  have aA:p+n<s.size:=(by omega);refine(zBu.nos (n:=n) h h1 (by omega) (fun j hj=>h3 j (by omega))).no (by omega) aA (fun e=>h3 n (by omega) ?_);rw[zGj s (p+n) aA,e];rfl
def zL3(s:ByteArray)(w:World)(e:Ending)(w':World):Prop:=∃v L l,e = .returned (.tuple #[v,encStr l])/\zBj w' (w.heap.size+1) v L/\L ++ [l]=spl 10 (bs s)/\Below w.heap.size w w'
theorem zCf{S:Nat->Prop}{w w':World}{base:Nat}{v:Value}{L:List (List UInt8)}(h:zBj w base v L)(t:zE S w w')(hs:∀k,S k->k<base):zBj w' base v L:=by
 refine⟨h.1,?_⟩;rcases h.2 with hn | ⟨g,cap,aA,hv,hb,hg,zO8⟩
 ·exact .inl hn
 ·have hl:g<w.heap.size:=(Array.getElem?_eq_some_iff.1 hg).1;exact .inr ⟨g,cap,aA,hv,hb,(t.block g hl (fun e=>by have:=hs g e;omega)).trans hg,zO8⟩
theorem zJP(s:ByteArray)(w:World)(hs:s.size<=100000):Calls Tryz.prog 13 #[.string s] w (zL3 s w):=by
 obtain⟨i0,nA,kA⟩:=Option.map_eq_some_iff.1 zEx;simp only[Prod.mk.injEq]at kA;have HI:=zG (And.intro nA kA);clear nA kA;have ha:Below w.heap.size w (w.iter s 0):=zC w (.stringIter s 0);have oA:=w.iter_heap s 0;have aB:(w.iter s 0).heap.size=w.heap.size+1:=World.size_alloc _ _;go_enter Tryz.func13,Tryz.ntmps13;go_wp2
 go_loopw [4,5] (fun v cB wr=>∃(st p:Nat) (L:List (List UInt8)),st<=p/\p<=s.size/\L.length<=p/\cB = .int .i64 st/\zBj wr (w.heap.size+1) v L/\zBu 10 s st p L/\Below w.heap.size w wr/\w.heap.size+1<=wr.heap.size/\wr.heap[w.heap.size]?=some (.stringIter s p)) (fun _ _ wr=>s.size - zIa wr w.heap.size)
 case atStart=>exact⟨0,0,[],Nat.le_refl _,Nat.zero_le _,Nat.le_refl _,rfl,⟨rfl,Or.inl ⟨rfl,rfl⟩⟩,zBu.start 10 s,ha,by omega,oA⟩
 case round=>
  clear ha oA aB;obtain⟨st,p,L,h1,h2,h4,rfl,h5,h6,h7,h8,h9⟩:=hrel;have HO:=zG h5;have HW:=zG h6;have HB:=zG h7;have HT:=zG h9;have h0:(0:Int)<=(p:Int):=(by omega);have fB:(st:Int)<=(p:Int):=(by omega);have dB:(0:Int)<=(st:Int):=(by omega);have eB:(p:Int)<=(s.size:Int):=(by omega);clear h5 h6 h7 h9;by_cases bA:p<s.size
  ·obtain⟨⟨r,n⟩,hd⟩:∃d,Utf8.decode s p=d:=⟨_,rfl⟩;have HS:=zG (hd▸zJE s p bA);have pA:=zJe (P:=Tryz.prog) wr w.heap.size s p r n HT.out bA hd;have dA:=zG (zLR HT.out (p+n));have ht:=zHb wr w.heap.size s (p+n);have gA:=zG (zCf HO.out ht (fun k hk=>by omega));have fA:=zG (HB.out.trans (ht.zOp HB.out.size (fun k hk=>by omega)));have bB:w.heap.size+1<=(zFR wr w.heap.size s (p+n)).heap.size:=Nat.le_trans h8 ht.size;clear hd ht HO HB;generalize zFR wr w.heap.size s (p+n)=w2 at pA dA gA fA bB;have g1:=HS.out.some;have g2:=HS.out.fits;dsimp only at g1 g2;by_cases hc:r=10
   ·subst hc;obtain rfl:n=1:=HS.out.one rfl;have jA:s[p]=10:=UInt8.toNat_inj.1 (by have:=HS.out.feed.1 rfl;rw[zGj s p bA]at this;rw[this];rfl);have Hc:=zG jA;clear jA;have eA:=zC w2 (.cells #[.string (s.extract st p)] 9);have iA:=zG (gA.out.zOp eA);have HN:=zG (World.news_of_block (heap_alloc_last w2 (.cells #[.string (s.extract st p)] 9)));have gB:(w2.alloc (.cells #[.string (s.extract st p)] 9)).heap.size=w2.heap.size+1:=World.size_alloc _ _;have lA:=zG (zA fA.out eA);have rA:=zG ((eA.block w.heap.size (by omega)).trans dA.out);clear eA;go_wp2_with (first
    | (at_builtin;refine wpList_append_lies _ rfl _ _ 30 rfl (w.heap.size+1) 9 i0 (.string ⟨#[]⟩) 1 16 (by kernel_rfl) HI.out.1 HI.out.2.1 HI.out.2.2.1 HI.out.2.2.2 rfl (by decide) _ _ _ rfl iA.out ⟨w2.heap.size,0,none⟩ 1 1 [.string (s.extract st p)] rfl rfl HN.out (by simp[Value.oneCell']) (by decide) (by unfold maxLen;omega) (by omega) (by omega) _ rfl ?_;intro g' sA w4 cA aA tA vA)
    | go_in)
    have mA:=zG ((aA.block w.heap.size (by omega) (fun e=>by have:=(iA.out.lt _ e.symm).1;omega)).trans rA.out);go_roundw
    case rel=>exact⟨p+1,p+1,L ++ [sub s st p],Nat.le_refl _,by omega,by simp;omega,by go_num,zC1 cA,HW.out.yes bA Hc.out,lA.out.grown aA lA.out.size (fun q hq=>by have:=(iA.out.lt q hq).1;omega),Nat.le_trans (by omega) aA.size,mA.out⟩
    case measure=>rw[zDA HT.out,zDA mA.out];omega
   ·have jA:((r:Int) == 10)=false:=(by simp only[beq_eq_false_iff_ne,ne_eq];omega);have Hc:=zG hc;clear hc;go_wp2_with fail;go_roundw
    case rel=>exact⟨st,p+n,L,by omega,by omega,by omega,rfl,gA.out,HW.out.nos h1 g2 (fun j hj=>by
     by_cases e:j=0
     ·subst e;intro h;exact Hc.out (HS.out.feed.2 h)
     ·exact HS.out.zO8 j (by omega) hj),fA.out,by omega,dA.out⟩
    case measure=>rw[zDA HT.out,zDA dA.out];omega
  ·obtain rfl:p=s.size:=(by omega);have pA:=zIy (P:=Tryz.prog) wr w.heap.size s s.size HT.out bA;go_wp2;go_region;go_wp2
   go_ret2
   refine⟨_,L,sub s st s.size,?_,HO.out,HW.out.done,HB.out.drew⟩;rw[<-zLA];rfl
theorem zMe:(Tryz.prog.info? 60).map (fun i=>(i.zero,i.size,i.bytes))=some (some (.agg #[.string ⟨#[]⟩,.nilFunc,.string ⟨#[]⟩,.int .i64 0,.string ⟨#[]⟩]),5,64):=by kernel_rfl
def zNS(w:World)(base:Nat)(v:Value)(k:Nat):Prop:=∃xs,w.ownsRow base 60 5 v k xs
theorem zNS.zOp{w w':World}{base:Nat}{v:Value}{k:Nat}(h:zNS w base v k)(t:Below w.heap.size w w'):zNS w' base v k:=by
 obtain⟨xs,h⟩:=h;exact⟨xs,zD1 h t⟩
def TX(w:World)(B:Nat)(a:Option Addr)(n cap:Nat)(L:List (List UInt8)):Prop:=0<n->∃g,a=some ⟨g,0,none⟩/\g<B/\zBB w g n cap L
theorem TX.zOp{w w':World}{B:Nat}{a:Option Addr}{n cap:Nat}{L:List (List UInt8)}(h:TX w B a n cap L)(t:Below w.heap.size w w'):TX w' B a n cap L:=fun h0=>by
 obtain⟨g,e,hg,hT⟩:=h h0;exact⟨g,e,hg,hT.zOp t hT.2.2.2.1⟩
theorem TX.zOr{S:Nat->Prop}{w w':World}{B:Nat}{a:Option Addr}{n cap:Nat}{L:List (List UInt8)}(h:TX w B a n cap L)(t:zE S w w')(hs:∀k,S k->B<=k):TX w' B a n cap L:=fun h0=>by
 obtain⟨g,e,hg,hT⟩:=h h0;exact⟨g,e,hg,hT.zOr t (fun h=>by have:=hs g h;omega)⟩
theorem zBw{w w':World}{row:Option Nat}(h:w.grownBy w' row):zE (fun k=>row=some k) w w':=⟨h.os,h.tape,h.output,h.size,fun k hk hn=>h.block k hk (fun e=>hn e.symm)⟩
theorem zBj.tx{w:World}{base:Nat}{v:Value}{L:List (List UInt8)}(h:zBj w base v L)(hm:L.length<=100001):∃a cap,v = .slice a L.length cap/\TX w w.heap.size a L.length cap L:=by
 by_cases h0:0<L.length
 ·obtain⟨g,cap,rfl,-,hT⟩:=h.texts h0 hm;exact⟨_,_,rfl,fun _=>⟨g,rfl,hT.2.2.2.1,hT⟩⟩
 ·rcases h.2 with⟨rfl,e⟩ | ⟨g,cap,aA,rfl,-⟩
  ·rw[e];exact⟨_,_,rfl,fun h=>absurd h (Nat.lt_irrefl _)⟩
  ·exact⟨_,_,rfl,fun h=>absurd h h0⟩
theorem zDY(k:Int)(w:World):Calls Tryz.prog 15 #[.int .i64 k] w fun e w'=>e = .returned (.agg #[.string ⟨#[]⟩,.int .i64 k,.int .i64 3])/\Below w.heap.size w w':=by
 have ha:=zC w (.cells #[.string ⟨#[]⟩,.int .i64 0,.int .i64 0] 23);obtain⟨⟨x0,y0⟩,⟨x1,y1⟩,⟨x2,y2⟩⟩:=qP.zOt w (.string ⟨#[]⟩) (.int .i64 0) (.int .i64 0) 23;go_enter Tryz.func15,Tryz.ntmps15;go_wp2;refine bodyPost_ret (v:=.agg #[.string ⟨#[]⟩,.int .i64 k,.int .i64 3]) (by simp[results,Tryz.results15,go_sem, *]) rfl ?_;exact⟨rfl,zC _ _⟩
def zN9(s:ByteArray)(e:Ending):Prop:=∃(v:Value) (ln c:Int),e = .returned (.tuple #[v,.agg #[.string ⟨#[]⟩,.int .i64 ln,.int .i64 c]])/\zDw s ln c
theorem zIn(s:ByteArray)(w:World)(kC:s.size<=1048576):Calls Tryz.prog 8 #[.string s] w fun e w'=>zN9 s e/\Below w.heap.size w w':=by
 have ha:=zC w (.cells #[.string ⟨#[]⟩,.int .i64 0,.int .i64 0] 23);have hR:=qP.zOt w (.string ⟨#[]⟩) (.int .i64 0) (.int .i64 0) 23;by_cases dA:8000<s.size
 ·have fC:(8000:Int)<(s.size:Int):=(by omega);obtain⟨⟨x0,y0⟩,⟨x1,y1⟩,⟨x2,y2⟩⟩:=hR;go_enter Tryz.func8,Tryz.ntmps8;go_wp2;refine bodyPost_ret (v:=.tuple #[.slice none 0 0,.agg #[.string ⟨#[]⟩,.int .i64 0,.int .i64 2]]) (by simp[results,Tryz.results8,go_sem, *]) rfl ?_;exact⟨⟨_,0,2,rfl,Or.inl ⟨dA,rfl,rfl⟩⟩,zC _ _⟩
 have fC:¬(8000:Int)<(s.size:Int):=by omega
 obtain⟨i0,rB,cB⟩:=Option.map_eq_some_iff.1 zMe;simp only[Prod.mk.injEq]at cB;have HI:=zG (And.intro rB cB);clear rB cB;go_enter Tryz.func8,Tryz.ntmps8;go_wp2_with fail;generalize w.alloc (.cells #[.string ⟨#[]⟩,.int .i64 0,.int .i64 0] 23)=W1 at ha hR ⊢;refine(zJP s W1 (by omega)).mono ?_;rintro e w2 ⟨v,L,l,rfl,nA,iA,aB⟩;have hL:=zFE 10 (bs s);rw[<-iA,List.length_append,zCk]at hL;have dC:L.length<=8000:=by simp at hL;omega
 obtain⟨a0,cap,rfl,oB⟩:=nA.tx (by omega);have tA:=zG oB;have HB:=zG (zA ha aB);have HR:=zG (hR.zOp aB);have HL:=zG iA;have sB:=HR.out.1.1;have sB:=zD sB;clear oB nA iA aB ha hR hL;obtain⟨m,hm⟩:∃m,m=L.length:=⟨_,rfl⟩;rw[<-hm]at dC tA ⊢;have Hm:=zG hm;clear hm;go_wp2
 go_loopw [6,22] (fun vo i wr=>∃k:Nat,k<=m/\i = .int .i64 k/\qP wr w.heap.size (.string ⟨#[]⟩) (.int .i64 0) (.int .i64 0)/\Below w.heap.size w wr/\TX wr w2.heap.size a0 m cap L/\zNS wr w2.heap.size vo k/\w2.heap.size<=wr.heap.size/\∀j,j<k->zBN (L ++ [l]) j) (fun _ i _=>m - (intOf i).toNat)
 case atStart=>exact⟨0,Nat.zero_le _,rfl,HR.out,HB.out,tA.out,⟨[],rfl,Or.inl ⟨rfl,rfl⟩⟩,Nat.le_refl _,fun j hj=>absurd hj (Nat.not_lt_zero _)⟩
 case round=>
  clear HR HB tA;obtain⟨k,hk,rfl,r1,r2,r3,r4,r5,r6⟩:=hrel;have HR:=zG r1;have HB:=zG r2;have HT:=zG r3;have HO:=zG r4;have bA:=zG r6;clear r1 r2 r3 r4 r6;by_cases oC:k<m
  ·have iC:(k:Int)<(m:Int):=(by omega);have h0:(0:Int)<=(k:Int):=(by omega);obtain⟨g,rfl,-,hT⟩:=HT.out (by omega);have bB:k<L.length:=(by have:=Hm.out;omega);have t1:wr.cell? ⟨g,k,none⟩=some (.string ⟨L[k].toArray⟩):=hT.2.2.2.2 k bB;have nC:=hT.2.1;clear hT;go_wp2_with fail;clear t1;have lC:(⟨L[k].toArray⟩:ByteArray).size<=100000:=by
    have:=zGO 10 (bs s) L[k] (by rw[<-HL.out];exact List.mem_append_left _ (List.getElem_mem bB));rw[zCk]at this;show L[k].toArray.size<=_;rw[List.size_toArray];omega
   refine(zJX ⟨L[k].toArray⟩ wr lC).mono ?_;rintro e w3 ⟨⟨l',a,c,n,fv,t,rfl,pB,ht⟩,jA⟩;have Ht:=zG ht;have dB:=zG (zA HB.out jA);have iB:=zG (HR.out.zOp jA);have kB:=zG (HT.out.zOp jA);have eB:=zG (HO.out.zOp jA);have rC:=jA.size;clear ht jA HB HR HT HO;have pC:=fun (ww:World) (ad:Addr)=>run_store Tryz.prog ww ad fv .plain pB
   have kA:=zC w3 (.cells #[.string l',fv,.string a,.int .i64 n,.string c] 60);have hY:=zI5.zOt w3 (.string l') fv (.string a) (.int .i64 n) (.string c) 60;have mC:(w3.alloc (.cells #[.string l',fv,.string a,.int .i64 n,.string c] 60)).heap.size=w3.heap.size+1:=World.size_alloc _ _;have oA:=zG (zA dB.out kA);have pA:=zG (iB.out.zOp kA);have lB:=zG (kB.out.zOp kA);have fB:=zG (eB.out.zOp kA);clear dB iB kB eB kA;have fA:zBN (L ++ [l]) k↔k<60/\t=true:=by
    unfold zBN;rw[zNa bB,Ht.out,List.length_append];refine⟨fun h=>h.1 (by simp;omega),fun h=>⟨fun _=>h,fun h=>by simp at h;omega⟩⟩
   have Hg:=zG fA;clear fA;cases t
   ·go_wp2_with fail;refine(zDY (k:Int) _).mono ?_;rintro e w5 ⟨rfl,cA⟩;have eA:=zG (zA oA.out cA);obtain⟨⟨x0,y0⟩,⟨x1,y1⟩,⟨x2,y2⟩⟩:=pA.out.zOp cA;clear cA;go_wp2;refine bodyPost_ret (v:=.tuple #[.slice none 0 0,.agg #[.string ⟨#[]⟩,.int .i64 k,.int .i64 3]]) (by simp[results,Tryz.results8,go_sem, *]) rfl ?_;exact⟨⟨_,_,_,rfl,Or.inr ⟨dA,by rw[<-HL.out];exact Or.inl ⟨k,by rw[List.length_append];simp;omega,bA.out,by rw[Hg.out];exact fun h=>Bool.noConfusion h.2,rfl,rfl⟩⟩⟩,((eA.out.setCell (Nat.le_refl _) _).setCell (Nat.le_refl _) _).setCell (Nat.le_refl _) _⟩
   ·by_cases nB:k<60
    ·have vA:¬(60:Int)<=(k:Int):=(by omega);obtain⟨⟨x0,y0⟩,⟨x1,y1⟩,⟨x2,y2⟩,⟨x3,y3⟩,⟨x4,y4⟩⟩:=hY;obtain⟨xs,tB⟩:=fB.out;have lA:=zC (w3.alloc (.cells #[.string l',fv,.string a,.int .i64 n,.string c] 60)) (.cells #[.string l',fv,.string a,.int .i64 n,.string c] 60);have HN:=zG (World.news_of_block (heap_alloc_last (w3.alloc (.cells #[.string l',fv,.string a,.int .i64 n,.string c] 60)) (.cells #[.string l',fv,.string a,.int .i64 n,.string c] 60)));have gB:=zG (zD1 tB lA);have sC:((w3.alloc (.cells #[.string l',fv,.string a,.int .i64 n,.string c] 60)).alloc (.cells #[.string l',fv,.string a,.int .i64 n,.string c] 60)).heap.size=w3.heap.size+1+1:=(by rw[World.size_alloc,World.size_alloc]);have eA:=zG (zA oA.out lA);have jB:=zG (pA.out.zOp lA);have mB:=zG (lB.out.zOp lA);clear lA tB oA pA lB fB;go_wp2_with (first
      | (at_builtin;refine wpList_append_lies _ rfl _ _ 27 rfl w2.heap.size 60 i0 (.agg #[.string ⟨#[]⟩,.nilFunc,.string ⟨#[]⟩,.int .i64 0,.string ⟨#[]⟩]) 5 64 (by kernel_rfl) HI.out.1 HI.out.2.1 HI.out.2.2.1 HI.out.2.2.2 rfl (by decide) _ _ _ rfl gB.out ⟨w3.heap.size+1,0,none⟩ 1 1 [.string l',fv,.string a,.int .i64 n,.string c] rfl rfl (by have:=HN.out;rw[mC]at this;exact this) (fun u hu=>by
         simp only[List.mem_cons,List.not_mem_nil,or_false]at hu;rcases hu with rfl | rfl | rfl | rfl | rfl
         ·rfl
         ·exact pB
         ·rfl
         ·rfl
         ·rfl) (by decide) (by unfold maxLen;omega) (by omega) (by omega) _ rfl ?_;intro g' cC w6 mA aA eC jC)
      | go_in)
     have sA:=zBw aA;have rA:∀q,(fun q=>u6.ownBlock=some q) q->w2.heap.size<=q:=fun q hq=>(gB.out.lt q hq).1
     have aC:=zG (jB.out.zOr sA (fun h=>by have:=rA _ h;omega));have bC:=zG (mB.out.zOr sA rA);have vB:=zG (eA.out.trans (sA.zOp eA.out.size (fun q hq=>by have:=rA q hq;omega)));have tC:=aA.size;clear sA rA aA jB mB eA;go_roundw
     case rel=>
      refine⟨k+1,by omega,by go_num,aC.out,vB.out,bC.out,⟨_,mA⟩,by omega,fun j hj=>?_⟩;by_cases e:j=k
      ·subst e;exact Hg.out.2 (by simp[nB])
      ·exact bA.out j (by omega)
     case measure=>simp[intOf];omega
    ·have vA:(60:Int)<=(k:Int):=(by omega);go_wp2_with fail;refine(zDY (k:Int) _).mono ?_;rintro e w5 ⟨rfl,cA⟩;have eA:=zG (zA oA.out cA);obtain⟨⟨x0,y0⟩,⟨x1,y1⟩,⟨x2,y2⟩⟩:=pA.out.zOp cA;clear cA;go_wp2;refine bodyPost_ret (v:=.tuple #[.slice none 0 0,.agg #[.string ⟨#[]⟩,.int .i64 k,.int .i64 3]]) (by simp[results,Tryz.results8,go_sem, *]) rfl ?_;exact⟨⟨_,_,_,rfl,Or.inr ⟨dA,by rw[<-HL.out];exact Or.inl ⟨k,by rw[List.length_append];simp;omega,bA.out,by rw[Hg.out];exact fun h=>nB h.1,rfl,rfl⟩⟩⟩,((eA.out.setCell (Nat.le_refl _) _).setCell (Nat.le_refl _) _).setCell (Nat.le_refl _) _⟩
  ·obtain rfl:k=m:=(by omega);have gA:zBN (L ++ [l]) k↔l = []:=by
    rw[Hm.out];unfold zBN;rw[zMY,List.length_append];exact⟨fun h=>h.2 rfl,fun h=>⟨fun h'=>absurd h' (by simp),fun _=>h⟩⟩
   have hF:if l = [] then zDS (L ++ [l]) 0 0 else zDS (L ++ [l]) k 3:=by
    have h1:=Hm.out;split
    ·rename_i hl
     refine Or.inr ⟨fun j hj=>?_,rfl,rfl⟩;by_cases e:j=k
     ·subst e;exact gA.2 hl
     ·exact bA.out j (by rw[List.length_append]at hj;simp at hj;omega)
    ·rename_i hl
     exact Or.inl ⟨k,by rw[List.length_append];simp;omega,bA.out,fun h=>hl (gA.1 h),rfl,rfl⟩
   clear gA;rw[HL.out]at hF;obtain⟨⟨x0,y0⟩,⟨x1,y1⟩,⟨x2,y2⟩⟩:=HR.out;by_cases hl:l = []
   ·rw[if_pos hl]at hF;have HF:=zG hF;have gC:l.isEmpty=true:=(by rw[hl];rfl);clear hF hl;go_wp2;refine bodyPost_ret (v:=.tuple #[u6,.agg #[.string ⟨#[]⟩,.int .i64 0,.int .i64 0]]) (by simp[results,Tryz.results8,go_sem, *]) rfl ?_;exact⟨⟨_,_,_,rfl,Or.inr ⟨dA,HF.out⟩⟩,((HB.out.setCell (Nat.le_refl _) _).setCell (Nat.le_refl _) _).setCell (Nat.le_refl _) _⟩
   ·rw[if_neg hl]at hF;have HF:=zG hF;have gC:l.isEmpty=false:=(by rw[List.isEmpty_eq_false_iff];exact hl);clear hF hl;go_wp2_with fail;refine(zDY (k:Int) _).mono ?_;rintro e w5 ⟨rfl,cA⟩;have eA:=zG (zA HB.out cA);obtain⟨⟨x0,y0⟩,⟨x1,y1⟩,⟨x2,y2⟩⟩:=HR.out.zOp cA;clear cA;go_wp2;refine bodyPost_ret (v:=.tuple #[.slice none 0 0,.agg #[.string ⟨#[]⟩,.int .i64 k,.int .i64 3]]) (by simp[results,Tryz.results8,go_sem, *]) rfl ?_;exact⟨⟨_,_,_,rfl,Or.inr ⟨dA,HF.out⟩⟩,((eA.out.setCell (Nat.le_refl _) _).setCell (Nat.le_refl _) _).setCell (Nat.le_refl _) _⟩
end Go.Proofs.YtgabgheflgjgiaaGreatDoor
