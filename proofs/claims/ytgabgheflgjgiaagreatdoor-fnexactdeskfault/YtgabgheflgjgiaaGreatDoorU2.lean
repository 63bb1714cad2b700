/- A part of the proof. -/
import Derived.Test.YtgabgheflgjgiaaGreatDoorU1
import Derived.Sort.EncStr
import Derived.Laws.OwnMore
set_option linter.unusedVariables false
set_option maxRecDepth 20000
set_option maxHeartbeats 4000000
namespace Go.Proofs.YtgabgheflgjgiaaGreatDoor
open Go.RowKit
def spl(c:UInt8):List UInt8->List (List UInt8)
 | []=>[[]]
 | x :: l=>if x=c then [] :: spl c l else(match spl c l with | w :: ws=>(x :: w) :: ws | []=>[[x]])
def zLN(a:List UInt8):List (List UInt8)->List (List UInt8)
 | w :: ws=>(a ++ w) :: ws
 | []=>[a]
theorem zEf(c:UInt8)(l:List UInt8):∃w ws,spl c l=w :: ws:=by
 cases l with
 | nil=>exact⟨_,_,rfl⟩
 | cons x l=>
  unfold spl;split
  ·exact⟨_,_,rfl⟩
  ·split
   ·exact⟨_,_,rfl⟩
   ·exact⟨_,_,rfl⟩
theorem zKc{c x:UInt8}{l:List UInt8}(h:¬x=c):spl c (x :: l)=zLN [x] (spl c l):=by
 obtain⟨w,ws,e⟩:=zEf c l;rw[spl,if_neg h,e];rfl
theorem zI2{c x:UInt8}{l:List UInt8}(h:x=c):spl c (x :: l) = [] :: spl c l:=by
 rw[spl,if_pos h]
theorem zLO(a b:List UInt8){l:List (List UInt8)}(h:∃w ws,l=w :: ws):zLN a (zLN b l)=zLN (a ++ b) l:=by
 obtain⟨w,ws,rfl⟩:=h;show(a ++ (b ++ w)) :: ws=(a ++ b ++ w) :: ws;rw[List.append_assoc]
theorem zJH{l:List (List UInt8)}(h:∃w ws,l=w :: ws):zLN [] l=l:=by
 obtain⟨w,ws,rfl⟩:=h;rfl
abbrev bs(s:ByteArray):List UInt8:=s.data.toList
theorem zCk(s:ByteArray):(bs s).length=s.size:=by
 show s.data.toList.length=_;rw[Array.length_toList];rfl
theorem zOH(s:ByteArray)(i j:Nat):s.extract i j=⟨(((bs s).drop i).take (j - i)).toArray⟩:=by
 apply ByteArray.ext;rw[ByteArray.data_extract];apply Array.ext';rw[Array.toList_extract,List.extract_eq_take_drop]
def sub(s:ByteArray)(st p:Nat):List UInt8:=((bs s).drop st).take (p - st)
theorem zLA(s:ByteArray)(st p:Nat):Value.string (s.extract st p)=encStr (sub s st p):=by rw[zOH];rfl
theorem zLB(s:ByteArray)(p:Nat):sub s p p = []:=by unfold sub;rw[Nat.sub_self,List.take_zero]
theorem zNG{s:ByteArray}{st p:Nat}(h1:st<=p)(h2:p<s.size):sub s st (p+1)=sub s st p ++ [s[p]]:=by
 unfold sub;have hl:p - st<((bs s).drop st).length:=by rw[List.length_drop,zCk];omega
 rw[show p+1 - st=p - st+1 by omega,List.take_succ_eq_append_getElem hl,List.getElem_drop];congr 1;have:st+(p - st)=p:=by omega
 simp only[this];rfl
theorem zKr{s:ByteArray}{p:Nat}(h:p<s.size):(bs s).drop p=s[p] :: (bs s).drop (p+1):=by
 rw[List.drop_eq_getElem_cons (by rw[zCk];exact h)];rfl
def zBu(c:UInt8)(s:ByteArray)(st p:Nat)(L:List (List UInt8)):Prop:=L ++ zLN (sub s st p) (spl c ((bs s).drop p))=spl c (bs s)
theorem zBu.start(c:UInt8)(s:ByteArray):zBu c s 0 0 []:=by
 unfold zBu;rw[zLB,List.drop_zero,zJH (zEf c _),List.nil_append]
theorem zBu.no{c:UInt8}{s:ByteArray}{st p:Nat}{L:List (List UInt8)}(h:zBu c s st p L)(h1:st<=p)(h2:p<s.size)(hc:¬s[p]=c):zBu c s st (p+1) L:=by
 unfold zBu at h ⊢;rw[zKr h2,zKc hc,zLO _ _ (zEf c _),<-zNG h1 h2]at h;exact h
theorem zBu.yes{c:UInt8}{s:ByteArray}{st p:Nat}{L:List (List UInt8)}(h:zBu c s st p L)(h2:p<s.size)(hc:s[p]=c):zBu c s (p+1) (p+1) (L ++ [sub s st p]):=by
 unfold zBu at h ⊢;rw[zKr h2,zI2 hc]at h;rw[zLB,zJH (zEf c _),List.append_assoc];rw[<-h];show L ++ (sub s st p :: spl c ((bs s).drop (p+1)))=L ++ ((sub s st p ++ []) :: spl c ((bs s).drop (p+1)));rw[List.append_nil]
theorem zBu.done{c:UInt8}{s:ByteArray}{st:Nat}{L:List (List UInt8)}(h:zBu c s st s.size L):L ++ [sub s st s.size]=spl c (bs s):=by
 unfold zBu at h;rw[List.drop_of_length_le (by rw[zCk];exact Nat.le_refl _)]at h;rw[<-h];show L ++ [sub s st s.size]=L ++ [sub s st s.size ++ []];rw[List.append_nil]
def zBj(w:World)(base:Nat)(v:Value)(L:List (List UInt8)):Prop:=w.ownsRow base 9 1 v L.length (L.map encStr)
theorem zBj.zOp{w w':World}{base:Nat}{v:Value}{L:List (List UInt8)}(h:zBj w base v L)(t:Below w.heap.size w w'):zBj w' base v L:=zD1 h t
theorem zC1{w:World}{base:Nat}{v:Value}{L:List (List UInt8)}{s:ByteArray}{st p:Nat}(h:w.ownsRow base 9 1 v (L.length+1) (L.map encStr ++ [.string (s.extract st p)])):zBj w base v (L ++ [sub s st p]):=by
 unfold zBj;rw[List.length_append,List.map_append];rw[zLA]at h;exact h
def DfR(s:ByteArray)(w0:World)(k l:Nat)(a:Act)(w:World):Prop:=l=0/\∃(v:Value) (st p:Nat) (L:List (List UInt8)),(∃j:Nat->Value,a = {tmps:=#[.string s,j 1,.slice none 0 0,v,.int .i64 (st:Int),.int .i64 (p:Int),j 6,j 7,j 8,j 9,j 10,j 11,j 12,j 13,j 14,j 15,j 16,j 17,j 18,j 19,j 20,j 21,j 22,j 23,j 24,j 25,j 26,j 27,j 28,j 29,j 30,j 31,j 32],defers:=[]})/\st<=p/\p<=s.size/\s.size<k+p/\L.length<=p/\zBj w w0.heap.size v L/\zBu 32 s st p L/\Below w0.heap.size w0 w
theorem zF5(s:ByteArray)(w:World)(hs:s.size<=100000) :
  Calls Tryz.prog 36 #[.string s] w fun e w'=>∃v,e = .returned v/\zBj w' w.heap.size v (spl 32 (bs s))/\Below w.heap.size w w':=by
 obtain⟨i0,lA,kA⟩:=Option.map_eq_some_iff.1 zEx;simp only[Prod.mk.injEq]at kA;have HI:=zG (And.intro lA kA);clear lA kA;go_enter Tryz.func36,Tryz.ntmps36;go_wp2;refine zHj (DfR s w) (s.size+1) ?_ ?_ ?_
 ·rintro l a w' ⟨-,v,st,p,L,-,-,h1,h2,-⟩;omega
 ·rintro k l a w1 ⟨rfl,v,st,p,L,⟨j,rfl⟩,h1,h2,h3,h4,h5,h6,h7⟩;refine⟨_,rfl,?_⟩;have HO:=zG h5;have HW:=zG h6;have HB:=zG h7;have h0:(0:Int)<=(p:Int):=(by omega);have rA:(st:Int)<=(p:Int):=(by omega);have oA:(0:Int)<=(st:Int):=(by omega);have pA:(p:Int)<=(s.size:Int):=(by omega);clear h5 h6 h7;have sA:=HB.out.size;have gA:=zC w1 (.cells #[.string (s.extract st p)] 9);have dA:=zG (HO.out.zOp gA);have HN:=zG (World.news_of_block (heap_alloc_last w1 (.cells #[.string (s.extract st p)] 9)));have tA:(w1.alloc (.cells #[.string (s.extract st p)] 9)).heap.size=w1.heap.size+1:=World.size_alloc _ _;have cA:=zG (zA HB.out gA);clear gA;by_cases mA:p<s.size
  ·have iA:(p:Int)<(s.size:Int):=(by omega);by_cases hc:s[p]=32
   ·have nA:((s[p].toNat:Int) != 32)=false:=(by rw[hc];rfl);have Hc:=zG hc;clear hc;go_wp2_with (first
     | (at_builtin;refine wpList_append_lies _ rfl _ _ 30 rfl w.heap.size 9 i0 (.string ⟨#[]⟩) 1 16 (by kernel_rfl) HI.out.1 HI.out.2.1 HI.out.2.2.1 HI.out.2.2.2 rfl (by decide) _ _ _ rfl dA.out ⟨w1.heap.size,0,none⟩ 1 1 [.string (s.extract st p)] rfl rfl HN.out (by simp[Value.oneCell']) (by decide) (by unfold maxLen;omega) (by omega) (by omega) _ rfl ?_;intro g' eA w4 bA aA fA jA)
     | go_in)
    go_step3;exact⟨rfl,_,p+1,p+1,L ++ [sub s st p],zIW _ rfl,Nat.le_refl _,by omega,by omega,by simp;omega,zC1 bA,HW.out.yes mA (Hc.out),cA.out.grown aA cA.out.size (fun q hq=>(dA.out.lt q hq).1)⟩
   ·have nA:((s[p].toNat:Int) != 32)=true:=(by simp only[bne_iff_ne,ne_eq];intro h;exact hc (UInt8.toNat_inj.1 (by simpa using Int.ofNat.inj h)));have Hc:=zG hc;clear hc;go_wp2_with fail;go_step3;exact⟨rfl,v,st,p+1,L,zIW _ rfl,by omega,by omega,by omega,by omega,HO.out,HW.out.no h1 mA Hc.out,HB.out⟩
  ·have iA:¬(p:Int)<(s.size:Int):=(by omega);go_wp2_with (first
    | (at_builtin;refine wpList_append_lies _ rfl _ _ 30 rfl w.heap.size 9 i0 (.string ⟨#[]⟩) 1 16 (by kernel_rfl) HI.out.1 HI.out.2.1 HI.out.2.2.1 HI.out.2.2.2 rfl (by decide) _ _ _ rfl dA.out ⟨w1.heap.size,0,none⟩ 1 1 [.string (s.extract st p)] rfl rfl HN.out (by simp[Value.oneCell']) (by decide) (by unfold maxLen;omega) (by omega) (by omega) _ rfl ?_;intro g' eA w4 bA aA fA jA)
    | go_in)
   unfold hop;go_ret;obtain rfl:p=s.size:=(by omega);have hd:=HW.out.done;refine⟨_,rfl,?_,cA.out.grown aA cA.out.size (fun q hq=>(dA.out.lt q hq).1)⟩;rw[<-hd];exact zC1 bA
 ·intro enter;go_wp2;go_step3
  rename_i K hK
  refine hK _ _ (enter 0 _ _ _ rfl ?_);exact⟨rfl,.slice none 0 0,0,0,[],zIW _ rfl,Nat.le_refl _,Nat.zero_le _,by omega,Nat.le_refl _,⟨rfl,Or.inl ⟨rfl,rfl⟩⟩,zBu.start 32 s,Below.refl _ _⟩
def zBB(w:World)(g n cap:Nat)(L:List (List UInt8)):Prop:=L.length=n/\n<=cap/\n<=100001/\g<w.heap.size/\∀j (h:j<L.length),w.cell? ⟨g,j,none⟩=some (encStr L[j])
theorem zBj.texts{w:World}{base:Nat}{v:Value}{L:List (List UInt8)}(h:zBj w base v L)(h0:0<L.length)(hm:L.length<=100001):∃g cap,v = .slice (some ⟨g,0,none⟩) L.length cap/\base<=g/\zBB w g L.length cap L:=by
 have h':=h;unfold zBj at h';rcases h'.2 with⟨_,e⟩ | ⟨g,cap,aA,rfl,hb,hg,hc,-,-,-⟩
 ·omega
 ·refine⟨g,cap,rfl,hb,rfl,hc,hm,(h'.lt g rfl).2,fun j hj=>?_⟩;rw[h'.cellAt j (by omega),List.getElem?_map,List.getElem?_eq_getElem hj];rfl
theorem zBB.zOp{w w':World}{g n cap:Nat}{L:List (List UInt8)}(h:zBB w g n cap L){B:Nat}(t:Below B w w')(hB:g<B):zBB w' g n cap L:=by
 obtain⟨h1,h2,h3,h4,h5⟩:=h;refine⟨h1,h2,h3,Nat.lt_of_lt_of_le h4 t.size,fun j hj=>?_⟩;rw[<-h5 j hj];exact t.cell (p:=⟨g,j,none⟩) hB
theorem zBB.zOr{S:Nat->Prop}{w w':World}{g n cap:Nat}{L:List (List UInt8)}(h:zBB w g n cap L)(t:zE S w w')(hs:¬S g):zBB w' g n cap L:=by
 obtain⟨h1,h2,h3,h4,h5⟩:=h;exact⟨h1,h2,h3,Nat.lt_of_lt_of_le h4 t.size,fun j hj=>(t.cell h4 hs).trans (h5 j hj)⟩
theorem zGP(c:UInt8)(l:List UInt8):0<(spl c l).length:=by
 obtain⟨w,ws,e⟩:=zEf c l;rw[e];exact Nat.succ_pos _
theorem zFE(c:UInt8)(l:List UInt8):(spl c l).length<=l.length+1:=by
 induction l with
 | nil=>exact Nat.le_refl _
 | cons x l ih=>
  by_cases h:x=c
  ·rw[zI2 h,List.length_cons,List.length_cons];omega
  ·obtain⟨w,ws,e⟩:=zEf c l;have e2:(spl c (x :: l)).length=(spl c l).length:=(by rw[zKc h,e];rfl);rw[e2,List.length_cons];omega
def Dig(c:Int):Prop:=48<=c/\c<=57
def zIS(s:ByteArray):Prop:=1<=s.size/\s.size<=9/\(1<s.size->(h:0<s.size)->¬(s[0].toNat:Int)=48)/\∀j,(h:j<s.size)->Dig (s[j].toNat:Int)
def zL9(s:ByteArray)(e:Ending):Prop:=∃(n:Int) (b:Bool),e = .returned (.tuple #[.int .i64 n,.bool b])/\0<=n/\n<1000000000/\(b=true↔zIS s)
theorem zIt{k:Nat}(h:k<9):(10:Int) ^ k<=100000000:=by
 rcases(show k=0\/k=1\/k=2\/k=3\/k=4\/k=5\/k=6\/k=7\/k=8 by omega)with rfl | rfl | rfl | rfl | rfl | rfl | rfl | rfl | rfl<;>decide
theorem zK7{k:Nat}(h:k<=9):(10:Int) ^ k<=1000000000:=by
 by_cases e:k=9
 ·subst e;decide
 ·exact Int.le_trans (zIt (by omega)) (by decide)
theorem zMz{s:ByteArray}{n:Int}{k:Nat}(cA:k<s.size)(dA:0<=n)(bA:n<10 ^ k)(aA:∀j,(h:j<k)->(h':j<s.size)->Dig (s[j].toNat:Int))(hd:Dig (s[k].toNat:Int)) :
  ∃(m:Int) (q:Nat),q<=s.size/\Value.int .i64 (10*n+((s[k].toNat:Int) - 48)) = .int .i64 m/\Value.int .i64 ((k:Int)+1) = .int .i64 (q:Int)/\0<=m/\m<10 ^ q/\∀j,(h:j<q)->(h':j<s.size)->Dig (s[j].toNat:Int):=by
 refine⟨_,k+1,by omega,rfl,by simp,?_,?_,fun j h h'=>?_⟩
 ·have:=hd.1;omega
 ·have h2:=hd.2;rw[Int.pow_succ];generalize (10:Int) ^ k=P at bA;omega
 ·by_cases e:j=k
  ·subst e;exact hd
  ·exact aA j (by omega) h'
theorem zKI(s:ByteArray)(w:World)(hs:s.size<=100000) :
  Calls Tryz.prog 18 #[.string s] w fun e w'=>zL9 s e/\w'=w:=by
 by_cases h1:s.size<1
 ·have jA:(s.size:Int)<1:=(by omega);go_enter Tryz.func18,Tryz.ntmps18;go_wp2
  go_ret2
  exact⟨⟨0,false,rfl,by omega,by omega,by simp[zIS];omega⟩,rfl⟩
 have jA:¬(s.size:Int)<1:=by omega
 by_cases h2:9<s.size
 ·have kA:(9:Int)<(s.size:Int):=(by omega);go_enter Tryz.func18,Tryz.ntmps18;go_wp2
  go_ret2
  exact⟨⟨0,false,rfl,by omega,by omega,by simp[zIS];omega⟩,rfl⟩
 have kA:¬(9:Int)<(s.size:Int):=by omega
 have h0:0<s.size:=by omega
 by_cases h3:1<s.size/\(s[0].toNat:Int)=48
 ·obtain⟨h3,h4⟩:=h3;have mA:(1:Int)<(s.size:Int):=(by omega);have nA:((s[0].toNat:Int) == 48)=true:=(by rw[h4];rfl);have H4:=zG h4;clear h4;go_enter Tryz.func18,Tryz.ntmps18;go_wp2
  go_ret2
  exact⟨⟨0,false,rfl,by omega,by omega,by simp only[Bool.false_eq_true,false_iff];intro h;exact h.2.2.1 h3 h0 H4.out⟩,rfl⟩
 have H3:=zG h3;have hz:(1:Int)<(s.size:Int)->((s[0].toNat:Int) == 48)=false:=by
  intro h;simp only[beq_eq_false_iff_ne,ne_eq];exact fun e=>h3 ⟨by omega,e⟩
 clear h3;by_cases h5:1<s.size
 case' pos=>have eA:(1:Int)<(s.size:Int):=(by omega);have h6:=hz eA
 case' neg=>have eA:¬(1:Int)<(s.size:Int):=by omega
 all_goals
  clear hz;go_enter Tryz.func18,Tryz.ntmps18;go_wp2
  go_loop [4,5] (fun vn i=>∃(n:Int) (k:Nat),k<=s.size/\vn = .int .i64 n/\i = .int .i64 k/\0<=n/\n<10 ^ k/\∀j,(h:j<k)->(h':j<s.size)->Dig (s[j].toNat:Int)) (fun _ i=>s.size - (intOf i).toNat)
  case atStart=>exact⟨0,0,Nat.zero_le _,rfl,rfl,Int.le_refl _,by decide,fun j h=>absurd h (Nat.not_lt_zero _)⟩
  case round=>
   obtain⟨n,k,hk,rfl,rfl,gA,iA,bA⟩:=hrel;have aA:=zG bA;have Hn:=zG iA;have hp:=zIt (k:=k);clear bA iA;by_cases cA:k<s.size
   ·have dA:(k:Int)<(s.size:Int):=(by omega);have oA:n<100000000:=Int.lt_of_lt_of_le Hn.out (hp (by omega));clear hp;by_cases hd:Dig (s[k].toNat:Int)
    ·obtain⟨fA,lA⟩:=id hd;have Hd:=zG hd;clear hd;go_wp2
     go_round
     case rel=>exact zMz cA gA Hn.out aA.out Hd.out
     case measure=>simp[intOf];omega
    ·have Hd:=zG hd;by_cases fA:(48:Int)<=(s[k].toNat:Int)
     ·have lA:¬(s[k].toNat:Int)<=57:=fun h=>Hd.out ⟨fA,h⟩
      clear hd;go_wp2
      go_ret2
      exact⟨⟨0,false,rfl,by omega,by omega,by simp only[Bool.false_eq_true,false_iff];intro h;exact Hd.out (h.2.2.2 k cA)⟩,rfl⟩
     ·clear hd;go_wp2
      go_ret2
      exact⟨⟨0,false,rfl,by omega,by omega,by simp only[Bool.false_eq_true,false_iff];intro h;exact Hd.out (h.2.2.2 k cA)⟩,rfl⟩
   ·have dA:¬(k:Int)<(s.size:Int):=(by omega);clear hp;go_wp2
    go_ret2
    refine⟨⟨n,true,rfl,gA,?_,?_⟩,rfl⟩
    ·exact Int.lt_of_lt_of_le Hn.out (zK7 (by omega))
    ·simp only[true_iff];exact⟨by omega,by omega,fun h hh e=>H3.out ⟨h,e⟩,fun j h=>aA.out j (by omega) h⟩
theorem zIm(s:ByteArray)(w:World)(hs:s.size<=100000) :
  Calls Tryz.prog 162 #[.string s] w fun e w'=>zL9 s e/\w'=w:=by
 by_cases h1:s.size<1
 ·have jA:(s.size:Int)<1:=(by omega);go_enter Tryz.func162,Tryz.ntmps162;go_wp2
  go_ret2
  exact⟨⟨0,false,rfl,by omega,by omega,by simp[zIS];omega⟩,rfl⟩
 have jA:¬(s.size:Int)<1:=by omega
 by_cases h2:9<s.size
 ·have kA:(9:Int)<(s.size:Int):=(by omega);go_enter Tryz.func162,Tryz.ntmps162;go_wp2
  go_ret2
  exact⟨⟨0,false,rfl,by omega,by omega,by simp[zIS];omega⟩,rfl⟩
 have kA:¬(9:Int)<(s.size:Int):=by omega
 have h0:0<s.size:=by omega
 by_cases h3:1<s.size/\(s[0].toNat:Int)=48
 ·obtain⟨h3,h4⟩:=h3;have mA:(1:Int)<(s.size:Int):=(by omega);have nA:((s[0].toNat:Int) == 48)=true:=(by rw[h4];rfl);have H4:=zG h4;clear h4;go_enter Tryz.func162,Tryz.ntmps162;go_wp2
  go_ret2
  exact⟨⟨0,false,rfl,by omega,by omega,by simp only[Bool.false_eq_true,false_iff];intro h;exact h.2.2.1 h3 h0 H4.out⟩,rfl⟩
 have H3:=zG h3;have hz:(1:Int)<(s.size:Int)->((s[0].toNat:Int) == 48)=false:=by
  intro h;simp only[beq_eq_false_iff_ne,ne_eq];exact fun e=>h3 ⟨by omega,e⟩
 clear h3;by_cases h5:1<s.size
 case' pos=>have eA:(1:Int)<(s.size:Int):=(by omega);have h6:=hz eA
 case' neg=>have eA:¬(1:Int)<(s.size:Int):=by omega
 all_goals
  clear hz;go_enter Tryz.func162,Tryz.ntmps162;go_wp2
  go_loop [4,26] (fun vn i=>∃(n:Int) (k:Nat),k<=s.size/\vn = .int .i64 n/\i = .int .i64 k/\0<=n/\n<10 ^ k/\∀j,(h:j<k)->(h':j<s.size)->Dig (s[j].toNat:Int)) (fun _ i=>s.size - (intOf i).toNat)
  case atStart=>exact⟨0,0,Nat.zero_le _,rfl,rfl,Int.le_refl _,by decide,fun j h=>absurd h (Nat.not_lt_zero _)⟩
  case round=>
   obtain⟨n,k,hk,rfl,rfl,gA,iA,bA⟩:=hrel;have aA:=zG bA;have Hn:=zG iA;have hp:=zIt (k:=k);clear bA iA;by_cases cA:k<s.size
   ·have dA:(k:Int)<(s.size:Int):=(by omega);have oA:n<100000000:=Int.lt_of_lt_of_le Hn.out (hp (by omega));clear hp;by_cases hd:Dig (s[k].toNat:Int)
    ·obtain⟨fA,lA⟩:=id hd;have Hd:=zG hd;clear hd;go_wp2
     go_round
     case rel=>rw[Int.mul_comm n 10];exact zMz cA gA Hn.out aA.out Hd.out
     case measure=>simp[intOf];omega
    ·have Hd:=zG hd;by_cases fA:(48:Int)<=(s[k].toNat:Int)
     ·have lA:¬(s[k].toNat:Int)<=57:=fun h=>Hd.out ⟨fA,h⟩
      clear hd;go_wp2
      go_ret2
      exact⟨⟨0,false,rfl,by omega,by omega,by simp only[Bool.false_eq_true,false_iff];intro h;exact Hd.out (h.2.2.2 k cA)⟩,rfl⟩
     ·clear hd;go_wp2
      go_ret2
      exact⟨⟨0,false,rfl,by omega,by omega,by simp only[Bool.false_eq_true,false_iff];intro h;exact Hd.out (h.2.2.2 k cA)⟩,rfl⟩
   ·have dA:¬(k:Int)<(s.size:Int):=(by omega);clear hp;go_wp2
    go_ret2
    refine⟨⟨n,true,rfl,gA,?_,?_⟩,rfl⟩
    ·exact Int.lt_of_lt_of_le Hn.out (zK7 (by omega))
    ·simp only[true_iff];exact⟨by omega,by omega,fun h hh e=>H3.out ⟨h,e⟩,fun j h=>aA.out j (by omega) h⟩
def zEP(pl wd:ByteArray):Prop:=
 if pl.toList = [78,65,77,69] then ¬wd.toList = [] else
 if pl.toList = [87,79,82,68] then ¬wd.toList = [] else
 if pl.toList = [78] then zIS wd else wd.toList=pl.toList
def zOB(pl wd:ByteArray)(g:Nat)(w:World)(e:Ending)(w':World):Prop:=zK (zEP pl wd) e/\(∃(a:ByteArray) (n:Int) (b:ByteArray),qP w' g (.string a) (.int .i64 n) (.string b))/\zE (fun k=>k=g) w w'
theorem zOZ(s:ByteArray):((!s.toList.isEmpty)=true)↔¬s.toList = []:=by rw[Bool.not_eq_true',<-Bool.not_eq_true,List.isEmpty_iff]
theorem zNr(pl wd:ByteArray)(g:Nat)(a0 b0:ByteArray)(n0:Int)(w:World)(h:qP w g (.string a0) (.int .i64 n0) (.string b0))(hs:wd.size<=100000) :
  Calls Tryz.prog 99 #[.pointer (some ⟨g,0,none⟩),.string pl,.string wd] w fun e w'=>zOB pl wd g w e w':=by
 have HX:=zG h;obtain⟨⟨x0,y0⟩,⟨x1,y1⟩,⟨x2,y2⟩⟩:=h;have Hn:=zG (zOZ wd);by_cases h0:pl.toList = [78,65,77,69]
 ·have e0:(pl.toList == [78,65,77,69])=true:=(by rw[h0];rfl);have H:=zG h0;clear h0;go_enter Tryz.func99,Tryz.ntmps99;go_wp2;go_ret;exact⟨⟨_,rfl,by rw[Hn.out];unfold zEP;rw[if_pos H.out]⟩,⟨_,_,_,HX.out.1.set _,HX.out.2.1.zOq _ (Or.inr (by omega)),HX.out.2.2.zOq _ (Or.inr (by omega))⟩,zE.put w g 0 _⟩
 have e0:(pl.toList == [78,65,77,69])=false:=by rw[beq_eq_false_iff_ne];exact h0
 have G0:=zG h0;clear h0;by_cases h1:pl.toList = [87,79,82,68]
 ·have e1:(pl.toList == [87,79,82,68])=true:=(by rw[h1];rfl);have H:=zG h1;clear h1;go_enter Tryz.func99,Tryz.ntmps99;go_wp2;go_ret;exact⟨⟨_,rfl,by rw[Hn.out];unfold zEP;rw[if_neg G0.out];rw[if_pos H.out]⟩,⟨_,_,_,HX.out.1.zOq _ (Or.inr (by omega)),HX.out.2.1.zOq _ (Or.inr (by omega)),HX.out.2.2.set _⟩,zE.put w g 2 _⟩
 have e1:(pl.toList == [87,79,82,68])=false:=by rw[beq_eq_false_iff_ne];exact h1
 have G1:=zG h1;clear h1;by_cases h2:pl.toList = [78]
 ·have e2:(pl.toList == [78])=true:=(by rw[h2];rfl);have H:=zG h2;clear h2;go_enter Tryz.func99,Tryz.ntmps99;go_wp2_with fail;refine(zIm wd w hs).mono ?_;rintro e w' ⟨⟨n,t,rfl,-,-,hn⟩,rfl⟩;have Hm:=zG hn;clear hn;go_wp2;go_ret;exact⟨⟨t,rfl,by rw[Hm.out];unfold zEP;rw[if_neg G0.out,if_neg G1.out,if_pos H.out]⟩,⟨_,_,_,HX.out.1.zOq _ (Or.inr (by omega)),HX.out.2.1.set _,HX.out.2.2.zOq _ (Or.inr (by omega))⟩,zE.put w' g 1 _⟩
 have e2:(pl.toList == [78])=false:=by rw[beq_eq_false_iff_ne];exact h2
 have G2:=zG h2;clear h2;go_enter Tryz.func99,Tryz.ntmps99;go_wp2;go_ret;exact⟨⟨_,rfl,by rw[beq_iff_eq];unfold zEP;rw[if_neg G0.out,if_neg G1.out,if_neg G2.out]⟩,⟨_,_,_,HX.out⟩,zE.refl _ _⟩
def zBq(P L:List (List UInt8)):Prop:=P.length=L.length/\∀j (h:j<P.length) (h':j<L.length),zEP ⟨P[j].toArray⟩ ⟨L[j].toArray⟩
def zNN(P L:List (List UInt8))(e:Ending):Prop:=∃(a c:ByteArray) (n:Int) (b:Bool),e = .returned (.tuple #[.agg #[.string a,.int .i64 n,.string c],.bool b])/\(b=true↔zBq P L)
theorem zJ8(ln:ByteArray)(F:Nat)(g n cap:Nat)(L:List (List UInt8))(w:World)(h:zBB w g n cap L)(hl:ln.size<=100000)(hw:∀x∈L,x.length<=100000) :
  Calls Tryz.prog 38 #[.agg #[.string ln,.func (.func F) #[] #[]],.slice (some ⟨g,0,none⟩) n cap] w fun e w'=>zNN (spl 32 (bs ln)) L e/\Below w.heap.size w w':=by
 have HT:=zG h;have HW:=zG hw;obtain⟨hL,hc,hm,hg,-⟩:=id h;clear h hw;have hA:=zC w (.cells #[.string ln,.func (.func F) #[] #[]] 56);have iA:(w.alloc (.cells #[.string ln,.func (.func F) #[] #[]] 56)).heap.size=w.heap.size+1:=World.size_alloc _ _;go_enter Tryz.func38,Tryz.ntmps38;go_wp2_with fail;generalize w.alloc (.cells #[.string ln,.func (.func F) #[] #[]] 56)=W1 at hA iA ⊢;have nA:=qP.zOt W1 (.string ⟨#[]⟩) (.int .i64 0) (.string ⟨#[]⟩) 58;have pA:(W1.alloc (.cells #[.string ⟨#[]⟩,.int .i64 0,.string ⟨#[]⟩] 58)).heap.size=W1.heap.size+1:=World.size_alloc _ _;have lA:=zA hA (zC W1 (.cells #[.string ⟨#[]⟩,.int .i64 0,.string ⟨#[]⟩] 58));generalize W1.alloc (.cells #[.string ⟨#[]⟩,.int .i64 0,.string ⟨#[]⟩] 58)=W2 at nA pA lA ⊢;have eA:=qP.zOt W2 (.string ⟨#[]⟩) (.int .i64 0) (.string ⟨#[]⟩) 58;have aB:(W2.alloc (.cells #[.string ⟨#[]⟩,.int .i64 0,.string ⟨#[]⟩] 58)).heap.size=W2.heap.size+1:=World.size_alloc _ _;have fA:=nA.zOp (zC W2 (.cells #[.string ⟨#[]⟩,.int .i64 0,.string ⟨#[]⟩] 58));have mA:=zA lA (zC W2 (.cells #[.string ⟨#[]⟩,.int .i64 0,.string ⟨#[]⟩] 58));generalize W2.alloc (.cells #[.string ⟨#[]⟩,.int .i64 0,.string ⟨#[]⟩] 58)=W3 at eA fA aB mA ⊢;rw[pA,iA]at eA;rw[iA]at fA;clear nA hA lA;refine(zF5 ln W3 hl).mono ?_;rintro e w4 ⟨v,rfl,dA,gA⟩;obtain⟨g',kA,rfl,dB,tA⟩:=dA.texts (zGP _ _) (Nat.le_trans (zFE _ _) (by rw[zCk];omega));have HB:=zG (zA mA gA);have sA:=zG (HT.out.zOp HB.out hg);have H1:=zG (fA.zOp gA);have H2:=zG (eA.zOp gA);have HP:=zG tA;clear eA fA dA gA mA tA;generalize kB:(spl 32 (bs ln)).length=m at HP ⊢;by_cases cA:n=m;rotate_left
 ·have e1:((n:Int) != (m:Int))=true:=(by simp only[bne_iff_ne,ne_eq];omega);obtain⟨⟨x0,y0⟩,⟨x1,y1⟩,⟨x2,y2⟩⟩:=H1.out;obtain⟨⟨p0,q0⟩,⟨p1,q1⟩,⟨p2,q2⟩⟩:=H2.out;go_wp2;refine bodyPost_ret (v:=.tuple #[.agg #[.string ⟨#[]⟩,.int .i64 0,.string ⟨#[]⟩],.bool false]) (by simp[results,Tryz.results38,go_sem, *]) rfl ?_;exact⟨⟨_,_,_,false,rfl,by simp only[Bool.false_eq_true,false_iff];intro h;exact cA (by have:=h.1;omega)⟩,((HB.out.setCell (Nat.le_succ _) _).setCell (Nat.le_succ _) _).setCell (Nat.le_succ _) _⟩
 ·subst cA;have fB:g'≠w.heap.size+1+1:=(by omega);have eB:g≠w.heap.size+1+1:=(by omega);have iB:=HP.out.2.1;clear iA pA aB dB;go_wp2
  go_loopw [21] (fun i wr=>∃(k:Nat) (a b:ByteArray) (x:Int),k<=n/\i = .int .i64 k/\qP wr (w.heap.size+1) (.string ⟨#[]⟩) (.int .i64 0) (.string ⟨#[]⟩)/\qP wr (w.heap.size+1+1) (.string a) (.int .i64 x) (.string b)/\(∀j,j<k->∀(h:j<(spl 32 (bs ln)).length) (h':j<L.length),zEP ⟨(spl 32 (bs ln))[j].toArray⟩ ⟨L[j].toArray⟩)/\Below w.heap.size w wr/\zBB wr g' n kA (spl 32 (bs ln))/\zBB wr g n cap L) (fun i _=>n - (intOf i).toNat)
  case atStart=>exact⟨0,_,_,_,Nat.zero_le _,rfl,H1.out,H2.out,fun j hj=>absurd hj (Nat.not_lt_zero _),HB.out,HP.out,sA.out⟩
  case round=>
   clear HB HP sA H1 H2;obtain⟨k,a,b,x,hk,rfl,r1,r2,r3,r4,r5,r6⟩:=hrel;have H1:=zG r1;have H2:=zG r2;have bA:=zG r3;have HB:=zG r4;have HP:=zG r5;have jA:=zG r6;clear r1 r2 r3 r4 r5 r6;by_cases jB:k<n
   ·have gB:(k:Int)<(n:Int):=(by omega);have h0:(0:Int)<=(k:Int):=(by omega);have vA:k<(spl 32 (bs ln)).length:=(by omega);have oA:k<L.length:=(by omega);have t1:wr.cell? ⟨g',k,none⟩=some (.string ⟨(spl 32 (bs ln))[k].toArray⟩):=HP.out.2.2.2.2 k vA;have t2:wr.cell? ⟨g,k,none⟩=some (.string ⟨L[k].toArray⟩):=jA.out.2.2.2.2 k oA;go_wp2_with fail;refine(zNr ⟨(spl 32 (bs ln))[k].toArray⟩ ⟨L[k].toArray⟩ (w.heap.size+1+1) a b x wr H2.out (HW.out _ (List.getElem_mem oA))).mono ?_;rintro e w5 ⟨⟨t,rfl,ht⟩,⟨a',x',b',hX⟩,aA⟩;have Ht:=zG ht;have H3:=zG hX;have H4:=zG (H1.out.zOr aA (by omega));have rA:=zG (HB.out.trans (aA.zOp HB.out.size (fun q hq=>by omega)));have bB:=zG (HP.out.zOr aA fB);have cB:=zG (jA.out.zOr aA eB);clear ht hX aA t1 t2 H1 H2 HB HP jA;cases t
    ·obtain⟨⟨x0,y0⟩,⟨x1,y1⟩,⟨x2,y2⟩⟩:=H4.out;obtain⟨⟨p0,q0⟩,⟨p1,q1⟩,⟨p2,q2⟩⟩:=H3.out;go_wp2;refine bodyPost_ret (v:=.tuple #[.agg #[.string a',.int .i64 x',.string b'],.bool false]) (by simp[results,Tryz.results38,go_sem, *]) rfl ?_;exact⟨⟨_,_,_,false,rfl,by simp only[Bool.false_eq_true,false_iff];intro h;exact absurd (Ht.out.2 (h.2 k vA oA)) (by simp)⟩,((rA.out.setCell (Nat.le_succ _) _).setCell (Nat.le_succ _) _).setCell (Nat.le_succ _) _⟩
    ·go_wp2;go_roundw
     case rel=>
      refine⟨k+1,a',b',x',by omega,by go_num,H4.out,H3.out,fun j hj h h'=>?_,rA.out,bB.out,cB.out⟩;by_cases e:j=k
      ·subst e;exact Ht.out.1 (by simp)
      ·exact bA.out j (by omega) h h'
     case measure=>simp[intOf];omega
   ·obtain rfl:k=n:=(by omega);obtain⟨⟨x0,y0⟩,⟨x1,y1⟩,⟨x2,y2⟩⟩:=H1.out;obtain⟨⟨p0,q0⟩,⟨p1,q1⟩,⟨p2,q2⟩⟩:=H2.out;go_wp2;refine bodyPost_ret (v:=.tuple #[.agg #[.string a,.int .i64 x,.string b],.bool true]) (by simp[results,Tryz.results38,go_sem, *]) rfl ?_;exact⟨⟨_,_,_,true,rfl,by simp only[true_iff];exact⟨by omega,fun j h h'=>bA.out j (by omega) h h'⟩⟩,((HB.out.setCell (Nat.le_succ _) _).setCell (Nat.le_succ _) _).setCell (Nat.le_succ _) _⟩
theorem zGO(c:UInt8)(l:List UInt8):∀x∈spl c l,x.length<=l.length:=by
 induction l with
 | nil=>
  intro x hx;rw[show spl c [] = [[]] from rfl,List.mem_singleton]at hx;rw[hx];exact Nat.le_refl _
 | cons y l ih=>
  intro x hx;by_cases h:y=c
  ·rw[zI2 h]at hx;rcases List.mem_cons.1 hx with e | hx
   ·rw[e];exact Nat.zero_le _
   ·exact Nat.le_succ_of_le (ih x hx)
  ·obtain⟨a,us,e⟩:=zEf c l;rw[zKc h,e]at hx;rcases List.mem_cons.1 (show x∈([y] ++ a) :: us from hx)with e' | hx
   ·rw[e'];have:=ih a (by rw[e];exact List.mem_cons_self ..);show(y :: a).length<=(y :: l).length;rw[List.length_cons,List.length_cons];omega
   ·exact Nat.le_succ_of_le (ih x (by rw[e];exact List.mem_cons_of_mem _ hx))
def zI5(w:World)(b:Nat)(v0 v1 v2 v3 v4:Value):Prop:=zT w b 0 v0/\zT w b 1 v1/\zT w b 2 v2/\zT w b 3 v3/\zT w b 4 v4
theorem zI5.zOp{w w':World}{b:Nat}{v0 v1 v2 v3 v4:Value}(h:zI5 w b v0 v1 v2 v3 v4)(t:Below w.heap.size w w'):zI5 w' b v0 v1 v2 v3 v4:=⟨h.1.zOp t,h.2.1.zOp t,h.2.2.1.zOp t,h.2.2.2.1.zOp t,h.2.2.2.2.zOp t⟩
theorem zI5.zOt(w:World)(v0 v1 v2 v3 v4:Value)(t:TypeId):zI5 (w.alloc (.cells #[v0,v1,v2,v3,v4] t)) w.heap.size v0 v1 v2 v3 v4:=
 ⟨⟨by rw[World.cell?_alloc_at (hn:=rfl)];rfl,by rw[World.frozen?_alloc_at (hn:=rfl)]⟩,⟨by rw[World.cell?_alloc_at (hn:=rfl)];rfl,by rw[World.frozen?_alloc_at (hn:=rfl)]⟩,⟨by rw[World.cell?_alloc_at (hn:=rfl)];rfl,by rw[World.frozen?_alloc_at (hn:=rfl)]⟩,⟨by rw[World.cell?_alloc_at (hn:=rfl)];rfl,by rw[World.frozen?_alloc_at (hn:=rfl)]⟩,⟨by rw[World.cell?_alloc_at (hn:=rfl)];rfl,by rw[World.frozen?_alloc_at (hn:=rfl)]⟩⟩
def zEm(w:World)(g:Nat):Prop:=g<w.heap.size/\∀i,i<13->w.cell? ⟨g,i*2,none⟩=some (.string (yH i))/\w.cell? ⟨g,i*2+1,none⟩=some (.func (.func (zEE i)) #[] #[])
theorem zEm.zOp{w w':World}{g:Nat}(h:zEm w g)(t:Below w.heap.size w w'):zEm w' g:=
 ⟨Nat.lt_of_lt_of_le h.1 t.size,fun i hi=>⟨(t.cell (p:=⟨g,i*2,none⟩) h.1).trans (h.2 i hi).1,(t.cell (p:=⟨g,i*2+1,none⟩) h.1).trans (h.2 i hi).2⟩⟩
theorem zKK(i:Nat)(h:i<13):(yH i).size<=100000:=by
 rcases(by omega:i=0\/i=1\/i=2\/i=3\/i=4\/i=5\/i=6\/i=7\/i=8\/i=9\/i=10\/i=11\/i=12)with rfl | rfl | rfl | rfl | rfl | rfl | rfl | rfl | rfl | rfl | rfl | rfl | rfl<;>decide
def zFI(s:ByteArray):Prop:=∃i,i<13/\zBq (spl 32 (bs (yH i))) (spl 32 (bs s))
def zN8(s:ByteArray)(e:Ending):Prop:=∃(l a c:ByteArray) (n:Int) (fv:Value) (b:Bool),e = .returned (.tuple #[.agg #[.string l,fv,.string a,.int .i64 n,.string c],.bool b])/\fv.oneCell'=true/\(b=true↔zFI s)
theorem zJX(s:ByteArray)(w:World)(hs:s.size<=100000):Calls Tryz.prog 14 #[.string s] w fun e w'=>zN8 s e/\Below w.heap.size w w':=by
 have hA:=zC w (.cells #[.string ⟨#[]⟩,.nilFunc,.string ⟨#[]⟩,.int .i64 0,.string ⟨#[]⟩] 60);have hR:=zI5.zOt w (.string ⟨#[]⟩) .nilFunc (.string ⟨#[]⟩) (.int .i64 0) (.string ⟨#[]⟩) 60;have lB:(w.alloc (.cells #[.string ⟨#[]⟩,.nilFunc,.string ⟨#[]⟩,.int .i64 0,.string ⟨#[]⟩] 60)).heap.size=w.heap.size+1:=World.size_alloc _ _;go_enter Tryz.func14,Tryz.ntmps14;go_wp2_with fail;generalize w.alloc (.cells #[.string ⟨#[]⟩,.nilFunc,.string ⟨#[]⟩,.int .i64 0,.string ⟨#[]⟩] 60)=W1 at hA hR lB ⊢;refine(zF5 s W1 hs).mono ?_;rintro e w4 ⟨v,rfl,dA,kA⟩;obtain⟨g,cap,rfl,hg,hT⟩:=dA.texts (zGP _ _) (Nat.le_trans (zFE _ _) (by rw[zCk];omega));have dB:=zA hA kA;have eB:=hR.zOp kA;clear hA hR kA dA;generalize hm:(spl 32 (bs s)).length=m at hT ⊢;go_wp2_with fail;refine(zLM w4).mono ?_;rintro e w5 ⟨g2,rfl,hc,fA⟩;have HB:=zG (zA dB fA);have HR:=zG (eB.zOp fA);have HT:=zG (hT.zOp fA hT.2.2.2.1);have HF:=zG (show zEm w5 g2 from⟨zD (hc 0 (by decide)).1,hc⟩);clear dB eB hT hc fA;go_wp2
 go_loopw [13] (fun i wr=>∃k:Nat,k<=13/\i = .int .i64 k/\zI5 wr w.heap.size (.string ⟨#[]⟩) .nilFunc (.string ⟨#[]⟩) (.int .i64 0) (.string ⟨#[]⟩)/\Below w.heap.size w wr/\zBB wr g m cap (spl 32 (bs s))/\zEm wr g2/\∀j,j<k->¬zBq (spl 32 (bs (yH j))) (spl 32 (bs s))) (fun i _=>13 - (intOf i).toNat)
 case atStart=>exact⟨0,Nat.zero_le _,rfl,HR.out,HB.out,HT.out,HF.out,fun j hj=>absurd hj (Nat.not_lt_zero _)⟩
 case round=>
  clear HR HB HT HF;obtain⟨k,hk,rfl,r1,r2,r3,r4,r5⟩:=hrel;have HR:=zG r1;have HB:=zG r2;have HT:=zG r3;have HF:=zG r4;have bA:=zG r5;clear r1 r2 r3 r4 r5;by_cases mA:k<13
  ·have jB:(k:Int)<13:=(by omega);have h0:(0:Int)<=(k:Int):=(by omega);obtain⟨c1,c2⟩:=HF.out.2 k mA;have kB:=fun (ww:World) (a:Addr)=>run_store Tryz.prog ww a (.func (.func (zEE k)) #[] #[]) .plain rfl
   have ha:=zC wr (.cells #[.string (yH k),.func (.func (zEE k)) #[] #[]] 56);have gB:(wr.alloc (.cells #[.string (yH k),.func (.func (zEE k)) #[] #[]] 56)).heap.size=wr.heap.size+1:=World.size_alloc _ _;have hX:=zk.zOt wr (.string (yH k)) (.func (.func (zEE k)) #[] #[]) 56;have fB:=zKK k mA;obtain⟨ln,lA⟩:∃ln,ln=yH k:=⟨_,rfl⟩;rw[<-lA]at c1 hX ha fB gB;have iB:=zG lA;clear lA;have HX:=zG hX;obtain⟨⟨y0,-⟩,⟨y1,-⟩⟩:=hX;go_wp2_with fail;clear y0 y1 c1 c2;generalize wr.alloc (.cells #[.string ln,.func (.func (zEE k)) #[] #[]] 56)=w2 at ha HX gB ⊢;have nA:=zG (zA HB.out ha);have tA:=zG (HR.out.zOp ha);have eA:=zG (HT.out.zOp ha HT.out.2.2.2.1);have pA:=zG (HF.out.zOp ha);clear HB HR HT HF ha;refine(zJ8 ln (zEE k) g m cap (spl 32 (bs s)) w2 eA.out fB (fun x hx=>Nat.le_trans (zGO 32 (bs s) x hx) (by rw[zCk];exact hs))).mono ?_;rintro e w3 ⟨⟨u0,u2,u1,t,rfl,ht⟩,aA⟩;rw[iB.out]at ht;have Ht:=zG ht;have oA:=zG (zA nA.out aA);have vA:=zG (tA.out.zOp aA);have jA:=zG (eA.out.zOp aA eA.out.2.2.2.1);have rA:=zG (pA.out.zOp aA);have bB:=zG (HX.out.zOp aA);clear ht aA nA tA eA pA HX;have cA:=zC w3 (.cells #[.string u0,.int .i64 u1,.string u2] 58);have hY:=qP.zOt w3 (.string u0) (.int .i64 u1) (.string u2) 58;have HY:=zG hY;have gA:=zG (zA oA.out cA);have iA:=zG (vA.out.zOp cA);have aB:=zG (jA.out.zOp cA jA.out.2.2.2.1);have sA:=zG (rA.out.zOp cA);have cB:=zG (bB.out.zOp cA);clear oA vA jA rA bB;obtain⟨⟨z0,mB⟩,⟨z1,nB⟩,⟨z2,oB⟩⟩:=hY;cases t
   ·go_wp2;generalize w3.alloc (.cells #[.string u0,.int .i64 u1,.string u2] 58)=w4 at gA iA aB sA cB HY ⊢;go_roundw
    case rel=>
     refine⟨k+1,by omega,by go_num,iA.out,gA.out,aB.out,sA.out,fun j hj=>?_⟩;by_cases e:j=k
     ·subst e;intro h;exact absurd (Ht.out.2 h) (by simp)
     ·exact bA.out j (by omega)
    case measure=>simp[intOf];omega
   ·obtain⟨⟨x0,y0⟩,⟨x1,y1⟩,⟨x2,y2⟩,⟨x3,y3⟩,⟨x4,y4⟩⟩:=iA.out;obtain⟨⟨p0,q0⟩,⟨p1,q1⟩⟩:=cB.out;go_wp2;refine bodyPost_ret (v:=.tuple #[.agg #[.string ln,.func (.func (zEE k)) #[] #[],.string u0,.int .i64 u1,.string u2],.bool true]) (by simp[results,Tryz.results14,go_sem, *]) rfl ?_;exact⟨⟨_,_,_,_,_,true,rfl,rfl,by simp only[true_iff];exact⟨k,mA,Ht.out.1 (by simp)⟩⟩,(((((gA.out.setCell (Nat.le_refl _) _).setCell (Nat.le_refl _) _).setCell (Nat.le_refl _) _).setCell (Nat.le_refl _) _).setCell (Nat.le_refl _) _)⟩
  ·obtain rfl:k=13:=(by omega);obtain⟨⟨x0,y0⟩,⟨x1,y1⟩,⟨x2,y2⟩,⟨x3,y3⟩,⟨x4,y4⟩⟩:=HR.out;have kB:=fun (ww:World) (a:Addr)=>run_store Tryz.prog ww a .nilFunc .plain rfl
   go_wp2;refine bodyPost_ret (v:=.tuple #[.agg #[.string ⟨#[]⟩,.nilFunc,.string ⟨#[]⟩,.int .i64 0,.string ⟨#[]⟩],.bool false]) (by simp[results,Tryz.results14,go_sem, *]) rfl ?_;exact⟨⟨_,_,_,_,_,false,rfl,rfl,by simp only[Bool.false_eq_true,false_iff];rintro⟨i,hi,h⟩;exact bA.out i hi h⟩,(((((HB.out.setCell (Nat.le_refl _) _).setCell (Nat.le_refl _) _).setCell (Nat.le_refl _) _).setCell (Nat.le_refl _) _).setCell (Nat.le_refl _) _)⟩
end Go.Proofs.YtgabgheflgjgiaaGreatDoor
