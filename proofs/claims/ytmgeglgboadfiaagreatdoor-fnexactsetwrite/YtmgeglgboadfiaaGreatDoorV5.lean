/- A part of the proof. -/
import Derived.Test.YtmgeglgboadfiaaGreatDoorV4
import Derived.WideKeyEntry
import Derived.Deep.LoopGhost
import Derived.Shelf.Abstract
set_option linter.unusedVariables false
set_option maxRecDepth 20000
set_option maxHeartbeats 4000000
namespace Go.Proofs.YtmgeglgboadfiaaGreatDoor
open Go.RowKit Go.Maps
theorem zLd{l m:List (Int×Int)}{k:Nat}(hk:k<l.length)(h:(zf l k,zh l k)∈m):qO (l.take (k+1)) m=qO (l.take k) m ++ [(zf l k,zh l k)]:=by
 unfold zf zh at h ⊢;rw[yC hk]at h ⊢;unfold qO;rw[List.take_succ_eq_append_getElem hk,List.filter_append,List.filter_cons];simp only[List.filter_nil];rw[if_pos (by simp;exact h)]
theorem zNY{l m:List (Int×Int)}{k:Nat}(hk:k<l.length)(h:(zf l k,zh l k)∉m):qO (l.take (k+1)) m=qO (l.take k) m:=by
 unfold zf zh at h;rw[yC hk]at h;unfold qO;rw[List.take_succ_eq_append_getElem hk,List.filter_append,List.filter_cons];simp only[List.filter_nil];rw[if_neg (by simp;exact h),List.append_nil]
theorem zLu(l m:List (Int×Int))(k:Nat):(qO (l.take k) m).length<=k/\(zAQ (l.take k) m).length<=k:=by
 refine⟨?_,zL0 l m k⟩;unfold qO;exact Nat.le_trans (List.length_filter_le _ _) (by rw[List.length_take];omega)
theorem zDN(v v2:Value)(lo hi eB aB T:Nat)(l m:List (Int×Int))(w:World)(h1:zU w lo hi v l.length (zf l) (zh l))(hn:l.length<=200)(h2:zU w eB aB v2 m.length (zf m) (zh m))(hT:w.cell? ⟨T,0,none⟩=some v2) :
  Calls Tryz.prog 188 #[v,.func (.func 231) #[] #[.pointer (some ⟨T,0,none⟩)]] w fun e w'=>∃vy vo,e = .returned (.tuple #[vy,vo])/\zDK (qO l m) (zAQ l m) w w' vy vo:=by
 have Hp:=zX h1;have HT:=zX hT;have iB:=zX h2;obtain⟨m1,a,c,rfl,mc,_⟩:=id h1;clear h1 hT h2;unfold maxLen at m1;obtain⟨i0,dB,oA⟩:=Option.map_eq_some_iff.1 zA3;simp only[Prod.mk.injEq]at oA;have HI:=zX (And.intro dB oA);clear dB oA;go_enter Tryz.func188,Tryz.ntmps188;go_wp2
 go_loopw [6,7,12] (fun vy vo i wr=>∃k:Nat,k<=l.length/\i = .int .i64 k/\zDK (qO (l.take k) m) (zAQ (l.take k) m) w wr vy vo) (fun _ _ i _=>l.length - (intOf i).toNat)
 case atStart=>exact⟨0,Nat.zero_le _,rfl,zw.nil _ _,zw.nil _ _,fun q hq=>by simp[Value.ownBlock]at hq,Below.refl _ _⟩
 case round=>
  obtain⟨k,hk,rfl,hy,ho,bB,hb⟩:=hrel;have Hy:=zX hy;have Ho:=zX ho;have nA:=zX bB;have mB:=zLu l m k;clear hy ho bB;by_cases eA:k<l.length
  ·have kB:(k:Int)<(l.length:Int):=(by omega);obtain⟨b,off,rfl,q0,q1⟩:=(Hp.out.zRX hb).zRb eA;have jA:=zC wr (.cells #[.int .i64 (zf l k),.int .i64 (zh l k)] 61);have HV:=zX (zc.zRZ wr (.int .i64 (zf l k)) (.int .i64 (zh l k)) 61);have iA:=zA hb jA;have tA:=zX ((iA.cell (p:=⟨T,0,none⟩) (zD HT.out)).trans HT.out);have vA:=zX (iB.out.zRX iA);have nB:∀(fn:Fn) (first fB:Array Value) (w:World),(Instr.makeFunc fn first fB).run Tryz.prog w = .ok (.func fn first fB) w:=fun _ _ _ _=>rfl
   go_wp2_with fail;refine(zLG v2 m.length eB aB (zf m) (zh m) (zf l k) (zh l k) T _ vA.out tA.out).mono ?_;rintro e w1 ⟨⟨s,rfl,hs⟩,dA⟩;have gB:=zX ((Hy.out.zRX jA).zRX dA);have jB:=zX ((Ho.out.zRX jA).zRX dA);have lB:=zX (HV.out.zRX dA);have cB:=zA iA dA;clear dA iA jA Hy Ho HV q0 q1 tA vA;have pB:=cB.size;obtain⟨⟨x0,x1⟩,⟨x2,x3⟩⟩:=lB.out;have fA:=zC w1 (.cells #[.int .i64 (zf l k),.int .i64 (zh l k)] 61);have lA:=zX (gB.out.zRX fA);have pA:=zX (jB.out.zRX fA);have gA:=zA cB fA;have oB:(w1.alloc (.cells #[.int .i64 (zf l k),.int .i64 (zh l k)] 61)).heap.size=w1.heap.size+1:=World.size_alloc _ _;have HN:=zX (World.news_of_block (heap_alloc_last w1 (.cells #[.int .i64 (zf l k),.int .i64 (zh l k)] 61)));clear fA;by_cases hq:(zf l k,zh l k)∈m
   ·obtain rfl:s=true:=hs.2 (zBd.2 hq);have ey:=zX (zLd eA hq);have eo:=zX (zKz eA hq);clear hs hq;go_wp2_with (first
     | (at_builtin;refine wpList_append_lies _ rfl _ _ 62 rfl w.heap.size 61 i0 (.agg #[.int .i64 0,.int .i64 0]) 2 16 (by kernel_rfl) HI.out.1 HI.out.2.1 HI.out.2.2.1 HI.out.2.2.2 rfl (by decide) _ _ _ rfl lA.out ⟨w1.heap.size,0,none⟩ 1 1 [.int .i64 (zf l k),.int .i64 (zh l k)] rfl rfl HN.out (by simp[Value.oneCell']) (by decide) (by unfold maxLen;omega) (by omega) (by omega) _ rfl ?_;intro g' kA w4 bA aA cA sA)
     | go_in)
    go_roundw
    case rel=>
     obtain⟨r1,r2,r3⟩:=zB8 pA.out nA.out bA aA cA;exact⟨k+1,by omega,by go_num,by rw[ey.out];exact r1,by rw[eo.out];exact r2,r3,gA.grown aA gA.size (fun q hq=>(lA.out.lt hq).1)⟩
    case measure=>simp[intOf];omega
   ·obtain rfl:s=false:=zQ hs (fun h=>hq (zBd.1 h));have ey:=zX (zNY eA hq);have eo:=zX (zH8 eA hq);clear hs hq;go_wp2_with (first
     | (at_builtin;refine wpList_append_lies _ rfl _ _ 62 rfl w.heap.size 61 i0 (.agg #[.int .i64 0,.int .i64 0]) 2 16 (by kernel_rfl) HI.out.1 HI.out.2.1 HI.out.2.2.1 HI.out.2.2.2 rfl (by decide) _ _ _ rfl pA.out ⟨w1.heap.size,0,none⟩ 1 1 [.int .i64 (zf l k),.int .i64 (zh l k)] rfl rfl HN.out (by simp[Value.oneCell']) (by decide) (by unfold maxLen;omega) (by omega) (by omega) _ rfl ?_;intro g' kA w4 bA aA cA sA)
     | go_in)
    go_roundw
    case rel=>
     obtain⟨r1,r2,r3⟩:=zB8 lA.out (fun q h h'=>nA.out q h' h) bA aA cA;exact⟨k+1,by omega,by go_num,by rw[ey.out];exact r2,by rw[eo.out];exact r1,fun q h h'=>r3 q h' h,gA.grown aA gA.size (fun q hq=>(pA.out.lt hq).1)⟩
    case measure=>simp[intOf];omega
  ·obtain rfl:k=l.length:=(by omega);have mA:=Hy.out;have rA:=Ho.out;rw[List.take_length]at mA rA;have HY:=zX mA;have HO:=zX rA;clear mA rA Hy Ho;go_wp2
   go_ret2
   exact⟨_,_,rfl,HY.out,HO.out,nA.out,hb⟩
theorem zDq(v v2:Value)(lo hi eB aB T:Nat)(l m:List (Int×Int))(w:World)(h1:zU w lo hi v l.length (zf l) (zh l))(hn:l.length<=200)(h2:zU w eB aB v2 m.length (zf m) (zh m))(hT:w.cell? ⟨T,0,none⟩=some v2) :
  Calls Tryz.prog 188 #[v,.func (.func 232) #[] #[.pointer (some ⟨T,0,none⟩)]] w fun e w'=>∃vy vo,e = .returned (.tuple #[vy,vo])/\zDK (qO l m) (zAQ l m) w w' vy vo:=by
 have Hp:=zX h1;have HT:=zX hT;have iB:=zX h2;obtain⟨m1,a,c,rfl,mc,_⟩:=id h1;clear h1 hT h2;unfold maxLen at m1;obtain⟨i0,dB,oA⟩:=Option.map_eq_some_iff.1 zA3;simp only[Prod.mk.injEq]at oA;have HI:=zX (And.intro dB oA);clear dB oA;go_enter Tryz.func188,Tryz.ntmps188;go_wp2
 go_loopw [6,7,12] (fun vy vo i wr=>∃k:Nat,k<=l.length/\i = .int .i64 k/\zDK (qO (l.take k) m) (zAQ (l.take k) m) w wr vy vo) (fun _ _ i _=>l.length - (intOf i).toNat)
 case atStart=>exact⟨0,Nat.zero_le _,rfl,zw.nil _ _,zw.nil _ _,fun q hq=>by simp[Value.ownBlock]at hq,Below.refl _ _⟩
 case round=>
  obtain⟨k,hk,rfl,hy,ho,bB,hb⟩:=hrel;have Hy:=zX hy;have Ho:=zX ho;have nA:=zX bB;have mB:=zLu l m k;clear hy ho bB;by_cases eA:k<l.length
  ·have kB:(k:Int)<(l.length:Int):=(by omega);obtain⟨b,off,rfl,q0,q1⟩:=(Hp.out.zRX hb).zRb eA;have jA:=zC wr (.cells #[.int .i64 (zf l k),.int .i64 (zh l k)] 61);have HV:=zX (zc.zRZ wr (.int .i64 (zf l k)) (.int .i64 (zh l k)) 61);have iA:=zA hb jA;have tA:=zX ((iA.cell (p:=⟨T,0,none⟩) (zD HT.out)).trans HT.out);have vA:=zX (iB.out.zRX iA);have nB:∀(fn:Fn) (first fB:Array Value) (w:World),(Instr.makeFunc fn first fB).run Tryz.prog w = .ok (.func fn first fB) w:=fun _ _ _ _=>rfl
   go_wp2_with fail;refine(zMz v2 m.length eB aB (zf m) (zh m) (zf l k) (zh l k) T _ vA.out tA.out).mono ?_;rintro e w1 ⟨⟨s,rfl,hs⟩,dA⟩;have gB:=zX ((Hy.out.zRX jA).zRX dA);have jB:=zX ((Ho.out.zRX jA).zRX dA);have lB:=zX (HV.out.zRX dA);have cB:=zA iA dA;clear dA iA jA Hy Ho HV q0 q1 tA vA;have pB:=cB.size;obtain⟨⟨x0,x1⟩,⟨x2,x3⟩⟩:=lB.out;have fA:=zC w1 (.cells #[.int .i64 (zf l k),.int .i64 (zh l k)] 61);have lA:=zX (gB.out.zRX fA);have pA:=zX (jB.out.zRX fA);have gA:=zA cB fA;have oB:(w1.alloc (.cells #[.int .i64 (zf l k),.int .i64 (zh l k)] 61)).heap.size=w1.heap.size+1:=World.size_alloc _ _;have HN:=zX (World.news_of_block (heap_alloc_last w1 (.cells #[.int .i64 (zf l k),.int .i64 (zh l k)] 61)));clear fA;by_cases hq:(zf l k,zh l k)∈m
   ·obtain rfl:s=true:=hs.2 (zBd.2 hq);have ey:=zX (zLd eA hq);have eo:=zX (zKz eA hq);clear hs hq;go_wp2_with (first
     | (at_builtin;refine wpList_append_lies _ rfl _ _ 62 rfl w.heap.size 61 i0 (.agg #[.int .i64 0,.int .i64 0]) 2 16 (by kernel_rfl) HI.out.1 HI.out.2.1 HI.out.2.2.1 HI.out.2.2.2 rfl (by decide) _ _ _ rfl lA.out ⟨w1.heap.size,0,none⟩ 1 1 [.int .i64 (zf l k),.int .i64 (zh l k)] rfl rfl HN.out (by simp[Value.oneCell']) (by decide) (by unfold maxLen;omega) (by omega) (by omega) _ rfl ?_;intro g' kA w4 bA aA cA sA)
     | go_in)
    go_roundw
    case rel=>
     obtain⟨r1,r2,r3⟩:=zB8 pA.out nA.out bA aA cA;exact⟨k+1,by omega,by go_num,by rw[ey.out];exact r1,by rw[eo.out];exact r2,r3,gA.grown aA gA.size (fun q hq=>(lA.out.lt hq).1)⟩
    case measure=>simp[intOf];omega
   ·obtain rfl:s=false:=zQ hs (fun h=>hq (zBd.1 h));have ey:=zX (zNY eA hq);have eo:=zX (zH8 eA hq);clear hs hq;go_wp2_with (first
     | (at_builtin;refine wpList_append_lies _ rfl _ _ 62 rfl w.heap.size 61 i0 (.agg #[.int .i64 0,.int .i64 0]) 2 16 (by kernel_rfl) HI.out.1 HI.out.2.1 HI.out.2.2.1 HI.out.2.2.2 rfl (by decide) _ _ _ rfl pA.out ⟨w1.heap.size,0,none⟩ 1 1 [.int .i64 (zf l k),.int .i64 (zh l k)] rfl rfl HN.out (by simp[Value.oneCell']) (by decide) (by unfold maxLen;omega) (by omega) (by omega) _ rfl ?_;intro g' kA w4 bA aA cA sA)
     | go_in)
    go_roundw
    case rel=>
     obtain⟨r1,r2,r3⟩:=zB8 lA.out (fun q h h'=>nA.out q h' h) bA aA cA;exact⟨k+1,by omega,by go_num,by rw[ey.out];exact r2,by rw[eo.out];exact r1,fun q h h'=>r3 q h' h,gA.grown aA gA.size (fun q hq=>(pA.out.lt hq).1)⟩
    case measure=>simp[intOf];omega
  ·obtain rfl:k=l.length:=(by omega);have mA:=Hy.out;have rA:=Ho.out;rw[List.take_length]at mA rA;have HY:=zX mA;have HO:=zX rA;clear mA rA Hy Ho;go_wp2
   go_ret2
   exact⟨_,_,rfl,HY.out,HO.out,nA.out,hb⟩
theorem yh(v v':Value)(n lo hi n' lo' hi':Nat)(f g f' g':Nat->Int)(w:World)(h1:zU w lo hi v n f g)(h2:zU w lo' hi' v' n' f' g') :
  Calls Tryz.prog 233 #[v,v'] w fun e w'=>zG (zEG n f g n' f' g') e/\Below w.heap.size w w':=by
 have Hp:=zX h1;have pA:=zX h2;obtain⟨m1,a,c,rfl,mc,_⟩:=id h1;obtain⟨m2,a',c',rfl,gB,_⟩:=id h2;unfold maxLen at m1 m2;clear h1 h2;by_cases ho:qm n f g
 ·have Ho:=zX ho;clear ho;by_cases oA:qm n' f' g'
  ·have cA:=zX oA;clear oA;go_enter Tryz.func233,Tryz.ntmps233;go_wp2_with fail;refine(qg _ n lo hi f g _ Hp.out).mono ?_;rintro e w1 ⟨⟨t,rfl,ht⟩,bA⟩;obtain rfl:t=true:=ht.2 Ho.out;clear ht;go_wp2_with fail;refine(qg _ n' lo' hi' f' g' _ (pA.out.zRX bA)).mono ?_;rintro e w2 ⟨⟨t,rfl,ht⟩,jA⟩;obtain rfl:t=true:=ht.2 cA.out;have iA:=zA bA jA;clear ht bA jA;go_wp2_with fail;refine(zFB _ n lo hi f g _ (Hp.out.zRX iA) Ho.out.1 Ho.out.2.1).mono ?_;rintro e w3 ⟨rfl,hm,tA⟩;have Hm:=zX hm;have rA:=zA iA tA;have hz:w.heap.size<=w2.heap.size:=iA.size;clear hm tA iA;go_wp2
   go_loopw [20] (fun i wr=>∃(k:Nat) (D:DataW Unit),k<=n'/\i = .int .i64 k/\zOv wr w2.heap.size n D/\zDP n f g f' k D/\(∀j,j<k->PIn n f g (f' j) (g' j))/\Below w.heap.size w wr) (fun i _=>n' - (intOf i).toNat)
   case atStart=>exact⟨0,_,Nat.zero_le _,rfl,Hm.out,zDP.start Ho.out f',fun j hj=>absurd hj (Nat.not_lt_zero _),rA⟩
   case round=>
    obtain⟨k,D,hk,rfl,lA,eA,sA,hb⟩:=hrel;have dA:=zX lA;have aA:=zX eA;have vA:=zX sA;clear lA eA sA Hm rA;by_cases gA:k<n'
    ·have dB:(k:Int)<(n':Int):=(by omega);obtain⟨b,off,rfl,q0,q1⟩:=(pA.out.zRX hb).zRb gA;have mA:keyOf Tryz.prog 2 (.int .i64 (f' k))=some (zCC (f' k)):=keyOf_int_mk zQN (zHy (cA.out.2.1 k gA).1 (by have:=(cA.out.2.1 k gA).2.1;omega));have nA:=zX mA;clear mA;have bA:=hb.alloc hb.size (.cells #[.int .i64 (f' k),.int .i64 (g' k)] 61);have fB:w2.heap.size<=wr.heap.size:=Nat.le_of_lt dA.out.lt;go_wp2_with (first
      | (at_lookup;refine wpList_lookup_own_int _ rfl _ _ 243 rfl 2 2 .i64 zQ4 zO8 zQN (zRM _) w2.heap.size n D rfl (dA.out.alloc _) _ _ rfl nA.out ?_;intro c0 aB eB)
      | (at_delete;refine wpList_delete_own _ rfl _ _ 243 2 rfl 2 zQ4 zO8 _ w2.heap.size n D rfl (dA.out.alloc _) _ _ rfl nA.out ?_;intro w4 kA fA)
      | go_in)
     ·have cB:c0≠g' k:=by
       have h:(c0 != g' k)=true:=(by assumption);simpa using h
      go_ret;exact⟨zG.no (aA.out.no Ho.out cA.out gA (show D.atKey (zCC (f' k)) (zDl 0)=zDl c0 from aB) cB),bA⟩
     ·have he:c0=g' k:=by
       have h:(c0 != g' k)=false:=(by assumption);simpa using h
      subst he;have bB:D.atKey (zCC (f' k)) (zDl 0)=zDl (g' k):=aB;go_roundw
      case rel=>exact⟨k+1,_,by omega,by go_num,kA,aA.out.next cA.out gA bB,zo gA vA.out (aA.out.in cA.out gA bB),bA.grown fA.grown bA.size (fun j hj=>by cases hj;exact hz)⟩
      case measure=>simp[intOf];omega
    ·obtain rfl:k=n':=(by omega);go_wp2_with (first
      | (at_len;refine wpList_len_own _ rfl _ 243 rfl 2 2 zO8 _ w2.heap.size n D rfl dA.out ?_)
      | go_in)
     go_ret;refine⟨⟨_,rfl,?_⟩,hb⟩;have He:=aA.out.end Ho.out cA.out vA.out;rw[<-He];simp
  ·have cA:=zX oA;clear oA;go_enter Tryz.func233,Tryz.ntmps233;go_wp2_with fail;refine(qg _ n lo hi f g _ Hp.out).mono ?_;rintro e w1 ⟨⟨t,rfl,ht⟩,bA⟩;obtain rfl:t=true:=ht.2 Ho.out;clear ht;go_wp2_with fail;refine(qg _ n' lo' hi' f' g' _ (pA.out.zRX bA)).mono ?_;rintro e w2 ⟨⟨t,rfl,ht⟩,jA⟩;obtain rfl:t=false:=zQ ht cA.out;have iA:=zA bA jA;clear ht bA jA;go_wp2;go_ret;exact⟨zG.no fun h=>cA.out h.2.1,iA⟩
 ·have Ho:=zX ho;clear ho;go_enter Tryz.func233,Tryz.ntmps233;go_wp2_with fail;refine(qg _ n lo hi f g _ Hp.out).mono ?_;rintro e w1 ⟨⟨t,rfl,ht⟩,bA⟩;obtain rfl:t=false:=zQ ht Ho.out;clear ht;go_wp2;go_ret;exact⟨zG.no fun h=>Ho.out h.1,bA⟩
abbrev zRW(vd:Value)(m:zE8):Value:=.agg #[.int .i64 m.zRh,.int .i64 m.time,.int .i64 m.rs,.int .i64 m.rb,vd]
theorem zw.putNe{w:World}{base b:Nat}{v:Value}{l:List (Int×Int)}(h:zw w base v l)(hb:v.ownBlock≠some b)(o:Nat)(u:Value):zw (w.setCell ⟨b,o,none⟩ u) base v l:=by
 refine⟨h.1,h.2.imp id ?_⟩;rintro⟨g,aA,bA,e,h1,h2,h3⟩;subst e;exact⟨g,aA,bA,rfl,h1,(Below.heap_setCell _ _ _ _ (fun e=>hb (by simp[Value.ownBlock];exact e))).trans h2,h3⟩
def zJC(W:zH)(m:zE8)(S:zl):Prop:=m.rb<=m.time/\zDn (zAR (zR W.zRd m.rs m.rb) S.time).length (zf (zAR (zR W.zRd m.rs m.rb) S.time)) (zh (zAR (zR W.zRd m.rs m.rb) S.time)) (zAQ (zR W.zRd m.rs m.rb) (zR W.zRd S.rs S.rb))/\zDn m.dn m.ds m.db (zAQ (zR W.zRd S.rs S.rb) (qO (zR W.zRd m.rs m.rb) (zR W.zRd S.rs S.rb)))
theorem zK0(W:zH)(m:zE8)(S:zl):zJC W m S↔(m.rb<=m.time/\zEG (zAR (zR W.zRd m.rs m.rb) S.time).length (zf (zAR (zR W.zRd m.rs m.rb) S.time)) (zh (zAR (zR W.zRd m.rs m.rb) S.time)) (zAQ (zR W.zRd m.rs m.rb) (zR W.zRd S.rs S.rb)).length (zf (zAQ (zR W.zRd m.rs m.rb) (zR W.zRd S.rs S.rb))) (zh (zAQ (zR W.zRd m.rs m.rb) (zR W.zRd S.rs S.rb)))/\zEG m.dn m.ds m.db (zAQ (zR W.zRd S.rs S.rb) (qO (zR W.zRd m.rs m.rb) (zR W.zRd S.rs S.rb))).length (zf (zAQ (zR W.zRd S.rs S.rb) (qO (zR W.zRd m.rs m.rb) (zR W.zRd S.rs S.rb)))) (zh (zAQ (zR W.zRd S.rs S.rb) (qO (zR W.zRd m.rs m.rb) (zR W.zRd S.rs S.rb))))):=Iff.rfl
theorem zIY(l:List (Int×Int))(t:Int):∀k,k<=l.length->qY (zf l) (zh l) t k=zAR (l.take k) t
 | 0,_=>by simp[qY,zAR]
 | k+1,hk=>by
  have aA:k<l.length:=(by omega);unfold qY;rw[zIY l t k (by omega)];unfold zAR;rw[List.take_succ_eq_append_getElem aA,List.filter_append,List.filter_cons];simp only[List.filter_nil];unfold zf zh;rw[yC aA];by_cases h:t<(l[k]).2
  ·rw[if_pos h,if_pos (by simpa using h)]
  ·rw[if_neg h,if_neg (by simpa using h),List.append_nil]
theorem zFj(l:List (Int×Int))(t:Int):qY (zf l) (zh l) t l.length=zAR l t:=by
 rw[zIY l t _ (Nat.le_refl _),List.take_length]
theorem zD2(v v':Value)(w:World):(Instr.field 201 (.agg #[v,v']) 0).run Tryz.prog w = .ok v w:=by kernel_rfl
theorem zHO(v0 v1 v2 v3:Value)(lo hi:Nat)(W:zH)(m:zE8)(S:zl)(ad sa:Option Addr)(cd sc:Nat)(w:World)(h:zk w lo hi v0 v1 v2 v3 W)(hR:zx W.zRd)(oE:qG W.zRd m.rs m.rb)(iE:qG W.zRd S.rs S.rb)(hD:zU w lo hi (.slice ad m.dn cd) m.dn m.ds m.db)(ht:zCG S.time) :
  Calls Tryz.prog 225 #[zz v0 v1 v2 v3 W,zRW (.slice ad m.dn cd) m,ye (.slice sa S.dn sc) S] w fun e w'=>zG (zJC W m S) e/\Below w.heap.size w w':=by
 unfold ye;have Hp:=zB h;have HR:=zB hR;have rB:=zB oE;have bD:=zB iE;have lD:=zB hD;have jD:=zB ht;clear h hR oE iE hD ht;have cE:∀Wa Wb Wc:World,Wa=w.alloc (.cells #[v0,v1,.int .i64 W.time,.int .i64 W.next,v2,v3] 37)->Wb=Wa.alloc (.cells #[.int .i64 m.zRh,.int .i64 m.time,.int .i64 m.rs,.int .i64 m.rb,.slice ad m.dn cd] 224)->Wc=Wb.alloc (.cells #[.int .i64 S.id,.string S.name,.string S.set,.int .i64 S.zRh,.int .i64 S.time,.int .i64 S.rs,.int .i64 S.rb,.slice sa S.dn sc] 99)->zi Wc w.heap.size v0 v1 (.int .i64 W.time) (.int .i64 W.next) v2 v3/\zEM Wc (w.heap.size+1) (.int .i64 m.zRh) (.int .i64 m.time) (.int .i64 m.rs) (.int .i64 m.rb) (.slice ad m.dn cd)/\zCP Wc (w.heap.size+2) (.int .i64 S.id) (.string S.name) (.string S.set) (.int .i64 S.zRh) (.int .i64 S.time) (.int .i64 S.rs) (.int .i64 S.rb) (.slice sa S.dn sc)/\Below w.heap.size w Wc:=by
  rintro Wa Wb Wc ea eb ec;have ha:=zC w (.cells #[v0,v1,.int .i64 W.time,.int .i64 W.next,v2,v3] 37);have h1:=zi.zRZ w v0 v1 (.int .i64 W.time) (.int .i64 W.next) v2 v3 37;have z1:Wa.heap.size=w.heap.size+1:=(by rw[ea];exact World.size_alloc _ _);rw[<-ea]at ha h1;have hb:=zC Wa (.cells #[.int .i64 m.zRh,.int .i64 m.time,.int .i64 m.rs,.int .i64 m.rb,.slice ad m.dn cd] 224);have h2:=zEM.zRZ Wa (.int .i64 m.zRh) (.int .i64 m.time) (.int .i64 m.rs) (.int .i64 m.rb) (.slice ad m.dn cd) 224;have z2:Wb.heap.size=w.heap.size+2:=(by rw[eb,World.size_alloc,z1]);rw[<-eb,z1]at h2;rw[<-eb]at hb;have hc:=zC Wb (.cells #[.int .i64 S.id,.string S.name,.string S.set,.int .i64 S.zRh,.int .i64 S.time,.int .i64 S.rs,.int .i64 S.rb,.slice sa S.dn sc] 99);have h3:=zCP.zRZ Wb (.int .i64 S.id) (.string S.name) (.string S.set) (.int .i64 S.zRh) (.int .i64 S.time) (.int .i64 S.rs) (.int .i64 S.rb) (.slice sa S.dn sc) 99;rw[<-ec,z2]at h3;rw[<-ec]at hc;exact⟨(h1.zRX hb).zRX hc,h2.zRX hc,h3,zA (zA ha hb) hc⟩
 obtain⟨hx,hm,lE,gC⟩:=cE _ _ _ rfl rfl rfl;have pA:=zB hx;have sA:=zB hm;have rA:=zB lE;clear hx hm lE cE;go_enter Tryz.func225,Tryz.ntmps225;go_wp2_with fail;generalize ((w.alloc (.cells #[v0,v1,.int .i64 W.time,.int .i64 W.next,v2,v3] 37)).alloc (.cells #[.int .i64 m.zRh,.int .i64 m.time,.int .i64 m.rs,.int .i64 m.rb,.slice ad m.dn cd] 224)).alloc (.cells #[.int .i64 S.id,.string S.name,.string S.set,.int .i64 S.zRh,.int .i64 S.time,.int .i64 S.rs,.int .i64 S.rb,.slice sa S.dn sc] 99)=W0 at pA sA rA gC ⊢;obtain⟨⟨x0,-⟩,⟨x1,-⟩,⟨x2,-⟩,⟨x3,-⟩,⟨x4,-⟩,⟨x5,-⟩⟩:=pA.out;obtain⟨-,-,⟨y2,-⟩,⟨y3,-⟩,-⟩:=sA.out;obtain⟨-,-,⟨z5,-⟩,⟨z6,-⟩,-⟩:=rA.out;refine wp_region_held_drew (S:=(fun w'=>w'.cell? ⟨w.heap.size,0,none⟩=some v0/\w'.cell? ⟨w.heap.size,1,none⟩=some v1/\w'.cell? ⟨w.heap.size,2,none⟩=some (.int .i64 W.time)/\w'.cell? ⟨w.heap.size,3,none⟩=some (.int .i64 W.next)/\w'.cell? ⟨w.heap.size,4,none⟩=some v2/\w'.cell? ⟨w.heap.size,5,none⟩=some v3/\w'.cell? ⟨w.heap.size+1,2,none⟩=some (.int .i64 m.rs)/\w'.cell? ⟨w.heap.size+1,3,none⟩=some (.int .i64 m.rb)/\w'.cell? ⟨w.heap.size+2,5,none⟩=some (.int .i64 S.rs)/\w'.cell? ⟨w.heap.size+2,6,none⟩=some (.int .i64 S.rb))) (by kernel_rfl) ?_ (fun hHeld=>?_)
 ·(try dsimp only)
  go_keep
 have pD:Below W0.heap.size W0 W0.drew:=(Below.refl _ _).drew;have sE:W0.drew.heap.size=W0.heap.size:=rfl;refine tk 0 (h:=tk 1 (h:=tk 2 (h:=tk 4 (h:=tk 5 (h:=tk 6 (h:=?_))))));refine rd [3,8] (rc (fun K hK=>?_) (rc (fun K hK=>?_) .nil))
 ·go_simp;go_at_call 226;refine(zBr v0 v1 v2 v3 lo hi W m.rs m.rb _ ?_ HR.out rB.out).mono ?_
  ·exact Hp.out.zRX (zA gC pD)
  rintro e w1 ⟨vt,rfl,rC,gB⟩;obtain⟨tD,oD,rfl,-⟩:=zY rC;have fB:Below W0.heap.size W0 w1:=zA pD gB;obtain⟨⟨k0,_⟩,⟨k1,_⟩,⟨k2,_⟩,⟨k3,_⟩,⟨k4,_⟩,⟨k5,_⟩⟩:=pA.out.zRX fB;obtain⟨_,_,⟨l2,_⟩,⟨l3,_⟩,_⟩:=sA.out.zRX fB;obtain⟨_,_,⟨n5,_⟩,⟨n6,_⟩,_⟩:=rA.out.zRX fB
  (try go_wp2_with fail)
  refine hK.out _ _ (by(try dsimp only);go_keep) ?_;clear hK K hHeld;intro hHeld
  try simp only[Act.put,s1,s2,s3]
  refine rd [7,8] (rc (fun K hK=>?_) (rc (fun K hK=>?_) .nil))
  ·go_simp;go_at_call 226;refine(zBr v0 v1 v2 v3 lo hi W S.rs S.rb _ ?_ HR.out bD.out).mono ?_
   ·exact Hp.out.zRX (zA gC fB)
   rintro e w2 ⟨va,rfl,eC,gA⟩;obtain⟨av,cv,rfl,-⟩:=zY eC;have lA:Below W0.heap.size W0 w2:=zA fB gA;obtain⟨⟨k0,_⟩,⟨k1,_⟩,⟨k2,_⟩,⟨k3,_⟩,⟨k4,_⟩,⟨k5,_⟩⟩:=pA.out.zRX lA;obtain⟨_,_,⟨l2,_⟩,⟨l3,_⟩,_⟩:=sA.out.zRX lA;obtain⟨_,_,⟨n5,_⟩,⟨n6,_⟩,_⟩:=rA.out.zRX lA
   (try go_wp2_with fail)
   refine hK.out _ _ (by(try dsimp only);go_keep) ?_;clear hK K hHeld;intro hHeld
   try simp only[Act.put,s1,s2,s3]
   refine rd [8] (rc (fun K hK=>?_) .nil);go_simp;have aD:=zC w2 (.cells #[.slice none 0 0] 62);have bB:Below W0.heap.size W0 (w2.alloc (.cells #[.slice none 0 0] 62)):=zA lA aD;have cD:zW (w2.alloc (.cells #[.slice none 0 0] 62)) w2.heap.size 0 (.slice none 0 0):=zJ (heap_alloc_new _ _) rfl;obtain⟨⟨k0,_⟩,⟨k1,_⟩,⟨k2,_⟩,⟨k3,_⟩,⟨k4,_⟩,⟨k5,_⟩⟩:=pA.out.zRX bB;obtain⟨_,_,⟨l2,_⟩,⟨l3,_⟩,_⟩:=sA.out.zRX bB;obtain⟨_,_,⟨n5,_⟩,⟨n6,_⟩,_⟩:=rA.out.zRX bB
   (try go_wp2_with fail)
   refine hK.out _ _ (by(try dsimp only);go_keep) ?_;clear hK K hHeld;intro hHeld
   try simp only[Act.put,s1,s2,s3]
   refine tk 9 (h:=?_);refine rd [10] (rc (fun K hK=>?_) .nil);go_simp;have fC:=zC w2 (.cells #[.slice av (zR W.zRd S.rs S.rb).length cv] 62);have bA:Below W0.heap.size W0 (w2.alloc (.cells #[.slice av (zR W.zRd S.rs S.rb).length cv] 62)):=zA lA fC;obtain⟨⟨k0,_⟩,⟨k1,_⟩,⟨k2,_⟩,⟨k3,_⟩,⟨k4,_⟩,⟨k5,_⟩⟩:=pA.out.zRX bA;obtain⟨_,_,⟨l2,_⟩,⟨l3,_⟩,_⟩:=sA.out.zRX bA;obtain⟨_,_,⟨n5,_⟩,⟨n6,_⟩,_⟩:=rA.out.zRX bA
   (try go_wp2_with fail)
   refine hK.out _ _ (by(try dsimp only);go_keep) ?_;clear hK K hHeld;intro hHeld
   try simp only[Act.put,s1,s2,s3]
   refine wpAnyH_done (by kernel_rfl) ?_ _;have jA:=zB (show zW (w2.alloc (.cells #[.slice av (zR W.zRd S.rs S.rb).length cv] 62)) w2.heap.size 0 (.slice av (zR W.zRd S.rs S.rb).length cv)from zJ (heap_alloc_new _ _) rfl);have cB:=zB (((rC.zRX gA).zRX fC).mono (Nat.zero_le _));have eB:=zB ((eC.zRX fC).mono (Nat.zero_le _));clear aD cD bB fC;have tC:=zB (pA.out.zRX bA);have jB:=zB (sA.out.zRX bA);have aC:=zB (rA.out.zRX bA);have cC:=zA gC bA;clear bA hHeld
   as_aux_lemma=>
   generalize (w2.alloc (.cells #[.slice av (zR W.zRd S.rs S.rb).length cv] 62))=wz at jA cB eB tC jB aC cC ⊢;generalize w2.heap.size=T at jA ⊢;have nE:=qN W.zRd m.rs m.rb;have gE:=qN W.zRd S.rs S.rb;have fD:=zB (show qm (zR W.zRd m.rs m.rb).length (zf (zR W.zRd m.rs m.rb)) (zh (zR W.zRd m.rs m.rb))from zBH HR.out (fun x hx=>(zAb HR.out rB.out hx).1) (zAj HR.out rB.out) (by omega));have dB:=zB (zK0 W m S);clear rB bD HR Hp tC;generalize zR W.zRd m.rs m.rb=tree at *;generalize zR W.zRd S.rs S.rb=old at *;have jE:(qO tree old).length<=tree.length:=List.length_filter_le _ _;have pE:(zAQ tree old).length<=tree.length:=List.length_filter_le _ _;have eE:(zAQ old (qO tree old)).length<=old.length:=List.length_filter_le _ _;have kE:(zAR tree S.time).length<=tree.length:=List.length_filter_le _ _;have fE:∀(fn:Fn) (first vC:Array Value) (w:World),(Instr.makeFunc fn first vC).run Tryz.prog w = .ok (.func fn first vC) w:=fun _ _ _ _=>rfl
   go_wp2_with fail;refine(zDN _ _ 0 _ 0 _ T tree old wz (cB.out.atW (by omega)) (by omega) (eB.out.atW (by omega)) jA.out.1).mono ?_;rintro e w3 ⟨vk,vo,rfl,dC,kB,-,cA⟩;obtain⟨ak,ck,rfl,-⟩:=zY dC;obtain⟨ao,co,rfl,-⟩:=zY kB;have aA:=zC w3 (.cells #[.slice ak (qO tree old).length ck] 62);have fA:=zB ((jA.out.zRX cA).zRX aA);have dA:=zB ((cB.out.zRX cA).zRX aA);have eA:=zB ((eB.out.zRX cA).zRX aA);have mB:=zB (dC.zRX aA);have pB:=zB (kB.zRX aA);have tB:=zB ((jB.out.zRX cA).zRX aA);have lB:=zB ((aC.out.zRX cA).zRX aA);have tA:=zB (show zW (w3.alloc (.cells #[.slice ak (qO tree old).length ck] 62)) w3.heap.size 0 (.slice ak (qO tree old).length ck)from zJ (heap_alloc_new _ _) rfl);have sB:=zA (zA cC cA) aA;clear dC kB cA aA jA cB eB jB aC cC;obtain⟨c0,-⟩:=fA.out;go_wp2_with fail;clear c0;generalize w3.alloc (.cells #[.slice ak (qO tree old).length ck] 62)=w4 at fA dA eA mB pB tB lB tA sB ⊢;generalize w3.heap.size=T9 at tA ⊢;refine(zDq _ _ 0 _ 0 _ T9 old (qO tree old) w4 (eA.out.atW (by omega)) (by omega) (mB.out.atW (by omega)) tA.out.1).mono ?_;rintro e w5 ⟨vx,dE,rfl,-,iB,-,iA⟩;obtain⟨bE,mE,rfl,-⟩:=zY iB;have mA:=zB (dA.out.zRX iA);have oC:=zB (pB.out.zRX iA);have iC:=zB (tB.out.zRX iA);have kC:=zB (lB.out.zRX iA);have oA:=zB iB;have pC:=zA sB iA;clear iB iA fA dA eA mB pB tB lB tA sB;obtain⟨-,⟨c4,-⟩,-⟩:=kC.out;go_wp2_with fail;clear c4;refine(zA4 _ tree.length 0 _ (zf tree) (zh tree) S.time w5 (mA.out.atW (by omega))).mono ?_;rintro e w6 ⟨vy,vz,ly,lz,rfl,hY,-,hy,-,-,kA⟩;rw[(hY.1 ⟨fD.out,jD.out⟩).trans (zFj tree S.time)]at hy;have eD:∀w,(Instr.field 201 (.agg #[vy,vz]) 0).run Tryz.prog w = .ok vy w:=zD2 vy vz;have sC:=zB hy;have mC:=zB (oC.out.zRX kA);have nB:=zB (iC.out.zRX kA);have nA:=zB (oA.out.zRX kA);have vB:=zA pC kA;clear hY hy kA mA oC iC kC oA pC;obtain⟨-,⟨c1,-⟩,-,⟨c3,-⟩,⟨c5,-⟩⟩:=nB.out;by_cases h1:m.rb<=m.time;rotate_left
   ·have Hn:=zB (show ¬zJC W m S from fun h=>h1 (dB.out.1 h).1);go_wp2;go_ret;exact⟨zG.no Hn.out,vB⟩
   have H1:=zB h1;go_wp2_with fail;clear h1 c1 c3 c5 eD;refine(yh _ _ _ 0 _ _ 0 _ _ _ _ _ w6 (sC.out.atW (by omega)) (mC.out.atW (by omega))).mono ?_;rintro e w7 ⟨⟨t7,rfl,lC⟩,aB⟩;have iD:=zB (nB.out.zRX aB);have oB:=zB (nA.out.zRX aB);have bC:=zA vB aB;have vA:=zB lC;clear lC aB sC mC nB nA vB;obtain⟨-,⟨c1,-⟩,-,⟨c3,-⟩,⟨c5,-⟩⟩:=iD.out;cases t7
   ·have Hn:=zB (show ¬zJC W m S from fun h=>absurd (vA.out.2 (dB.out.1 h).2.1) (by simp));clear vA;go_wp2;go_ret;exact⟨zG.no Hn.out,bC⟩
   have H2:=zB (vA.out.1 rfl);clear vA;go_wp2_with fail;clear c1 c3 c5;refine(yh _ _ _ lo hi _ 0 _ _ _ _ _ w7 (lD.out.zRX bC) (oB.out.atW (by omega))).mono ?_;rintro e w8 ⟨⟨t8,rfl,jC⟩,nC⟩;have gD:=zB (jC.trans ⟨fun h=>dB.out.2 ⟨H1.out,H2.out,h⟩,fun h=>(dB.out.1 h).2.2⟩);have dD:=zA bC nC;clear jC nC;go_wp2;go_ret;exact⟨⟨t8,rfl,gD.out⟩,dD⟩
  ·go_simp;have aD:=zC w1 (.cells #[.slice none 0 0] 62);have lA:Below W0.heap.size W0 (w1.alloc (.cells #[.slice none 0 0] 62)):=zA fB aD;have cD:zW (w1.alloc (.cells #[.slice none 0 0] 62)) w1.heap.size 0 (.slice none 0 0):=zJ (heap_alloc_new _ _) rfl;obtain⟨⟨k0,_⟩,⟨k1,_⟩,⟨k2,_⟩,⟨k3,_⟩,⟨k4,_⟩,⟨k5,_⟩⟩:=pA.out.zRX lA;obtain⟨_,_,⟨l2,_⟩,⟨l3,_⟩,_⟩:=sA.out.zRX lA;obtain⟨_,_,⟨n5,_⟩,⟨n6,_⟩,_⟩:=rA.out.zRX lA
   (try go_wp2_with fail)
   refine hK.out _ _ (by(try dsimp only);go_keep) ?_;clear hK K hHeld;intro hHeld
   try simp only[Act.put,s1,s2,s3]
   refine rd [7] (rc (fun K hK=>?_) .nil);go_simp;go_at_call 226;refine(zBr v0 v1 v2 v3 lo hi W S.rs S.rb _ ?_ HR.out bD.out).mono ?_
   ·exact Hp.out.zRX (zA gC lA)
   rintro e w2 ⟨va,rfl,eC,gA⟩;obtain⟨av,cv,rfl,-⟩:=zY eC;have bB:Below W0.heap.size W0 w2:=zA lA gA;obtain⟨⟨k0,_⟩,⟨k1,_⟩,⟨k2,_⟩,⟨k3,_⟩,⟨k4,_⟩,⟨k5,_⟩⟩:=pA.out.zRX bB;obtain⟨_,_,⟨l2,_⟩,⟨l3,_⟩,_⟩:=sA.out.zRX bB;obtain⟨_,_,⟨n5,_⟩,⟨n6,_⟩,_⟩:=rA.out.zRX bB
   (try go_wp2_with fail)
   refine hK.out _ _ (by(try dsimp only);go_keep) ?_;clear hK K hHeld;intro hHeld
   try simp only[Act.put,s1,s2,s3]
   refine tk 9 (h:=?_);have aE:=cD.zRX gA;have mD:=(rC.zRX aD).zRX gA;have kD:(w1.alloc (.cells #[.slice none 0 0] 62)).heap.size=w1.heap.size+1:=World.size_alloc _ _;have rD:Value.ownBlock (.slice tD (zR W.zRd m.rs m.rb).length oD)≠some w1.heap.size:=fun e=>by have:=(rC.lt e).2;omega
   have vD:Value.ownBlock (.slice av (zR W.zRd S.rs S.rb).length cv)≠some w1.heap.size:=fun e=>by have:=(eC.lt e).1;omega
   have tE:=fB.size;obtain⟨nD,sD⟩:=aE;refine rd [10] (rc (fun K hK=>?_) .nil);go_simp;have bA:Below W0.heap.size W0 (w2.setCell ⟨w1.heap.size,0,none⟩ (.slice av (zR W.zRd S.rs S.rb).length cv)):=bB.setCell (show W0.heap.size<=w1.heap.size by omega) _;obtain⟨⟨k0,_⟩,⟨k1,_⟩,⟨k2,_⟩,⟨k3,_⟩,⟨k4,_⟩,⟨k5,_⟩⟩:=pA.out.zRX bA;obtain⟨_,_,⟨l2,_⟩,⟨l3,_⟩,_⟩:=sA.out.zRX bA;obtain⟨_,_,⟨n5,_⟩,⟨n6,_⟩,_⟩:=rA.out.zRX bA
   (try go_wp2_with fail)
   refine hK.out _ _ (by(try dsimp only);go_keep) ?_;clear hK K hHeld;intro hHeld
   try simp only[Act.put,s1,s2,s3]
   refine wpAnyH_done (by kernel_rfl) ?_ _;have jA:=zB (show zW (w2.setCell ⟨w1.heap.size,0,none⟩ (.slice av (zR W.zRd S.rs S.rb).length cv)) w1.heap.size 0 (.slice av (zR W.zRd S.rs S.rb).length cv)from zW.set ⟨nD,sD⟩ _);have cB:=zB ((mD.putNe rD 0 (.slice av (zR W.zRd S.rs S.rb).length cv)).mono (Nat.zero_le _));have eB:=zB ((eC.putNe vD 0 (.slice av (zR W.zRd S.rs S.rb).length cv)).mono (Nat.zero_le _));have tC:=zB (pA.out.zRX bA);have jB:=zB (sA.out.zRX bA);have aC:=zB (rA.out.zRX bA);have cC:=zA gC bA;clear bA hHeld
   as_aux_lemma=>
   generalize (w2.setCell ⟨w1.heap.size,0,none⟩ (.slice av (zR W.zRd S.rs S.rb).length cv))=wz at jA cB eB tC jB aC cC ⊢;generalize w1.heap.size=T at jA ⊢;have nE:=qN W.zRd m.rs m.rb;have gE:=qN W.zRd S.rs S.rb;have fD:=zB (show qm (zR W.zRd m.rs m.rb).length (zf (zR W.zRd m.rs m.rb)) (zh (zR W.zRd m.rs m.rb))from zBH HR.out (fun x hx=>(zAb HR.out rB.out hx).1) (zAj HR.out rB.out) (by omega));have dB:=zB (zK0 W m S);clear rB bD HR Hp tC;generalize zR W.zRd m.rs m.rb=tree at *;generalize zR W.zRd S.rs S.rb=old at *;have jE:(qO tree old).length<=tree.length:=List.length_filter_le _ _;have pE:(zAQ tree old).length<=tree.length:=List.length_filter_le _ _;have eE:(zAQ old (qO tree old)).length<=old.length:=List.length_filter_le _ _;have kE:(zAR tree S.time).length<=tree.length:=List.length_filter_le _ _;have fE:∀(fn:Fn) (first vC:Array Value) (w:World),(Instr.makeFunc fn first vC).run Tryz.prog w = .ok (.func fn first vC) w:=fun _ _ _ _=>rfl
   go_wp2_with fail;refine(zDN _ _ 0 _ 0 _ T tree old wz (cB.out.atW (by omega)) (by omega) (eB.out.atW (by omega)) jA.out.1).mono ?_;rintro e w3 ⟨vk,vo,rfl,dC,kB,-,cA⟩;obtain⟨ak,ck,rfl,-⟩:=zY dC;obtain⟨ao,co,rfl,-⟩:=zY kB;have aA:=zC w3 (.cells #[.slice ak (qO tree old).length ck] 62);have fA:=zB ((jA.out.zRX cA).zRX aA);have dA:=zB ((cB.out.zRX cA).zRX aA);have eA:=zB ((eB.out.zRX cA).zRX aA);have mB:=zB (dC.zRX aA);have pB:=zB (kB.zRX aA);have tB:=zB ((jB.out.zRX cA).zRX aA);have lB:=zB ((aC.out.zRX cA).zRX aA);have tA:=zB (show zW (w3.alloc (.cells #[.slice ak (qO tree old).length ck] 62)) w3.heap.size 0 (.slice ak (qO tree old).length ck)from zJ (heap_alloc_new _ _) rfl);have sB:=zA (zA cC cA) aA;clear dC kB cA aA jA cB eB jB aC cC;obtain⟨c0,-⟩:=fA.out;go_wp2_with fail;clear c0;generalize w3.alloc (.cells #[.slice ak (qO tree old).length ck] 62)=w4 at fA dA eA mB pB tB lB tA sB ⊢;generalize w3.heap.size=T9 at tA ⊢;refine(zDq _ _ 0 _ 0 _ T9 old (qO tree old) w4 (eA.out.atW (by omega)) (by omega) (mB.out.atW (by omega)) tA.out.1).mono ?_;rintro e w5 ⟨vx,dE,rfl,-,iB,-,iA⟩;obtain⟨bE,mE,rfl,-⟩:=zY iB;have mA:=zB (dA.out.zRX iA);have oC:=zB (pB.out.zRX iA);have iC:=zB (tB.out.zRX iA);have kC:=zB (lB.out.zRX iA);have oA:=zB iB;have pC:=zA sB iA;clear iB iA fA dA eA mB pB tB lB tA sB;obtain⟨-,⟨c4,-⟩,-⟩:=kC.out;go_wp2_with fail;clear c4;refine(zA4 _ tree.length 0 _ (zf tree) (zh tree) S.time w5 (mA.out.atW (by omega))).mono ?_;rintro e w6 ⟨vy,vz,ly,lz,rfl,hY,-,hy,-,-,kA⟩;rw[(hY.1 ⟨fD.out,jD.out⟩).trans (zFj tree S.time)]at hy;have eD:∀w,(Instr.field 201 (.agg #[vy,vz]) 0).run Tryz.prog w = .ok vy w:=zD2 vy vz;have sC:=zB hy;have mC:=zB (oC.out.zRX kA);have nB:=zB (iC.out.zRX kA);have nA:=zB (oA.out.zRX kA);have vB:=zA pC kA;clear hY hy kA mA oC iC kC oA pC;obtain⟨-,⟨c1,-⟩,-,⟨c3,-⟩,⟨c5,-⟩⟩:=nB.out;by_cases h1:m.rb<=m.time;rotate_left
   ·have Hn:=zB (show ¬zJC W m S from fun h=>h1 (dB.out.1 h).1);go_wp2;go_ret;exact⟨zG.no Hn.out,vB⟩
   have H1:=zB h1;go_wp2_with fail;clear h1 c1 c3 c5 eD;refine(yh _ _ _ 0 _ _ 0 _ _ _ _ _ w6 (sC.out.atW (by omega)) (mC.out.atW (by omega))).mono ?_;rintro e w7 ⟨⟨t7,rfl,lC⟩,aB⟩;have iD:=zB (nB.out.zRX aB);have oB:=zB (nA.out.zRX aB);have bC:=zA vB aB;have vA:=zB lC;clear lC aB sC mC nB nA vB;obtain⟨-,⟨c1,-⟩,-,⟨c3,-⟩,⟨c5,-⟩⟩:=iD.out;cases t7
   ·have Hn:=zB (show ¬zJC W m S from fun h=>absurd (vA.out.2 (dB.out.1 h).2.1) (by simp));clear vA;go_wp2;go_ret;exact⟨zG.no Hn.out,bC⟩
   have H2:=zB (vA.out.1 rfl);clear vA;go_wp2_with fail;clear c1 c3 c5;refine(yh _ _ _ lo hi _ 0 _ _ _ _ _ w7 (lD.out.zRX bC) (oB.out.atW (by omega))).mono ?_;rintro e w8 ⟨⟨t8,rfl,jC⟩,nC⟩;have gD:=zB (jC.trans ⟨fun h=>dB.out.2 ⟨H1.out,H2.out,h⟩,fun h=>(dB.out.1 h).2.2⟩);have dD:=zA bC nC;clear jC nC;go_wp2;go_ret;exact⟨⟨t8,rfl,gD.out⟩,dD⟩
 ·go_simp;have aD:=zC W0.drew (.cells #[.slice none 0 0] 62);have fB:Below W0.heap.size W0 (W0.drew.alloc (.cells #[.slice none 0 0] 62)):=zA pD aD;have cD:zW (W0.drew.alloc (.cells #[.slice none 0 0] 62)) W0.drew.heap.size 0 (.slice none 0 0):=zJ (heap_alloc_new _ _) rfl;obtain⟨⟨k0,_⟩,⟨k1,_⟩,⟨k2,_⟩,⟨k3,_⟩,⟨k4,_⟩,⟨k5,_⟩⟩:=pA.out.zRX fB;obtain⟨_,_,⟨l2,_⟩,⟨l3,_⟩,_⟩:=sA.out.zRX fB;obtain⟨_,_,⟨n5,_⟩,⟨n6,_⟩,_⟩:=rA.out.zRX fB
  (try go_wp2_with fail)
  refine hK.out _ _ (by(try dsimp only);go_keep) ?_;clear hK K hHeld;intro hHeld
  try simp only[Act.put,s1,s2,s3]
  refine rd [3] (rc (fun K hK=>?_) .nil);go_simp;go_at_call 226;refine(zBr v0 v1 v2 v3 lo hi W m.rs m.rb _ ?_ HR.out rB.out).mono ?_
  ·exact Hp.out.zRX (zA gC fB)
  rintro e w1 ⟨vt,rfl,rC,gB⟩;obtain⟨tD,oD,rfl,-⟩:=zY rC;have lA:Below W0.heap.size W0 w1:=zA fB gB;obtain⟨⟨k0,_⟩,⟨k1,_⟩,⟨k2,_⟩,⟨k3,_⟩,⟨k4,_⟩,⟨k5,_⟩⟩:=pA.out.zRX lA;obtain⟨_,_,⟨l2,_⟩,⟨l3,_⟩,_⟩:=sA.out.zRX lA;obtain⟨_,_,⟨n5,_⟩,⟨n6,_⟩,_⟩:=rA.out.zRX lA
  (try go_wp2_with fail)
  refine hK.out _ _ (by(try dsimp only);go_keep) ?_;clear hK K hHeld;intro hHeld
  try simp only[Act.put,s1,s2,s3]
  refine rd [7] (rc (fun K hK=>?_) .nil);go_simp;go_at_call 226;refine(zBr v0 v1 v2 v3 lo hi W S.rs S.rb _ ?_ HR.out bD.out).mono ?_
  ·exact Hp.out.zRX (zA gC lA)
  rintro e w2 ⟨va,rfl,eC,gA⟩;obtain⟨av,cv,rfl,-⟩:=zY eC;have bB:Below W0.heap.size W0 w2:=zA lA gA;obtain⟨⟨k0,_⟩,⟨k1,_⟩,⟨k2,_⟩,⟨k3,_⟩,⟨k4,_⟩,⟨k5,_⟩⟩:=pA.out.zRX bB;obtain⟨_,_,⟨l2,_⟩,⟨l3,_⟩,_⟩:=sA.out.zRX bB;obtain⟨_,_,⟨n5,_⟩,⟨n6,_⟩,_⟩:=rA.out.zRX bB
  (try go_wp2_with fail)
  refine hK.out _ _ (by(try dsimp only);go_keep) ?_;clear hK K hHeld;intro hHeld
  try simp only[Act.put,s1,s2,s3]
  refine tk 9 (h:=?_);rw[sE]at cD;have aE:=(cD.zRX gB).zRX gA;have mD:=rC.zRX gA;have kD:(W0.drew.alloc (.cells #[.slice none 0 0] 62)).heap.size=W0.heap.size+1:=World.size_alloc _ _;have rE:(W0.alloc (.cells #[.slice none 0 0] 62)).drew.heap.size=W0.heap.size+1:=World.size_alloc _ _;have vE:=gB.size;have rD:Value.ownBlock (.slice tD (zR W.zRd m.rs m.rb).length oD)≠some W0.heap.size:=fun e=>by have:=(rC.lt e).1;omega
  have vD:Value.ownBlock (.slice av (zR W.zRd S.rs S.rb).length cv)≠some W0.heap.size:=fun e=>by have:=(eC.lt e).1;omega
  obtain⟨nD,sD⟩:=aE;refine rd [10] (rc (fun K hK=>?_) .nil);go_simp;have bA:Below W0.heap.size W0 (w2.setCell ⟨W0.heap.size,0,none⟩ (.slice av (zR W.zRd S.rs S.rb).length cv)):=bB.setCell (show W0.heap.size<=W0.heap.size by omega) _;obtain⟨⟨k0,_⟩,⟨k1,_⟩,⟨k2,_⟩,⟨k3,_⟩,⟨k4,_⟩,⟨k5,_⟩⟩:=pA.out.zRX bA;obtain⟨_,_,⟨l2,_⟩,⟨l3,_⟩,_⟩:=sA.out.zRX bA;obtain⟨_,_,⟨n5,_⟩,⟨n6,_⟩,_⟩:=rA.out.zRX bA
  (try go_wp2_with fail)
  refine hK.out _ _ (by(try dsimp only);go_keep) ?_;clear hK K hHeld;intro hHeld
  try simp only[Act.put,s1,s2,s3]
  refine wpAnyH_done (by kernel_rfl) ?_ _;have jA:=zB (show zW (w2.setCell ⟨W0.heap.size,0,none⟩ (.slice av (zR W.zRd S.rs S.rb).length cv)) W0.heap.size 0 (.slice av (zR W.zRd S.rs S.rb).length cv)from zW.set ⟨nD,sD⟩ _);have cB:=zB ((mD.putNe rD 0 (.slice av (zR W.zRd S.rs S.rb).length cv)).mono (Nat.zero_le _));have eB:=zB ((eC.putNe vD 0 (.slice av (zR W.zRd S.rs S.rb).length cv)).mono (Nat.zero_le _));have tC:=zB (pA.out.zRX bA);have jB:=zB (sA.out.zRX bA);have aC:=zB (rA.out.zRX bA);have cC:=zA gC bA;clear bA hHeld
  as_aux_lemma=>
  generalize (w2.setCell ⟨W0.heap.size,0,none⟩ (.slice av (zR W.zRd S.rs S.rb).length cv))=wz at jA cB eB tC jB aC cC ⊢;generalize W0.heap.size=T at jA ⊢;have nE:=qN W.zRd m.rs m.rb;have gE:=qN W.zRd S.rs S.rb;have fD:=zB (show qm (zR W.zRd m.rs m.rb).length (zf (zR W.zRd m.rs m.rb)) (zh (zR W.zRd m.rs m.rb))from zBH HR.out (fun x hx=>(zAb HR.out rB.out hx).1) (zAj HR.out rB.out) (by omega));have dB:=zB (zK0 W m S);clear rB bD HR Hp tC;generalize zR W.zRd m.rs m.rb=tree at *;generalize zR W.zRd S.rs S.rb=old at *;have jE:(qO tree old).length<=tree.length:=List.length_filter_le _ _;have pE:(zAQ tree old).length<=tree.length:=List.length_filter_le _ _;have eE:(zAQ old (qO tree old)).length<=old.length:=List.length_filter_le _ _;have kE:(zAR tree S.time).length<=tree.length:=List.length_filter_le _ _;have fE:∀(fn:Fn) (first vC:Array Value) (w:World),(Instr.makeFunc fn first vC).run Tryz.prog w = .ok (.func fn first vC) w:=fun _ _ _ _=>rfl
  go_wp2_with fail;refine(zDN _ _ 0 _ 0 _ T tree old wz (cB.out.atW (by omega)) (by omega) (eB.out.atW (by omega)) jA.out.1).mono ?_;rintro e w3 ⟨vk,vo,rfl,dC,kB,-,cA⟩;obtain⟨ak,ck,rfl,-⟩:=zY dC;obtain⟨ao,co,rfl,-⟩:=zY kB;have aA:=zC w3 (.cells #[.slice ak (qO tree old).length ck] 62);have fA:=zB ((jA.out.zRX cA).zRX aA);have dA:=zB ((cB.out.zRX cA).zRX aA);have eA:=zB ((eB.out.zRX cA).zRX aA);have mB:=zB (dC.zRX aA);have pB:=zB (kB.zRX aA);have tB:=zB ((jB.out.zRX cA).zRX aA);have lB:=zB ((aC.out.zRX cA).zRX aA);have tA:=zB (show zW (w3.alloc (.cells #[.slice ak (qO tree old).length ck] 62)) w3.heap.size 0 (.slice ak (qO tree old).length ck)from zJ (heap_alloc_new _ _) rfl);have sB:=zA (zA cC cA) aA;clear dC kB cA aA jA cB eB jB aC cC;obtain⟨c0,-⟩:=fA.out;go_wp2_with fail;clear c0;generalize w3.alloc (.cells #[.slice ak (qO tree old).length ck] 62)=w4 at fA dA eA mB pB tB lB tA sB ⊢;generalize w3.heap.size=T9 at tA ⊢;refine(zDq _ _ 0 _ 0 _ T9 old (qO tree old) w4 (eA.out.atW (by omega)) (by omega) (mB.out.atW (by omega)) tA.out.1).mono ?_;rintro e w5 ⟨vx,dE,rfl,-,iB,-,iA⟩;obtain⟨bE,mE,rfl,-⟩:=zY iB;have mA:=zB (dA.out.zRX iA);have oC:=zB (pB.out.zRX iA);have iC:=zB (tB.out.zRX iA);have kC:=zB (lB.out.zRX iA);have oA:=zB iB;have pC:=zA sB iA;clear iB iA fA dA eA mB pB tB lB tA sB;obtain⟨-,⟨c4,-⟩,-⟩:=kC.out;go_wp2_with fail;clear c4;refine(zA4 _ tree.length 0 _ (zf tree) (zh tree) S.time w5 (mA.out.atW (by omega))).mono ?_;rintro e w6 ⟨vy,vz,ly,lz,rfl,hY,-,hy,-,-,kA⟩;rw[(hY.1 ⟨fD.out,jD.out⟩).trans (zFj tree S.time)]at hy;have eD:∀w,(Instr.field 201 (.agg #[vy,vz]) 0).run Tryz.prog w = .ok vy w:=zD2 vy vz;have sC:=zB hy;have mC:=zB (oC.out.zRX kA);have nB:=zB (iC.out.zRX kA);have nA:=zB (oA.out.zRX kA);have vB:=zA pC kA;clear hY hy kA mA oC iC kC oA pC;obtain⟨-,⟨c1,-⟩,-,⟨c3,-⟩,⟨c5,-⟩⟩:=nB.out;by_cases h1:m.rb<=m.time;rotate_left
  ·have Hn:=zB (show ¬zJC W m S from fun h=>h1 (dB.out.1 h).1);go_wp2;go_ret;exact⟨zG.no Hn.out,vB⟩
  have H1:=zB h1;go_wp2_with fail;clear h1 c1 c3 c5 eD;refine(yh _ _ _ 0 _ _ 0 _ _ _ _ _ w6 (sC.out.atW (by omega)) (mC.out.atW (by omega))).mono ?_;rintro e w7 ⟨⟨t7,rfl,lC⟩,aB⟩;have iD:=zB (nB.out.zRX aB);have oB:=zB (nA.out.zRX aB);have bC:=zA vB aB;have vA:=zB lC;clear lC aB sC mC nB nA vB;obtain⟨-,⟨c1,-⟩,-,⟨c3,-⟩,⟨c5,-⟩⟩:=iD.out;cases t7
  ·have Hn:=zB (show ¬zJC W m S from fun h=>absurd (vA.out.2 (dB.out.1 h).2.1) (by simp));clear vA;go_wp2;go_ret;exact⟨zG.no Hn.out,bC⟩
  have H2:=zB (vA.out.1 rfl);clear vA;go_wp2_with fail;clear c1 c3 c5;refine(yh _ _ _ lo hi _ 0 _ _ _ _ _ w7 (lD.out.zRX bC) (oB.out.atW (by omega))).mono ?_;rintro e w8 ⟨⟨t8,rfl,jC⟩,nC⟩;have gD:=zB (jC.trans ⟨fun h=>dB.out.2 ⟨H1.out,H2.out,h⟩,fun h=>(dB.out.1 h).2.2⟩);have dD:=zA bC nC;clear jC nC;go_wp2;go_ret;exact⟨⟨t8,rfl,gD.out⟩,dD⟩
theorem zQ1{W:zH}(h:∀i,i<zq W->qG W.zRd (zO W i).rs (zO W i).rb)(x:Int):qG W.zRd (zN W x).rs (zN W x).rb:=by
 by_cases hx:∃k,qs W x k
 ·obtain⟨k,hk⟩:=hx;rw[qu hk];have:=h k (by unfold zq;have:=hk.1;omega);rw[qQ hk.1]at this;exact this
 ·have:zN W x=yL:=by
   unfold zN;rw[dif_neg hx]
  rw[this];exact Or.inl ⟨rfl,rfl⟩
def zNs(W:zH)(i:Nat):Prop:=zJC W (zO W i) (zN W (zO W i).zRh)
def zPu(W:zH):Prop:=(∀i,i<zq W->qG W.zRd (zO W i).rs (zO W i).rb)/\∀i,i<zq W->zNs W i
def zKs(W:zH):Prop:=∀x,zCG (zN W x).time
theorem zIG(v0 v1 v2 v3:Value)(lo hi:Nat)(W:zH)(A:Nat)(w:World)(h:zk w lo hi v0 v1 v2 v3 W)(hs:W.sn<=8)(hp:W.pn<=20)(hA:zBZ w lo hi W A)(hD:zCT W)(sA:zCS W)(hR:zx W.zRd)(hT:zKs W) :
  Calls Tryz.prog 207 #[zz v0 v1 v2 v3 W,zGl A] w fun e w'=>zG (zPu W) e/\Below w.heap.size w w':=by
 have Hp:=zB h;have HA:=zB hA;have HD:=zB hD;have mB:=zB sA;have HR:=zB hR;have eB:=zB hT;clear h hA hD sA hR hT;have ha:=zC w (.cells #[v0,v1,.int .i64 W.time,.int .i64 W.next,v2,v3] 37);have HB:=zB (zi.zRZ w v0 v1 (.int .i64 W.time) (.int .i64 W.next) v2 v3 37);obtain⟨⟨x0,-⟩,⟨x2,-⟩,⟨x4,-⟩,⟨x6,-⟩,⟨x8,-⟩,⟨kB,-⟩⟩:=HB.out;go_enter Tryz.func207,Tryz.ntmps207;go_wp2_with fail;clear x0 x2 x4 x6 x8 kB;generalize w.alloc (.cells #[v0,v1,.int .i64 W.time,.int .i64 W.next,v2,v3] 37)=W0 at ha HB ⊢;refine(zDL v0 v1 v2 v3 lo hi W W0 (Hp.out.zRX ha) hs hp).mono ?_;rintro e w1 ⟨vm,vd,rfl,hm,pA⟩;have HM:=zB hm;have rA:=zB (HB.out.zRX pA);have jA:=zA ha pA;obtain⟨am,cm,rfl,oB⟩:=id hm.form;have pB:zq W<=28:=by unfold zq;omega
 clear ha pA hm HB;go_wp2
 go_loopw [14] (fun i wr=>∃k:Nat,k<=zq W/\i = .int .i64 k/\(∀j,j<k->qG W.zRd (zO W j).rs (zO W j).rb)/\Below w1.heap.size w1 wr) (fun i _=>zq W - (intOf i).toNat)
 case atStart=>exact⟨0,Nat.zero_le _,rfl,fun j hj=>absurd hj (Nat.not_lt_zero _),Below.refl _ _⟩
 case round=>
  obtain⟨k,hk,rfl,cA,hb⟩:=hrel;have aA:=zB cA;clear cA;by_cases bA:k<zq W
  ·have oA:(k:Int)<(zq W:Int):=(by omega);obtain⟨g,cg,e,q0,q1,q2,q3,q4⟩:=(HM.out.zRX hb).cells k bA;obtain⟨-,ad,cd,lA,-,-⟩:=id ((HM.out.zRX hb).zRl k bA);rw[lA]at q4;cases e;have fA:=zC wr (.cells #[.int .i64 (zO W k).zRh,.int .i64 (zO W k).time,.int .i64 (zO W k).rs,.int .i64 (zO W k).rb,.slice ad (zO W k).dn cd] 224);have HV:=zB (zEM.zRZ wr (.int .i64 (zO W k).zRh) (.int .i64 (zO W k).time) (.int .i64 (zO W k).rs) (.int .i64 (zO W k).rb) (.slice ad (zO W k).dn cd) 224);have gA:=zB ((rA.out.zRX hb).zRX fA);have eA:=zA hb fA;clear lA fA;obtain⟨⟨y0,-⟩,⟨y1,-⟩,⟨y2,-⟩,⟨y3,-⟩,⟨y4,-⟩⟩:=HV.out;obtain⟨⟨x0,-⟩,⟨x2,-⟩,-⟩:=gA.out;go_wp2_with fail;clear q0 q1 q2 q3 q4 y0 y1 y2 y3 y4 x0 x2;refine(zFE v0 v1 lo hi W.zRd (zO W k).rs (zO W k).rb _ (Hp.out.zRd.zRX (zA jA eA)) HR.out).mono ?_;rintro e w6 ⟨⟨t6,rfl,cB⟩,kA⟩;have Ht:=zB (cB.trans (zGL HR.out));have iA:=zA eA kA;clear cB kA eA HV gA;cases t6
   ·have Hn:=zB (show ¬qG W.zRd (zO W k).rs (zO W k).rb from fun hA=>absurd (Ht.out.2 hA) (by simp));clear Ht;go_wp2;go_ret;exact⟨zG.no fun hA=>Hn.out (hA.1 k bA),zA jA iA⟩
   ·have Hn:=zB (Ht.out.1 rfl);clear Ht;go_wp2;go_roundw
    case rel=>exact⟨k+1,by omega,by go_num,zo bA aA.out Hn.out,iA⟩
    case measure=>simp[intOf];omega
  obtain rfl:k=zq W:=(by omega);have nA:=zB aA.out;clear aA bA hk;go_wp2
  go_loopw [27] (fun i wr=>∃k:Nat,k<=zq W/\i = .int .i64 k/\(∀j,j<k->zNs W j)/\Below w1.heap.size w1 wr) (fun i _=>zq W - (intOf i).toNat)
  case atStart=>exact⟨0,Nat.zero_le _,rfl,fun j hj=>absurd hj (Nat.not_lt_zero _),hb⟩
  case round=>
   clear hb;obtain⟨k,hk,rfl,cA,hb⟩:=hrel;have aA:=zB cA;clear cA;by_cases bA:k<zq W;rotate_left
   ·obtain rfl:k=zq W:=(by omega);go_wp2;go_ret;exact⟨zG.yes ⟨nA.out,aA.out⟩,zA jA hb⟩
   have oA:(k:Int)<(zq W:Int):=(by omega);obtain⟨g,cg,e,q0,q1,q2,q3,q4⟩:=(HM.out.zRX hb).cells k bA;have mA:=(HM.out.zRX hb).zRl k bA;obtain⟨-,ad,cd,lA,-,-⟩:=id mA;rw[lA]at q4 mA;cases e;have fA:=zC wr (.cells #[.int .i64 (zO W k).zRh,.int .i64 (zO W k).time,.int .i64 (zO W k).rs,.int .i64 (zO W k).rb,.slice ad (zO W k).dn cd] 224);have HV:=zB (zEM.zRZ wr (.int .i64 (zO W k).zRh) (.int .i64 (zO W k).time) (.int .i64 (zO W k).rs) (.int .i64 (zO W k).rb) (.slice ad (zO W k).dn cd) 224);have gA:=zB ((rA.out.zRX hb).zRX fA);have vA:=zB (mA.zRX fA);have eA:=zA hb fA;have bB:=zB (HA.out.zRX (zA jA eA));have tA:=zB (Hp.out.zRX (zA jA eA));have iB:=zB (mB.out k bA);have fB:=zB (nA.out k bA);have gB:=zB (zQ1 nA.out (zO W k).zRh);have jB:=zB (eB.out (zO W k).zRh);have nB:=zB (show zNs W k↔zJC W (zO W k) (zN W (zO W k).zRh)from Iff.rfl);clear lA fA mA;generalize zO W k=mk at *;go_wp2_with fail;clear q0 q1 q2 q3 q4;generalize wr.alloc (.cells #[.int .i64 mk.zRh,.int .i64 mk.time,.int .i64 mk.rs,.int .i64 mk.rb,.slice ad mk.dn cd] 224)=W2 at HV gA vA bB tA eA ⊢;generalize wr.heap.size=V at HV ⊢;obtain⟨⟨y0,-⟩,⟨y1,-⟩,⟨y2,-⟩,⟨y3,-⟩,⟨y4,-⟩⟩:=HV.out;obtain⟨⟨x0,-⟩,⟨x1,-⟩,⟨x2,-⟩,⟨x3,-⟩,⟨x4,-⟩,⟨x5,-⟩⟩:=gA.out;go_region_held3 (fun w'=>w'.cell? ⟨w.heap.size,0,none⟩=some v0/\w'.cell? ⟨w.heap.size,1,none⟩=some v1/\w'.cell? ⟨w.heap.size,2,none⟩=some (.int .i64 W.time)/\w'.cell? ⟨w.heap.size,3,none⟩=some (.int .i64 W.next)/\w'.cell? ⟨w.heap.size,4,none⟩=some v2/\w'.cell? ⟨w.heap.size,5,none⟩=some v3/\w'.cell? ⟨V,0,none⟩=some (.int .i64 mk.zRh)/\w'.cell? ⟨V,1,none⟩=some (.int .i64 mk.time)/\w'.cell? ⟨V,2,none⟩=some (.int .i64 mk.rs)/\w'.cell? ⟨V,3,none⟩=some (.int .i64 mk.rb)/\w'.cell? ⟨V,4,none⟩=some (.slice ad mk.dn cd)) (go_keep)
    (first
     | (go_at_call 190;refine(zBp lo hi W A mk.zRh _ ?_ HD.out iB.out hp).mono ?_;(exact bB.out.zRX (Below.refl _ _).drew);rintro e w6 ⟨aa,ca,rfl,lB,kA⟩;have dA:=zK kA;obtain⟨⟨k0,_⟩,⟨k1,_⟩,⟨k2,_⟩,⟨k3,_⟩,⟨k4,_⟩,⟨k5,_⟩⟩:=gA.out.zRX dA;obtain⟨⟨l0,_⟩,⟨l1,_⟩,⟨l2,_⟩,⟨l3,_⟩,⟨l4,_⟩⟩:=HV.out.zRX dA)
     | (go_at_call 225;refine(zHO v0 v1 v2 v3 lo hi W mk (zN W mk.zRh) ad aa cd ca _ (tA.out.zRX dA) HR.out fB.out gB.out (vA.out.zRX dA) jB.out).mono ?_;rintro e w7 ⟨⟨t7,rfl,aB⟩,iA⟩;obtain⟨⟨f0,_⟩,⟨f1,_⟩,⟨f2,_⟩,⟨f3,_⟩,⟨f4,_⟩,⟨f5,_⟩⟩:=(gA.out.zRX dA).zRX iA;obtain⟨⟨g0,_⟩,⟨g1,_⟩,⟨g2,_⟩,⟨g3,_⟩,⟨g4,_⟩⟩:=(HV.out.zRX dA).zRX iA))
   have dB:=zA (zA eA dA) iA;have Ht:=zB (aB.trans nB.out.symm);clear aB iA dA kA lB k0 k1 k2 k3 k4 k5 l0 l1 l2 l3 l4 f0 f1 f2 f3 f4 f5 g0 g1 g2 g3 g4 x0 x1 x2 x3 x4 x5 y0 y1 y2 y3 y4;cases t7
   ·have Hn:=zB (show ¬zNs W k from fun hA=>absurd (Ht.out.2 hA) (by simp));clear Ht;go_wp2;go_ret;exact⟨zG.no fun hA=>Hn.out (hA.2 k bA),zA jA dB⟩
   ·have Hn:=zB (Ht.out.1 rfl);clear Ht;go_wp2;go_roundw
    case rel=>exact⟨k+1,by omega,by go_num,zo bA aA.out Hn.out,dB⟩
    case measure=>simp[intOf];omega
theorem zQH(s t:ByteArray):(s.toList == t.toList)=true↔s=t:=⟨fun h=>zPZ (by simpa using h),fun h=>zCv h⟩
theorem zOB(a:Option Addr)(c:Nat)(s:zl)(name:ByteArray)(T:Nat)(w:World)(hT:w.cell? ⟨T,0,none⟩=some (.string name)) :
  Calls Tryz.prog 230 #[ye (.slice a s.dn c) s,.pointer (some ⟨T,0,none⟩)] w fun e w'=>zG (s.set=name) e/\Below w.heap.size w w':=by
 unfold ye;have bA:=zC w (.cells #[.int .i64 s.id,.string s.name,.string s.set,.int .i64 s.zRh,.int .i64 s.time,.int .i64 s.rs,.int .i64 s.rb,.slice a s.dn c] 99);have cA:=(bA.cell (p:=⟨T,0,none⟩) (zD hT)).trans hT;obtain⟨⟨⟨y0,-⟩,⟨y1,-⟩,⟨y2,-⟩,⟨y3,-⟩⟩,-⟩:=zCP.zRZ w (.int .i64 s.id) (.string s.name) (.string s.set) (.int .i64 s.zRh) (.int .i64 s.time) (.int .i64 s.rs) (.int .i64 s.rb) (.slice a s.dn c) 99;clear hT;have aA:=zB (zQH s.set name);go_enter Tryz.func230,Tryz.ntmps230;go_wp2;go_ret;exact⟨⟨_,rfl,aA.out⟩,bA⟩
def zGf(w:World)(base:Nat)(v:Value)(n:Nat):Prop:=∃xs,w.ownsRow base 99 8 v n xs
theorem zGf.zRX{w w1:World}{base:Nat}{v:Value}{n:Nat}(h:zGf w base v n)(hb:Below w.heap.size w w1):zGf w1 base v n:=by
 obtain⟨xs,h⟩:=h;exact⟨xs,h.kept (yt hb none) (by cases v.ownBlock<;>simp)⟩
theorem zGf.lt{w:World}{base:Nat}{v:Value}{n:Nat}(h:zGf w base v n){q:Nat}(hq:v.ownBlock=some q):base<=q/\q<w.heap.size:=by
 obtain⟨xs,h⟩:=h;rcases h.2 with⟨rfl,_⟩ | ⟨g,aA,bA,rfl,hb,hg,_⟩
 ·simp[Value.ownBlock]at hq
 ·simp only[Value.ownBlock,Option.some.injEq]at hq;subst hq;exact⟨hb,(Array.getElem?_eq_some_iff.1 hg).1⟩
theorem zGf.zRf{w w1:World}{base:Nat}{v:Value}{n:Nat}{row:Option Nat}(h:zGf w base v n)(hg:w.grownBy w1 row)(aA:∀q,v.ownBlock=some q->row≠some q):zGf w1 base v n:=by
 obtain⟨xs,h⟩:=h;refine⟨xs,h.kept hg ?_⟩;cases hv:v.ownBlock with
 | none=>simp
 | some q=>exact Or.inr (fun e=>aA q hv e.symm)
theorem zOC:(Tryz.prog.info? 99).map (fun i=>(i.zero,i.size,i.bytes))=some (some (.agg #[.int .i64 0,.string ⟨#[]⟩,.string ⟨#[]⟩,.int .i64 0,.int .i64 0,.int .i64 0,.int .i64 0,.slice none 0 0]),8,96):=by kernel_rfl
def zRT(w w':World)(v v':Value)(n n':Nat):Prop:=zGf w' w.heap.size v n/\zGf w' w.heap.size v' n'/\(∀q,v.ownBlock=some q->v'.ownBlock≠some q)/\Below w.heap.size w w'
theorem zJM{w1 w2:World}{base g bA n n':Nat}{v v':Value}{xs:List Value}(h':zGf w1 base v' n')(ha:∀q,v.ownBlock=some q->v'.ownBlock≠some q)
  (aA:w2.ownsRow base 99 8 (.slice (some ⟨g,0,none⟩) (n+1) bA) (n+1) xs) (hg:w1.grownBy w2 v.ownBlock) (cA:v.ownBlock=some g\/g=w1.heap.size) :
  zGf w2 base (.slice (some ⟨g,0,none⟩) (n+1) bA) (n+1)/\zGf w2 base v' n'/\(∀q,(Value.slice (some ⟨g,0,none⟩) (n+1) bA).ownBlock=some q->v'.ownBlock≠some q):=by
 refine⟨⟨xs,aA⟩,h'.zRf hg (fun q hq e=>ha q e hq),fun q hq e=>?_⟩;simp only[Value.ownBlock,Option.some.injEq]at hq;subst hq;rcases cA with h | h
 ·exact ha _ h e
 ·have:=(h'.lt e).2;omega
theorem zKI(v:Value)(lo hi:Nat)(W:zH)(name:ByteArray)(T:Nat)(w:World)(h:qw w lo hi v W.pn W.zRe)(hn:W.pn<=20)(hT:w.cell? ⟨T,0,none⟩=some (.string name)) :
  Calls Tryz.prog 229 #[v,.func (.func 230) #[] #[.pointer (some ⟨T,0,none⟩)]] w fun e w'=>∃a c vo,e = .returned (.tuple #[.slice a (yr W name W.pn) c,vo])/\Below w.heap.size w w':=by
 have Hp:=zB h;have HT:=zB hT;obtain⟨m1,a,c,rfl,mc,-⟩:=id h;unfold maxLen at m1;clear h hT;obtain⟨i0,aB,oA⟩:=Option.map_eq_some_iff.1 zOC;simp only[Prod.mk.injEq]at oA;have HI:=zB (And.intro aB oA);clear aB oA;have kB:∀(fn:Fn) (first cB:Array Value) (w:World),(Instr.makeFunc fn first cB).run Tryz.prog w = .ok (.func fn first cB) w:=fun _ _ _ _=>rfl
 go_enter Tryz.func229,Tryz.ntmps229;go_wp2
 go_loopw [6,7,12] (fun vy vo i wr=>∃k:Nat,k<=W.pn/\i = .int .i64 k/\zRT w wr vy vo (yr W name k) (k - yr W name k)) (fun _ _ i _=>W.pn - (intOf i).toNat)
 case atStart=>exact⟨0,Nat.zero_le _,rfl,⟨[],World.ownsRow_nil _ _ _ _⟩,⟨[],World.ownsRow_nil _ _ _ _⟩,fun q hq=>by simp[Value.ownBlock]at hq,Below.refl _ _⟩
 case round=>
  obtain⟨k,hk,rfl,hy,ho,tA,hb⟩:=hrel;have Hy:=zB hy;have Ho:=zB ho;have bB:=zB tA;have iB:=zHc W name k;clear hy ho tA;by_cases jB:k<W.pn
  ·have fB:(k:Int)<(W.pn:Int):=(by omega);obtain⟨b,off,vd,rfl,cA⟩:=(Hp.out.zRX hb).cells jB;obtain⟨-,ad,cd,rfl,-,-⟩:=id cA.zRl;have jA:=zC wr (.cells #[.int .i64 (W.zRe k).id,.string (W.zRe k).name,.string (W.zRe k).set,.int .i64 (W.zRe k).zRh,.int .i64 (W.zRe k).time,.int .i64 (W.zRe k).rs,.int .i64 (W.zRe k).rb,.slice ad (W.zRe k).dn cd] 99);have HV:=zB (zCP.zRZ wr (.int .i64 (W.zRe k).id) (.string (W.zRe k).name) (.string (W.zRe k).set) (.int .i64 (W.zRe k).zRh) (.int .i64 (W.zRe k).time) (.int .i64 (W.zRe k).rs) (.int .i64 (W.zRe k).rb) (.slice ad (W.zRe k).dn cd) 99);have mA:=zA hb jA;have sA:=zB ((mA.cell (p:=⟨T,0,none⟩) (zD HT.out)).trans HT.out);have q0:=cA.c0;have q1:=cA.c1;have q2:=cA.c2;have q3:=cA.c3;have q4:=cA.c4;have q5:=cA.c5;have q6:=cA.c6;have q7:=cA.c7;obtain⟨⟨⟨y0,-⟩,⟨y1,-⟩,⟨y2,-⟩,⟨y3,-⟩⟩,⟨y4,-⟩,⟨y5,-⟩,⟨y6,-⟩,⟨y7,-⟩⟩:=HV.out;clear cA;go_wp2_with fail;clear q0 q1 q2 q3 q4 q5 q6 q7 y0 y1 y2 y3 y4 y5 y6 y7;refine(zOB ad cd (W.zRe k) name T _ sA.out).mono ?_;rintro e w1 ⟨⟨s,rfl,hs⟩,gA⟩;have dB:=zB ((Hy.out.zRX jA).zRX gA);have eB:=zB ((Ho.out.zRX jA).zRX gA);have gB:=zB (HV.out.zRX gA);have vA:=zA mA gA;clear gA mA jA Hy Ho HV sA;have mB:=vA.size;obtain⟨⟨⟨y0,-⟩,⟨y1,-⟩,⟨y2,-⟩,⟨y3,-⟩⟩,⟨y4,-⟩,⟨y5,-⟩,⟨y6,-⟩,⟨y7,-⟩⟩:=gB.out;have fA:=zC w1 (.cells #[.int .i64 (W.zRe k).id,.string (W.zRe k).name,.string (W.zRe k).set,.int .i64 (W.zRe k).zRh,.int .i64 (W.zRe k).time,.int .i64 (W.zRe k).rs,.int .i64 (W.zRe k).rb,.slice ad (W.zRe k).dn cd] 99);have lA:=zB (dB.out.zRX fA);have pA:=zB (eB.out.zRX fA);have iA:=zA vA fA;have lB:=fA.size;have HN:=zB (World.news_of_block (heap_alloc_last w1 (.cells #[.int .i64 (W.zRe k).id,.string (W.zRe k).name,.string (W.zRe k).set,.int .i64 (W.zRe k).zRh,.int .i64 (W.zRe k).time,.int .i64 (W.zRe k).rs,.int .i64 (W.zRe k).rb,.slice ad (W.zRe k).dn cd] 99)));clear fA;by_cases hq:(W.zRe k).set=name
   ·obtain rfl:s=true:=hs.2 hq;have ey:=zB (zHg hq);clear hs hq;obtain⟨xs,dA⟩:=lA.out;have nA:=zB dA;clear dA;go_wp2_with (first
     | (at_builtin;refine wpList_append_lies _ rfl _ _ 35 rfl w.heap.size 99 i0 (.agg #[.int .i64 0,.string ⟨#[]⟩,.string ⟨#[]⟩,.int .i64 0,.int .i64 0,.int .i64 0,.int .i64 0,.slice none 0 0]) 8 96 (by kernel_rfl) HI.out.1 HI.out.2.1 HI.out.2.2.1 HI.out.2.2.2 rfl (by decide) _ _ _ rfl nA.out ⟨w1.heap.size,0,none⟩ 1 1 [.int .i64 (W.zRe k).id,.string (W.zRe k).name,.string (W.zRe k).set,.int .i64 (W.zRe k).zRh,.int .i64 (W.zRe k).time,.int .i64 (W.zRe k).rs,.int .i64 (W.zRe k).rb,.slice ad (W.zRe k).dn cd] rfl rfl HN.out (by simp[Value.oneCell']) (by decide) (by unfold maxLen;omega) (by omega) (by omega) _ rfl ?_;intro g' kA w4 bA aA eA rA)
     | go_in)
    go_roundw
    case rel=>
     obtain⟨r1,r2,r3⟩:=zJM pA.out bB.out bA aA eA;refine⟨k+1,by omega,by go_num,by rw[ey.out];exact r1,?_,r3,iA.grown aA iA.size (fun q hq=>(lA.out.lt hq).1)⟩;rw[ey.out,show k+1 - (yr W name k+1)=k - yr W name k by omega];exact r2
    case measure=>simp[intOf];omega
   ·obtain rfl:s=false:=zQ hs hq;have ey:=zB (zKw hq);clear hs hq;obtain⟨xs,dA⟩:=pA.out;have nA:=zB dA;clear dA;go_wp2_with (first
     | (at_builtin;refine wpList_append_lies _ rfl _ _ 35 rfl w.heap.size 99 i0 (.agg #[.int .i64 0,.string ⟨#[]⟩,.string ⟨#[]⟩,.int .i64 0,.int .i64 0,.int .i64 0,.int .i64 0,.slice none 0 0]) 8 96 (by kernel_rfl) HI.out.1 HI.out.2.1 HI.out.2.2.1 HI.out.2.2.2 rfl (by decide) _ _ _ rfl nA.out ⟨w1.heap.size,0,none⟩ 1 1 [.int .i64 (W.zRe k).id,.string (W.zRe k).name,.string (W.zRe k).set,.int .i64 (W.zRe k).zRh,.int .i64 (W.zRe k).time,.int .i64 (W.zRe k).rs,.int .i64 (W.zRe k).rb,.slice ad (W.zRe k).dn cd] rfl rfl HN.out (by simp[Value.oneCell']) (by decide) (by unfold maxLen;omega) (by omega) (by omega) _ rfl ?_;intro g' kA w4 bA aA eA rA)
     | go_in)
    go_roundw
    case rel=>
     obtain⟨r1,r2,r3⟩:=zJM lA.out (fun q h h'=>bB.out q h' h) bA aA eA;refine⟨k+1,by omega,by go_num,by rw[ey.out];exact r2,?_,fun q h h'=>r3 q h' h,iA.grown aA iA.size (fun q hq=>(pA.out.lt hq).1)⟩;rw[ey.out,show k+1 - yr W name k=k - yr W name k+1 by omega];exact r1
    case measure=>simp[intOf];omega
  ·obtain rfl:k=W.pn:=(by omega);obtain⟨xs,dA⟩:=Hy.out;obtain⟨ay,cy,rfl,-⟩:=zY dA;clear dA;go_wp2
   go_ret2
   exact⟨ay,cy,_,rfl,hb⟩
theorem zOb{W:zH}{name:ByteArray}(aA:name.toList.isEmpty=false)(y:Int):(zN W y).set=name↔zF2 W name y:=by
 constructor
 ·intro h;by_cases hx:∃k,qs W y k
  ·obtain⟨k,hk⟩:=hx;rw[qu hk]at h;exact⟨k,hk,h⟩
  ·have e:zN W y=yL:=(by unfold zN;rw[dif_neg hx]);rw[e]at h;rw[<-h]at aA;have h0:yL.set.toList = []:=(by rw[Go.ByteArray.toList_eq];rfl);rw[h0]at aA;exact absurd aA (by decide)
 ·rintro⟨k,hk,h⟩;rw[qu hk];exact h
theorem zCo.wf{W:zH}{name:ByteArray}{start:Int}{n:Nat}{y:Int}(h:zCo W name start n y):(Lit.int .i64 y).wf=true:=by
 have h1:=h.least;have h2:=h.sum;exact WalkArith.wf_i64 (by omega)
theorem zIq(v0 v1 v2 v3:Value)(lo hi:Nat)(W:zH)(A:Nat)(sa:Option Addr)(sc:Nat)(S:qD)(w:World)(h:zk w lo hi v0 v1 v2 v3 W)(hp:W.pn<=20)(hA:zBZ w lo hi W A)(hD:zCT W)(hP:zCJ W)(aB:S.name.toList.isEmpty=false)(hS:S.zRh=0\/ql W S.zRh) :
  Calls Tryz.prog 224 #[zz v0 v1 v2 v3 W,zDZ (.slice sa S.dn sc) S,zGl A] w fun e w'=>zG (zBh W S.name S.zRh S.origin) e/\Below w.heap.size w w':=by
 unfold zDZ;have Hp:=zB h;have HA:=zB hA;have HD:=zB hD;have HP:=zB hP;have cA:=zB (zOb (W:=W) aB);have lB:=zB hS;clear h hA hD hP aB hS;have nB:∀(fn:Fn) (first dB:Array Value) (w:World),(Instr.makeFunc fn first dB).run Tryz.prog w = .ok (.func fn first dB) w:=fun _ _ _ _=>rfl
 have ha:=zC w (.cells #[v0,v1,.int .i64 W.time,.int .i64 W.next,v2,v3] 37);have hB:=zi.zRZ w v0 v1 (.int .i64 W.time) (.int .i64 W.next) v2 v3 37;have hz:(w.alloc (.cells #[v0,v1,.int .i64 W.time,.int .i64 W.next,v2,v3] 37)).heap.size=w.heap.size+1:=World.size_alloc _ _;have lA:=zC (w.alloc (.cells #[v0,v1,.int .i64 W.time,.int .i64 W.next,v2,v3] 37)) (.cells #[.string S.name,.int .i64 S.origin,.int .i64 S.zRh,.int .i64 S.rs,.int .i64 S.rb,.slice sa S.dn sc] 67);have hT:=zi.zRZ (w.alloc (.cells #[v0,v1,.int .i64 W.time,.int .i64 W.next,v2,v3] 37)) (.string S.name) (.int .i64 S.origin) (.int .i64 S.zRh) (.int .i64 S.rs) (.int .i64 S.rb) (.slice sa S.dn sc) 67;rw[hz]at hT;have HT:=zB hT;have gA:=zA ha lA;obtain⟨⟨x0,-⟩,⟨x2,-⟩,⟨x4,-⟩,⟨x6,-⟩,⟨x8,-⟩,⟨jB,-⟩⟩:=hB.zRX lA;clear hT ha lA hB;go_enter Tryz.func224,Tryz.ntmps224;go_wp2_with fail;clear x0 x2 x4 x6 x8 jB;generalize (w.alloc (.cells #[v0,v1,.int .i64 W.time,.int .i64 W.next,v2,v3] 37)).alloc (.cells #[.string S.name,.int .i64 S.origin,.int .i64 S.zRh,.int .i64 S.rs,.int .i64 S.rb,.slice sa S.dn sc] 67)=W0 at HT gA ⊢;refine(zKI v3 lo hi W S.name (w.heap.size+1) W0 (Hp.out.zRe.zRX gA) hp HT.out.1.1).mono ?_;rintro e w1 ⟨ay,cy,vo,rfl,pA⟩;have kA:=zB (HT.out.zRX pA);have sA:=zA gA pA;have oB:=zHc W S.name W.pn;clear HT gA pA hz;obtain⟨⟨y0,-⟩,⟨y1,-⟩,⟨y2,-⟩,-⟩:=kA.out;go_wp2;clear y0 y1 y2;generalize w.heap.size+1=T at *
 go_loopw [9,10] (fun x i wr=>∃(n:Nat) (y:Int),i = .int .i64 n/\x = .int .i64 y/\zCo W S.name S.zRh n y/\zi wr T (.string S.name) (.int .i64 S.origin) (.int .i64 S.zRh) (.int .i64 S.rs) (.int .i64 S.rb) (.slice sa S.dn sc)/\Below w.heap.size w wr) (fun x _ _=>(intOf x).toNat)
 case atStart=>exact⟨0,_,rfl,rfl,zCo.start HP.out _ lB.out,kA.out,sA⟩
 case round=>
  clear kA sA;obtain⟨n,y,rfl,rfl,hw,hT,hb⟩:=hrel;have HT:=zB hT;have Hw:=zB hw;have nA:=zB hw.wf;have kB:=hw.sum;have rB:=hw.least;clear hT hw;have fA:=zB (HA.out.zRX hb);obtain⟨⟨y0,-⟩,⟨y1,-⟩,-⟩:=HT.out;by_cases hq:(zN W y).set=S.name
  ·obtain⟨kk,eA,rA⟩:=(cA.out y).1 hq;have cB:=zB (Hw.out.next HP.out eA rA);have fB:=zB (show(W.zRe kk).zRh<y by have h1:=HP.out.less kk eA.1;have h2:=eA.2.1;omega);have eB:=zB (show(zN W y).zRh=(W.zRe kk).zRh by rw[qu eA]);have Hq:=zB hq;clear eA rA hq;go_wp2_with fail;go_region_held3 (fun w'=>w'.cell? ⟨T,0,none⟩=some (.string S.name)) (go_keep)
    (first | (go_at_call 190;refine(zBp lo hi W A y _ ?_ HD.out nA.out hp).mono ?_;(exact fA.out.zRX (Below.refl _ _).drew);rintro e w6 ⟨aa,ca,rfl,dA,aA⟩;have jA:=fun w=>(show(Instr.field 99 (ye (.slice aa (zN W y).dn ca) (zN W y)) 2).run Tryz.prog w = .ok (.string S.name) w by rw[<-Hq.out];exact(zDs (.slice aa (zN W y).dn ca) (zN W y) w).2.1);obtain⟨⟨z0,_⟩,_⟩:=HT.out.zRX (zK aA)))
   have iA:=zB (HT.out.zRX (zK aA));have bA:=qd hb aA;have vA:=zB (HA.out.zRX bA);have pB:(n:Int)<1000000:=(by omega);clear aA dA jA z0 y0 y1 HT fA hb;go_wp2_with fail;refine(zBp lo hi W A y _ vA.out HD.out nA.out hp).mono ?_;rintro e w7 ⟨tA,bB,rfl,dA,mA⟩;have jA:=fun w=>(show(Instr.field 99 (ye (.slice tA (zN W y).dn bB) (zN W y)) 3).run Tryz.prog w = .ok (.int .i64 (W.zRe kk).zRh) w by rw[<-eB.out];exact(zDs (.slice tA (zN W y).dn bB) (zN W y) w).2.2.1)
   have gB:=zB (iA.out.zRX mA);have iB:=zA bA mA;clear dA mA iA bA vA;go_wp2;go_roundw
   case rel=>exact⟨n+1,_,by go_num,rfl,cB.out,gB.out,iB⟩
   case measure=>simp[intOf];have:=fB.out;have:=cB.out.least;omega
  ·have mB:=zB (fun h=>hq ((cA.out y).2 h));have f1:=zEm hq;clear hq;go_wp2_with fail;go_region_held3 (fun w'=>w'.cell? ⟨T,0,none⟩=some (.string S.name)) (go_keep)
    (first | (go_at_call 190;refine(zBp lo hi W A y _ ?_ HD.out nA.out hp).mono ?_;(exact fA.out.zRX (Below.refl _ _).drew);rintro e w6 ⟨aa,ca,rfl,dA,aA⟩;have jA:=fun w=>(zDs (.slice aa (zN W y).dn ca) (zN W y) w).2.1;obtain⟨⟨z0,_⟩,_⟩:=HT.out.zRX (zK aA)))
   have iA:=zB (HT.out.zRX (zK aA));have bA:=qd hb aA;clear aA dA jA z0 y0 y1 HT fA hb f1;obtain⟨⟨z0,-⟩,⟨z1,-⟩,-⟩:=iA.out;have oA:=zB (zCn (origin:=S.origin) Hw.out.steps mB.out);by_cases h1:n=yr W S.name W.pn
   ·by_cases h2:y=S.origin
    ·have Hl:=zB (oA.out.2 ⟨h1,h2⟩);have g1:((n:Int) == (yr W S.name W.pn:Int))=true:=(by simp[h1]);have g2:(y == S.origin)=true:=(by simp[h2]);clear h1 h2;go_wp2;go_ret;exact⟨zG.yes Hl.out,bA⟩
    ·have Hl:=zB (fun h=>h2 (oA.out.1 h).2);have g1:((n:Int) == (yr W S.name W.pn:Int))=true:=(by simp[h1]);have g2:(y == S.origin)=false:=(by simp[h2]);clear h1 h2;go_wp2;go_ret;exact⟨zG.no Hl.out,bA⟩
   ·have Hl:=zB (fun h=>h1 (oA.out.1 h).1);have h3:¬(n:Int)=(yr W S.name W.pn:Int):=(by omega);have g1:((n:Int) == (yr W S.name W.pn:Int))=false:=(by simp[h3]);clear h1 h3;go_wp2;go_ret;exact⟨zG.no Hl.out,bA⟩
theorem zIX(v0 v1 v2 v3:Value)(lo hi:Nat)(W:zH)(A:Nat)(w:World)(h:zk w lo hi v0 v1 v2 v3 W)(hp:W.pn<=20)(hs:W.sn<=8)(hA:zBZ w lo hi W A)(hD:zCT W)(hP:zCJ W) :
  Calls Tryz.prog 206 #[zz v0 v1 v2 v3 W,zGl A] w fun e w'=>zG (∀i,i<W.sn->zBh W (W.zRg i).name (W.zRg i).zRh (W.zRg i).origin) e/\Below w.heap.size w w':=by
 have Hp:=zB h;have HA:=zB hA;have HD:=zB hD;have HP:=zB hP;obtain⟨m2,a',c',rfl,oA,-⟩:=id h.zRg;unfold maxLen at m2;clear h hA hD hP;have ha:=zC w (.cells #[v0,v1,.int .i64 W.time,.int .i64 W.next,.slice a' W.sn c',v3] 37);have HB:=zB (zi.zRZ w v0 v1 (.int .i64 W.time) (.int .i64 W.next) (.slice a' W.sn c') v3 37);obtain⟨⟨x0,-⟩,⟨x2,-⟩,⟨x4,-⟩,⟨x6,-⟩,⟨x8,-⟩,⟨jA,-⟩⟩:=HB.out;go_enter Tryz.func206,Tryz.ntmps206;go_wp2;clear x0 x2 x4 x6 x8 jA
 go_loopw [10] (fun i wr=>∃k:Nat,k<=W.sn/\i = .int .i64 k/\(∀j,j<k->zBh W (W.zRg j).name (W.zRg j).zRh (W.zRg j).origin)/\zi wr w.heap.size v0 v1 (.int .i64 W.time) (.int .i64 W.next) (.slice a' W.sn c') v3/\Below w.heap.size w wr) (fun i _=>W.sn - (intOf i).toNat)
 case atStart=>exact⟨0,Nat.zero_le _,rfl,fun j hj=>absurd hj (Nat.not_lt_zero _),HB.out,ha⟩
 case round=>
  clear HB ha;obtain⟨k,hk,rfl,bA,hX,hb⟩:=hrel;have dA:=zB bA;have HX:=zB hX;clear bA hX;by_cases cA:k<W.sn;rotate_left
  ·obtain rfl:k=W.sn:=(by omega);go_wp2;go_ret;exact⟨zG.yes dA.out,hb⟩
  have mA:(k:Int)<(W.sn:Int):=(by omega);obtain⟨b,off,vd,rfl,aA⟩:=(Hp.out.zRg.zRX hb).cells cA;obtain⟨-,ad,cd,rfl,-,-⟩:=id aA.zRl;have iA:=zC wr (.cells #[.string (W.zRg k).name,.int .i64 (W.zRg k).origin,.int .i64 (W.zRg k).zRh,.int .i64 (W.zRg k).rs,.int .i64 (W.zRg k).rb,.slice ad (W.zRg k).dn cd] 67);have HV:=zB (zi.zRZ wr (.string (W.zRg k).name) (.int .i64 (W.zRg k).origin) (.int .i64 (W.zRg k).zRh) (.int .i64 (W.zRg k).rs) (.int .i64 (W.zRg k).rb) (.slice ad (W.zRg k).dn cd) 67);have fA:=zB (HX.out.zRX iA);have eA:=zA hb iA;have q0:=aA.c0;have q1:=aA.c1;have q2:=aA.c2;have q3:=aA.c3;have q4:=aA.c4;have q5:=aA.c5;obtain⟨⟨y0,-⟩,⟨y1,-⟩,⟨y2,-⟩,⟨y3,-⟩,⟨y4,-⟩,⟨y5,-⟩⟩:=HV.out;obtain⟨⟨x0,-⟩,⟨x2,-⟩,⟨x4,-⟩,⟨x6,-⟩,⟨x8,-⟩,⟨jA,-⟩⟩:=fA.out;clear aA iA;go_wp2_with fail;clear q0 q1 q2 q3 q4 q5 y0 y1 y2 y3 y4 y5 x0 x2 x4 x6 x8 jA HX hb HV;refine(zIq v0 v1 _ v3 lo hi W A ad cd (W.zRg k) _ (Hp.out.zRX eA) hp (HA.out.zRX eA) HD.out HP.out (HP.out.zRo k cA) (HP.out.zRg k cA)).mono ?_;rintro e w6 ⟨⟨t6,rfl,kA⟩,gA⟩;have nA:=zB (fA.out.zRX gA);have lA:=zA eA gA;have Ht:=zB kA;clear kA gA eA fA;cases t6
  ·have Hn:=zB (show ¬zBh W (W.zRg k).name (W.zRg k).zRh (W.zRg k).origin from fun hA=>absurd (Ht.out.2 hA) (by simp));clear Ht;go_wp2;go_ret;exact⟨zG.no fun hA=>Hn.out (hA k cA),lA⟩
  ·have Hn:=zB (Ht.out.1 rfl);clear Ht;go_wp2;go_roundw
   case rel=>exact⟨k+1,by omega,by go_num,zo cA dA.out Hn.out,nA.out,lA⟩
   case measure=>simp[intOf];omega
structure zDB (W:zH):Prop where
 time:zB2 W.time 1 900000
 next:zB2 W.next 1 900000
 zRg:zQh W.sn W.zRg
 zRe:zPU W
structure zAx (W:zH):Prop where
 zRo:zDB W
 right:zx W.zRd
 prevs:∀i,i<zq W->zIV W i
 lines:∀i,i<W.sn->zBh W (W.zRg i).name (W.zRg i).zRh (W.zRg i).origin
 trees:zPu W
 homes:zFo W
theorem zDB.range{W:zH}(h:zDB W):∀i,i<W.pn->1<=(W.zRe i).id/\(W.zRe i).id<W.next/\1<=(W.zRe i).time/\(W.zRe i).time<W.time
 | 0,hi=>by
  have:=(h.zRe.2.1 0 hi).2.2.2;have h1:Mid 0 (W.zRe 0).id W.next:=this.1;have h2:Mid 0 (W.zRe 0).time W.time:=this.2;have a1:=h1.1;have a2:=h1.2;have a3:=h2.1;have a4:=h2.2;omega
 | i+1,hi=>by
  have ih:=h.range i (by omega);have:=(h.zRe.2.1 (i+1) hi).2.2.2;have h1:Mid (W.zRe i).id (W.zRe (i+1)).id W.next:=this.1;have h2:Mid (W.zRe i).time (W.zRe (i+1)).time W.time:=this.2;have a1:=h1.1;have a2:=h1.2;have a3:=h2.1;have a4:=h2.2;omega
theorem zDB.rise{W:zH}(h:zDB W):∀i,i<W.pn->∀j,j<i->(W.zRe j).id<(W.zRe i).id
 | 0,_,j,hj=>absurd hj (Nat.not_lt_zero _)
 | i+1,hi,j,hj=>by
  have h1:Mid (W.zRe i).id (W.zRe (i+1)).id W.next:=(h.zRe.2.1 (i+1) hi).2.2.2.1;have a1:=h1.1;by_cases e:j=i
  ·subst e;exact a1
  ·have:=h.rise i (by omega) j (by omega);omega
theorem zDB.dist{W:zH}(h:zDB W):zCT W:=fun i hi j hj e=>by have:=h.rise i hi j hj;omega
theorem zDB.idsWf{W:zH}(h:zDB W):zNp W.pn W.zRe:=fun i hi=>by
 have h1:=h.range i hi;have h2:=h.next.2;exact WalkArith.wf_i64 (by omega)
theorem zDB.times{W:zH}(h:zDB W):zKs W:=fun x=>by
 by_cases hx:∃k,qs W x k
 ·obtain⟨k,hk⟩:=hx;rw[qu hk];have h1:=h.range k hk.1;have h2:=h.time.2;exact⟨by omega,by omega⟩
 ·have:zN W x=yL:=(by unfold zN;rw[dif_neg hx]);rw[this];exact⟨Int.le_refl _,by decide⟩
theorem zIN{W:zH}{i:Nat}(hp:zCi W):zIV W i↔((zO W i).zRh=0\/ql W (zO W i).zRh):=by
 unfold zIV;constructor
 ·intro h;by_cases hx:∃k,qs W (zO W i).zRh k
  ·obtain⟨k,hk⟩:=hx;exact Or.inr ⟨k,hk.1,hk.2.1⟩
  ·have e:zN W (zO W i).zRh=yL:=(by unfold zN;rw[dif_neg hx]);rw[e]at h;exact Or.inl h.symm
 ·rintro(h | h)
  ·rw[h,zFc (fun k hk e=>by have:=hp k hk;omega)];rfl
  ·obtain⟨k,hk⟩:=h.no;rw[qu hk];exact hk.2.1
theorem zDB.prevOk{W:zH}(h:zDB W)(hp:∀i,i<zq W->zIV W i):zCJ W where
 ids:=fun k hk=>by have h1:=h.range k hk;have h2:=h.next.2;omega
 zRh:=fun k hk=>by
  have:=(zIN (fun k hk=>(h.range k hk).1)).1 (hp k (by unfold zq;omega));rw[qQ hk]at this;exact this
 less:=fun k hk=>(h.zRe.2.1 k hk).2.2.1
 zRg:=fun k hk=>by
  have:=(zIN (fun k hk=>(h.range k hk).1)).1 (hp (W.pn+k) (by unfold zq;omega));rw[yH]at this;exact this
 zRo:=fun k hk=>zDM (h.zRg.2 k hk).1
theorem zMJ{W:zH}(h:zCJ W){name:ByteArray}{start:Int}(hs:start=0\/ql W start):∀{n:Nat} {e:Int},Steps W name start n e->(e=0\/ql W e)
 | 0,_,.zero=>hs
 | n+1,_,.next (k:=k) _ hk _=>h.zRh k hk.1
theorem zH0{f:Nat->qD}{i:Nat}(hn:yI (f i).name):zDS (zET f i) (f i).name↔(0<i->zDS (f (i - 1)).name (f i).name):=by
 cases i with
 | zero=>
  refine⟨fun _ h=>absurd h (by omega),fun _=>?_⟩;have aA:=zDM hn;unfold zDS zET;have h0:(⟨#[]⟩:ByteArray).toList = []:=(by rw[Go.ByteArray.toList_eq]);rw[h0];cases hl:(f 0).name.toList with
  | nil=>rw[hl]at aA;exact absurd aA (by decide)
  | cons a l=>simp[Op.bytesLess]
 | succ i=>exact⟨fun h _=>h,fun h=>h (by omega)⟩
theorem zGh(W:zH):zAx W↔zNZ W:=by
 constructor
 ·intro h;have hP:=h.zRo.prevOk h.prevs;have hN:zBM W:=by
   refine⟨h.zRo.time,h.zRo.next,h.zRo.zRg.1,h.zRo.zRe.1,fun i hi=>?_,fun i hi=>?_⟩
   ·have hs:=h.zRo.zRg.2 i hi;refine⟨hs.1,(zH0 hs.1).1 hs.2,fun hz=>(hP.zRg i hi).resolve_left hz,fun hz=>?_⟩;obtain⟨n,e,aA,_,_,rfl⟩:=h.lines i hi;exact(zMJ hP (hP.zRg i hi) aA).resolve_left hz
   ·have hs:=h.zRo.zRe.2.1 i hi;have hr:=h.zRo.range i hi;refine⟨⟨hr.1,hr.2.1,hr.2.2.1,hr.2.2.2,hs.2.1,hs.1⟩,⟨fun h0=>?_,fun hz=>⟨hs.2.2.1,(hP.zRh i hi).resolve_left hz⟩⟩,fun k hk=>h.zRo.zRe.2.2 i hi k hk⟩;cases i with
    | zero=>omega
    | succ i=>exact⟨hs.2.2.2.1.1,hs.2.2.2.2.1⟩
  have hT:zBJ W:=zHp h.right hN (fun i hi=>by have:=h.trees.1 i (by unfold zq;omega);rw[qQ hi]at this;exact this) (fun i hi=>by have:=h.trees.1 (W.pn+i) (by unfold zq;omega);rw[yH]at this;exact this);have hM:∀i,i<zq W->zJm W (zO W i):=fun i hi=>(zHu hT hi).1 (h.trees.2 i hi)
  have hh:=(zJP hT (fun j hj=>by have:=hP.pos j hj;omega) hM).1 h.homes;exact⟨h.right,hN,h.lines,fun i hi=>hT.snap hi,fun i hi=>⟨hT.set hi,(hM (W.pn+i) (by unfold zq;omega)).1⟩,fun i hi=>(hM i (by unfold zq;omega)).1,hh.1,fun i hi=>(hM i hi).2,hh.2⟩
 ·intro h;have hP:=h.zRo.prevOk;have hT:zBJ W:=zHp h.right h.zRo h.zRe (fun i hi=>(h.zRg i hi).1);have hM:∀i,i<zq W->zJm W (zO W i):=fun i hi=>by
   refine⟨?_,h.born i hi⟩;by_cases hp:i<W.pn
   ·exact h.zRl i hp
   ·have:=(h.zRg (i - W.pn) (by unfold zq at hi;omega)).2;rw[show W.pn+(i - W.pn)=i by omega]at this;exact this
  have hh:=(zJP hT (fun j hj=>by have:=hP.pos j hj;omega) hM).2 ⟨h.reach,h.zRk⟩;refine⟨⟨h.zRo.1,h.zRo.2.1,⟨h.zRo.2.2.1,fun i hi=>?_⟩,⟨h.zRo.2.2.2.1,fun i hi=>?_,fun i hi k hk=>(h.zRo.2.2.2.2.2 i hi).2.2 k hk⟩⟩,h.right,fun i hi=>?_,h.lines,⟨hT.tree,fun i hi=>(zHu hT hi).2 (hM i hi)⟩,hh⟩
  ·have hs:=h.zRo.2.2.2.2.1 i hi;exact⟨hs.1,(zH0 hs.1).2 hs.2.1⟩
  ·have hs:=h.zRo.2.2.2.2.2 i hi;refine⟨hs.1.2.2.2.2.2,hs.1.2.2.2.2.1,hP.less i hi,?_,?_⟩
   ·cases i with
    | zero=>exact⟨by have:=hs.1.1;show(0:Int)<_;omega,hs.1.2.1⟩
    | succ i=>exact⟨(hs.2.1.1 (by omega)).1,hs.1.2.1⟩
   ·cases i with
    | zero=>exact⟨by have:=hs.1.2.2.1;show(0:Int)<_;omega,hs.1.2.2.2.1⟩
    | succ i=>exact⟨(hs.2.1.1 (by omega)).2,hs.1.2.2.2.1⟩
  ·refine(zIN hP.pos).2 ?_;by_cases hp:i<W.pn
   ·rw[qQ hp];exact hP.zRh i hp
   ·have e:=yH W (i - W.pn);rw[show W.pn+(i - W.pn)=i by omega]at e;rw[e];exact hP.zRg _ (by unfold zq at hi;omega)
open Go.ChangeMaps Go.MapKept
open Go.WideElems (Fit rd rg pl rd_val elemAt findIdx_arr findIdx_born modify_last set_self)
open Go.WideMaps (KeyLaw)
theorem zIZ(w:World)(b:Nat)(o o':Obj):setBlock (setBlock w b o) b o'=setBlock w b o':=by simp[setBlock]
theorem zI7{w:World}{b:Nat}{o:Obj}(h:w.heap[b]?=some o):setBlock w b o=w:=by
 have e:w.heap.setIfInBounds b o=w.heap:=by
  apply Array.ext_getElem?;intro i;by_cases hi:i=b
  ·subst hi;rw[Array.getElem?_setIfInBounds_self_of_lt (Array.getElem?_eq_some_iff.1 h).1];exact h.symm
  ·rw[Array.getElem?_setIfInBounds_ne (fun e=>hi e.symm)]
 unfold setBlock;rw[e]
theorem zIT{w:World}{b:Nat}{es aA:Array MapEntry}{c c':Nat}(hb:w.heap[b]?=some (.map es c)):w.grownBy (setBlock w b (.map aA c')) (some b):=
 ⟨rfl,rfl,rfl,by simp[setBlock],fun i _ hi=>heap_setBlock_other hb _ (fun e=>hi (by rw[e]))⟩
theorem zJZ{P:Program}{k e t:TypeId}{w:World}{b n:Nat}{D:DataW Value}(h:w.ownsMap P k zCV b n D)(K0:KeyLaw P k)(ht:P.underlying t=some (.map k e))(hn:n<maxLen){z:Value}(hz:∀u:World,(zeroValue e).run P u = .ok z u)
  {key val v:Value} {kl:Lit} (aA:keyOf P k key=some kl) (gB:D.atKey kl (.held z) = .held v) :
  ∃(v0:Value) (st:Nat) (w1 w2:World),(Instr.mapEntry t (.map (some b)) key).run P w = .ok (.tuple #[v0,goInt st]) w1/\(Instr.lookup t (.map (some b)) key false).run P w1 = .ok v w1/\(Instr.entryStore t (.map (some b)) (goInt st) val).run P w1 = .ok () w2/\w2.ownsMap P k zCV b (n+1) (D.put kl (.held val))/\w.grownBy w1 (some b)/\w.grownBy w2 (some b):=by
 have K:=Keyed.of_law K0;obtain⟨w',mA,eA,aB⟩:=h.update K ht hn aA (zB1 val);obtain⟨wz,kA,iA,kB⟩:=h.update K ht hn aA (zB1 z);have gA:=h.lookup K ht (hz w) (zB1 z) aA;obtain⟨es,bA,hb,F,hs,hD⟩:=h;obtain⟨v0,st,dA,c1,cA,iB,vA⟩:=WideElems.entry_then_store K0 ht hz hb F aA;have fB:(setBlock w b (.map dA c1)).heap[b]?=some (.map dA c1):=heap_setBlock_same hb _;obtain⟨rA,c2,pA,cB⟩:=vA _ val fB;have e2:setBlock (setBlock w b (.map dA c1)) b (.map rA c2)=w':=by
  rw[zIZ];rw[cB]at mA;injection mA
 refine⟨v0,st,setBlock w b (.map dA c1),w',cA,?_,by rw[<-e2];exact pA,eA,zIT hb,aB⟩;obtain⟨v',ps,hl,tA⟩:=gA;have ev:v'=v:=by
  have e1:=zEK tA;rw[gB]at e1;injection e1 with e1;exact e1.symm
 subst ev
 suffices hh:∀ww:World,ww=setBlock w b (.map dA c1)->(Instr.lookup t (.map (some b)) key false).run P ww = .ok v' ww from hh _ rfl
 intro ww lA;rcases K0.find w aA es.toList F.keys with⟨h1,h2⟩ | ⟨j,e0,h1,h2,h3⟩
 ·-- it was not there: behind the entry it is there with the zero value
  have bB:setBlock w b (.map dA c1)=wz:=by
   have hm:(Instr.mapEntry t (.map (some b)) key).run P w = .ok (.tuple #[z,goInt bA]) (setBlock w b (.map (es.push ⟨key,z,bA⟩) (bA+1))):=by
    simp[Instr.mapEntry,run_underlying ht,MapKept.run_getObj_map hb,K0.check w false aA,h1,hz,MapKept.run_setObj_map _ hb,Result.andThen,setBlock]
   have hu:(Instr.mapUpdate t (.map (some b)) key z).run P w = .ok () (setBlock w b (.map (es.push ⟨key,z,bA⟩) (bA+1))):=by
    simp[Instr.mapUpdate,run_underlying ht,MapKept.run_getObj_map hb,K0.check w false aA,h1,MapKept.run_setObj_map _ hb,Result.andThen,setBlock]
   rw[cA]at hm;rw[kA]at hu;injection hm with _ hm;injection hu with _ hu;rw[hm,hu]
  obtain rfl:ww=wz:=lA.trans bB;obtain⟨v2,jB,sA,nA⟩:=iA.lookup K ht (hz _) (zB1 z) aA;have e3:=zEK nA;rw[atKey_put_same (show IsMap D from⟨_,hD⟩) (K.key aA)]at e3;replace e3:=DataW.held.inj e3;have e4:v'=z:=by
   have oA:(Instr.lookup t (.map (some b)) key false).run P w = .ok z w:=by
    rcases Maps.fit_look false K ht (hz w) hb F aA with⟨jA,_,_⟩ | ⟨e0,y,dB,eB,_,_,_,_⟩
    ·exact jA
    ·exact absurd eB (h2 e0 dB)
   rw[oA]at hl;injection hl with hl _;exact hl.symm
  subst e3;subst e4;exact sA
 ·-- it was there: the entry leaves the map as it was
  have hj:es[j]?=some e0:=(by simpa using h2);have fA:es.modify j (fun e=>{e with key:=key})=es:=by
   apply Array.ext';rw[Array.toList_modify,modify_eq_set _ _ _ _ h2];have:({e0 with key:=key}:MapEntry)=e0:=(by rw[<-h3]);rw[this];exact set_self _ _ _ h2
  have hm:(Instr.mapEntry t (.map (some b)) key).run P w = .ok (.tuple #[e0.val,goInt e0.born]) (setBlock w b (.map es bA)):=by
   simp[Instr.mapEntry,run_underlying ht,MapKept.run_getObj_map hb,K0.check w false aA,h1,hj,h3,K0.stays w aA,fA,MapKept.run_setObj_map _ hb,Result.andThen,setBlock]
  rw[cA,zI7 hb]at hm;obtain rfl:ww=w:=lA.trans (Result.ok.inj hm).2;exact hl
theorem zIC (W : zH) (m : zE8) : (yA W m).length <= 73 := by
  unfold yA zAR yT;exact Nat.le_trans (List.length_filter_le _ _) (qN _ _ _)
theorem zJe (W : zH) : ∀ k, (zn W k).length <= 73 * k
  | 0 => by simp[zn]
  | k + 1 => by
    have h1 := zJe W k;have h2 := zIC W (zO W k);unfold zn;rw[List.length_append];omega
theorem zJu (W : zH) {k : Nat} : ∀ {n : Nat}, k <= n -> ∃ l, zn W n = zn W k ++ l
  | 0, h => ⟨[], by obtain rfl : k = 0 := by omega
                    simp⟩
  | n + 1, h => by
    by_cases e : k = n + 1
    · subst e;exact ⟨[], by simp⟩
    · obtain ⟨l, hl⟩ := zJu W (k := k) (n := n) (by omega)
      exact ⟨l ++ yA W (zO W n), by rw[show zn W (n + 1) = zn W n ++ yA W (zO W n) from rfl, hl, List.append_assoc]⟩
theorem zPr (W : zH) {k n j : Nat} (hk : k < n) (hj : j < (yA W (zO W k)).length) : (zn W k).length + j < (zn W n).length /\ (zn W n).getD ((zn W k).length + j) (0, 0) = (yA W (zO W k)).getD j (0, 0) := by
  obtain ⟨l, hl⟩ := zJu W (k := k + 1) (n := n) (by omega);rw[hl, show zn W (k + 1) = zn W k ++ yA W (zO W k) from rfl];constructor
  · simp only[List.length_append];omega
  · rw[List.getD_eq_getElem?_getD, List.getD_eq_getElem?_getD, List.append_assoc, List.getElem?_append_right (by omega), show (zn W k).length + j - (zn W k).length = j by omega, List.getElem?_append_left hj]
def zLR (x : Int × Int) : Value := .agg #[.int .i64 x.1, .int .i64 x.2]
/-- The keys of the homes, one behind the other. -/
structure yn (W : zH) (key : Nat -> Lit) : Prop where
  ok : zDh key
  at_ : ∀ i, i < (zn W (zq W)).length -> keyOf Tryz.prog 61 (zLR ((zn W (zq W)).getD i (0, 0))) = some (key i)
theorem zJ4 {W : zH} (hR : zx W.zRd) (hT : ∀ i, i < zq W -> qG W.zRd (zO W i).rs (zO W i).rb) {x : Int × Int} (hx : x ∈ zn W (zq W)) : zr W.zRd x.1 x.2 := by
  obtain ⟨i, hi, h⟩ := zDe.1 hx;unfold yA zAR yT at h;exact (zAb hR (hT i hi) (List.mem_filter.1 h).1).1
theorem zPD {l : List (Int × Int)} {i : Nat} (h : i < l.length) : l.getD i (0, 0) ∈ l := by
  rw[List.getD_eq_getElem?_getD, List.getElem?_eq_getElem h, Option.getD_some];exact List.getElem_mem h
theorem zOj {W : zH} (hR : zx W.zRd) (hT : ∀ i, i < zq W -> qG W.zRd (zO W i).rs (zO W i).rb) : ∃ key, yn W key := by
  have aA : ∀ i, ∃ l, WideAt.IsKeyLit l /\ (i < (zn W (zq W)).length -> keyOf Tryz.prog 61 (zLR ((zn W (zq W)).getD i (0, 0))) = some l) := fun i => by
    by_cases hi' : i < (zn W (zq W)).length
    · have hp := zJ4 hR hT (zPD hi')
      generalize (zn W (zq W)).getD i (0, 0) = x at hp ⊢;have hf := (qS hR hp).1;have bA := hR.1;obtain ⟨h1, h2, h3, h4⟩ := hp;rw[h4]at hf;obtain ⟨f1, f2⟩ := hf;obtain ⟨l, hl⟩ := zQF (x := x.1) (y := x.2) (WalkArith.wf_i64 (by omega)) (WalkArith.wf_i64 (by omega));exact ⟨l, zQu.key hl, fun _ => hl⟩
    · exact ⟨.string [], trivial, fun h => absurd h hi'⟩
  exact ⟨fun i => (aA i).choose, fun i => (aA i).choose_spec.1, fun i => (aA i).choose_spec.2⟩
theorem zOK {x y : Int × Int} (h : zLR x = zLR y) : x = y := by
  unfold zLR at h;simp only[Value.agg.injEq, Array.mk.injEq, List.cons.injEq, Value.int.injEq, true_and, and_true]at h;exact Prod.ext h.1 h.2
theorem yn.same {W : zH} {key : Nat -> Lit} (h : yn W key) {i j : Nat} (hi : i < (zn W (zq W)).length) (hj : j < (zn W (zq W)).length) : key i = key j ↔ (zn W (zq W)).getD i (0, 0) = (zn W (zq W)).getD j (0, 0) := by
  have h1 := h.at_ i hi;have h2 := h.at_ j hj;constructor
  · intro e
    rw[e]at h1;exact zOK (zQu.inj h1 h2)
  · intro e
    rw[e, h2]at h1;exact (Option.some.inj h1).symm
theorem yn.dist {W : zH} {key : Nat -> Lit} (h : yn W key) : zGM (zn W (zq W)).length key ↔ (zn W (zq W)).Nodup := by
  rw[List.Nodup, List.pairwise_iff_getElem];have hg : ∀ i (hi : i < (zn W (zq W)).length), (zn W (zq W)).getD i (0, 0) = (zn W (zq W))[i] := fun i hi => by rw[List.getD_eq_getElem?_getD, List.getElem?_eq_getElem hi, Option.getD_some]
  constructor
  · intro hd i j hi hj aA e
    refine hd j hj i aA ((h.same hi hj).2 ?_);rw[hg i hi, hg j hj];exact e
  · intro hd i hi k hk e
    have := (h.same (by omega) hi).1 e;rw[hg k (by omega), hg i hi]at this;exact hd k i (by omega) hi hk this
/-- The map behind the first p homes. -/
def zJK (key : Nat -> Lit) (p : Nat) : DataW Value := putD key (fun _ => .int .i64 1) p
theorem yn.zRZ {W : zH} {key : Nat -> Lit} {p : Nat} (hn : ∀ i, i < p -> key i ≠ key p) (h : yn W key) : (zJK key p).atKey (key p) (.held (.int .i64 0)) = .held (.int .i64 0) := zGt h.ok _ hn _
theorem yn.old {W : zH} {key : Nat -> Lit} {p i : Nat} (hi : i < p) (he : key i = key p) (hd : zGM p key) (h : yn W key) : (zJK key p).atKey (key p) (.held (.int .i64 0)) = .held (.int .i64 1) := by
  rw[<- he];exact zK1 h.ok _ _ p i hi (fun j h1 h2 e => hd j h2 i h1 e.symm)
theorem yn.put {W : zH} {key : Nat -> Lit} (h : yn W key) (p : Nat) (v : Value) : ((zJK key p).put (key p) (.held v)).atKey (key p) (.held (.int .i64 0)) = .held v := atKey_put_same (zCc h.ok _ p).isMap (h.ok p) _ _
theorem yn.not_nodup {W : zH} {key : Nat -> Lit} {p i : Nat} (hi : i < p) (hp : p < (zn W (zq W)).length) (he : key i = key p) (h : yn W key) : ¬ (zn W (zq W)).Nodup := fun hn => h.dist.2 hn p hp i hi he
theorem yn.size {W : zH} {key : Nat -> Lit} (h : yn W key) {p : Nat} (hd : zGM p key) : Maps.size (zJK key p) = p := (zGp h.ok _ p).2.2 hd
theorem zGX(v0 v1:Value)(lo hi:Nat)(p:zI)(w:World)(h1:zu w lo hi v0 v1 p) :
  Calls Tryz.prog 227 #[.agg #[v0,v1]] w fun e w'=>e = .returned (.int .i64 (zNW p))/\Below w.heap.size w w':=by
 have Hp:Hid (zu w lo hi v0 v1 p):=h1;obtain⟨⟨m1,a,c,rfl,mc,g1⟩,⟨m2,a',c',rfl,jA,g2⟩⟩:=h1;unfold maxLen at m1 m2;clear g1 g2;have ha:=zC w (.cells #[.slice a p.n c,.slice a' p.hn c'] 33);go_enter Tryz.func227,Tryz.ntmps227;go_wp2_with fail;refine(zAA _ _ lo hi p _ (Hp.out.zRX ha)).mono ?_;rintro e w1 ⟨⟨t,rfl,ht⟩,aA⟩;have Hx:Hid (zc w1 w.heap.size (.slice a p.n c) (.slice a' p.hn c')):=(zc.zRZ w _ _ _).zRX aA;have bA:=zA ha aA;clear ha aA;by_cases hR:zx p
 ·obtain rfl:t=true:=ht.2 hR;have HR:Hid (zx p):=hR;have eA:(p.n:Int)<=200:=(by have:=hR.1;omega);clear ht hR;obtain⟨⟨y0,y1⟩,⟨y2,y3⟩⟩:=Hx.out;have iA:Hid (zNW p=(roomN p.s p.n:Int)):=if_pos HR.out;have HB:Hid (Below w.heap.size w w1):=bA;go_wp2;clear y0 y1 y2 y3 bA
  go_loopw [3,12] (fun m i wr=>∃k:Nat,k<=p.n/\i = .int .i64 k/\m = .int .i64 (roomN p.s k:Int)/\Below w.heap.size w wr) (fun _ i _=>p.n - (intOf i).toNat)
  case atStart=>exact⟨0,Nat.zero_le _,rfl,rfl,HB.out⟩
  case round=>
   obtain⟨k,hk,rfl,rfl,hb⟩:=hrel;have kA:=zFp p.s k;by_cases gA:k<p.n
   ·have fA:(k:Int)<(p.n:Int):=(by omega);obtain⟨b,off,ka,kc,rfl,hs⟩:=(Hp.out.1.zRX hb).cells gA;have Hs:Hid (zAd wr b (off+k*3) lo hi ka kc (p.s k)):=hs;obtain⟨q0,q1,q2,_⟩:=hs;go_wp2_with fail;have cA:=zC wr (.cells #[.int .i64 (p.s k).zRi,.slice ka (p.s k).kn kc,.string (p.s k).data] 127);refine(zBj _ _ _ lo hi (p.s k) _ (Hs.out.slot.zRX cA)).mono ?_;rintro e w2 ⟨⟨t,rfl,ht⟩,aA⟩;have dA:=zA hb (zA cA aA);clear aA q0 q1 q2 Hs cA;by_cases hf:qE (p.s k)
    ·obtain rfl:t=true:=ht.2 hf;have HF:Hid (qE (p.s k)):=hf;clear ht hf;go_wp2;go_roundw
     case rel=>exact⟨k+1,by omega,by go_num,congrArg (Value.int .i64) (by rw[zBt HF.out];omega),dA⟩
     case measure=>simp[intOf];omega
    ·obtain rfl:t=false:=zQ ht hf;have HF:Hid (¬qE (p.s k)):=hf;clear ht hf;go_wp2;go_roundw
     case rel=>exact⟨k+1,by omega,by go_num,congrArg (Value.int .i64) (by rw[zCD HF.out]),dA⟩
     case measure=>simp[intOf];omega
   ·obtain rfl:k=p.n:=(by omega);go_wp2;go_ret;exact⟨by rw[iA.out];rfl,hb⟩
 ·obtain rfl:t=false:=zQ ht hR;have HR:Hid (¬zx p):=hR;clear ht hR;go_wp2;go_ret;refine⟨?_,bA⟩;have e:zNW p=0:=if_neg HR.out;rw[e];rfl
theorem zBk{P:Program}{k:TypeId}{w w1:World}{M n g o:Nat}{D:DataW Value}{v:Value}(hg:w.grownBy w1 (some M))(hm:w.ownsMap P k zCV M n D)(h:w.cell? ⟨g,o,none⟩=some v):w1.cell? ⟨g,o,none⟩=some v:=by
 refine(hg.cell_far ⟨g,o,none⟩ (zD h) ?_).trans h;intro e;simp only[Option.some.injEq]at e;subst e;obtain⟨es,aA,hb,-⟩:=hm;simp[World.cell?,hb]at h
theorem zBw{w w1 w2:World}{row:Option Nat}(h:w.grownBy w1 row)(k:w1.grownBy w2 row):w.grownBy w2 row:=
 ⟨k.os.trans h.os,k.tape.trans h.tape,k.output.trans h.output,Nat.le_trans h.size k.size,fun i hi aA=>(k.block i (Nat.lt_of_lt_of_le hi h.size) aA).trans (h.block i hi aA)⟩
theorem zFg.side{P:Program}{kt:TypeId}{w w1:World}{M n lo hi:Nat}{D:DataW Value}{v:Value}{W:zH}{vd:Nat->Value}(h:zFg w lo hi v W vd)(hg:w.grownBy w1 (some M))(hm:w.ownsMap P kt zCV M n D)(i:Nat)(hi':i<zq W) :
  ∃g c,v = .slice (some ⟨g,0,none⟩) (zq W) c/\w1.cell? ⟨g,i*5,none⟩=some (.int .i64 (zO W i).zRh)/\w1.cell? ⟨g,i*5+1,none⟩=some (.int .i64 (zO W i).time)/\w1.cell? ⟨g,i*5+2,none⟩=some (.int .i64 (zO W i).rs)/\w1.cell? ⟨g,i*5+3,none⟩=some (.int .i64 (zO W i).rb)/\w1.cell? ⟨g,i*5+4,none⟩=some (vd i):=by
 obtain⟨g,c,e,h0,h1,h2,h3,h4⟩:=h.cells i hi';exact⟨g,c,e,zBk hg hm h0,zBk hg hm h1,zBk hg hm h2,zBk hg hm h3,zBk hg hm h4⟩
theorem zi.side{w w1:World}{M b:Nat}{a0 a1 a2 a3 a4 a5:Value}(h:zi w b a0 a1 a2 a3 a4 a5)(hg:w.grownBy w1 (some M))(aA:b≠M):zi w1 b a0 a1 a2 a3 a4 a5:=by
 obtain⟨h0,h1,h2,h3,h4,h5⟩:=h;have hc:∀{o:Nat} {v:Value},zW w b o v->zW w1 b o v:=fun hc=>⟨(hg.cell_far _ (zD hc.1) (fun e=>aA (Option.some.inj e))).trans hc.1,(hg.frozen_far _ (zD hc.1) (fun e=>aA (Option.some.inj e))).trans hc.2⟩
 exact⟨hc h0,hc h1,hc h2,hc h3,hc h4,hc h5⟩
theorem zMw(v:Value)(s:zl)(w:World):(Instr.field 99 (ye v s) 4).run Tryz.prog w = .ok (.int .i64 s.time) w:=by kernel_rfl
theorem zQj:Go.WideMaps.KeyLaw Tryz.prog 61:=deep_law_laid zPk (m:=5) (by decide) (zO4 (by kernel_rfl)) (by kernel_rfl) (by kernel_rfl)
theorem zIg:Tryz.prog.underlying 251=some (.map 61 2):=by kernel_rfl
theorem zP4(w:World):(zeroValue 2).run Tryz.prog w = .ok (.int .i64 0) w:=by kernel_rfl
theorem wrap_small{n:Int}(h0:-9223372036854775808<=n)(h1:n<9223372036854775808):IntKind.i64.wrap n=n:=by
 unfold IntKind.wrap;simp only[IntKind.signed,IntKind.bits,Bool.true_and];split
 ·rename_i hc
  have aA:=of_decide_eq_true hc;omega
 ·rename_i hc
  have aA:=of_decide_eq_false (Bool.eq_false_iff.2 hc);omega
theorem zMc{N n r h:Nat}(hr:r<=n)(hn:n<=200)(hh:h<=9223372036854775807):((N:Int) == IntKind.i64.wrap (IntKind.i64.wrap ((n:Int) - (r:Int)) - (h:Int)))=true↔N+r+h=n:=by
 have e1:IntKind.i64.wrap ((n:Int) - (r:Int))=(n:Int) - (r:Int):=wrap_small (by omega) (by omega);rw[e1];have e2:IntKind.i64.wrap ((n:Int) - (r:Int) - (h:Int))=(n:Int) - (r:Int) - (h:Int):=wrap_small (by omega) (by omega);rw[e2,beq_iff_eq];omega
theorem zGB{w:World}{b n:Nat}{D:DataW Value}{ky v:Value}{kl:Lit}(h:w.ownsMap Tryz.prog 61 zCV b n D)(bA:keyOf Tryz.prog 61 ky=some kl)(cA:D.atKey kl (.held (.int .i64 0)) = .held v):(Instr.lookup 251 (.map (some b)) ky false).run Tryz.prog w = .ok v w:=by
 obtain⟨v',ps,aA,hv⟩:=h.lookup zQu zIg (zP4 w) (zB1 _) bA;have e1:=zEK hv;rw[cA]at e1;obtain rfl:=DataW.held.inj e1;exact aA
theorem zIk(v0 v1 v2 v3:Value)(lo hi:Nat)(W:zH)(A:Nat)(w:World)(h:zk w lo hi v0 v1 v2 v3 W)(hs:W.sn<=8)(hp:W.pn<=20)(hA:zBZ w lo hi W A)(hD:zCT W)(tD:zCS W)(hR:zx W.zRd)(hT:zKs W)(jC:∀i,i<zq W->qG W.zRd (zO W i).rs (zO W i).rb) :
  Calls Tryz.prog 208 #[zz v0 v1 v2 v3 W,zGl A] w fun e w'=>zG (zFo W) e/\Below w.heap.size w w':=by
 obtain⟨key,hK⟩:=zOj hR jC;have HK:=zB hK;have Hp:=zB h;have HA:=zB hA;have HD:=zB hD;have mE:=zB tD;have HR:=zB hR;have jE:=zB hT;have fE:=zB jC;clear h hA hD tD hR hT jC hK;have ha:=zC w (.cells #[v0,v1,.int .i64 W.time,.int .i64 W.next,v2,v3] 37);have HB:=zB (zi.zRZ w v0 v1 (.int .i64 W.time) (.int .i64 W.next) v2 v3 37);have mC:(w.alloc (.cells #[v0,v1,.int .i64 W.time,.int .i64 W.next,v2,v3] 37)).heap.size=w.heap.size+1:=World.size_alloc _ _;have hm:=World.ownsMap_made (w.alloc (.cells #[v0,v1,.int .i64 W.time,.int .i64 W.next,v2,v3] 37)) Tryz.prog 61 zCV;rw[mC]at hm;have HM:=zB hm;have vB:=zB (HB.out.zRX (zC _ (.map #[] 0)));have dC:=zB (zA ha (zC _ (.map #[] 0)));have kF:=@run_makeMap Tryz.prog;obtain⟨⟨x0,-⟩,⟨x2,-⟩,⟨x4,-⟩,⟨x6,-⟩,⟨x8,-⟩,⟨pE,-⟩⟩:=vB.out;clear hm;go_enter Tryz.func208,Tryz.ntmps208;go_wp2_with fail;go_step3;go_wp2_with fail;go_step3;go_wp2_with fail;clear x0 x2 x4 x6 x8 pE ha HB;have lC:=zB (show((w.alloc (.cells #[v0,v1,.int .i64 W.time,.int .i64 W.next,v2,v3] 37)).alloc (.map #[] 0)).heap.size=w.heap.size+2 by rw[World.size_alloc,mC]);clear mC;generalize (w.alloc (.cells #[v0,v1,.int .i64 W.time,.int .i64 W.next,v2,v3] 37)).alloc (.map #[] 0)=W0 at HM vB dC lC ⊢;refine(zDL v0 v1 v2 v3 lo hi W W0 (Hp.out.zRX dC.out) hs hp).mono ?_;rintro e w1 ⟨vm,vd,rfl,hm,fB⟩;have aE:=zB hm;have kD:=zB (vB.out.zRX fB);have iD:=zB (HM.out.kept (yt fB none) (by simp));have dF:=zA dC.out fB;have hz:w.heap.size+2<=w1.heap.size:=by have h1:=fB.size;have h2:=lC.out;omega
 obtain⟨am,cm,rfl,mF⟩:=id hm.form;have nF:zq W<=28:=by unfold zq;omega
 clear fB hm vB dC HM lC;go_wp2
 go_loopw [6,15] (fun s i wr=>∃k:Nat,k<=zq W/\s = .bool true/\i = .int .i64 k/\wr.ownsMap Tryz.prog 61 zCV (w.heap.size+1) (zn W k).length (zJK key (zn W k).length)/\zGM (zn W k).length key/\w1.grownBy wr (some (w.heap.size+1))/\Below w.heap.size w wr) (fun _ i _=>zq W - (intOf i).toNat)
 case atStart=>exact⟨0,Nat.zero_le _,rfl,rfl,iD.out,fun i hi=>absurd hi (Nat.not_lt_zero _),World.grownBy.refl _ _,dF⟩
 case round=>
  obtain⟨k,hk,rfl,rfl,jA,tA,oB,hb⟩:=hrel;have bA:=zB jA;have lA:=zB tA;have fA:=zB oB;clear jA tA oB;by_cases lB:k<zq W;rotate_left
  ·obtain rfl:k=zq W:=(by omega);obtain⟨⟨m0,a0,c0,rfl,rF,-⟩,⟨m1,a1,c1,rfl,tF,-⟩⟩:=id Hp.out.zRd;have nC:=HK.out.size lA.out;have oD:=(bA.out.kept (yt ((Below.refl _ _).drew) none) (by simp)).len zIg 3;rw[nC]at oD;have nE:=zB nC;clear nC;have sA:=zFp W.zRd.s W.zRd.n;have nB:=HR.out.1;unfold maxLen at m0 m1;have mA:=zB (kD.out.side fA.out (by omega));obtain⟨⟨x0,-⟩,⟨x1,-⟩,⟨x2,-⟩,⟨x3,-⟩,⟨x4,-⟩,⟨x5,-⟩⟩:=mA.out;have eF:=zB (HK.out.dist.1 lA.out);have gE:zNW W.zRd=(roomN W.zRd.s W.zRd.n:Int):=if_pos HR.out;generalize hN:(zn W (zq W)).length=N at *;have HN:=zB hN;clear hN;go_wp2_with fail;go_region_held3 (fun w'=>w'.cell? ⟨w.heap.size,0,none⟩=some (.slice a0 W.zRd.n c0)/\w'.cell? ⟨w.heap.size,1,none⟩=some (.slice a1 W.zRd.hn c1)/\(Builtin.len_ #[251] 3 #[.map (some (w.heap.size+1))]).run Tryz.prog w' = .ok (.int .i64 (N:Nat)) w') (go_keep)
    (first
     | (go_at_call 227;refine(zGX _ _ lo hi W.zRd _ ((Hp.out.zRX hb).zRd.zRX (Below.refl _ _).drew)).mono ?_;rintro e w5 ⟨rfl,pB⟩;have rA:=zK pB;obtain⟨⟨k0,_⟩,⟨k1,_⟩,_⟩:=mA.out.zRX rA;have sD:=(bA.out.kept (yt rA none) (by simp)).len zIg 3;rw[nE.out]at sD))
   have gB:=zMc (N:=N) sA nB (by omega:W.zRd.hn<=9223372036854775807);have pC:=zB gB;have kE:=zA hb rA;clear gB oD sD gE sA nB;go_wp2
   try rw[Exit.noGoto_ret]
   go_ret;refine⟨⟨_,rfl,?_⟩,kE⟩;rw[pC.out];unfold zFo;rw[HN.out];exact⟨fun hx=>⟨eF.out,hx⟩,fun hx=>hx.2⟩
  have rE:(k:Int)<(zq W:Int):=(by omega);obtain⟨g,cg,e,q0,q1,q2,q3,q4⟩:=aE.out.side fA.out iD.out k lB;obtain⟨-,ad,cd,nD,-,-⟩:=id (aE.out.zRl k lB);rw[nD]at q4;cases e;have oA:=zC wr (.cells #[.int .i64 (zO W k).zRh,.int .i64 (zO W k).time,.int .i64 (zO W k).rs,.int .i64 (zO W k).rb,.slice ad (zO W k).dn cd] 224);have HV:=zB (zEM.zRZ wr (.int .i64 (zO W k).zRh) (.int .i64 (zO W k).time) (.int .i64 (zO W k).rs) (.int .i64 (zO W k).rb) (.slice ad (zO W k).dn cd) 224);have mA:=zB ((kD.out.side fA.out (by omega)).zRX oA);have bC:=zA hb oA;have iA:=zB (bA.out.kept (yt oA none) (by simp));have pA:=zB (zBw fA.out (yt oA (some (w.heap.size+1))));have dD:=zB (HA.out.zRX bC);have kC:=zB (Hp.out.zRX bC);have bF:=zB (mE.out k lB);have aD:=zB (fE.out k lB);have iC:=zB (jE.out (zO W k).zRh);have bD:=zB (show yA W (zO W k)=zAR (zR W.zRd (zO W k).rs (zO W k).rb) (zN W (zO W k).zRh).time from rfl);have jB:=zB (show(zn W (k+1)).length=(zn W k).length+(yA W (zO W k)).length from List.length_append);have tE:=zB (fun (j:Nat) (hj:j<(yA W (zO W k)).length)=>zPr W (k:=k) (n:=zq W) lB hj);have cF:=zB (zIC W (zO W k));have vE:=zB (zJe W k);clear nD oA fA bA;generalize zO W k=mk at *;go_wp2_with fail;clear q0 q1 q2 q3 q4;have cB:=zB (show w.heap.size+2<=(wr.alloc (.cells #[.int .i64 mk.zRh,.int .i64 mk.time,.int .i64 mk.rs,.int .i64 mk.rb,.slice ad mk.dn cd] 224)).heap.size from Nat.le_trans hz pA.out.size);generalize wr.alloc (.cells #[.int .i64 mk.zRh,.int .i64 mk.time,.int .i64 mk.rs,.int .i64 mk.rb,.slice ad mk.dn cd] 224)=W2 at HV mA dD kC bC iA pA cB ⊢;generalize wr.heap.size=V at HV ⊢;obtain⟨⟨y0,-⟩,⟨y1,-⟩,⟨y2,-⟩,⟨y3,-⟩,⟨y4,-⟩⟩:=HV.out;obtain⟨⟨x0,-⟩,⟨x1,-⟩,⟨x2,-⟩,⟨x3,-⟩,⟨x4,-⟩,⟨x5,-⟩⟩:=mA.out;have fF:=qN W.zRd mk.rs mk.rb;have tC:=zB (show qm (zR W.zRd mk.rs mk.rb).length (zf (zR W.zRd mk.rs mk.rb)) (zh (zR W.zRd mk.rs mk.rb))from zBH HR.out (fun x hx=>(zAb HR.out aD.out hx).1) (zAj HR.out aD.out) (by omega));have oE:=zD2;have iE:=zMw;generalize pD:zN W mk.zRh=S at iC bD ⊢;have aF:=zB pD;clear pD;generalize vD:zR W.zRd mk.rs mk.rb=tree at tC fF bD ⊢;have eE:=zB vD;clear vD;go_region_held3 (fun w'=>w'.cell? ⟨w.heap.size,0,none⟩=some v0/\w'.cell? ⟨w.heap.size,1,none⟩=some v1/\w'.cell? ⟨w.heap.size,2,none⟩=some (.int .i64 W.time)/\w'.cell? ⟨w.heap.size,3,none⟩=some (.int .i64 W.next)/\w'.cell? ⟨w.heap.size,4,none⟩=some v2/\w'.cell? ⟨w.heap.size,5,none⟩=some v3/\w'.cell? ⟨V,0,none⟩=some (.int .i64 mk.zRh)/\w'.cell? ⟨V,2,none⟩=some (.int .i64 mk.rs)/\w'.cell? ⟨V,3,none⟩=some (.int .i64 mk.rb)) (go_keep)
   (first
    | (go_at_call 226;refine(zBr v0 v1 v2 v3 lo hi W mk.rs mk.rb _ ?_ HR.out aD.out).mono ?_;(exact kC.out.zRX (Below.refl _ _).drew);rintro e w5 ⟨vt,rfl,tB,pB⟩;rw[eE.out]at tB;obtain⟨sF,jF,rfl,-⟩:=zY tB;have rA:=zK pB;obtain⟨⟨k0,_⟩,⟨k1,_⟩,⟨k2,_⟩,⟨k3,_⟩,⟨k4,_⟩,⟨k5,_⟩⟩:=mA.out.zRX rA;obtain⟨⟨l0,_⟩,_,⟨l2,_⟩,⟨l3,_⟩,_⟩:=HV.out.zRX rA)
    | (go_at_call 190;refine(zBp lo hi W A mk.zRh _ (dD.out.zRX rA) HD.out bF.out hp).mono ?_;rintro e w6 ⟨aa,ca,rfl,lE,gC⟩;rw[aF.out];have rB:=zA rA gC;obtain⟨⟨f0,_⟩,⟨f1,_⟩,⟨f2,_⟩,⟨f3,_⟩,⟨f4,_⟩,⟨f5,_⟩⟩:=mA.out.zRX rB;obtain⟨⟨g0,_⟩,_,⟨g2,_⟩,⟨g3,_⟩,_⟩:=HV.out.zRX rB)
    | (go_at_call 151;refine(zA4 _ tree.length 0 _ (zf tree) (zh tree) S.time _ ((tB.zRX gC).atW (by omega))).mono ?_;rintro e w7 ⟨vy,vz,ly,lz,rfl,hY,-,hy,-,-,mD⟩;rw[(hY.1 ⟨tC.out,iC.out⟩).trans (zFj tree S.time)]at hy;rw[<-bD.out]at hy;obtain⟨ay,cy,rfl,oF⟩:=zY hy;have vA:=zA rB mD;obtain⟨⟨m0,_⟩,⟨m1,_⟩,⟨m2,_⟩,⟨m3,_⟩,⟨m4,_⟩,⟨m5,_⟩⟩:=mA.out.zRX vA;obtain⟨⟨n0,_⟩,_,⟨n2,_⟩,⟨n3,_⟩,_⟩:=HV.out.zRX vA))
  have HY:=zB hy;have gA:=zB (iA.out.kept (yt vA none) (by simp));have rC:=zB (zBw pA.out (yt vA (some (w.heap.size+1))));have vF:=zB (mA.out.zRX vA);have aB:=zA bC vA;have pF:w.heap.size+2<=w7.heap.size:=Nat.le_trans cB.out vA.size;have aG:=cF.out;have lF:=vE.out;clear hy vA mD rB gC rA pB tB lE hY mA HV dD kC iA pA cB tC iC oE iE x0 x1 x2 x3 x4 x5 y0 y1 y2 y3 y4 k0 k1 k2 k3 k4 k5 l0 l2 l3 f0 f1 f2 f3 f4 f5 g0 g2 g3 m0 m1 m2 m3 m4 m5 n0 n2 n3;generalize gF:yA W mk=yl at *;go_wp2_with fail
  go_loopw [6,31] (fun s i wr=>∃j:Nat,j<=yl.length/\s = .bool true/\i = .int .i64 j/\wr.ownsMap Tryz.prog 61 zCV (w.heap.size+1) ((zn W k).length+j) (zJK key ((zn W k).length+j))/\zGM ((zn W k).length+j) key/\w7.grownBy wr (some (w.heap.size+1))/\Below w.heap.size w wr) (fun _ i _=>yl.length - (intOf i).toNat)
  case atStart=>exact⟨0,Nat.zero_le _,rfl,rfl,gA.out,lA.out,World.grownBy.refl _ _,aB⟩
  case round=>
   clear aB;obtain⟨j,hj,rfl,rfl,jA,jD,oB,aB⟩:=hrel;have bA:=zB jA;have cC:=zB jD;have fA:=zB oB;clear jA jD oB;by_cases vC:j<yl.length;rotate_left
   ·obtain rfl:j=yl.length:=(by omega);go_wp2;go_roundw
    case rel=>
     refine⟨k+1,by omega,rfl,by go_num,?_,?_,zBw rC.out fA.out,aB⟩
     ·rw[jB.out];exact bA.out
     ·rw[jB.out];exact cC.out
    case measure=>simp[intOf];omega
   have sE:(j:Int)<(yl.length:Int):=(by omega);obtain⟨-,a7,c7,e7,-,mB⟩:=id (HY.out.atW (by omega));cases e7;obtain⟨b7,o7,rfl,-,-,mB⟩:=mB (by omega);have q0:=zBk fA.out gA.out (mB j vC).1;have q1:=zBk fA.out gA.out (mB j vC).2;clear mB;obtain⟨cD,lD⟩:=tE.out j vC;have eB:keyOf Tryz.prog 61 (.agg #[.int .i64 (zf yl j),.int .i64 (zh yl j)])=some (key ((zn W k).length+j)):=by
    have:=HK.out.at_ _ cD;rw[lD]at this;exact this
   have dE:=zB cD;have eA:=zB eB;clear lD cD eB;have oA:=zC wr (.cells #[.int .i64 (zf yl j),.int .i64 (zh yl j)] 61);have HV:=zB (zc.zRZ wr (.int .i64 (zf yl j)) (.int .i64 (zh yl j)) 61);have cA:=zB ((bA.out.kept (yt oA none) (by simp)).kept (yt ((Below.refl _ _).drew) none) (by simp));have iB:=zB (zBw fA.out (yt oA (some (w.heap.size+1))));have bB:=zA aB oA;have kA:=zB (show w.heap.size+1<wr.heap.size by have:=fA.out.size;omega);clear oA fA bA;have iF:(zn W k).length+j<=3000:=(by omega);generalize gD:(zn W k).length+j=p at *;have rD:=zB gD;clear gD;generalize zf yl j=xs at *;generalize zh yl j=xb at *;go_wp2_with fail;clear q0 q1;generalize wr.alloc (.cells #[.int .i64 xs,.int .i64 xb] 61)=W3 at HV cA iB bB ⊢;generalize wr.heap.size=V at HV kA ⊢;by_cases dA:∀i,i<p->key i≠key p
   ·have fC:=zGB cA.out eA.out (HK.out.zRZ dA);obtain⟨ev,st,wa,wb,he,sC,dB,aA,eD,nA⟩:=zJZ cA.out zQj zIg (by unfold maxLen;omega) zP4 eA.out (HK.out.zRZ dA) (val:=.int .i64 1);obtain⟨⟨y0,-⟩,⟨y1,-⟩⟩:=HV.out.zRX ((Below.refl _ _).drew);have z0:=(nA.cell_far _ (zD y0) (fun e=>by have h1:=Option.some.inj e;have h2:=kA.out;simp only at h1;omega)).trans y0;have z1:=(nA.cell_far _ (zD y1) (fun e=>by have h1:=Option.some.inj e;have h2:=kA.out;simp only at h1;omega)).trans y1;have cE:=zGB aA eA.out (HK.out.put p _);have kB:=zB aA;have bE:=zB (zBw (zBw iB.out (yt ((Below.refl _ _).drew) (some (w.heap.size+1)))) nA);have eC:=bB.drew.grown nA (Nat.le_trans bB.size (Nat.le_refl _)) (fun q e=>by cases e;omega);have fD:=zB dA;clear aA eD nA dA bB aB;unfold goInt at he dB;go_region;clear fC sC he dB y0 y1;go_wp2;go_roundw
    case rel=>exact⟨j+1,by omega,rfl,by go_num,by rw[show(zn W k).length+(j+1)=p+1 by have:=rD.out;omega];exact kB.out,by rw[show(zn W k).length+(j+1)=p+1 by have:=rD.out;omega];exact zFW.2 ⟨cC.out,fD.out⟩,bE.out,eC⟩
    case measure=>simp[intOf];omega
   ·obtain⟨i0,aC,sB⟩:∃i,i<p/\key i=key p:=by
     by_cases hx:∃i,i<p/\key i=key p
     ·exact hx
     ·exact absurd (fun i hi e=>hx ⟨i,hi,e⟩) dA
    have oC:=zB (HK.out.not_nodup aC dE.out sB);have fC:=zGB cA.out eA.out (HK.out.old aC sB cC.out);obtain⟨ev,st,wa,wb,he,sC,dB,aA,eD,nA⟩:=zJZ cA.out zQj zIg (by unfold maxLen;omega) zP4 eA.out (HK.out.old aC sB cC.out) (val:=.int .i64 2);obtain⟨⟨y0,-⟩,⟨y1,-⟩⟩:=HV.out.zRX ((Below.refl _ _).drew);have z0:=(nA.cell_far _ (zD y0) (fun e=>by have h1:=Option.some.inj e;have h2:=kA.out;simp only at h1;omega)).trans y0;have z1:=(nA.cell_far _ (zD y1) (fun e=>by have h1:=Option.some.inj e;have h2:=kA.out;simp only at h1;omega)).trans y1;have cE:=zGB aA eA.out (HK.out.put p _);have eC:=bB.drew.grown nA (Nat.le_trans bB.size (Nat.le_refl _)) (fun q e=>by cases e;omega);clear aA eD nA dA bB aB aC sB;unfold goInt at he dB;go_region;clear fC sC he dB y0 y1;go_wp2_with fail;go_region;go_wp2;rw[Exit.noGoto_ret];go_ret;exact⟨zG.no fun hx=>oC.out hx.1,eC.drew⟩
theorem zFY(v0 v1 v2 v3:Value)(lo hi:Nat)(W:zH)(w:World)(h:zk w lo hi v0 v1 v2 v3 W)(nA:zCS W) :
  Calls Tryz.prog 165 #[zz v0 v1 v2 v3 W] w fun e w'=>zG (zAx W) e/\Below w.heap.size w w':=by
 have Hp:=zB h;have iA:=zB nA;clear h nA;have ha:=zC w (.cells #[v0,v1,.int .i64 W.time,.int .i64 W.next,v2,v3] 37);have HB:=zB (zi.zRZ w v0 v1 (.int .i64 W.time) (.int .i64 W.next) v2 v3 37);obtain⟨⟨x0,-⟩,⟨x1,-⟩,⟨x2,-⟩,⟨x3,-⟩,⟨x4,-⟩,⟨x5,-⟩⟩:=HB.out;go_enter Tryz.func165,Tryz.ntmps165;go_wp2_with fail;generalize w.alloc (.cells #[v0,v1,.int .i64 W.time,.int .i64 W.next,v2,v3] 37)=W0 at ha HB x0 x1 x2 x3 x4 x5 ⊢;refine(zEk W.time W0).mono ?_;rintro e w1 ⟨⟨t1,rfl,bA⟩,rfl⟩;have aA:=zB bA;clear bA;cases t1
 ·have Hn:=zB (show ¬zAx W from fun hI=>absurd (aA.out.2 hI.zRo.time) (by simp));clear aA;go_wp2;go_ret;exact⟨zG.no Hn.out,ha⟩
 have H1:=zB (aA.out.1 rfl);clear aA;go_wp2_with fail;refine(zEk W.next _).mono ?_;rintro e w1 ⟨⟨t1,rfl,bA⟩,rfl⟩;have aA:=zB bA;clear bA;cases t1
 ·have Hn:=zB (show ¬zAx W from fun hI=>absurd (aA.out.2 hI.zRo.next) (by simp));clear aA;go_wp2;go_ret;exact⟨zG.no Hn.out,ha⟩
 have H2:=zB (aA.out.1 rfl);clear aA;go_wp2_with fail;refine(zI2 v2 W.sn lo hi W.zRg _ (Hp.out.zRX ha).zRg).mono ?_;rintro e w2 ⟨⟨t1,rfl,bA⟩,hc⟩;have aA:=zB bA;have dA:=zA ha hc;have oA:=zB (HB.out.zRX hc);clear bA hc x0 x1 x2 x3 x4 x5;obtain⟨⟨x0,-⟩,⟨x1,-⟩,⟨x2,-⟩,⟨x3,-⟩,⟨x4,-⟩,⟨x5,-⟩⟩:=oA.out;cases t1
 ·have Hn:=zB (show ¬zAx W from fun hI=>absurd (aA.out.2 hI.zRo.zRg) (by simp));clear aA;go_wp2;go_ret;exact⟨zG.no Hn.out,dA⟩
 have H3:=zB (aA.out.1 rfl);clear aA;have hs:=H3.out.1;go_wp2_with fail;refine(zIh v0 v1 v2 v3 lo hi W _ (Hp.out.zRX dA) hs).mono ?_;rintro e w3 ⟨⟨t1,rfl,bA⟩,hc⟩;have aA:=zB bA;have fA:=zA dA hc;have sA:=zB (oA.out.zRX hc);clear bA hc x0 x1 x2 x3 x4 x5;obtain⟨⟨x0,-⟩,⟨x1,-⟩,⟨x2,-⟩,⟨x3,-⟩,⟨x4,-⟩,⟨x5,-⟩⟩:=sA.out;cases t1
 ·have Hn:=zB (show ¬zAx W from fun hI=>absurd (aA.out.2 hI.zRo.zRe) (by simp));clear aA;go_wp2;go_ret;exact⟨zG.no Hn.out,fA⟩
 have H4:=zB (aA.out.1 rfl);clear aA;have hp:=H4.out.1;have HN:=zB (show zDB W from⟨H1.out,H2.out,H3.out,H4.out⟩);go_wp2_with fail;refine(zAA v0 v1 lo hi W.zRd _ (Hp.out.zRX fA).zRd).mono ?_;rintro e w4 ⟨⟨t1,rfl,bA⟩,hc⟩;have aA:=zB bA;have cA:=zA fA hc;have kA:=zB (sA.out.zRX hc);clear bA hc x0 x1 x2 x3 x4 x5;obtain⟨⟨x0,-⟩,⟨x1,-⟩,⟨x2,-⟩,⟨x3,-⟩,⟨x4,-⟩,⟨x5,-⟩⟩:=kA.out;cases t1
 ·have Hn:=zB (show ¬zAx W from fun hI=>absurd (aA.out.2 hI.right) (by simp));clear aA;go_wp2;go_ret;exact⟨zG.no Hn.out,cA⟩
 have H5:=zB (aA.out.1 rfl);clear aA;go_wp2_with fail;refine(zGx v0 v1 v2 v3 lo hi W _ (Hp.out.zRX cA) hp HN.out.idsWf).mono ?_;rintro e w5 ⟨A,rfl,hA,hc⟩;have pA:=zB hA;have lA:=zA cA hc;have mA:=zB (kA.out.zRX hc);clear hA hc x0 x1 x2 x3 x4 x5;obtain⟨⟨x0,-⟩,⟨x1,-⟩,⟨x2,-⟩,⟨x3,-⟩,⟨x4,-⟩,⟨x5,-⟩⟩:=mA.out;go_wp2_with fail;refine(zIa v0 v1 v2 v3 lo hi W A _ (Hp.out.zRX lA) hs hp pA.out HN.out.dist iA.out).mono ?_;rintro e w6 ⟨⟨t1,rfl,bA⟩,hc⟩;have aA:=zB bA;have eA:=zA lA hc;have tA:=zB (mA.out.zRX hc);have rA:=zB (pA.out.zRX hc);clear bA hc x0 x1 x2 x3 x4 x5;obtain⟨⟨x0,-⟩,⟨x1,-⟩,⟨x2,-⟩,⟨x3,-⟩,⟨x4,-⟩,⟨x5,-⟩⟩:=tA.out;cases t1
 ·have Hn:=zB (show ¬zAx W from fun hI=>absurd (aA.out.2 hI.prevs) (by simp));clear aA;go_wp2;go_ret;exact⟨zG.no Hn.out,eA⟩
 have H7:=zB (aA.out.1 rfl);clear aA;go_wp2_with fail;refine(zIX v0 v1 v2 v3 lo hi W A _ (Hp.out.zRX eA) hp hs rA.out HN.out.dist (HN.out.prevOk H7.out)).mono ?_;rintro e w7 ⟨⟨t1,rfl,bA⟩,hc⟩;have aA:=zB bA;have gA:=zA eA hc;have vA:=zB (tA.out.zRX hc);have aB:=zB (rA.out.zRX hc);clear bA hc x0 x1 x2 x3 x4 x5;obtain⟨⟨x0,-⟩,⟨x1,-⟩,⟨x2,-⟩,⟨x3,-⟩,⟨x4,-⟩,⟨x5,-⟩⟩:=vA.out;cases t1
 ·have Hn:=zB (show ¬zAx W from fun hI=>absurd (aA.out.2 hI.lines) (by simp));clear aA;go_wp2;go_ret;exact⟨zG.no Hn.out,gA⟩
 have H8:=zB (aA.out.1 rfl);clear aA;go_wp2_with fail;refine(zIG v0 v1 v2 v3 lo hi W A _ (Hp.out.zRX gA) hs hp aB.out HN.out.dist iA.out H5.out HN.out.times).mono ?_;rintro e w8 ⟨⟨t1,rfl,bA⟩,hc⟩;have aA:=zB bA;have jA:=zA gA hc;have cB:=zB (vA.out.zRX hc);have dB:=zB (aB.out.zRX hc);clear bA hc x0 x1 x2 x3 x4 x5;obtain⟨⟨x0,-⟩,⟨x1,-⟩,⟨x2,-⟩,⟨x3,-⟩,⟨x4,-⟩,⟨x5,-⟩⟩:=cB.out;cases t1
 ·have Hn:=zB (show ¬zAx W from fun hI=>absurd (aA.out.2 hI.trees) (by simp));clear aA;go_wp2;go_ret;exact⟨zG.no Hn.out,jA⟩
 have H9:=zB (aA.out.1 rfl);clear aA;go_wp2_with fail;refine(zIk v0 v1 v2 v3 lo hi W A _ (Hp.out.zRX jA) hs hp dB.out HN.out.dist iA.out H5.out HN.out.times H9.out.1).mono ?_;rintro e w9 ⟨⟨t1,rfl,bA⟩,hc⟩;have aA:=zB bA;have bB:=zA jA hc;clear bA hc;have Hn:=zB (show t1=true↔zAx W from⟨fun e=>⟨HN.out,H5.out,H7.out,H8.out,H9.out,aA.out.1 e⟩,fun hI=>aA.out.2 hI.homes⟩);clear aA;go_wp2;go_ret;exact⟨⟨t1,rfl,Hn.out⟩,bB⟩
def zMj(w:World)(b:Nat)(v0 v1 v2 v3:Value):Prop:=zW w b 0 v0/\zW w b 1 v1/\zW w b 2 v2/\zW w b 3 v3
theorem zMj.zRX{w w':World}{b:Nat}{v0 v1 v2 v3:Value}(h:zMj w b v0 v1 v2 v3)(t:Below w.heap.size w w'):zMj w' b v0 v1 v2 v3:=⟨h.1.zRX t,h.2.1.zRX t,h.2.2.1.zRX t,h.2.2.2.zRX t⟩
theorem zMj.zRZ(w:World)(v0 v1 v2 v3:Value)(t:TypeId):zMj (w.alloc (.cells #[v0,v1,v2,v3] t)) w.heap.size v0 v1 v2 v3:=by
 have hb:(w.alloc (.cells #[v0,v1,v2,v3] t)).heap[w.heap.size]?=some (.cells #[v0,v1,v2,v3] t):=heap_alloc_new _ _;exact⟨zJ hb rfl,zJ hb rfl,zJ hb rfl,zJ hb rfl⟩
abbrev put4(w:World)(b:Nat)(u0 u1 u2 u3:Value):World:=(((w.setCell ⟨b,0,none⟩ u0).setCell ⟨b,1,none⟩ u1).setCell ⟨b,2,none⟩ u2).setCell ⟨b,3,none⟩ u3
def zDC(w:World)(p:Nat->Addr)(v:Value)(m:Nat)(g:Nat->Nat)(lb:Nat->Array Value)(ei:Nat->Nat):Prop:=
 m<=1000/\∃a c,v = .slice a m c/\(0<m->∃b off,a=some ⟨b,off,none⟩/\∀i,i<m->w.cell? ⟨b,off+i*2,none⟩=some (.func (.func (g i)) #[] (lb i))/\w.cell? ⟨b,off+i*2+1,none⟩=some (qM (p (ei i))))
theorem zDC.zRX{w w':World}{p:Nat->Addr}{v:Value}{m:Nat}{g:Nat->Nat}{lb:Nat->Array Value}{ei:Nat->Nat}(h:zDC w p v m g lb ei)(t:Below w.heap.size w w'):zDC w' p v m g lb ei:=by
 obtain⟨m1,a,c,hv,hx⟩:=h;refine⟨m1,a,c,hv,fun h0=>?_⟩;obtain⟨b,off,ha,hc⟩:=hx h0;exact⟨b,off,ha,fun i hi=>⟨(t.cell (zD (hc i hi).1)).trans (hc i hi).1,(t.cell (zD (hc i hi).2)).trans (hc i hi).2⟩⟩
theorem zDC.cells{w:World}{p:Nat->Addr}{a:Option Addr}{c m:Nat}{g:Nat->Nat}{lb:Nat->Array Value}{ei:Nat->Nat}(h:zDC w p (.slice a m c) m g lb ei){i:Nat}(hi:i<m):∃b off,a=some ⟨b,off,none⟩/\w.cell? ⟨b,off+i*2,none⟩=some (.func (.func (g i)) #[] (lb i))/\w.cell? ⟨b,off+i*2+1,none⟩=some (qM (p (ei i))):=by
 obtain⟨m1,a0,c0,hv,hx⟩:=h;simp only[Value.slice.injEq,true_and]at hv;obtain⟨rfl,rfl⟩:=hv;obtain⟨b,off,ha,hc⟩:=hx (by omega);exact⟨b,off,ha,hc i hi⟩
def zId(W:zH)(long bad:Prop)(m:Nat)(Q:Nat->Prop)(ei:Nat->Nat)(r:Option Nat):Prop:=
 (long/\r=some 1)\/(¬long/\(¬zAx W\/bad)/\r=some 0)\/(¬long/\zAx W/\¬bad/\∃i,i<m/\¬Q i/\(∀j,j<i->Q j)/\r=some (ei i))\/(¬long/\zAx W/\¬bad/\(∀j,j<m->Q j)/\r=none)
def zQ7(p:Nat->Addr):Option Nat->Value
 | none=>.nilIface
 | some i=>qM (p i)
theorem zL7(p:Nat->Addr)(tv nv qv dv:Value)(nt nn m:Nat)(tx nx:Nat->ByteArray)(g:Nat->Nat)(lb:Nat->Array Value)(ei:Nat->Nat)(Q:Nat->Prop)(v0 v1 v2 v3:Value)(lo hi:Nat)(W:zH)(w:World)(hE:zE2 w p)(h:zk w lo hi v0 v1 v2 v3 W)(dB:zCS W)
  (ht:zAK w tv nt tx) (hn:zAK w nv nn nx) (hq:zDC w p qv m g lb ei) (eg:∀i,i<m->Enters Tryz.prog (g i))
  (hQ:∀i,i<m->∀w',Below w.heap.size w w'->zAx W->(∀j,j<i->Q j)->Calls Tryz.prog (g i) (#[zz v0 v1 v2 v3 W] ++ lb i) w' fun e gB=>zG (Q i) e/\Below w'.heap.size w' gB) :
  Calls Tryz.prog 105 #[.agg #[tv,nv,qv,dv],zz v0 v1 v2 v3 W] w fun e w'=>∃r,e = .returned (zQ7 p r)/\zId W (∃i,i<nt/\8000<(tx i).size) (∃i,i<nn/\¬yI (nx i)) m Q ei r/\Below w.heap.size w w':=by
 have Hp:=zd h;have HE:=zd hE;have Ht:=zd ht;have Hn:=zd hn;have Hq:=zd hq;have HQ:=zd hQ;have Hg:=zd eg;obtain⟨t1,ta,tc,rfl,-⟩:=ht;obtain⟨n1,na,nc,rfl,-⟩:=hn;obtain⟨m1,qa,qc,rfl,-⟩:=hq;clear h hE hQ eg;have aB:=zC w (.cells #[.slice ta nt tc,.slice na nn nc,.slice qa m qc,dv] 86);have rA:=zC (w.alloc (.cells #[.slice ta nt tc,.slice na nn nc,.slice qa m qc,dv] 86)) (.cells #[v0,v1,.int .i64 W.time,.int .i64 W.next,v2,v3] 37);have hb:=zA aB rA;have hd:=(zMj.zRZ w (.slice ta nt tc) (.slice na nn nc) (.slice qa m qc) (dv) 86).zRX rA;have hx:=zi.zRZ (w.alloc (.cells #[.slice ta nt tc,.slice na nn nc,.slice qa m qc,dv] 86)) (v0) (v1) (.int .i64 W.time) (.int .i64 W.next) (v2) (v3) 37;rw[World.size_alloc]at hx;have HD:=zd hd;have HX:=zd hx;clear hd hx;obtain⟨⟨d0,-⟩,⟨d1,-⟩,⟨d2,-⟩,⟨d3,-⟩⟩:=HD.out;go_enter Tryz.func105,Tryz.ntmps105;go_wp2_with fail;clear d0 d1 d2 d3;generalize ((w.alloc (.cells #[.slice ta nt tc,.slice na nn nc,.slice qa m qc,dv] 86)).alloc (.cells #[v0,v1,.int .i64 W.time,.int .i64 W.next,v2,v3] 37))=W1 at hb HD HX ⊢;clear aB rA;refine(zOM _ nt tx W1 (Ht.out.zRX hb)).mono ?_;rintro e w2 ⟨⟨t,rfl,aA⟩,gA⟩;have dA:=zA hb gA;have tA:=zd (HD.out.zRX gA);have mA:=zd (HX.out.zRX gA);clear gA hb HD HX;by_cases hl:∃i,i<nt/\8000<(tx i).size
 ·obtain rfl:t=true:=aA.2 hl;have HL:=zd hl;have vA:w2.cell? ⟨3,0,none⟩=some (qM (p 1)):=(HE.out.zRX dA).cell 1 (by omega);clear aA hl;go_wp2;go_ret;exact⟨some 1,rfl,Or.inl ⟨HL.out,rfl⟩,dA⟩
 obtain rfl:t=false:=zQ aA hl;have HL:=zd hl;clear aA hl;obtain⟨⟨x0,-⟩,⟨x1,-⟩,⟨x2,-⟩,⟨x3,-⟩,⟨x4,-⟩,⟨x5,-⟩⟩:=mA.out;go_wp2_with fail;clear x0 x1 x2 x3 x4 x5;refine(zFY _ _ _ _ lo hi W w2 (Hp.out.zRX dA) dB).mono ?_;rintro e w3 ⟨⟨t,rfl,aA⟩,jA⟩;have cA:=zA dA jA;have nA:=zd (tA.out.zRX jA);have bB:=zd (mA.out.zRX jA);clear jA dA tA mA;by_cases hw:zAx W;rotate_left
 ·obtain rfl:t=false:=zQ aA hw;have HW:=zd hw;have vA:w3.cell? ⟨4,0,none⟩=some (qM (p 0)):=(HE.out.zRX cA).cell 0 (by omega);clear aA hw;go_wp2;go_ret;exact⟨some 0,rfl,Or.inr (Or.inl ⟨HL.out,Or.inl HW.out,rfl⟩),cA⟩
 obtain rfl:t=true:=aA.2 hw;have HW:=zd hw;clear aA hw;obtain⟨⟨d0,-⟩,⟨d1,-⟩,⟨d2,-⟩,⟨d3,-⟩⟩:=nA.out;go_wp2_with fail;clear d0 d1 d2 d3;refine(zN1 _ nn nx w3 (Hn.out.zRX cA)).mono ?_;rintro e w4 ⟨⟨t,rfl,aA⟩,fA⟩;have oA:=zA cA fA;have iB:=zd (nA.out.zRX fA);have kB:=zd (bB.out.zRX fA);clear fA cA nA bB;by_cases hl:∃i,i<nn/\¬yI (nx i)
 ·obtain rfl:t=true:=aA.2 hl;have HN:=zd hl;have vA:w4.cell? ⟨4,0,none⟩=some (qM (p 0)):=(HE.out.zRX oA).cell 0 (by omega);clear aA hl;go_wp2;go_ret;exact⟨some 0,rfl,Or.inr (Or.inl ⟨HL.out,Or.inr HN.out,rfl⟩),oA⟩
 obtain rfl:t=false:=zQ aA hl;have HN:=zd hl;clear aA hl;obtain⟨⟨d0,-⟩,⟨d1,-⟩,⟨d2,-⟩,⟨d3,-⟩⟩:=iB.out;go_wp2;clear d0 d1 d2 d3
 go_loopw [23] (fun i wr=>∃k:Nat,k<=m/\i = .int .i64 k/\(∀j,j<k->Q j)/\zi wr (w.heap.size+1) (v0) (v1) (.int .i64 W.time) (.int .i64 W.next) (v2) (v3)/\Below w.heap.size w wr) (fun i _=>m - (intOf i).toNat)
 case atStart=>exact⟨0,Nat.zero_le _,rfl,fun j hj=>absurd hj (Nat.not_lt_zero _),kB.out,oA⟩
 case round=>
  obtain⟨k,hk,rfl,eA,hX,hb⟩:=hrel;have bA:=zd eA;have fB:=zd hX;clear eA hX;by_cases kA:k<m
  ·have lB:(k:Int)<(m:Int):=(by omega);obtain⟨b,off,rfl,q0,q1⟩:=(Hq.out.zRX hb).cells kA;have pA:=zC wr (.cells #[.func (.func (g k)) #[] (lb k),qM (p (ei k))] 75);have HV:=zd (zc.zRZ wr (.func (.func (g k)) #[] (lb k)) (qM (p (ei k))) 75);have sA:=zd (fB.out.zRX pA);have lA:=zA hb pA;have e0:∀(args:Array Value) (w:World),(callFunc (g k) args).run Tryz.prog w = .ok (.enter (g k) args) w:=Hg.out k kA;have jB:=fun (w:World) (a:Addr)=>run_store Tryz.prog w a (.func (.func (g k)) #[] (lb k)) .plain rfl
   obtain⟨⟨z0,-⟩,⟨z1,-⟩⟩:=HV.out;obtain⟨⟨x0,-⟩,⟨x1,-⟩,⟨x2,-⟩,⟨x3,-⟩,⟨x4,-⟩,⟨x5,-⟩⟩:=sA.out;go_wp2_with fail;clear x0 x1 x2 x3 x4 x5 z0 z1 q0 q1 jB;generalize wr.alloc (.cells #[.func (.func (g k)) #[] (lb k),qM (p (ei k))] 75)=W5 at HV sA lA ⊢;generalize wr.heap.size=V at HV ⊢;refine(HQ.out k kA W5 lA HW.out bA.out).mono ?_;rintro e w6 ⟨⟨t,rfl,aA⟩,iA⟩;have cB:=zA lA iA;have mB:=zd (HV.out.zRX iA);have eB:=zd (sA.out.zRX iA);clear iA lA pA e0;by_cases hf:Q k
   ·obtain rfl:t=true:=aA.2 hf;have HF:=zd hf;clear aA hf;go_wp2;go_roundw
    case rel=>
     refine⟨k+1,by omega,by go_num,fun j hj=>?_,eB.out,cB⟩;by_cases e:j=k
     ·subst e;exact HF.out
     ·exact bA.out j (by omega)
    case measure=>simp[intOf];omega
   ·obtain rfl:t=false:=zQ aA hf;have HF:=zd hf;clear aA hf;obtain⟨⟨z0,-⟩,⟨z1,-⟩⟩:=mB.out;go_wp2;go_ret;exact⟨some (ei k),rfl,Or.inr (Or.inr (Or.inl ⟨HL.out,HW.out,HN.out,k,kA,HF.out,bA.out,rfl⟩)),cB⟩
  ·obtain rfl:k=m:=(by omega);go_wp2;go_ret;exact⟨none,rfl,Or.inr (Or.inr (Or.inr ⟨HL.out,HW.out,HN.out,bA.out,rfl⟩)),hb⟩
end Go.Proofs.YtmgeglgboadfiaaGreatDoor
