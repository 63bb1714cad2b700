/- A part of the proof. -/
import Derived.Test.YtgabgheflgjgiaaGreatDoorU4
import Derived.Test.YtgabgheflgjgiaaGreatDoorU35
import Derived.Test.YtgabgheflgjgiaaGreatDoorU38
import Derived.Test.YtgabgheflgjgiaaGreatDoorU43
import Derived.Test.YtgabgheflgjgiaaGreatDoorU46
import Derived.Lib.AppendStr
import Derived.OpenShut
set_option linter.unusedVariables false
set_option maxRecDepth 20000
set_option maxHeartbeats 4000000
namespace Go.Proofs.YtgabgheflgjgiaaGreatDoor
open Go.RowKit
theorem zBI{w:World}{base D:Nat}{v:Value}{Ws:List (List UInt8)}(aA:zBj w base v Ws)(cA:D<base)(h0:0<Ws.length)(hm:Ws.length<=3)(bA:∀x∈Ws,x.length<=100000) :
  ∃g cap,v = .slice (some ⟨g,0,none⟩) Ws.length cap/\¬g=D/\Ws.length<=cap/\∀k (h:k<Ws.length),w.cell? ⟨g,k,none⟩=some (.string ⟨Ws[k].toArray⟩)/\(⟨Ws[k].toArray⟩:ByteArray).size<=100000:=by
 obtain⟨g,cap,rfl,hb,hT⟩:=aA.texts h0 (by omega);refine⟨g,cap,rfl,by omega,hT.2.1,fun k h=>⟨hT.2.2.2.2 k h,?_⟩⟩;show Ws[k].toArray.size<=_;rw[List.size_toArray];exact bA _ (List.getElem_mem h)
theorem zMk(D base:Nat)(P:Nat->Prop)(v:Value)(Ws:List (List UInt8))(wd:ByteArray)(n:Int)(w:World)(hD:zAS w D P)(cA:∀k,P k->k<w.heap.size)(fA:(shF wd).2=true)(aA:Ws.length=zGb (shF wd).1 (shF wd).1.size)(eA:∀x∈Ws,x.length<=100000)(bA:zBj w base v Ws)(dA:D<base) :
  Calls Tryz.prog 12 #[.pointer (some ⟨D,0,none⟩),.agg #[.string wd,.int .i64 n,v]] w (zDW 100 D P w):=by
 obtain⟨i,hi,hw⟩:=zJi fA;rw[zKa hi hw]at aA;rcases(by omega:i=0\/i=1\/i=2\/i=3\/i=4\/i=5\/i=6\/i=7\/i=8\/i=9\/i=10\/i=11\/i=12)with rfl | rfl | rfl | rfl | rfl | rfl | rfl | rfl | rfl | rfl | rfl | rfl | rfl
 ·have hl:Ws.length=1:=aA;obtain⟨g,cap,rfl,hg,hc,hx⟩:=zBI bA dA (by omega) (by omega) eA;exact zMl D P g _ cap wd _ n w hw hD cA hg (hx 0 (by omega)).1 (hx 0 (by omega)).2 (by omega) hc
 ·have hl:Ws.length=2:=aA;obtain⟨g,cap,rfl,hg,hc,hx⟩:=zBI bA dA (by omega) (by omega) eA;exact zKN D P g _ cap wd _ _ n w hw hD cA hg (hx 0 (by omega)).1 (hx 0 (by omega)).2 (hx 1 (by omega)).1 (hx 1 (by omega)).2 (by omega) hc
 ·have hl:Ws.length=1:=aA;obtain⟨g,cap,rfl,hg,hc,hx⟩:=zBI bA dA (by omega) (by omega) eA;exact zLa D P g _ cap wd _ n w hw hD cA hg (hx 0 (by omega)).1 (hx 0 (by omega)).2 (by omega) hc
 ·have hl:Ws.length=2:=aA;obtain⟨g,cap,rfl,hg,hc,hx⟩:=zBI bA dA (by omega) (by omega) eA;exact zLY D P g _ cap wd _ _ n w hw hD cA hg (hx 0 (by omega)).1 (hx 0 (by omega)).2 (hx 1 (by omega)).1 (hx 1 (by omega)).2 (by omega) hc
 ·have hl:Ws.length=1:=aA;obtain⟨g,cap,rfl,hg,hc,hx⟩:=zBI bA dA (by omega) (by omega) eA;exact zKL D P g _ cap wd _ n w hw hD cA hg (hx 0 (by omega)).1 (hx 0 (by omega)).2 (by omega) hc
 ·have hl:Ws.length=0:=aA;obtain⟨va,cap,rfl,-⟩:=bA.tx (by omega);exact zLV D P _ cap va wd n w hw hD cA
 ·have hl:Ws.length=1:=aA;obtain⟨g,cap,rfl,hg,hc,hx⟩:=zBI bA dA (by omega) (by omega) eA;exact zIh D P g _ cap wd _ n w hw hD cA hg (hx 0 (by omega)).1 (hx 0 (by omega)).2 (by omega) hc
 ·have hl:Ws.length=1:=aA;obtain⟨g,cap,rfl,hg,hc,hx⟩:=zBI bA dA (by omega) (by omega) eA;exact zLU D P g _ cap wd _ n w hw hD cA hg (hx 0 (by omega)).1 (hx 0 (by omega)).2 (by omega) hc
 ·have hl:Ws.length=1:=aA;obtain⟨g,cap,rfl,hg,hc,hx⟩:=zBI bA dA (by omega) (by omega) eA;exact zIi D P g _ cap wd _ n w hw hD cA hg (hx 0 (by omega)).1 (hx 0 (by omega)).2 (by omega) hc
 ·have hl:Ws.length=1:=aA;obtain⟨g,cap,rfl,hg,hc,hx⟩:=zBI bA dA (by omega) (by omega) eA;exact zLX D P g _ cap wd _ n w hw hD cA hg (hx 0 (by omega)).1 (hx 0 (by omega)).2 (by omega) hc
 ·have hl:Ws.length=0:=aA;obtain⟨va,cap,rfl,-⟩:=bA.tx (by omega);exact zLW D P _ cap va wd n w hw hD cA
 ·have hl:Ws.length=0:=aA;obtain⟨va,cap,rfl,-⟩:=bA.tx (by omega);exact zLZ D P _ cap va wd n w hw hD cA
 ·have hl:Ws.length=0:=aA;obtain⟨va,cap,rfl,-⟩:=bA.tx (by omega);exact zKM D P _ cap va wd n w hw hD cA
open Go.Lib
theorem zHL(s:ByteArray):strCells s=(zCl s).map (Value.int .u8):=by
 unfold strCells zCl;rw[List.map_map];rfl
theorem zNW{w:World}{base g n cap:Nat}{l:List Int}(s:ByteArray)(ty:TypeId)(ho:zCC w base (.slice (some ⟨g,0,none⟩) n cap) l)(hn:l.length=n)(h:n+s.size<=100000000)(bA:base<=w.heap.size) :
  ∃g' aA w',(Builtin.append_ #[46,9] ty #[.slice (some ⟨g,0,none⟩) n cap,.string s]).run Tryz.prog w = .ok (.slice (some ⟨g',0,none⟩) (n+s.size) aA) w'/\zCC w' base (.slice (some ⟨g',0,none⟩) (n+s.size) aA) (l ++ zCl s)/\w.grownBy w' (some g)/\(g'=g\/g'=w.heap.size):=by
 obtain⟨i0,dA,gA⟩:=Option.map_eq_some_iff.1 zKz;simp only[Prod.mk.injEq]at gA;obtain⟨hz,eA,fA⟩:=gA;unfold zCC at ho;rw[hn]at ho;obtain⟨v',w',hr,h2,h3,-⟩:=run_append_own_string (P:=Tryz.prog) w base 46 9 ty 5 i0 (by kernel_rfl) (by kernel_rfl) dA hz eA fA _ n _ ho s (by unfold maxLen;omega) (by omega) bA;have key:∃g' aA,v' = .slice (some ⟨g',0,none⟩) (n+s.size) aA/\(g'=g\/g'=w.heap.size):=by
  rcases ho.2 with⟨e,_⟩ | ⟨g0,iA,jA,e,hb,hg,hc,hm,kA,-⟩
  ·cases e
  ·simp only[Value.slice.injEq,Option.some.injEq,Addr.mk.injEq,and_true,true_and]at e;obtain⟨rfl,rfl⟩:=e;by_cases cA:n+s.size<=cap
   ·have hq:=run_append_room_string (P:=Tryz.prog) w 46 9 ty 5 i0 (by kernel_rfl) (by kernel_rfl) dA eA g n cap jA hg s cA (by rw[kA];omega);rw[hr]at hq;injection hq with h5 h6;exact⟨g,cap,h5,Or.inl rfl⟩
   ·have holds:=ho.cells (g:=g) rfl;have mA:(l.map (Value.int .u8)).length=n:=(by rw[List.length_map];exact hn);have hq:=run_append_grow_string (P:=Tryz.prog) w 46 9 ty 5 i0 (.int .u8 0) (by kernel_rfl) (by kernel_rfl) dA hz ⟨g,0,none⟩ n cap _ (by rw[eA,Nat.mul_one];exact mA) holds s (by omega) (by omega) (by rw[fA];exact growslice_fits (by omega) (by omega));rw[hr]at hq;injection hq with h5 h6;exact⟨_,_,h5,Or.inr rfl⟩
 obtain⟨g',aA,rfl,lA⟩:=key;refine⟨g',aA,w',hr,?_,h3,lA⟩;unfold zCC;rw[List.length_append,zCF,hn,List.map_append,<-zHL];exact h2
theorem zCY{P:Prop}(h:P):Hid P:=h
def many(x:Int):Nat:=if 0<=x/\x<=200 then x.toNat else 0
theorem zMf:(Tryz.prog.info? 128).map (fun i=>(i.zero,i.size,i.bytes))=some (some (.agg #[.int .i64 0,.slice none 0 0,.string ⟨#[]⟩]),3,48):=by kernel_rfl
theorem zHY{w w':World}{lo hi:Nat}:zh w' lo hi (.slice none 0 0) (.slice none 0 0) (zBn 0):=
 zE2 (g:=0) (Nat.zero_le _) ⟨none,0,rfl,Nat.le_refl _,fun h=>absurd h (Nat.lt_irrefl _)⟩ (fun i h=>absurd h (Nat.not_lt_zero _))
def zl:Nat->List Value
 | 0=>[]
 | k+1=>zl k ++ [.int .i64 0,.slice none 0 0,.string ⟨#[]⟩]
theorem zKh(k:Nat):(zl k).length=k*3:=by
 induction k with
 | zero=>rfl
 | succ k ih=>simp[zl,ih];omega
theorem zOj(k i r:Nat)(hi:i<k)(hr:r<3):(zl k)[i*3+r]? = [Value.int .i64 0,.slice none 0 0,.string ⟨#[]⟩][r]?:=by
 induction k with
 | zero=>omega
 | succ k ih=>
  unfold zl;by_cases e:i<k
  ·rw[List.getElem?_append_left (by rw[zKh];omega)];exact ih e
  ·obtain rfl:i=k:=(by omega);rw[List.getElem?_append_right (by rw[zKh];omega),zKh];congr 1;omega
theorem zLy(w:World)(o1 o2:Obj):((w.alloc o1).alloc o2).heap[w.heap.size]?=some o1/\((w.alloc o1).alloc o2).heap[w.heap.size+1]?=some o2/\w.heap.size+2<=((w.alloc o1).alloc o2).heap.size:=by
 refine⟨?_,?_,by simp⟩
 ·show((w.heap.push o1).push o2)[w.heap.size]?=_;simp only[Array.getElem?_push,Array.size_push];rw[if_neg (by omega),if_pos trivial]
 ·show((w.heap.push o1).push o2)[w.heap.size+1]?=_;simp only[Array.getElem?_push,Array.size_push];rw[if_pos trivial]
theorem zM6{w wr w':World}{n:Nat}{v:Value}(hn:n<=200)(bA:wr.ownsRow (w.heap.size+2) 128 3 v n (zl n))(hc:∀b o u,w.heap.size+2<=b->zT wr b o u->zT w' b o u)(hs:wr.heap.size<=w'.heap.size) :
  zh w' w.heap.size w'.heap.size v (.slice none 0 0) (zBn n):=by
 have hm:n<=maxLen:=by unfold maxLen;omega
 by_cases h0:0<n
 ·obtain⟨g,cap,rfl,cA,hg,dA,aA⟩:=qp bA h0;refine zE2 (g:=g) hm ⟨_,cap,rfl,cA,fun _=>⟨rfl,by omega,by omega⟩⟩ (fun i hi=>?_);have cell:∀r u,r<3->[Value.int .i64 0,.slice none 0 0,.string ⟨#[]⟩][r]?=some u->zT w' g (0+i*3+r) u:=fun r u hr hu=>by
   rw[Nat.zero_add];exact hc g _ u hg (aA _ u (by rw[zOj n i r hi hr];exact hu))
  exact⟨cell 0 _ (by omega) rfl,cell 1 _ (by omega) rfl,cell 2 _ (by omega) rfl⟩
 ·obtain⟨a,cap,rfl,cA⟩:=zX bA;exact zE2 (g:=0) hm ⟨a,cap,rfl,cA,fun h=>absurd h h0⟩ (fun i hi=>absurd hi (by omega))
theorem zGD(x:Int)(w:World):Calls Tryz.prog 40 #[.int .i64 x] w (zIQ (zBn (many x)) w):=by
 by_cases h1:x<0\/200<x
 ·have hm:Hid (many x=0):=if_neg (by omega);go_enter Tryz.func40,Tryz.ntmps40;go_wp2;refine wp_loop_rounds 1 ?_;rw[rounds_succ];rcases h1 with h1 | h1
  ·have h2:¬0<x:=(by omega);go_wp2;refine bodyPost_ret (v:=.agg #[.slice none 0 0,.slice none 0 0]) (by simp[results,Tryz.results40,go_sem]) rfl ?_;rw[hm.out];exact⟨_,_,rfl,zHY (w:=w),((Below.refl _ _).alloc (Nat.le_refl _) _).alloc (by simp) _⟩
  ·have h2:0<x:=(by omega);have h3:¬x<=200:=(by omega);go_wp2;refine bodyPost_ret (v:=.agg #[.slice none 0 0,.slice none 0 0]) (by simp[results,Tryz.results40,go_sem]) rfl ?_;rw[hm.out];exact⟨_,_,rfl,zHY (w:=w),((Below.refl _ _).alloc (Nat.le_refl _) _).alloc (by simp) _⟩
 ·obtain⟨n,rfl⟩:=Int.eq_ofNat_of_zero_le (by omega:0<=x);have hn:(n:Int)<=200:=(by omega);have hm:Hid (many (n:Int)=n):=(if_pos ⟨by omega,by omega⟩).trans (by simp);clear h1;obtain⟨i0,hi,rA⟩:=Option.map_eq_some_iff.1 zMf;simp only[Prod.mk.injEq]at rA;obtain⟨hz,hs,gA⟩:=rA;have HI:Hid (Tryz.prog.info? 128=some i0/\i0.zero=some (.agg #[.int .i64 0,.slice none 0 0,.string ⟨#[]⟩])/\i0.size=3/\i0.bytes=48):=⟨hi,hz,hs,gA⟩;clear hi hz hs gA;go_enter Tryz.func40,Tryz.ntmps40;go_wp2
  go_loopw [4] (fun i wr=>∃(k:Nat) (v:Value),k<=n/\i = .int .i64 k/\wr.heap[w.heap.size]?=some (.cells #[.slice none 0 0,.slice none 0 0] 36)/\wr.heap[w.heap.size+1]?=some (.cells #[v,.slice none 0 0] 36)/\
    wr.ownsRow (w.heap.size+2) 128 3 v k (zl k)/\Below w.heap.size w wr/\w.heap.size+2<=wr.heap.size) (fun i _=>n - (intOf i).toNat)
  case atStart=>
   obtain⟨t1,t2,t3⟩:=zLy w (.cells #[.slice none 0 0,.slice none 0 0] 36) (.cells #[.slice none 0 0,.slice none 0 0] 36);exact⟨0,.slice none 0 0,Nat.zero_le _,rfl,t1,t2,World.ownsRow_nil _ _ _ _,((Below.refl _ _).alloc (Nat.le_refl _) _).alloc (by simp) _,t3⟩
  case round=>
   obtain⟨k,v,hk,rfl,eA,fA,bA,hb,jB⟩:=hrel;obtain⟨a,cap,rfl,_⟩:=zX bA;obtain⟨tA,aB⟩:=zL (i:=0) (v:=.slice a k cap) fA rfl;obtain⟨vA,bB⟩:=zL (i:=1) (v:=.slice none 0 0) fA rfl;obtain⟨mA,oA⟩:=zL (i:=0) (v:=.slice none 0 0) eA rfl;obtain⟨nA,pA⟩:=zL (i:=1) (v:=.slice none 0 0) eA rfl;have Hb:Hid (wr.heap[w.heap.size]?=some (.cells #[.slice none 0 0,.slice none 0 0] 36)/\wr.heap[w.heap.size+1]?=some (.cells #[.slice a k cap,.slice none 0 0] 36)):=⟨eA,fA⟩;clear eA fA;by_cases gB:k<n
   ·have cB:(k:Int)<(n:Int):=(by omega);obtain⟨hi,hz,hs,gA⟩:=HI.out;have hu:=Tryz.underlying33;go_wp2_with (first
     | (at_builtin;refine wpList_append_own _ rfl _ _ 33 rfl (w.heap.size+2) 128 i0 (.agg #[.int .i64 0,.slice none 0 0,.string ⟨#[]⟩]) 3 48 hu hi hz hs gA rfl (by decide) _ _ _ rfl (bA.alloc _) ⟨wr.heap.size,0,none⟩ 1 1 [.int .i64 0,.slice none 0 0,.string ⟨#[]⟩] rfl rfl ?c1 ?c2 ?c3 ?c4 ?c5 ?_))
    case c1=>
     intro j u hj
     match j,hj with
     | 0,hj=>simp at hj;subst hj;simp[Addr.add]
     | 1,hj=>simp at hj;subst hj;simp[Addr.add]
     | 2,hj=>simp at hj;subst hj;simp[Addr.add]
    case c2=>
     intro u hu;simp at hu;rcases hu with rfl | rfl | rfl<;>rfl
    case c3=>unfold maxLen;omega
    case c4=>omega
    case c5=>simp;omega
    intro v' w1 cA aA kA;obtain⟨a',iA,rfl,_⟩:=zX cA;have jA:w1.heap[w.heap.size+1]?=some (.cells #[.slice a k cap,.slice none 0 0] 36):=by
     rw[zDd aA (bA.alloc _) (by omega) (by simp;omega),Below.heap_alloc _ _ _ (by omega)];exact Hb.out.2
    have dA:w1.heap[w.heap.size]?=some (.cells #[.slice none 0 0,.slice none 0 0] 36):=by
     rw[zDd aA (bA.alloc _) (by omega) (by simp;omega),Below.heap_alloc _ _ _ (by omega)];exact Hb.out.1
    obtain⟨eB,fB⟩:=zL (i:=0) (v:=.slice a k cap) jA rfl;have lA:Hid (w1.heap[w.heap.size]?=some (.cells #[.slice none 0 0,.slice none 0 0] 36)/\w1.heap[w.heap.size+1]?=some (.cells #[.slice a k cap,.slice none 0 0] 36)):=⟨dA,jA⟩;have sA:Below w.heap.size w w1:=(hb.alloc hb.size _).grown aA (by simp;omega) (fun q hq=>by have:=(bA.alloc (.cells #[.int .i64 0,.slice none 0 0,.string ⟨#[]⟩] 128)).lt q hq;omega);have iB:w.heap.size+2<=w1.heap.size:=(by have:=aA.size;simp at this;omega);clear jA dA tA aB vA bB mA oA nA pA kA;go_wp2;go_roundw
    case rel=>
     refine⟨k+1,.slice a' (k+1) iA,by omega,by go_num,?_,?_,ownsRow_setCell_below cA (by show w.heap.size+1<w.heap.size+2;omega) _,sA.setCell (by show w.heap.size<=w.heap.size+1;omega) _,by simp;omega⟩
     ·rw[Below.heap_setCell _ _ _ _ (by show w.heap.size≠w.heap.size+1;omega)];exact lA.out.1
     ·exact zF8 _ lA.out.2
    case measure=>simp[intOf];omega
   ·obtain rfl:k=n:=(by omega);go_wp2;refine bodyPost_ret (v:=.agg #[.slice a k cap,.slice none 0 0]) ?_ rfl ?_
    ·have z0:((wr.setCell ⟨w.heap.size,0,none⟩ (.slice a k cap)).setCell ⟨w.heap.size,1,none⟩ (.slice none 0 0)).cell? ⟨w.heap.size,0,none⟩=some (.slice a k cap):=(((show zT wr w.heap.size 0 _ from⟨mA,oA⟩).set (.slice a k cap)).zOq (b':=w.heap.size) (o':=1) (.slice none 0 0) (Or.inr (by omega))).1;have z1:((wr.setCell ⟨w.heap.size,0,none⟩ (.slice a k cap)).setCell ⟨w.heap.size,1,none⟩ (.slice none 0 0)).cell? ⟨w.heap.size,1,none⟩=some (.slice none 0 0):=(((show zT wr w.heap.size 1 _ from⟨nA,pA⟩).zOq (b':=w.heap.size) (o':=0) (.slice a k cap) (Or.inr (by omega))).set (.slice none 0 0)).1;simp[results,Tryz.results40,go_sem,z0,z1]
    rw[hm.out];refine⟨_,_,rfl,zM6 (by omega) bA (fun b o u dB hu=>(hu.zOq _ (Or.inl (by omega))).zOq _ (Or.inl (by omega))) (by simp),(hb.setCell (Nat.le_refl _) _).setCell (Nat.le_refl _) _⟩
def zIF(x:Int):Int:=if 0<=x/\x<=200 then 1 else 0
def zL7(p:zI)(t:Int)(w:World)(e:Ending)(w':World):Prop:=∃v0 v1,e = .returned (.agg #[v0,v1,.int .i64 t,.int .i64 t,.slice none 0 0,.slice none 0 0])/\zh w' w.heap.size w'.heap.size v0 v1 p/\Below w.heap.size w w'
theorem zGm(x a b:Int)(w:World):Calls Tryz.prog 39 #[.int .i64 x,.int .i64 a,.int .i64 b] w fun e w'=>zK (a<=x/\x<=b) e/\w'=w:=by
 by_cases h1:a<=x
 ·by_cases h2:x<=b
  ·go_enter Tryz.func39,Tryz.ntmps39;go_wp2;go_ret;exact⟨zK.yes ⟨h1,h2⟩,rfl⟩
  ·go_enter Tryz.func39,Tryz.ntmps39;go_wp2;go_ret;exact⟨zK.no (fun h=>by omega),rfl⟩
 ·go_enter Tryz.func39,Tryz.ntmps39;go_wp2;go_ret;exact⟨zK.no (fun h=>by omega),rfl⟩
theorem zC5(x:Int)(w:World):Calls Tryz.prog 16 #[.int .i64 x] w (zL7 (zBn (many x)) (zIF x) w):=by
 have bA:=zC w (.cells #[.slice none 0 0,.slice none 0 0,.int .i64 0,.int .i64 0,.slice none 0 0,.slice none 0 0] 40);by_cases h1:0<=x/\x<=200
 ·have hs:Hid (zIF x=1):=if_pos (by omega);have H1:=zCY h1;clear h1;go_enter Tryz.func16,Tryz.ntmps16;go_wp2_with (first | (go_at_call 39;refine(zGm x 0 200 _).mono ?_;rintro e w0 ⟨⟨t0,rfl,aA⟩,rfl⟩;obtain rfl:t0=true:=aA.2 H1.out;clear aA) | fail);go_wp2_with fail;refine(zGD x _).mono ?_;rintro e w1 ⟨v0,v1,rfl,ho,hb⟩;have HB:=zCY ((za.zOt w (.slice none 0 0) (.slice none 0 0) (.int .i64 0) (.int .i64 0) (.slice none 0 0) (.slice none 0 0) 40).zOp hb);have hB:=zA bA hb;obtain⟨a,c,a',c',rfl,rfl⟩:=ho.form;rw[World.size_alloc]at ho;have HO:=zCY ho;clear ho hb bA;obtain⟨⟨x0,x1⟩,⟨x2,x3⟩,⟨x4,x5⟩,⟨x6,x7⟩,⟨x8,x9⟩,⟨dA,eA⟩⟩:=HB.out;go_wp2;obtain⟨⟨y0,_⟩,⟨y1,_⟩,⟨y2,_⟩,⟨y3,_⟩,⟨y4,_⟩,⟨y5,_⟩⟩:=HB.out.put (.slice a (zBn (many x)).n c) (.slice a' (zBn (many x)).hn c') (.int .i64 1) (.int .i64 1) (.slice none 0 0) (.slice none 0 0);have ht:=zE.put6 w1 w.heap.size (.slice a (zBn (many x)).n c) (.slice a' (zBn (many x)).hn c') (.int .i64 1) (.int .i64 1) (.slice none 0 0) (.slice none 0 0);refine bodyPost_ret (v:=.agg #[.slice a (zBn (many x)).n c,.slice a' (zBn (many x)).hn c',.int .i64 1,.int .i64 1,.slice none 0 0,.slice none 0 0]) (by simp[results,Tryz.results16,go_sem,y0,y1,y2,y3,y4,y5]) rfl ?_;rw[hs.out];exact⟨_,_,rfl,(HO.out.zOr ht (by omega)).zOu (by omega) (by exact ht.size),hB.trans (ht.zOp hB.size (by intro k hk;omega))⟩
 ·have hm:Hid (many x=0):=if_neg (by omega);have hs:Hid (zIF x=0):=if_neg (by omega);have H1:=zCY h1;have cA:=zCY bA;clear h1 bA;go_enter Tryz.func16,Tryz.ntmps16;go_wp2_with (first | (go_at_call 39;refine(zGm x 0 200 _).mono ?_;rintro e w0 ⟨⟨t0,rfl,aA⟩,rfl⟩;obtain rfl:t0=false:=Bool.eq_false_iff.2 (fun h=>H1.out (aA.1 h));clear aA) | fail);go_wp2;refine bodyPost_ret (v:=.agg #[.slice none 0 0,.slice none 0 0,.int .i64 0,.int .i64 0,.slice none 0 0,.slice none 0 0]) (by simp[results,Tryz.results16,go_sem]) rfl ?_;rw[hm.out,hs.out];exact⟨_,_,rfl,zHY (w:=w),(by first | exact cA.out | exact cA.out.drew)⟩
def zBF(x:Int):zH:={zOv:=zBn (many x),time:=zIF x,next:=zIF x,sn:=0,zOy:=fun _=>⟨⟨#[]⟩,0,0,0,0,0,fun _=>0,fun _=>0⟩,pn:=0,zOw:=fun _=>⟨0,⟨#[]⟩,⟨#[]⟩,0,0,0,0,0,fun _=>0,fun _=>0⟩}
theorem zL7.world{x:Int}{w w':World}{e:Ending}(h:zL7 (zBn (many x)) (zIF x) w e w'):∃v0 v1,e = .returned (qT v0 v1 (.slice none 0 0) (.slice none 0 0) (zBF x))/\zf w' w.heap.size w'.heap.size v0 v1 (.slice none 0 0) (.slice none 0 0) (zBF x)/\Below w.heap.size w w':=by
 obtain⟨v0,v1,he,hp,hb⟩:=h;refine⟨v0,v1,he,⟨fun k=>w.heap.size<=k/\k<w'.heap.size,fun _=>False,fun _=>False,⟨hp.isIn (fun k h1 h2=>⟨h1,h2⟩),?_,?_,fun _ _ h=>h,fun _ _ h=>h,fun _ h=>h.elim⟩,fun k hk=>?_⟩,hb⟩
 ·exact⟨0,fun _=>0,fun _=>.slice none 0 0,⟨Nat.zero_le _,none,0,rfl,Nat.le_refl _,fun h=>absurd h (Nat.lt_irrefl _)⟩,fun i j hi=>absurd hi (Nat.not_lt_zero _),fun k hk=>by
   rcases hk with⟨h,_⟩ | ⟨i,h,_⟩
   ·exact absurd h (Nat.lt_irrefl _)
   ·exact absurd h (Nat.not_lt_zero _)⟩
 ·exact⟨0,fun _=>0,fun _=>.slice none 0 0,⟨Nat.zero_le _,none,0,rfl,Nat.le_refl _,fun h=>absurd h (Nat.lt_irrefl _)⟩,fun i j hi=>absurd hi (Nat.not_lt_zero _),fun k hk=>by
   rcases hk with⟨h,_⟩ | ⟨i,h,_⟩
   ·exact absurd h (Nat.lt_irrefl _)
   ·exact absurd h (Nat.not_lt_zero _)⟩
 ·rcases hk with h | h | h
  ·exact h
  ·exact h.elim
  ·exact h.elim
def zn(x:Int):zBA:=⟨zBF x,zBF x⟩
def zOP(x:Int)(w:World)(e:Ending)(w':World):Prop:=∃v0 v1 u0 u1,e = .returned (zI3 v0 v1 (.slice none 0 0) (.slice none 0 0) u0 u1 (.slice none 0 0) (.slice none 0 0) (zn x))/\zBk w' w.heap.size w'.heap.size v0 v1 (.slice none 0 0) (.slice none 0 0) u0 u1 (.slice none 0 0) (.slice none 0 0) (zn x)/\Below w.heap.size w w'
theorem zFf(x:Int)(w:World):Calls Tryz.prog 10 #[.int .i64 x] w (zOP x w):=by
 have ha:=zC w (.cells #[.slice none 0 0,.slice none 0 0,.int .i64 0,.int .i64 0,.slice none 0 0,.slice none 0 0,.slice none 0 0,.slice none 0 0,.int .i64 0,.int .i64 0,.slice none 0 0,.slice none 0 0] 42);have HB:=zCY (zAm.zOt w (.slice none 0 0) (.slice none 0 0) (.int .i64 0) (.int .i64 0) (.slice none 0 0) (.slice none 0 0) (.slice none 0 0) (.slice none 0 0) (.int .i64 0) (.int .i64 0) (.slice none 0 0) (.slice none 0 0) 42);have HS:=zCY (show(w.alloc (.cells #[.slice none 0 0,.slice none 0 0,.int .i64 0,.int .i64 0,.slice none 0 0,.slice none 0 0,.slice none 0 0,.slice none 0 0,.int .i64 0,.int .i64 0,.slice none 0 0,.slice none 0 0] 42)).heap.size=w.heap.size+1 from World.size_alloc _ _);go_enter Tryz.func10,Tryz.ntmps10;go_wp2_with fail;generalize w.alloc (.cells #[.slice none 0 0,.slice none 0 0,.int .i64 0,.int .i64 0,.slice none 0 0,.slice none 0 0,.slice none 0 0,.slice none 0 0,.int .i64 0,.int .i64 0,.slice none 0 0,.slice none 0 0] 42)=W0 at ha HB HS ⊢;refine(zC5 x W0).mono ?_;rintro e w1 aA;obtain⟨v0,v1,rfl,eA,cA⟩:=aA.world;have sA:=zCY eA;obtain⟨gA,lA,iA,mA,rfl,rfl⟩:=eA.at.zOv.form;have tA:=zA ha cA;have pA:=zCY (HB.out.zOp cA);have Z1:=zCY (show W0.heap.size<=w1.heap.size from cA.size);clear eA cA ha HB aA;go_wp2_with fail;refine(zC5 x w1).mono ?_;rintro e w2 aA;obtain⟨v0,v1,rfl,fA,bA⟩:=aA.world;have vA:=zCY fA;obtain⟨jA,nA,kA,oA,rfl,rfl⟩:=fA.at.zOv.form;have aB:=zA tA bA;have rA:=zCY (pA.out.zOp bA);have dA:=zCY (sA.out.zOp bA);have Z2:=zCY (show w1.heap.size<=w2.heap.size from bA.size);clear fA bA tA pA aA sA;obtain⟨⟨x0,dB⟩,⟨x1,eB⟩,⟨x2,iB⟩,⟨x3,jB⟩,⟨x4,kB⟩,⟨x5,lB⟩,⟨x6,mB⟩,⟨x7,nB⟩,⟨x8,oB⟩,⟨x9,pB⟩,⟨fB,bB⟩,⟨gB,cB⟩⟩:=rA.out;go_wp2;have HR:=rA.out.put (.slice gA (zBF x).zOv.n lA) (.slice iA (zBF x).zOv.hn mA) (.int .i64 (zBF x).time) (.int .i64 (zBF x).next) (.slice none 0 0) (.slice none 0 0) (.slice jA (zBF x).zOv.n nA) (.slice kA (zBF x).zOv.hn oA) (.int .i64 (zBF x).time) (.int .i64 (zBF x).next) (.slice none 0 0) (.slice none 0 0);have T:=zE.put12 w2 w.heap.size (.slice gA (zBF x).zOv.n lA) (.slice iA (zBF x).zOv.hn mA) (.int .i64 (zBF x).time) (.int .i64 (zBF x).next) (.slice none 0 0) (.slice none 0 0) (.slice jA (zBF x).zOv.n nA) (.slice kA (zBF x).zOv.hn oA) (.int .i64 (zBF x).time) (.int .i64 (zBF x).next) (.slice none 0 0) (.slice none 0 0);have z0:=HS.out;have z1:=Z1.out;have z2:=Z2.out;refine bodyPost_ret (v:=.agg #[.slice gA (zBF x).zOv.n lA,.slice iA (zBF x).zOv.hn mA,.int .i64 (zBF x).time,.int .i64 (zBF x).next,.slice none 0 0,.slice none 0 0,.slice jA (zBF x).zOv.n nA,.slice kA (zBF x).zOv.hn oA,.int .i64 (zBF x).time,.int .i64 (zBF x).next,.slice none 0 0,.slice none 0 0]) (by simp[results,Tryz.results10,go_sem,HR.1.1,HR.2.1.1,HR.2.2.1.1,HR.2.2.2.1.1,HR.2.2.2.2.1.1,HR.2.2.2.2.2.1.1,HR.2.2.2.2.2.2.1.1,HR.2.2.2.2.2.2.2.1.1,HR.2.2.2.2.2.2.2.2.1.1,HR.2.2.2.2.2.2.2.2.2.1.1,HR.2.2.2.2.2.2.2.2.2.2.1.1,HR.2.2.2.2.2.2.2.2.2.2.2.1]) rfl ⟨_,_,_,_,rfl,?_,?_⟩
 ·refine⟨W0.heap.size,w1.heap.size,w1.heap.size,w2.heap.size,dA.out.zOr T (fun k e=>by omega),vA.out.zOr T (fun k e=>by omega),by omega,?_,by omega,?_,Or.inl (Nat.le_refl _)⟩
  ·simp only[World.size_setCell];omega
  ·simp only[World.size_setCell];omega
 ·exact aB.trans (T.zOp (B:=w.heap.size) (by omega) (fun k e=>by omega))
end Go.Proofs.YtgabgheflgjgiaaGreatDoor
