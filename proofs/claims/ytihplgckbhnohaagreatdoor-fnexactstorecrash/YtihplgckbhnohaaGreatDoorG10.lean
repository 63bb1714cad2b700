/- What impl.ptrRight, impl.slotsSeen and impl.PtrsRight answer. -/
import Derived.Test.YtihplgckbhnohaaGreatDoorG4
import Derived.Test.YtihplgckbhnohaaGreatDoorG9
import Derived.BigQuiet
import Derived.Test.YtihplgckbhnohaaGreatDoorG3
import Derived.Test.YtihplgckbhnohaaGreatDoorG2
namespace Go.Proofs.YtihplgckbhnohaaGreatDoor
open Go.RowKit Go.Maps
set_option linter.unusedVariables false
theorem hideD{P:Prop}(h:P):Hid P:=h
theorem PtrsAt.cellsD{w:World}{lo hi:Nat}{a:Option Addr}{n c:Nat}{f g:Nat→Int}(h:PtrsAt w lo hi (.slice a n c) n f g){k:Nat}(hk:k<n):∃b off,a=some ⟨b,off,none⟩∧w.cell? ⟨b,off+k*2,none⟩=some (.int .i64 (f k))∧w.cell? ⟨b,off+k*2+1,none⟩=some (.int .i64 (g k)):=by
 obtain⟨_,a2,c2,hv,_,hx⟩:=h
 simp only [Value.slice.injEq,true_and] at hv
 obtain⟨rfl,rfl⟩:=hv
 obtain⟨b,off,ha,_,_,h3⟩:=hx (by omega)
 exact⟨b,off,ha,(h3 k hk).1,(h3 k hk).2⟩
set_option maxRecDepth 20000 in
set_option maxHeartbeats 400000 in
theorem ptrRight_any(x y:Int)(w:World):Calls Tryz.prog 177 #[.agg #[.int .i64 x,.int .i64 y]] w fun e w'=>BoolIs (PtrOk x y) e∧Below w.heap.size w w':=by
 have hbw:=below_alloc w (.cells #[.int .i64 x,.int .i64 y] 88)
 by_cases h1:0≤x
 ·by_cases h2:x<200
  ·by_cases h3:BirthOk y
   ·have H:=hideD (show PtrOk x y from⟨h1,by omega,h3.1,h3.2⟩)
    have H3:=hideD h3
    clear h3
    go_enter Tryz.func177,Tryz.ntmps177
    go_wp2_with (first | (go_at_call 171; refine(birthRight_any y _).mono ?_; rintro e w1 ⟨⟨t,rfl,ht⟩,rfl⟩; obtain rfl:t=true:=ht.2 H3.out; clear ht) | fail)
    go_wp2
    go_ret
    exact⟨BoolIs.yes H.out,hbw⟩
   ·have H:=hideD (show ¬PtrOk x y from fun h=>h3 ⟨h.2.2.1,h.2.2.2⟩)
    have H3:=hideD h3
    clear h3
    go_enter Tryz.func177,Tryz.ntmps177
    go_wp2_with (first | (go_at_call 171; refine(birthRight_any y _).mono ?_; rintro e w1 ⟨⟨t,rfl,ht⟩,rfl⟩; obtain rfl:t=false:=bool_no ht H3.out; clear ht) | fail)
    go_wp2
    go_ret
    exact⟨BoolIs.no H.out,hbw⟩
  ·go_enter Tryz.func177,Tryz.ntmps177
   go_wp2
   go_ret
   exact⟨BoolIs.no fun h=>by have:=h.2.1; omega,hbw⟩
 ·go_enter Tryz.func177,Tryz.ntmps177
  go_wp2
  go_ret
  exact⟨BoolIs.no fun h=>by have:=h.1; omega,hbw⟩
theorem lawK:Keyed Tryz.prog 2:=int_keyed (q:=.i64) (by kernel_rfl)
theorem mapT:Tryz.prog.underlying 223=some (.map 2 2):=by kernel_rfl
theorem intT:Tryz.prog.underlying 2=some (.int .i64):=by kernel_rfl
theorem zeroK(w:World):(zeroValue 2).run Tryz.prog w = .ok (.int .i64 0) w:=by kernel_rfl
theorem wf_small{x:Int}(h0:0≤x)(h1:x≤1000000):(Lit.int .i64 x).wf=true:=WalkArith.wf_i64 (by omega)
def MapAt(w:World)(B n:Nat)(D:DataW Unit):Prop:=w.ownsMap Tryz.prog 2 (plainElem Tryz.prog 2) B n D
set_option maxRecDepth 20000 in
set_option maxHeartbeats 400000 in
theorem slotsSeen_any(v:Value)(n lo hi:Nat)(f g:Nat→Int)(w:World)(h1:PtrsAt w lo hi v n f g)(hn:n≤200)(hok:∀i,i<n→PtrOk (f i) (g i)) :
  Calls Tryz.prog 176 #[v] w fun e w'=>e = .returned (.map (some w.heap.size))∧MapAt w' w.heap.size n (seenD f g n)∧Below w.heap.size w w':=by
 have Hp:=hideD h1
 have Hok:=hideD hok
 obtain⟨m1,a,c,rfl,mc,_⟩:=id h1
 clear h1 hok
 have hmm:=@run_makeMap Tryz.prog
 go_enter Tryz.func176,Tryz.ntmps176
 go_wp2
 go_loopw [9] (fun i wr=>∃k:Nat,k≤n∧i = .int .i64 k∧MapAt wr w.heap.size k (seenD f g k)∧Below w.heap.size w wr) (fun i _=>n - (intOf i).toNat)
 case atStart=>exact⟨0,Nat.zero_le _,rfl,World.ownsMap_made _ _ _ _,(Below.refl _ _).alloc (Nat.le_refl _) _⟩
 case round=>
  obtain⟨k,hk,rfl,hown,hb⟩:=hrel
  have Hown:=hideD hown
  clear hown
  by_cases hlt:k<n
  ·have hlt':(k:Int)<(n:Int):=by omega
   obtain⟨b,off,rfl,q0,q1⟩:=(Hp.out.below hb).cellsD hlt
   have hkey:keyOf Tryz.prog 2 (.int .i64 (f k))=some (keyI (f k)):=keyOf_int_mk intT (wf_small (Hok.out k hlt).1 (by have:=(Hok.out k hlt).2.1; omega))
   have hwv:=wf_small (x:=g k) (by have:=(Hok.out k hlt).2.2.1; omega) (Hok.out k hlt).2.2.2
   have Hkey:=hideD hkey
   have Hwv:=hideD hwv
   clear hkey hwv
   go_wp2_with (first
    | (at_mapUpdate; refine wpList_mapUpdate_own _ rfl _ _ _ 223 rfl 2 2 lawK mapT _ w.heap.size k _ rfl (Hown.out.alloc _) (by unfold maxLen; omega) _ _ _ rfl rfl Hkey.out _ [] (plainElem_int intT Hwv.out) ?_; intro w1 hown1 hgrow1)
    | go_in)
   go_roundw
   case rel=>exact⟨k+1,by omega,by go_num,hown1,(hb.alloc hb.size _).grown hgrow1 (by rw [World.size_alloc]; have:=hb.size; omega) (fun j hj=>by cases hj; exact Nat.le_refl _)⟩
   case measure=>simp [intOf]; omega
  ·obtain rfl:k=n:=by omega
   go_wp2
   go_ret
   exact⟨rfl,Hown.out,hb⟩
set_option maxRecDepth 20000 in
set_option maxHeartbeats 400000 in
theorem implPtrsRight_any(v:Value)(n lo hi:Nat)(f g:Nat→Int)(w:World)(h1:PtrsAt w lo hi v n f g) :
  Calls Tryz.prog 166 #[v] w fun e w'=>BoolIs (PtrsOk n f g) e∧Below w.heap.size w w':=by
 have Hp:=hideD h1
 obtain⟨m1,a,c,rfl,mc,_⟩:=id h1
 clear h1
 unfold maxLen at m1
 by_cases hn:n≤200
 ·have hn':¬(200:Int)<(n:Int):=by omega
  go_enter Tryz.func166,Tryz.ntmps166
  go_wp2
  go_loopw [10] (fun i wr=>∃k:Nat,k≤n∧i = .int .i64 k∧(∀i,i<k→PtrOk (f i) (g i))∧Below w.heap.size w wr) (fun i _=>n - (intOf i).toNat)
  case atStart=>exact⟨0,Nat.zero_le _,rfl,fun j hj=>absurd hj (Nat.not_lt_zero _),Below.refl _ _⟩
  case round=>
   obtain⟨k,hk,rfl,hall,hb⟩:=hrel
   have Hall:=hideD hall
   clear hall
   by_cases hlt:k<n
   ·have hlt':(k:Int)<(n:Int):=by omega
    obtain⟨b,off,rfl,q0,q1⟩:=(Hp.out.below hb).cellsD hlt
    have hal:=below_next hb (below_alloc wr (.cells #[.int .i64 (f k),.int .i64 (g k)] 88))
    go_wp2_with fail
    refine(ptrRight_any (f k) (g k) _).mono ?_
    rintro e w1 ⟨⟨t,rfl,ht⟩,hb1⟩
    have hB1:=below_next hal hb1
    clear hb1 hal q0 q1
    by_cases hok:PtrOk (f k) (g k)
    ·have Hk:=hideD hok
     obtain rfl:t=true:=ht.2 hok
     clear ht hok
     go_wp2
     go_roundw
     case rel=>exact⟨k+1,by omega,by go_num,relNext hlt Hall.out Hk.out,hB1⟩
     case measure=>simp [intOf]; omega
    ·have Hk:=hideD hok
     obtain rfl:t=false:=bool_no ht hok
     clear ht hok
     go_wp2
     go_ret
     exact⟨BoolIs.no fun h=>Hk.out (h.2.1 k hlt),hB1⟩
   ·obtain rfl:k=n:=by omega
    go_wp2_with fail
    refine(slotsSeen_any _ k lo hi f g _ (Hp.out.below hb) hn Hall.out).mono ?_
    rintro e w1 ⟨rfl,hm,hb1⟩
    have hB1:=below_next hb hb1
    have Hm:=hideD hm
    have hsz:=seen_size f g k
    clear hm hb1
    obtain⟨hs1,hs2⟩:=hsz
    have Hs2:=hideD hs2
    clear hs2
    go_wp2_with (first
     | (at_len; refine wpList_len_own _ rfl _ 223 rfl 2 2 mapT _ wr.heap.size k _ rfl Hm.out ?_)
     | go_in)
    go_ret
    refine⟨⟨_,rfl,?_⟩,hB1⟩
    have Ho:=Hs2.out
    have Ha:=Hall.out
    simp only [beq_iff_eq,Int.natCast_inj]
    exact Ho.trans ⟨fun h=>⟨hn,Ha,h⟩,fun h=>h.2.2⟩
 ·have hn':(200:Int)<(n:Int):=by omega
  go_enter Tryz.func166,Tryz.ntmps166
  go_wp2
  go_ret
  exact⟨BoolIs.no fun h=>hn h.1,Below.refl _ _⟩
end Go.Proofs.YtihplgckbhnohaaGreatDoor

namespace Go.Proofs.YtihplgckbhnohaaGreatDoor
open Go.RowKit Go.Maps
set_option linter.unusedVariables false
def Between(n a b:Int):Prop:=a≤n∧n≤b
set_option maxRecDepth 20000 in
set_option maxHeartbeats 400000 in
theorem l01Is_any(n a b:Int)(w:World):Calls Tryz.prog 93 #[.int .i64 n,.int .i64 a,.int .i64 b] w fun e w'=>BoolIs (Between n a b) e∧w'=w:=by
 by_cases h1:a≤n
 ·by_cases h2:n≤b
  ·go_enter Tryz.func93,Tryz.ntmps93
   go_wp2
   go_ret
   exact⟨BoolIs.yes ⟨h1,h2⟩,rfl⟩
  ·go_enter Tryz.func93,Tryz.ntmps93
   go_wp2
   go_ret
   exact⟨BoolIs.no fun h=>by have:=h.2; omega,rfl⟩
 ·go_enter Tryz.func93,Tryz.ntmps93
  go_wp2
  go_ret
  exact⟨BoolIs.no fun h=>by have:=h.1; omega,rfl⟩
set_option maxRecDepth 20000 in
set_option maxHeartbeats 1000000 in
theorem specPtrsRight_any(v:Value)(n lo hi:Nat)(f g:Nat→Int)(w:World)(h1:PtrsAt w lo hi v n f g) :
  Calls Tryz.prog 116 #[v] w fun e w'=>BoolIs (PtrsOk n f g) e∧Below w.heap.size w w':=by
 have Hp:=hideD h1
 obtain⟨m1,a,c,rfl,mc,_⟩:=id h1
 clear h1
 unfold maxLen at m1
 by_cases hn:n≤200
 ·have hn':¬(200:Int)<(n:Int):=by omega
  go_enter Tryz.func116,Tryz.ntmps116
  go_wp2
  go_loopw [3] (fun i wr=>∃k:Nat,k≤n∧i = .int .i64 k∧(∀i,i<k→PtrOk (f i) (g i))∧Dist k f∧Below w.heap.size w wr) (fun i _=>n - (intOf i).toNat)
  case atStart=>exact⟨0,Nat.zero_le _,rfl,fun j hj=>absurd hj (Nat.not_lt_zero _),fun j hj=>absurd hj (Nat.not_lt_zero _),Below.refl _ _⟩
  case round=>
   obtain⟨k,hk,rfl,hall,hdist,hb⟩:=hrel
   have Hall:=hideD hall
   have Hdist:=hideD hdist
   clear hall hdist
   by_cases hlt:k<n
   ·have hlt':(k:Int)<(n:Int):=by omega
    obtain⟨b,off,rfl,q0,q1⟩:=(Hp.out.below hb).cellsD hlt
    by_cases hx:Between (f k) 0 199
    ·have Hx:=hideD hx
     clear hx
     by_cases hy:BirthOk (g k)
     ·have Hy:=hideD hy
      clear hy
      go_wp2_with (first
       | (go_at_call 93; refine(l01Is_any (f k) 0 199 _).mono ?_; rintro e w1 ⟨⟨t,rfl,ht⟩,rfl⟩; obtain rfl:t=true:=ht.2 Hx.out; clear ht)
       | (go_at_call 105; refine(l01Birth_any (g k) _).mono ?_; rintro e w2 ⟨⟨t,rfl,ht⟩,rfl⟩; obtain rfl:t=true:=ht.2 Hy.out; clear ht)
       | fail)
      go_wp2
      go_loopw [4] (fun i wr=>∃j:Nat,j≤k∧i = .int .i64 j∧(∀i,i<j→f i≠f k)∧Below w.heap.size w wr) (fun i _=>k - (intOf i).toNat)
      case atStart=>exact⟨0,Nat.zero_le _,rfl,fun j hj=>absurd hj (Nat.not_lt_zero _),hb⟩
      case round=>
       obtain⟨j,hj,rfl,hne,hbj⟩:=hrel
       have Hne:=hideD hne
       clear hne q0 q1 hb
       by_cases hjk:j<k
       ·have hjk':(j:Int)<(k:Int):=by omega
        have hjn':(j:Int)<(n:Int):=by omega
        obtain⟨_,_,ha,r0,_⟩:=(Hp.out.below hbj).cellsD (show j<n by omega)
        simp only [Option.some.injEq,Addr.mk.injEq,and_true] at ha
        obtain⟨rfl,rfl⟩:=ha
        obtain⟨_,_,ha,s0,_⟩:=(Hp.out.below hbj).cellsD hlt
        simp only [Option.some.injEq,Addr.mk.injEq,and_true] at ha
        obtain⟨rfl,rfl⟩:=ha
        by_cases he:f j=f k
        ·have He:=hideD he
         have e0:(f j == f k)=true:=by simp [he]
         clear he
         go_wp2
         go_quiet (fail)
         go_wp2
         go_ret
         exact⟨BoolIs.no fun h=>h.2.2 k hlt j hjk He.out,below_drewN hbj _⟩
        ·have He:=hideD he
         have e0:(f j == f k)=false:=by simp [he]
         clear he
         go_wp2
         go_quiet (fail)
         go_wp2
         go_roundw
         case rel=>exact⟨j+1,by omega,by go_num,relNext hjk Hne.out He.out,below_drewN hbj _⟩
         case measure=>simp [intOf]; omega
       ·obtain rfl:j=k:=by omega
        go_wp2
        go_roundw
        case rel=>exact⟨j+1,by omega,by go_num,relNext hlt Hall.out ⟨Hx.out.1,Hx.out.2,Hy.out.1,Hy.out.2⟩,dist_succ.2 ⟨Hdist.out,Hne.out⟩,hbj⟩
        case measure=>simp [intOf]; omega
     ·have Hy:=hideD hy
      clear hy
      go_wp2_with (first
       | (go_at_call 93; refine(l01Is_any (f k) 0 199 _).mono ?_; rintro e w1 ⟨⟨t,rfl,ht⟩,rfl⟩; obtain rfl:t=true:=ht.2 Hx.out; clear ht)
       | (go_at_call 105; refine(l01Birth_any (g k) _).mono ?_; rintro e w2 ⟨⟨t,rfl,ht⟩,rfl⟩; obtain rfl:t=false:=bool_no ht Hy.out; clear ht)
       | fail)
      go_wp2
      go_ret
      exact⟨BoolIs.no fun h=>Hy.out ⟨(h.2.1 k hlt).2.2.1,(h.2.1 k hlt).2.2.2⟩,hb⟩
    ·have Hx:=hideD hx
     clear hx
     go_wp2_with (first
      | (go_at_call 93; refine(l01Is_any (f k) 0 199 _).mono ?_; rintro e w1 ⟨⟨t,rfl,ht⟩,rfl⟩; obtain rfl:t=false:=bool_no ht Hx.out; clear ht)
      | fail)
     go_wp2
     go_ret
     exact⟨BoolIs.no fun h=>Hx.out ⟨(h.2.1 k hlt).1,(h.2.1 k hlt).2.1⟩,hb⟩
   ·obtain rfl:k=n:=by omega
    go_wp2
    go_ret
    exact⟨BoolIs.yes ⟨hn,Hall.out,Hdist.out⟩,hb⟩
 ·have hn':(200:Int)<(n:Int):=by omega
  go_enter Tryz.func116,Tryz.ntmps116
  go_wp2
  go_ret
  exact⟨BoolIs.no fun h=>hn h.1,Below.refl _ _⟩
set_option maxRecDepth 20000 in
set_option maxHeartbeats 1000000 in
theorem l03In_any(v:Value)(n lo hi:Nat)(f g:Nat→Int)(x y:Int)(w:World)(h1:PtrsAt w lo hi v n f g) :
  Calls Tryz.prog 102 #[v,.agg #[.int .i64 x,.int .i64 y]] w fun e w'=>BoolIs (PIn n f g x y) e∧Below w.heap.size w w':=by
 have Hp:=hideD h1
 obtain⟨m1,a,c,rfl,mc,_⟩:=id h1
 unfold maxLen at m1
 clear h1
 have ha:=below_alloc w (.cells #[.int .i64 x,.int .i64 y] 88)
 have HB:=hideD (Box2.new w (.int .i64 x) (.int .i64 y) 88)
 go_enter Tryz.func102,Tryz.ntmps102
 go_wp2
 go_loopw [5] (fun i wr=>∃k:Nat,k≤n∧i = .int .i64 k∧¬PIn k f g x y∧Box2 wr w.heap.size (.int .i64 x) (.int .i64 y)∧Below w.heap.size w wr) (fun i _=>n - (intOf i).toNat)
 case atStart=>exact⟨0,Nat.zero_le _,rfl,fun ⟨j,hj,_⟩=>absurd hj (Nat.not_lt_zero _),HB.out,ha⟩
 case round=>
  obtain⟨k,hk,rfl,hno,hX,hb⟩:=hrel
  have Hno:=hideD hno
  have HX:=hideD hX
  clear hno hX
  obtain⟨⟨x0,x1⟩,⟨x2,x3⟩⟩:=HX.out
  by_cases hlt:k<n
  ·have hlt':(k:Int)<(n:Int):=by omega
   obtain⟨b,off,rfl,q0,q1⟩:=(Hp.out.below hb).cellsD hlt
   by_cases he:f k=x∧g k=y
   ·have H:=hideD (show PIn n f g x y from⟨k,hlt,he.1,he.2⟩)
    rw [he.1] at q0
    rw [he.2] at q1
    clear he
    go_wp2
    go_quiet (fail)
    go_wp2
    go_ret
    exact⟨BoolIs.yes H.out,below_drewN hb _⟩
   ·have H:=hideD he
    have e0:(f k == x)=false∨(f k == x)=true∧(g k == y)=false:=by
     by_cases h:f k=x
     ·right
      refine⟨by simp [h],?_⟩
      have:g k≠y:=fun h'=>he ⟨h,h'⟩
      simp [this]
     ·left; simp [h]
    clear he
    rcases e0 with e0 | ⟨e0,e1⟩
    all_goals
     go_wp2
     go_quiet (fail)
     go_wp2
     go_roundw
     case rel=>
      refine⟨k+1,by omega,by go_num,?_,HX.out.below (below_drewN (Below.refl _ _) _),below_drewN hb _⟩
      rintro⟨j,hj,hjx⟩
      by_cases e:j=k
      ·subst e; exact H.out ⟨hjx.1,hjx.2⟩
      ·exact Hno.out ⟨j,by omega,hjx⟩
     case measure=>simp [intOf]; omega
  ·obtain rfl:k=n:=by omega
   go_wp2
   go_ret
   exact⟨BoolIs.no Hno.out,hb⟩
set_option maxRecDepth 20000 in
set_option maxHeartbeats 1000000 in
theorem specPtrsSame_any(v v':Value)(n lo hi n' lo' hi':Nat)(f g f' g':Nat→Int)(w:World)(h1:PtrsAt w lo hi v n f g)(h2:PtrsAt w lo' hi' v' n' f' g') :
  Calls Tryz.prog 103 #[v,v'] w fun e w'=>BoolIs (PSame n f g n' f' g') e∧Below w.heap.size w w':=by
 have Hp:=hideD h1
 have Hp':=hideD h2
 obtain⟨m1,a,c,rfl,mc,_⟩:=id h1
 obtain⟨m2,a',c',rfl,mc',_⟩:=id h2
 unfold maxLen at m1 m2
 clear h1 h2
 by_cases ho:PtrsOk n f g
 ·have Ho:=hideD ho
  clear ho
  by_cases ho':PtrsOk n' f' g'
  ·have Ho':=hideD ho'
   clear ho'
   go_enter Tryz.func103,Tryz.ntmps103
   go_wp2_with fail
   refine(specPtrsRight_any _ n lo hi f g _ Hp.out).mono ?_
   rintro e w1 ⟨⟨t,rfl,ht⟩,hb1⟩
   obtain rfl:t=true:=ht.2 Ho.out
   clear ht
   go_wp2_with fail
   refine(specPtrsRight_any _ n' lo' hi' f' g' _ (Hp'.out.below hb1)).mono ?_
   rintro e w2 ⟨⟨t,rfl,ht⟩,hb2⟩
   obtain rfl:t=true:=ht.2 Ho'.out
   have hB2:=below_next hb1 hb2
   clear ht hb1 hb2
   by_cases hnn:n=n'
   ·subst hnn
    have e0:((n:Int) != (n:Int))=false:=by simp
    go_wp2
    go_loopw [5] (fun i wr=>∃k:Nat,k≤n∧i = .int .i64 k∧(∀i,i<k→PIn n f' g' (f i) (g i))∧Below w.heap.size w wr) (fun i _=>n - (intOf i).toNat)
    case atStart=>exact⟨0,Nat.zero_le _,rfl,fun j hj=>absurd hj (Nat.not_lt_zero _),hB2⟩
    case round=>
     obtain⟨k,hk,rfl,hall,hb⟩:=hrel
     have Hall:=hideD hall
     clear hall
     by_cases hlt:k<n
     ·have hlt':(k:Int)<(n:Int):=by omega
      obtain⟨b,off,rfl,q0,q1⟩:=(Hp.out.below hb).cellsD hlt
      go_wp2_with fail
      refine(l03In_any _ n lo' hi' f' g' (f k) (g k) _ (Hp'.out.below hb)).mono ?_
      rintro e w3 ⟨⟨t,rfl,ht⟩,hb3⟩
      have hB3:=below_next hb hb3
      clear hb3
      by_cases hi':PIn n f' g' (f k) (g k)
      ·have Hi:=hideD hi'
       obtain rfl:t=true:=ht.2 hi'
       clear ht hi'
       go_wp2
       go_roundw
       case rel=>exact⟨k+1,by omega,by go_num,relNext hlt Hall.out Hi.out,hB3⟩
       case measure=>simp [intOf]; omega
      ·have Hi:=hideD hi'
       obtain rfl:t=false:=bool_no ht hi'
       clear ht hi'
       go_wp2
       go_ret
       exact⟨BoolIs.no fun h=>Hi.out (h.2.2.2 k hlt),hB3⟩
     ·obtain rfl:k=n:=by omega
      go_wp2
      go_ret
      exact⟨BoolIs.yes ⟨Ho.out,Ho'.out,rfl,Hall.out⟩,hb⟩
   ·have e0:((n:Int) != (n':Int))=true:=by simp; omega
    have Hn:=hideD hnn
    clear hnn
    go_wp2
    go_ret
    exact⟨BoolIs.no fun h=>Hn.out h.2.2.1,hB2⟩
  ·have Ho':=hideD ho'
   clear ho'
   go_enter Tryz.func103,Tryz.ntmps103
   go_wp2_with fail
   refine(specPtrsRight_any _ n lo hi f g _ Hp.out).mono ?_
   rintro e w1 ⟨⟨t,rfl,ht⟩,hb1⟩
   obtain rfl:t=true:=ht.2 Ho.out
   clear ht
   go_wp2_with fail
   refine(specPtrsRight_any _ n' lo' hi' f' g' _ (Hp'.out.below hb1)).mono ?_
   rintro e w2 ⟨⟨t,rfl,ht⟩,hb2⟩
   obtain rfl:t=false:=bool_no ht Ho'.out
   have hB2:=below_next hb1 hb2
   clear ht hb1 hb2
   go_wp2
   go_ret
   exact⟨BoolIs.no fun h=>Ho'.out h.2.1,hB2⟩
 ·have Ho:=hideD ho
  clear ho
  go_enter Tryz.func103,Tryz.ntmps103
  go_wp2_with fail
  refine(specPtrsRight_any _ n lo hi f g _ Hp.out).mono ?_
  rintro e w1 ⟨⟨t,rfl,ht⟩,hb1⟩
  obtain rfl:t=false:=bool_no ht Ho.out
  clear ht
  go_wp2
  go_ret
  exact⟨BoolIs.no fun h=>Ho.out h.1,hb1⟩
end Go.Proofs.YtihplgckbhnohaaGreatDoor

namespace Go.Proofs.YtihplgckbhnohaaGreatDoor
open Go.RowKit Go.Maps
set_option linter.unusedVariables false
theorem ptr_neq{a b c d:Int}(h:¬(a=c∧b=d)):(a == c)=false∨(a == c)=true∧(b == d)=false:=by
 by_cases e:a=c
 ·right
  refine⟨by simp [e],?_⟩
  have:¬b=d:=fun e'=>h ⟨e,e'⟩
  simp [this]
 ·left
  simp [e]
theorem int_spell{a b:Int}(h:a=b):(a == b)=true∧(a != b)=false∧decide (a=b)=true:=by subst h; simp
theorem int_spelt{a b:Int}(h:¬a=b):(a == b)=false∧(a != b)=true∧decide (a=b)=false:=by simp [h]
set_option maxRecDepth 20000 in
set_option maxHeartbeats 1000000 in
theorem l07Same_any(lo hi lo' hi':Nat)(s t:SlotD)(pa qa:Option Addr)(pc qc:Nat)(w:World)(h1:SlotAt w lo hi (.int .i64 s.birth) (.slice pa s.kn pc) (.string s.data) s)(h2:SlotAt w lo' hi' (.int .i64 t.birth) (.slice qa t.kn qc) (.string t.data) t) :
  Calls Tryz.prog 43 #[.agg #[.int .i64 s.birth,.slice pa s.kn pc,.string s.data],.agg #[.int .i64 t.birth,.slice qa t.kn qc,.string t.data]] w fun e w'=>BoolIs (SlotEq s t) e∧Below w.heap.size w w':=by
 have H1:=hideW h1.2.1
 have H2:=hideW h2.2.1
 have hm1:=h1.2.1.1
 have hm2:=h2.2.1.1
 unfold maxLen at hm1 hm2
 clear h1 h2
 have ha:=below_alloc w (.cells #[.int .i64 s.birth,.slice pa s.kn pc,.string s.data] 66)
 have ha2:=below_alloc (w.alloc (.cells #[.int .i64 s.birth,.slice pa s.kn pc,.string s.data] 66)) (.cells #[.int .i64 t.birth,.slice qa t.kn qc,.string t.data] 66)
 have hA:=below_next ha ha2
 have HX:=hideW ((Box3.new w (.int .i64 s.birth) (.slice pa s.kn pc) (.string s.data) 66).below ha2)
 have hy:=Box3.new (w.alloc (.cells #[.int .i64 s.birth,.slice pa s.kn pc,.string s.data] 66)) (.int .i64 t.birth) (.slice qa t.kn qc) (.string t.data) 66
 rw [World.size_alloc] at hy
 have HY:=hideW hy
 clear hy ha ha2
 obtain⟨⟨x0,-⟩,⟨x1,-⟩,⟨x2,-⟩⟩:=HX.out
 obtain⟨⟨y0,-⟩,⟨y1,-⟩,⟨y2,-⟩⟩:=HY.out
 by_cases e1:s.birth=t.birth
 rotate_left
 ·have H:=hideW e1
  obtain⟨i1,i2,i3⟩:=int_spelt e1
  go_enter Tryz.func43,Tryz.ntmps43
  go_wp2
  go_ret
  exact⟨BoolIs.no fun h=>H.out h.1,hA⟩
 have E1:=hideW e1
 obtain⟨i1,i2,i3⟩:=int_spell e1
 clear e1
 by_cases e2:s.data=t.data
 rotate_left
 ·have H:=hideW e2
  have i4:=str_ne e2
  clear e2
  go_enter Tryz.func43,Tryz.ntmps43
  go_wp2
  go_ret
  exact⟨BoolIs.no fun h=>H.out h.2.2,hA⟩
 have E2:=hideW e2
 have i4:=str_eq e2
 clear e2
 by_cases e3:s.kn=t.kn
 rotate_left
 ·have H:=hideW e3
  obtain⟨i5,i6,i7⟩:=int_spelt (show ¬(s.kn:Int)=(t.kn:Int)by omega)
  clear e3
  go_enter Tryz.func43,Tryz.ntmps43
  go_wp2
  go_ret
  exact⟨BoolIs.no fun h=>H.out h.2.1.1,hA⟩
 have E3:=hideW e3
 obtain⟨i5,i6,i7⟩:=int_spell (show(s.kn:Int)=(t.kn:Int)by omega)
 clear e3
 go_enter Tryz.func43,Tryz.ntmps43
 go_wp2
 clear x0 x1 x2 y0 y1 y2 i1 i2 i3 i4 i5 i6 i7
 go_loopw [5] (fun i wr=>∃k:Nat,k≤s.kn∧i = .int .i64 k∧(∀j,j<k→s.ks j=t.ks j∧s.kb j=t.kb j)∧Box3 wr w.heap.size (.int .i64 s.birth) (.slice pa s.kn pc) (.string s.data)∧Box3 wr (w.heap.size+1) (.int .i64 t.birth) (.slice qa t.kn qc) (.string t.data)∧Below w.heap.size w wr) (fun i _=>s.kn - (intOf i).toNat)
 case atStart=>exact⟨0,Nat.zero_le _,rfl,fun j h=>absurd h (Nat.not_lt_zero _),HX.out,HY.out,hA⟩
 case round=>
  obtain⟨k,hk,rfl,hall,hX,hY,hb⟩:=hrel
  have Hall:=hideW hall
  have HXr:=hideW hX
  have HYr:=hideW hY
  clear hall hX hY
  obtain⟨⟨x0,-⟩,⟨x1,-⟩,⟨x2,-⟩⟩:=HXr.out
  obtain⟨⟨y0,-⟩,⟨y1,-⟩,⟨y2,-⟩⟩:=HYr.out
  by_cases hlt:k<s.kn
  ·have hlt':(k:Int)<(s.kn:Int):=by omega
   have hlt2:k<t.kn:=by have:=E3.out; omega
   have hlt3:(k:Int)<(t.kn:Int):=by omega
   obtain⟨b,off,rfl,q0,q1⟩:=(H1.out.below hb).cellsD hlt
   obtain⟨b',off',rfl,r0,r1⟩:=(H2.out.below hb).cellsD hlt2
   by_cases he:s.ks k=t.ks k∧s.kb k=t.kb k
   ·have H:=hideW he
    rw [he.1] at q0
    rw [he.2] at q1
    clear he
    go_wp2
    go_quiet (fail)
    go_wp2
    go_roundw
    case rel=>
     refine⟨k+1,by omega,by go_num,?_,HXr.out.below (below_drewN (Below.refl _ _) _),HYr.out.below (below_drewN (Below.refl _ _) _),below_drewN hb _⟩
     intro j hj
     by_cases e:j=k
     ·subst e; exact H.out
     ·exact Hall.out j (by omega)
    case measure=>simp [intOf]; omega
   ·have H:=hideW he
    have e0:=ptr_neq he
    clear he
    rcases e0 with e0 | ⟨e0,e1⟩
    all_goals
     go_wp2
     go_quiet (fail)
     go_wp2
     go_ret
     exact⟨BoolIs.no fun h=>H.out (h.2.1.2 k hlt),below_drewN hb _⟩
  ·obtain rfl:k=s.kn:=by omega
   go_wp2
   go_ret
   exact⟨BoolIs.yes ⟨E1.out,⟨E3.out,Hall.out⟩,E2.out⟩,hb⟩
end Go.Proofs.YtihplgckbhnohaaGreatDoor

namespace Go.Proofs.YtihplgckbhnohaaGreatDoor
open Go.RowKit Go.Maps
set_option linter.unusedVariables false
set_option maxRecDepth 20000 in
set_option maxHeartbeats 1000000 in
theorem equalP_any(v v':Value)(n n' lo hi lo' hi':Nat)(f g f' g':Nat→Int)(w:World)(h1:PtrsAt w lo hi v n f g)(h2:PtrsAt w lo' hi' v' n' f' g') :
  Calls Tryz.prog 126 #[v,v'] w fun e w'=>BoolIs (PtrsEq n n' f g f' g') e∧Below w.heap.size w w':=by
 have H1:=hideW h1
 have H2:=hideW h2
 obtain⟨m1,a,c,rfl,mc,-⟩:=id h1
 obtain⟨m2,a',c',rfl,mc',-⟩:=id h2
 unfold maxLen at m1 m2
 clear h1 h2
 by_cases e3:n=n'
 rotate_left
 ·have H:=hideW e3
  obtain⟨i5,i6,i7⟩:=int_spelt (show ¬(n:Int)=(n':Int)by omega)
  clear e3
  go_enter Tryz.func126,Tryz.ntmps126
  go_wp2
  go_ret
  exact⟨BoolIs.no fun h=>H.out h.1,Below.refl _ _⟩
 subst e3
 have hne:((n:Int) != (n:Int))=false:=by simp
 go_enter Tryz.func126,Tryz.ntmps126
 go_wp2
 go_loopw [13] (fun i wr=>∃k:Nat,k≤n∧i = .int .i64 k∧(∀j,j<k→f j=f' j∧g j=g' j)∧Below w.heap.size w wr) (fun i _=>n - (intOf i).toNat)
 case atStart=>exact⟨0,Nat.zero_le _,rfl,fun j h=>absurd h (Nat.not_lt_zero _),Below.refl _ _⟩
 case round=>
  obtain⟨k,hk,rfl,hall,hb⟩:=hrel
  have Hall:=hideW hall
  clear hall
  by_cases hlt:k<n
  ·have hlt':(k:Int)<(n:Int):=by omega
   obtain⟨b,off,rfl,q0,q1⟩:=(H1.out.below hb).cellsD hlt
   obtain⟨b',off',rfl,r0,r1⟩:=(H2.out.below hb).cellsD hlt
   by_cases he:f k=f' k∧g k=g' k
   ·have H:=hideW he
    rw [he.1] at q0
    rw [he.2] at q1
    clear he
    go_wp2
    go_quiet (fail)
    go_wp2
    go_roundw
    case rel=>
     refine⟨k+1,by omega,by go_num,?_,below_drewN hb _⟩
     intro j hj
     by_cases e:j=k
     ·subst e; exact H.out
     ·exact Hall.out j (by omega)
    case measure=>simp [intOf]; omega
   ·have H:=hideW he
    have e0:=ptr_neq he
    clear he
    rcases e0 with e0 | ⟨e0,e1⟩
    all_goals
     go_wp2
     go_quiet (fail)
     go_wp2
     go_ret
     exact⟨BoolIs.no fun h=>H.out (h.2 k hlt),below_drewN hb _⟩
  ·obtain rfl:k=n:=by omega
   go_wp2
   go_ret
   exact⟨BoolIs.yes ⟨rfl,Hall.out⟩,hb⟩
set_option maxRecDepth 20000 in
set_option maxHeartbeats 1000000 in
theorem slotSame_any(lo hi lo' hi':Nat)(s t:SlotD)(pa qa:Option Addr)(pc qc:Nat)(w:World)(h1:SlotAt w lo hi (.int .i64 s.birth) (.slice pa s.kn pc) (.string s.data) s)(h2:SlotAt w lo' hi' (.int .i64 t.birth) (.slice qa t.kn qc) (.string t.data) t) :
  Calls Tryz.prog 109 #[.agg #[.int .i64 s.birth,.slice pa s.kn pc,.string s.data],.agg #[.int .i64 t.birth,.slice qa t.kn qc,.string t.data]] w fun e w'=>BoolIs (SlotEq s t) e∧Below w.heap.size w w':=by
 have H1:=hideW h1.2.1
 have H2:=hideW h2.2.1
 clear h1 h2
 have ha:=below_alloc w (.cells #[.int .i64 s.birth,.slice pa s.kn pc,.string s.data] 66)
 have ha2:=below_alloc (w.alloc (.cells #[.int .i64 s.birth,.slice pa s.kn pc,.string s.data] 66)) (.cells #[.int .i64 t.birth,.slice qa t.kn qc,.string t.data] 66)
 have hA:=below_next ha ha2
 obtain⟨⟨x0,-⟩,⟨x1,-⟩,⟨x2,-⟩⟩:=(Box3.new w (.int .i64 s.birth) (.slice pa s.kn pc) (.string s.data) 66).below ha2
 have hy:=Box3.new (w.alloc (.cells #[.int .i64 s.birth,.slice pa s.kn pc,.string s.data] 66)) (.int .i64 t.birth) (.slice qa t.kn qc) (.string t.data) 66
 rw [World.size_alloc] at hy
 obtain⟨⟨y0,-⟩,⟨y1,-⟩,⟨y2,-⟩⟩:=hy
 clear ha ha2
 by_cases e1:s.birth=t.birth
 rotate_left
 ·have H:=hideW e1
  obtain⟨i1,i2,i3⟩:=int_spelt e1
  go_enter Tryz.func109,Tryz.ntmps109
  go_wp2
  go_ret
  exact⟨BoolIs.no fun h=>H.out h.1,hA⟩
 have E1:=hideW e1
 obtain⟨i1,i2,i3⟩:=int_spell e1
 clear e1
 by_cases e2:s.data=t.data
 rotate_left
 ·have H:=hideW e2
  have i4:=str_ne e2
  clear e2
  go_enter Tryz.func109,Tryz.ntmps109
  go_wp2
  go_ret
  exact⟨BoolIs.no fun h=>H.out h.2.2,hA⟩
 have E2:=hideW e2
 have i4:=str_eq e2
 clear e2
 go_enter Tryz.func109,Tryz.ntmps109
 go_wp2_with fail
 refine(equalP_any _ _ s.kn t.kn lo hi lo' hi' _ _ _ _ _ (H1.out.below hA) (H2.out.below hA)).mono ?_
 rintro e w1 ⟨⟨r,rfl,hr⟩,hb1⟩
 have Hr:=hideW hr
 have hB1:=below_next hA hb1
 clear hr hb1 x0 x1 x2 y0 y1 y2 i1 i2 i3 i4 hA
 go_wp2
 go_ret
 exact⟨⟨r,rfl,⟨fun h=>⟨E1.out,Hr.out.1 h,E2.out⟩,fun h=>Hr.out.2 h.2.1⟩⟩,hB1⟩
set_option maxRecDepth 20000 in
set_option maxHeartbeats 1000000 in
theorem holdsNothing_any(u0 u2 u3:Value)(ha:Option Addr)(hc:Nat)(W:WorldD)(hm:W.pool.hn≤maxLen)(w:World) :
  Calls Tryz.prog 77 #[.agg #[u0,.slice ha W.pool.hn hc,.int .i64 W.time,.int .i64 W.next,u2,u3]] w fun e w'=>BoolIs (W.pool.hn=0) e∧Below w.heap.size w w':=by
 unfold maxLen at hm
 have hA:=below_alloc w (.cells #[u0,.slice ha W.pool.hn hc,.int .i64 W.time,.int .i64 W.next,u2,u3] 96)
 obtain⟨⟨x0,-⟩,⟨x1,-⟩,⟨x2,-⟩,⟨x3,-⟩,⟨x4,-⟩,⟨x5,-⟩⟩:=Box6.new w u0 (.slice ha W.pool.hn hc) (.int .i64 W.time) (.int .i64 W.next) u2 u3 96
 by_cases e:W.pool.hn=0
 ·have H:=hideW e
  obtain⟨i1,i2,i3⟩:=int_spell (show(W.pool.hn:Int)=0 by omega)
  clear e
  go_enter Tryz.func77,Tryz.ntmps77
  go_wp2
  go_ret
  exact⟨⟨true,rfl,⟨fun _=>H.out,fun _=>rfl⟩⟩,hA⟩
 ·have H:=hideW e
  obtain⟨i1,i2,i3⟩:=int_spelt (show ¬(W.pool.hn:Int)=0 by omega)
  clear e
  go_enter Tryz.func77,Tryz.ntmps77
  go_wp2
  go_ret
  exact⟨⟨false,rfl,⟨fun h=>absurd h (by simp),fun h=>absurd h H.out⟩⟩,hA⟩
structure KeepsI (S:StoreD):Prop where
 many:S.live.pool.n=S.safe.pool.n
 time:S.safe.time≤S.live.time
 next:S.safe.next≤S.live.next
 slots:∀i,i<S.safe.pool.n→¬Free (S.safe.pool.s i)→SlotEq (S.safe.pool.s i) (S.live.pool.s i)
set_option maxRecDepth 20000 in
set_option maxHeartbeats 4000000 in
theorem keeps_any(v0 v1 v2 v3 u0 u1 u2 u3:Value)(lo hi:Nat)(S:StoreD)(w:World)(h:StoreAt w lo hi v0 v1 v2 v3 u0 u1 u2 u3 S) :
  Calls Tryz.prog 78 #[worldV v0 v1 v2 v3 S.live,worldV u0 u1 u2 u3 S.safe] w fun e w'=>BoolIs (KeepsI S) e∧Below w.heap.size w w':=by
 have Hp:=hideW h
 obtain⟨m1,la,lc,rfl,ml,-⟩:=id h.live.pool.1
 obtain⟨m2,sa,sc,rfl,ms,-⟩:=id h.safe.pool.1
 obtain⟨m3,ha,hc,rfl,mh,-⟩:=id h.safe.pool.2
 unfold maxLen at m1 m2 m3
 clear h
 have hal:=below_alloc w (.cells #[.slice la S.live.pool.n lc,v1,.int .i64 S.live.time,.int .i64 S.live.next,v2,v3] 76)
 have hal2:=below_alloc (w.alloc (.cells #[.slice la S.live.pool.n lc,v1,.int .i64 S.live.time,.int .i64 S.live.next,v2,v3] 76)) (.cells #[.slice sa S.safe.pool.n sc,.slice ha S.safe.pool.hn hc,.int .i64 S.safe.time,.int .i64 S.safe.next,u2,u3] 96)
 have hA:=below_next hal hal2
 have HX:=hideW ((Box6.new w (.slice la S.live.pool.n lc) v1 (.int .i64 S.live.time) (.int .i64 S.live.next) v2 v3 76).below hal2)
 have hy:=Box6.new (w.alloc (.cells #[.slice la S.live.pool.n lc,v1,.int .i64 S.live.time,.int .i64 S.live.next,v2,v3] 76)) (.slice sa S.safe.pool.n sc) (.slice ha S.safe.pool.hn hc) (.int .i64 S.safe.time) (.int .i64 S.safe.next) u2 u3 96
 rw [World.size_alloc] at hy
 have HY:=hideW hy
 clear hy hal hal2
 obtain⟨⟨x0,-⟩,⟨x1,-⟩,⟨x2,-⟩,⟨x3,-⟩,⟨x4,-⟩,⟨x5,-⟩⟩:=HX.out
 obtain⟨⟨y0,-⟩,⟨y1,-⟩,⟨y2,-⟩,⟨y3,-⟩,⟨y4,-⟩,⟨y5,-⟩⟩:=HY.out
 by_cases e1:S.live.pool.n=S.safe.pool.n
 rotate_left
 ·obtain⟨i1,i2,i3⟩:=int_spelt (show ¬(S.live.pool.n:Int)=(S.safe.pool.n:Int)by omega)
  have H:=hideW e1
  clear e1
  go_enter Tryz.func78,Tryz.ntmps78
  go_wp2
  go_ret
  exact⟨BoolIs.no fun h=>H.out h.many,hA⟩
 obtain⟨i1,i2,i3⟩:=int_spell (show(S.live.pool.n:Int)=(S.safe.pool.n:Int)by omega)
 have E1:=hideW e1
 clear e1
 by_cases e3:S.live.time<S.safe.time
 ·have H:=hideW e3
  go_enter Tryz.func78,Tryz.ntmps78
  go_wp2
  go_ret
  exact⟨BoolIs.no fun h=>by have:=h.time; have:=H.out; omega,hA⟩
 have E3:=hideW (show S.safe.time≤S.live.time by omega)
 by_cases e4:S.live.next<S.safe.next
 ·have H:=hideW e4
  go_enter Tryz.func78,Tryz.ntmps78
  go_wp2
  go_ret
  exact⟨BoolIs.no fun h=>by have:=h.next; have:=H.out; omega,hA⟩
 have E4:=hideW (show S.safe.next≤S.live.next by omega)
 go_enter Tryz.func78,Tryz.ntmps78
 go_wp2
 clear x0 x1 x2 x3 x4 x5 y0 y1 y2 y3 y4 y5 i1 i2 i3 e3 e4
 go_loopw [41] (fun i wr=>∃k:Nat,k≤S.safe.pool.n∧i = .int .i64 k∧(∀j,j<k→¬Free (S.safe.pool.s j)→SlotEq (S.safe.pool.s j) (S.live.pool.s j))∧Box6 wr w.heap.size (.slice la S.live.pool.n lc) v1 (.int .i64 S.live.time) (.int .i64 S.live.next) v2 v3∧Below w.heap.size w wr) (fun i _=>S.safe.pool.n - (intOf i).toNat)
 case atStart=>exact⟨0,Nat.zero_le _,rfl,fun j h=>absurd h (Nat.not_lt_zero _),HX.out,hA⟩
 case round=>
  obtain⟨k,hk,rfl,hall,hX,hb⟩:=hrel
  have Hall:=hideW hall
  have HXr:=hideW hX
  clear hall hX
  by_cases hlt:k<S.safe.pool.n
  ·have hlt':(k:Int)<(S.safe.pool.n:Int):=by omega
   have hlt2:k<S.live.pool.n:=by have:=E1.out; omega
   have hlt3:(k:Int)<(S.live.pool.n:Int):=by omega
   obtain⟨b,off,ka,kc,rfl,hs⟩:=(Hp.out.safe.pool.1.below hb).cells hlt
   obtain⟨b',off',pa,pc,rfl,hs'⟩:=(Hp.out.live.pool.1.below hb).cells hlt2
   obtain⟨q0,q1,q2,hsl⟩:=hs
   obtain⟨r0,r1,r2,hsl'⟩:=hs'
   have hal:=below_alloc wr (.cells #[.int .i64 (S.safe.pool.s k).birth,.slice ka (S.safe.pool.s k).kn kc,.string (S.safe.pool.s k).data] 66)
   have HV:=hideW (Box3.new wr (.int .i64 (S.safe.pool.s k).birth) (.slice ka (S.safe.pool.s k).kn kc) (.string (S.safe.pool.s k).data) 66)
   have HXs:=hideW (HXr.out.below hal)
   have HSl:=hideW (hsl.below hal)
   have HSl':=hideW (hsl'.below hal)
   have hbs:=below_next hb hal
   have R0:=(hal.cell (lt_of_cell r0)).trans r0
   have R1:=(hal.cell (lt_of_cell r1)).trans r1
   have R2:=(hal.cell (lt_of_cell r2)).trans r2
   clear hsl hsl' r0 r1 r2
   obtain⟨⟨z0,-⟩,⟨z1,-⟩,⟨z2,-⟩⟩:=HV.out
   go_wp2_with fail
   clear q0 q1 q2 hal
   generalize wr.alloc (.cells #[.int .i64 (S.safe.pool.s k).birth,.slice ka (S.safe.pool.s k).kn kc,.string (S.safe.pool.s k).data] 66)=W5 at HV HXs HSl HSl' hbs R0 R1 R2 z0 z1 z2 ⊢
   generalize wr.heap.size=V at HV z0 z1 z2 ⊢
   obtain⟨⟨x0,-⟩,⟨x1,-⟩,⟨x2,-⟩,⟨x3,-⟩,⟨x4,-⟩,⟨x5,-⟩⟩:=HXs.out
   by_cases hfr:Free (S.safe.pool.s k)
   ·have Hfr:=hideW hfr
    clear hfr
    refine wp_region_held_drew (S:=(fun w'=>w'.cell? ⟨w.heap.size,0,none⟩=some (.slice (some ⟨b',off',none⟩) S.live.pool.n lc)∧w'.cell? ⟨w.heap.size,1,none⟩=some (v1)∧w'.cell? ⟨w.heap.size,2,none⟩=some (.int .i64 S.live.time)∧w'.cell? ⟨w.heap.size,3,none⟩=some (.int .i64 S.live.next)∧w'.cell? ⟨w.heap.size,4,none⟩=some (v2)∧w'.cell? ⟨w.heap.size,5,none⟩=some (v3)∧w'.cell? ⟨V,0,none⟩=some (.int .i64 (S.safe.pool.s k).birth)∧w'.cell? ⟨V,1,none⟩=some (.slice ka (S.safe.pool.s k).kn kc)∧w'.cell? ⟨V,2,none⟩=some (.string (S.safe.pool.s k).data)∧w'.cell? ⟨b',off'+k*3,none⟩=some (.int .i64 (S.live.pool.s k).birth)∧w'.cell? ⟨b',off'+k*3+1,none⟩=some (.slice pa (S.live.pool.s k).kn pc)∧w'.cell? ⟨b',off'+k*3+2,none⟩=some (.string (S.live.pool.s k).data))) (by kernel_rfl) ?_ (fun hHeld=>?_)
    ·(try dsimp only)
     go_keep
    refine tk 0 (h:=?_)
    refine rd [1] (rc (fun K hK=>?_) .nil)
    go_simp
    go_at_call 108
    refine(isFree_any _ _ _ lo hi (S.safe.pool.s k) _ ?_).mono ?_
    ·exact HSl.out.below (below_drewN (Below.refl _ _) 1)
    rintro e w6 ⟨⟨t6,rfl,ht6⟩,hb6⟩
    obtain rfl:t6=true:=ht6.2 Hfr.out
    clear ht6
    have hC6:Below W5.heap.size W5 w6:=(by first | exact hb6 | exact below_undrew hb6)
    obtain⟨⟨m0,-⟩,⟨m1,-⟩,⟨m2,-⟩,⟨m3,-⟩,⟨m4,-⟩,⟨m5,-⟩⟩:=HXs.out.below hC6
    obtain⟨⟨Z0,-⟩,⟨Z1,-⟩,⟨Z2,-⟩⟩:=HV.out.below hC6
    have RR0:=(hC6.cell (lt_of_cell R0)).trans R0
    have RR1:=(hC6.cell (lt_of_cell R1)).trans R1
    have RR2:=(hC6.cell (lt_of_cell R2)).trans R2
    (try go_wp2_with fail)
    refine hK.out _ _ (by(try dsimp only); go_keep) ?_
    clear hK K hHeld
    intro hHeld
    try simp only [Act.put,s1,s2,s3]
    refine tk 2 (h:=tk 3 (h:=ts 4 (h:=ts 5 (h:=ts 6 (h:=ts 7 (h:=ts 8 (h:=ts 9 (h:=ts 10 (h:=ts 11 (h:=?_))))))))))
    refine rd [12] (rc (fun K hK=>?_) .nil)
    split
    ·rename_i hwt
     exact absurd (show false=true from hwt) Bool.false_ne_true
    refine hK.out _ _ (by assumption) (fun hHeld=>?_)
    clear hK K
    try simp only [Act.put,s1,s2,s3]
    refine ts 13 (h:=tk 14 (h:=?_))
    refine wpAnyH_done (by kernel_rfl) ?_ _
    go_wp2
    go_roundw
    case rel=>
     refine⟨k+1,by omega,by go_num,?_,HXs.out.below hC6,below_next hbs hC6⟩
     intro j hj hn
     by_cases e:j=k
     ·subst e; exact absurd Hfr.out hn
     ·exact Hall.out j (by omega) hn
    case measure=>simp [intOf]; omega
   ·have Hfr:=hideW hfr
    clear hfr
    by_cases hq:SlotEq (S.safe.pool.s k) (S.live.pool.s k)
    ·have Hq:=hideW hq
     clear hq
     refine wp_region_held_drew (S:=(fun w'=>w'.cell? ⟨w.heap.size,0,none⟩=some (.slice (some ⟨b',off',none⟩) S.live.pool.n lc)∧w'.cell? ⟨w.heap.size,1,none⟩=some (v1)∧w'.cell? ⟨w.heap.size,2,none⟩=some (.int .i64 S.live.time)∧w'.cell? ⟨w.heap.size,3,none⟩=some (.int .i64 S.live.next)∧w'.cell? ⟨w.heap.size,4,none⟩=some (v2)∧w'.cell? ⟨w.heap.size,5,none⟩=some (v3)∧w'.cell? ⟨V,0,none⟩=some (.int .i64 (S.safe.pool.s k).birth)∧w'.cell? ⟨V,1,none⟩=some (.slice ka (S.safe.pool.s k).kn kc)∧w'.cell? ⟨V,2,none⟩=some (.string (S.safe.pool.s k).data)∧w'.cell? ⟨b',off'+k*3,none⟩=some (.int .i64 (S.live.pool.s k).birth)∧w'.cell? ⟨b',off'+k*3+1,none⟩=some (.slice pa (S.live.pool.s k).kn pc)∧w'.cell? ⟨b',off'+k*3+2,none⟩=some (.string (S.live.pool.s k).data))) (by kernel_rfl) ?_ (fun hHeld=>?_)
     ·(try dsimp only)
      go_keep
     refine tk 0 (h:=?_)
     refine rd [1] (rc (fun K hK=>?_) .nil)
     go_simp
     go_at_call 108
     refine(isFree_any _ _ _ lo hi (S.safe.pool.s k) _ ?_).mono ?_
     ·exact HSl.out.below (below_drewN (Below.refl _ _) 1)
     rintro e w6 ⟨⟨t6,rfl,ht6⟩,hb6⟩
     obtain rfl:t6=false:=bool_no ht6 Hfr.out
     clear ht6
     have hC6:Below W5.heap.size W5 w6:=(by first | exact hb6 | exact below_undrew hb6)
     obtain⟨⟨m0,-⟩,⟨m1,-⟩,⟨m2,-⟩,⟨m3,-⟩,⟨m4,-⟩,⟨m5,-⟩⟩:=HXs.out.below hC6
     obtain⟨⟨Z0,-⟩,⟨Z1,-⟩,⟨Z2,-⟩⟩:=HV.out.below hC6
     have RR0:=(hC6.cell (lt_of_cell R0)).trans R0
     have RR1:=(hC6.cell (lt_of_cell R1)).trans R1
     have RR2:=(hC6.cell (lt_of_cell R2)).trans R2
     (try go_wp2_with fail)
     refine hK.out _ _ (by(try dsimp only); go_keep) ?_
     clear hK K hHeld
     intro hHeld
     try simp only [Act.put,s1,s2,s3]
     refine tk 2 (h:=tk 3 (h:=tk 4 (h:=tk 5 (h:=tk 6 (h:=tk 7 (h:=tk 8 (h:=tk 9 (h:=tk 10 (h:=tk 11 (h:=?_))))))))))
     refine rd [12] (rc (fun K hK=>?_) .nil)
     go_simp
     go_at_call 109
     refine(slotSame_any lo hi lo hi (S.safe.pool.s k) (S.live.pool.s k) ka pa kc pc _ ?_ ?_).mono ?_
     ·exact HSl.out.below hC6
     ·exact HSl'.out.below hC6
     rintro e w7 ⟨⟨t7,rfl,ht7⟩,hb7⟩
     obtain rfl:t7=true:=ht7.2 Hq.out
     clear ht7
     have hC7:=below_next hC6 hb7
     obtain⟨⟨n0,-⟩,⟨n1,-⟩,⟨n2,-⟩,⟨n3,-⟩,⟨n4,-⟩,⟨n5,-⟩⟩:=HXs.out.below hC7
     obtain⟨⟨y0,-⟩,⟨y1,-⟩,⟨y2,-⟩⟩:=HV.out.below hC7
     have sq0:=(hC7.cell (lt_of_cell R0)).trans R0
     have sq1:=(hC7.cell (lt_of_cell R1)).trans R1
     have sq2:=(hC7.cell (lt_of_cell R2)).trans R2
     (try go_wp2_with fail)
     refine hK.out _ _ (by(try dsimp only); go_keep) ?_
     clear hK K hHeld
     intro hHeld
     try simp only [Act.put,s1,s2,s3]
     refine tk 13 (h:=tk 14 (h:=?_))
     refine wpAnyH_done (by kernel_rfl) ?_ _
     go_wp2
     go_roundw
     case rel=>
      refine⟨k+1,by omega,by go_num,?_,HXs.out.below hC7,below_next hbs hC7⟩
      intro j hj hn
      by_cases e:j=k
      ·subst e; exact Hq.out
      ·exact Hall.out j (by omega) hn
     case measure=>simp [intOf]; omega
    ·have Hq:=hideW hq
     clear hq
     refine wp_region_held_drew (S:=(fun w'=>w'.cell? ⟨w.heap.size,0,none⟩=some (.slice (some ⟨b',off',none⟩) S.live.pool.n lc)∧w'.cell? ⟨w.heap.size,1,none⟩=some (v1)∧w'.cell? ⟨w.heap.size,2,none⟩=some (.int .i64 S.live.time)∧w'.cell? ⟨w.heap.size,3,none⟩=some (.int .i64 S.live.next)∧w'.cell? ⟨w.heap.size,4,none⟩=some (v2)∧w'.cell? ⟨w.heap.size,5,none⟩=some (v3)∧w'.cell? ⟨V,0,none⟩=some (.int .i64 (S.safe.pool.s k).birth)∧w'.cell? ⟨V,1,none⟩=some (.slice ka (S.safe.pool.s k).kn kc)∧w'.cell? ⟨V,2,none⟩=some (.string (S.safe.pool.s k).data)∧w'.cell? ⟨b',off'+k*3,none⟩=some (.int .i64 (S.live.pool.s k).birth)∧w'.cell? ⟨b',off'+k*3+1,none⟩=some (.slice pa (S.live.pool.s k).kn pc)∧w'.cell? ⟨b',off'+k*3+2,none⟩=some (.string (S.live.pool.s k).data))) (by kernel_rfl) ?_ (fun hHeld=>?_)
     ·(try dsimp only)
      go_keep
     refine tk 0 (h:=?_)
     refine rd [1] (rc (fun K hK=>?_) .nil)
     go_simp
     go_at_call 108
     refine(isFree_any _ _ _ lo hi (S.safe.pool.s k) _ ?_).mono ?_
     ·exact HSl.out.below (below_drewN (Below.refl _ _) 1)
     rintro e w6 ⟨⟨t6,rfl,ht6⟩,hb6⟩
     obtain rfl:t6=false:=bool_no ht6 Hfr.out
     clear ht6
     have hC6:Below W5.heap.size W5 w6:=(by first | exact hb6 | exact below_undrew hb6)
     obtain⟨⟨m0,-⟩,⟨m1,-⟩,⟨m2,-⟩,⟨m3,-⟩,⟨m4,-⟩,⟨m5,-⟩⟩:=HXs.out.below hC6
     obtain⟨⟨Z0,-⟩,⟨Z1,-⟩,⟨Z2,-⟩⟩:=HV.out.below hC6
     have RR0:=(hC6.cell (lt_of_cell R0)).trans R0
     have RR1:=(hC6.cell (lt_of_cell R1)).trans R1
     have RR2:=(hC6.cell (lt_of_cell R2)).trans R2
     (try go_wp2_with fail)
     refine hK.out _ _ (by(try dsimp only); go_keep) ?_
     clear hK K hHeld
     intro hHeld
     try simp only [Act.put,s1,s2,s3]
     refine tk 2 (h:=tk 3 (h:=tk 4 (h:=tk 5 (h:=tk 6 (h:=tk 7 (h:=tk 8 (h:=tk 9 (h:=tk 10 (h:=tk 11 (h:=?_))))))))))
     refine rd [12] (rc (fun K hK=>?_) .nil)
     go_simp
     go_at_call 109
     refine(slotSame_any lo hi lo hi (S.safe.pool.s k) (S.live.pool.s k) ka pa kc pc _ ?_ ?_).mono ?_
     ·exact HSl.out.below hC6
     ·exact HSl'.out.below hC6
     rintro e w7 ⟨⟨t7,rfl,ht7⟩,hb7⟩
     obtain rfl:t7=false:=bool_no ht7 Hq.out
     clear ht7
     have hC7:=below_next hC6 hb7
     obtain⟨⟨n0,-⟩,⟨n1,-⟩,⟨n2,-⟩,⟨n3,-⟩,⟨n4,-⟩,⟨n5,-⟩⟩:=HXs.out.below hC7
     obtain⟨⟨y0,-⟩,⟨y1,-⟩,⟨y2,-⟩⟩:=HV.out.below hC7
     have sq0:=(hC7.cell (lt_of_cell R0)).trans R0
     have sq1:=(hC7.cell (lt_of_cell R1)).trans R1
     have sq2:=(hC7.cell (lt_of_cell R2)).trans R2
     (try go_wp2_with fail)
     refine hK.out _ _ (by(try dsimp only); go_keep) ?_
     clear hK K hHeld
     intro hHeld
     try simp only [Act.put,s1,s2,s3]
     refine tk 13 (h:=tk 14 (h:=?_))
     refine wpAnyH_done (by kernel_rfl) ?_ _
     go_wp2
     go_ret
     exact⟨BoolIs.no fun h=>Hq.out (h.slots k hlt Hfr.out),below_next hbs hC7⟩
  ·obtain rfl:k=S.safe.pool.n:=by omega
   go_wp2
   go_ret
   exact⟨BoolIs.yes ⟨E1.out,E3.out,E4.out,Hall.out⟩,hb⟩
end Go.Proofs.YtihplgckbhnohaaGreatDoor
