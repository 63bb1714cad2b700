/- What spec.l01Is, spec.PtrsRight, spec.l03In and spec.PtrsSame answer. -/
import Derived.Test.YtmgeglgboadfiaaGreatDoorP3
import Derived.BigQuiet
import Derived.Test.YtmgeglgboadfiaaGreatDoorP1
import Derived.Deep.RegionHeld
import Derived.Test.YtmgeglgboadfiaaGreatDoorP2
namespace Go.Proofs.YtmgeglgboadfiaaGreatDoor
open Go.RowKit Go.Maps
set_option linter.unusedVariables false
def Between(n a b:Int):Prop:=a≤n∧n≤b
set_option maxRecDepth 20000 in
set_option maxHeartbeats 400000 in
theorem l01Is_any(n a b:Int)(w:World):Calls Tryz.prog 137 #[.int .i64 n,.int .i64 a,.int .i64 b] w fun e w'=>BoolIs (Between n a b) e∧w'=w:=by
 by_cases h1:a≤n
 ·by_cases h2:n≤b
  ·go_enter Tryz.func137,Tryz.ntmps137
   go_wp2
   go_ret
   exact⟨BoolIs.yes ⟨h1,h2⟩,rfl⟩
  ·go_enter Tryz.func137,Tryz.ntmps137
   go_wp2
   go_ret
   exact⟨BoolIs.no fun h=>by have:=h.2; omega,rfl⟩
 ·go_enter Tryz.func137,Tryz.ntmps137
  go_wp2
  go_ret
  exact⟨BoolIs.no fun h=>by have:=h.1; omega,rfl⟩
set_option maxRecDepth 20000 in
set_option maxHeartbeats 1000000 in
theorem specPtrsRight_any(v:Value)(n lo hi:Nat)(f g:Nat→Int)(w:World)(h1:PtrsAt w lo hi v n f g) :
  Calls Tryz.prog 185 #[v] w fun e w'=>BoolIs (PtrsOk n f g) e∧Below w.heap.size w w':=by
 have Hp:=hideD h1
 obtain⟨m1,a,c,rfl,mc,_⟩:=id h1
 clear h1
 unfold maxLen at m1
 by_cases hn:n≤200
 ·have hn':¬(200:Int)<(n:Int):=by omega
  go_enter Tryz.func185,Tryz.ntmps185
  go_wp2
  go_loopw [3] (fun i wr=>∃k:Nat,k≤n∧i = .int .i64 k∧(∀i,i<k→PtrOk (f i) (g i))∧Dist k f∧Below w.heap.size w wr) (fun i _=>n - (intOf i).toNat)
  case atStart=>exact⟨0,Nat.zero_le _,rfl,fun j hj=>absurd hj (Nat.not_lt_zero _),fun j hj=>absurd hj (Nat.not_lt_zero _),Below.refl _ _⟩
  case round=>
   obtain⟨k,hk,rfl,hall,hdist,hb⟩:=hrel
   have Hall:=hideD hall
   have Hdist:=hideD hdist
   clear hall hdist
   by_cases hlt:k<n
   ·have hlt':(k:Int)<(n:Int):=by omega
    obtain⟨b,off,rfl,q0,q1⟩:=(Hp.out.below hb).cellsD hlt
    by_cases hx:Between (f k) 0 199
    ·have Hx:=hideD hx
     clear hx
     by_cases hy:BirthOk (g k)
     ·have Hy:=hideD hy
      clear hy
      go_wp2_with (first
       | (go_at_call 137; refine(l01Is_any (f k) 0 199 _).mono ?_; rintro e w1 ⟨⟨t,rfl,ht⟩,rfl⟩; obtain rfl:t=true:=ht.2 Hx.out; clear ht)
       | (go_at_call 145; refine(l01Birth_any (g k) _).mono ?_; rintro e w2 ⟨⟨t,rfl,ht⟩,rfl⟩; obtain rfl:t=true:=ht.2 Hy.out; clear ht)
       | fail)
      go_wp2
      go_loopw [4] (fun i wr=>∃j:Nat,j≤k∧i = .int .i64 j∧(∀i,i<j→f i≠f k)∧Below w.heap.size w wr) (fun i _=>k - (intOf i).toNat)
      case atStart=>exact⟨0,Nat.zero_le _,rfl,fun j hj=>absurd hj (Nat.not_lt_zero _),hb⟩
      case round=>
       obtain⟨j,hj,rfl,hne,hbj⟩:=hrel
       have Hne:=hideD hne
       clear hne q0 q1 hb
       by_cases hjk:j<k
       ·have hjk':(j:Int)<(k:Int):=by omega
        have hjn':(j:Int)<(n:Int):=by omega
        obtain⟨_,_,ha,r0,_⟩:=(Hp.out.below hbj).cellsD (show j<n by omega)
        simp only [Option.some.injEq,Addr.mk.injEq,and_true] at ha
        obtain⟨rfl,rfl⟩:=ha
        obtain⟨_,_,ha,s0,_⟩:=(Hp.out.below hbj).cellsD hlt
        simp only [Option.some.injEq,Addr.mk.injEq,and_true] at ha
        obtain⟨rfl,rfl⟩:=ha
        by_cases he:f j=f k
        ·have He:=hideD he
         have e0:(f j == f k)=true:=by simp [he]
         clear he
         go_wp2
         go_quiet (fail)
         go_wp2
         go_ret
         exact⟨BoolIs.no fun h=>h.2.2 k hlt j hjk He.out,below_drewN hbj _⟩
        ·have He:=hideD he
         have e0:(f j == f k)=false:=by simp [he]
         clear he
         go_wp2
         go_quiet (fail)
         go_wp2
         go_roundw
         case rel=>exact⟨j+1,by omega,by go_num,relNext hjk Hne.out He.out,below_drewN hbj _⟩
         case measure=>simp [intOf]; omega
       ·obtain rfl:j=k:=by omega
        go_wp2
        go_roundw
        case rel=>exact⟨j+1,by omega,by go_num,relNext hlt Hall.out ⟨Hx.out.1,Hx.out.2,Hy.out.1,Hy.out.2⟩,dist_succ.2 ⟨Hdist.out,Hne.out⟩,hbj⟩
        case measure=>simp [intOf]; omega
     ·have Hy:=hideD hy
      clear hy
      go_wp2_with (first
       | (go_at_call 137; refine(l01Is_any (f k) 0 199 _).mono ?_; rintro e w1 ⟨⟨t,rfl,ht⟩,rfl⟩; obtain rfl:t=true:=ht.2 Hx.out; clear ht)
       | (go_at_call 145; refine(l01Birth_any (g k) _).mono ?_; rintro e w2 ⟨⟨t,rfl,ht⟩,rfl⟩; obtain rfl:t=false:=bool_no ht Hy.out; clear ht)
       | fail)
      go_wp2
      go_ret
      exact⟨BoolIs.no fun h=>Hy.out ⟨(h.2.1 k hlt).2.2.1,(h.2.1 k hlt).2.2.2⟩,hb⟩
    ·have Hx:=hideD hx
     clear hx
     go_wp2_with (first
      | (go_at_call 137; refine(l01Is_any (f k) 0 199 _).mono ?_; rintro e w1 ⟨⟨t,rfl,ht⟩,rfl⟩; obtain rfl:t=false:=bool_no ht Hx.out; clear ht)
      | fail)
     go_wp2
     go_ret
     exact⟨BoolIs.no fun h=>Hx.out ⟨(h.2.1 k hlt).1,(h.2.1 k hlt).2.1⟩,hb⟩
   ·obtain rfl:k=n:=by omega
    go_wp2
    go_ret
    exact⟨BoolIs.yes ⟨hn,Hall.out,Hdist.out⟩,hb⟩
 ·have hn':(200:Int)<(n:Int):=by omega
  go_enter Tryz.func185,Tryz.ntmps185
  go_wp2
  go_ret
  exact⟨BoolIs.no fun h=>hn h.1,Below.refl _ _⟩
set_option maxRecDepth 20000 in
set_option maxHeartbeats 1000000 in
theorem l03In_any(v:Value)(n lo hi:Nat)(f g:Nat→Int)(x y:Int)(w:World)(h1:PtrsAt w lo hi v n f g) :
  Calls Tryz.prog 142 #[v,.agg #[.int .i64 x,.int .i64 y]] w fun e w'=>BoolIs (PIn n f g x y) e∧Below w.heap.size w w':=by
 have Hp:=hideD h1
 obtain⟨m1,a,c,rfl,mc,_⟩:=id h1
 unfold maxLen at m1
 clear h1
 have ha:=below_alloc w (.cells #[.int .i64 x,.int .i64 y] 61)
 have HB:=hideD (Box2.new w (.int .i64 x) (.int .i64 y) 61)
 go_enter Tryz.func142,Tryz.ntmps142
 go_wp2
 go_loopw [5] (fun i wr=>∃k:Nat,k≤n∧i = .int .i64 k∧¬PIn k f g x y∧Box2 wr w.heap.size (.int .i64 x) (.int .i64 y)∧Below w.heap.size w wr) (fun i _=>n - (intOf i).toNat)
 case atStart=>exact⟨0,Nat.zero_le _,rfl,fun ⟨j,hj,_⟩=>absurd hj (Nat.not_lt_zero _),HB.out,ha⟩
 case round=>
  obtain⟨k,hk,rfl,hno,hX,hb⟩:=hrel
  have Hno:=hideD hno
  have HX:=hideD hX
  clear hno hX
  obtain⟨⟨x0,x1⟩,⟨x2,x3⟩⟩:=HX.out
  by_cases hlt:k<n
  ·have hlt':(k:Int)<(n:Int):=by omega
   obtain⟨b,off,rfl,q0,q1⟩:=(Hp.out.below hb).cellsD hlt
   by_cases he:f k=x∧g k=y
   ·have H:=hideD (show PIn n f g x y from⟨k,hlt,he.1,he.2⟩)
    rw [he.1] at q0
    rw [he.2] at q1
    clear he
    go_wp2
    go_quiet (fail)
    go_wp2
    go_ret
    exact⟨BoolIs.yes H.out,below_drewN hb _⟩
   ·have H:=hideD he
    have e0:(f k == x)=false∨(f k == x)=true∧(g k == y)=false:=by
     by_cases h:f k=x
     ·right
      refine⟨by simp [h],?_⟩
      have:g k≠y:=fun h'=>he ⟨h,h'⟩
      simp [this]
     ·left; simp [h]
    clear he
    rcases e0 with e0 | ⟨e0,e1⟩
    all_goals
     go_wp2
     go_quiet (fail)
     go_wp2
     go_roundw
     case rel=>
      refine⟨k+1,by omega,by go_num,?_,HX.out.below (below_drewN (Below.refl _ _) _),below_drewN hb _⟩
      rintro⟨j,hj,hjx⟩
      by_cases e:j=k
      ·subst e; exact H.out ⟨hjx.1,hjx.2⟩
      ·exact Hno.out ⟨j,by omega,hjx⟩
     case measure=>simp [intOf]; omega
  ·obtain rfl:k=n:=by omega
   go_wp2
   go_ret
   exact⟨BoolIs.no Hno.out,hb⟩
set_option maxRecDepth 20000 in
set_option maxHeartbeats 1000000 in
theorem specPtrsSame_any(v v':Value)(n lo hi n' lo' hi':Nat)(f g f' g':Nat→Int)(w:World)(h1:PtrsAt w lo hi v n f g)(h2:PtrsAt w lo' hi' v' n' f' g') :
  Calls Tryz.prog 143 #[v,v'] w fun e w'=>BoolIs (PSame n f g n' f' g') e∧Below w.heap.size w w':=by
 have Hp:=hideD h1
 have Hp':=hideD h2
 obtain⟨m1,a,c,rfl,mc,_⟩:=id h1
 obtain⟨m2,a',c',rfl,mc',_⟩:=id h2
 unfold maxLen at m1 m2
 clear h1 h2
 by_cases ho:PtrsOk n f g
 ·have Ho:=hideD ho
  clear ho
  by_cases ho':PtrsOk n' f' g'
  ·have Ho':=hideD ho'
   clear ho'
   go_enter Tryz.func143,Tryz.ntmps143
   go_wp2_with fail
   refine(specPtrsRight_any _ n lo hi f g _ Hp.out).mono ?_
   rintro e w1 ⟨⟨t,rfl,ht⟩,hb1⟩
   obtain rfl:t=true:=ht.2 Ho.out
   clear ht
   go_wp2_with fail
   refine(specPtrsRight_any _ n' lo' hi' f' g' _ (Hp'.out.below hb1)).mono ?_
   rintro e w2 ⟨⟨t,rfl,ht⟩,hb2⟩
   obtain rfl:t=true:=ht.2 Ho'.out
   have hB2:=below_next hb1 hb2
   clear ht hb1 hb2
   by_cases hnn:n=n'
   ·subst hnn
    have e0:((n:Int) != (n:Int))=false:=by simp
    go_wp2
    go_loopw [5] (fun i wr=>∃k:Nat,k≤n∧i = .int .i64 k∧(∀i,i<k→PIn n f' g' (f i) (g i))∧Below w.heap.size w wr) (fun i _=>n - (intOf i).toNat)
    case atStart=>exact⟨0,Nat.zero_le _,rfl,fun j hj=>absurd hj (Nat.not_lt_zero _),hB2⟩
    case round=>
     obtain⟨k,hk,rfl,hall,hb⟩:=hrel
     have Hall:=hideD hall
     clear hall
     by_cases hlt:k<n
     ·have hlt':(k:Int)<(n:Int):=by omega
      obtain⟨b,off,rfl,q0,q1⟩:=(Hp.out.below hb).cellsD hlt
      go_wp2_with fail
      refine(l03In_any _ n lo' hi' f' g' (f k) (g k) _ (Hp'.out.below hb)).mono ?_
      rintro e w3 ⟨⟨t,rfl,ht⟩,hb3⟩
      have hB3:=below_next hb hb3
      clear hb3
      by_cases hi':PIn n f' g' (f k) (g k)
      ·have Hi:=hideD hi'
       obtain rfl:t=true:=ht.2 hi'
       clear ht hi'
       go_wp2
       go_roundw
       case rel=>exact⟨k+1,by omega,by go_num,relNext hlt Hall.out Hi.out,hB3⟩
       case measure=>simp [intOf]; omega
      ·have Hi:=hideD hi'
       obtain rfl:t=false:=bool_no ht hi'
       clear ht hi'
       go_wp2
       go_ret
       exact⟨BoolIs.no fun h=>Hi.out (h.2.2.2 k hlt),hB3⟩
     ·obtain rfl:k=n:=by omega
      go_wp2
      go_ret
      exact⟨BoolIs.yes ⟨Ho.out,Ho'.out,rfl,Hall.out⟩,hb⟩
   ·have e0:((n:Int) != (n':Int))=true:=by simp; omega
    have Hn:=hideD hnn
    clear hnn
    go_wp2
    go_ret
    exact⟨BoolIs.no fun h=>Hn.out h.2.2.1,hB2⟩
  ·have Ho':=hideD ho'
   clear ho'
   go_enter Tryz.func143,Tryz.ntmps143
   go_wp2_with fail
   refine(specPtrsRight_any _ n lo hi f g _ Hp.out).mono ?_
   rintro e w1 ⟨⟨t,rfl,ht⟩,hb1⟩
   obtain rfl:t=true:=ht.2 Ho.out
   clear ht
   go_wp2_with fail
   refine(specPtrsRight_any _ n' lo' hi' f' g' _ (Hp'.out.below hb1)).mono ?_
   rintro e w2 ⟨⟨t,rfl,ht⟩,hb2⟩
   obtain rfl:t=false:=bool_no ht Ho'.out
   have hB2:=below_next hb1 hb2
   clear ht hb1 hb2
   go_wp2
   go_ret
   exact⟨BoolIs.no fun h=>Ho'.out h.2.1,hB2⟩
 ·have Ho:=hideD ho
  clear ho
  go_enter Tryz.func143,Tryz.ntmps143
  go_wp2_with fail
  refine(specPtrsRight_any _ n lo hi f g _ Hp.out).mono ?_
  rintro e w1 ⟨⟨t,rfl,ht⟩,hb1⟩
  obtain rfl:t=false:=bool_no ht Ho.out
  clear ht
  go_wp2
  go_ret
  exact⟨BoolIs.no fun h=>Ho.out h.1,hb1⟩
end Go.Proofs.YtmgeglgboadfiaaGreatDoor

namespace Go.Proofs.YtmgeglgboadfiaaGreatDoor
set_option linter.unusedVariables false
theorem s1{α : Type}(l:List α)(i:Nat)(a:α):l.toArray.setIfInBounds i a=(l.set i a).toArray:=List.setIfInBounds_toArray ..
theorem s2{α : Type}(x:α)(l:List α)(a:α):(x :: l).set 0 a=a :: l:=rfl
theorem s3{α : Type}(x:α)(l:List α)(i:Nat)(a:α):(x :: l).set (i+1) a=x :: l.set i a:=rfl
def nthO:List Oper→Nat→Option Oper
 | [],_=>none
 | o :: _,0=>some o
 | _ :: l,n+1=>nthO l n
theorem nthO_list:∀(l:List Oper) (i:Nat),l[i]?=nthO l i
 | [],_=>rfl
 | _ :: _,0=>rfl
 | _ :: l,n+1=>by simpa [nthO] using nthO_list l n
theorem nthO_get{ops:Array Oper}{i:Nat}{o:Oper}(h:nthO ops.toList i=some o):ops[i]?=some o:=by
 rw [←h,←nthO_list,Array.getElem?_toList]
section
variable {P : Program} {md : Region.Mode} {ops : Array Oper} {Q : Exit → Act → World → Prop} {S : World → Prop}
theorem tk(i:Nat){o:Oper}{v:Value}{fuel:Nat}{listed l':Array Bool}{a a':Act}{w:World}(hi:nthO ops.toList i=some o:=by exact rfl)
  (hb:(Region.noSelect ops && (Region.free md ops listed i && (Region.ready md ops listed).contains i))=true:=by kernel_rfl)
  (hw:Region.wanted o (yielded ops a.tmps)=true:=by exact rfl) (hS:S w:=by assumption)
  (hy:∀w,S w→(execOp a.eval o).run P w = .ok (.value v) w:=by(intro w hSw; (try dsimp only at hSw); go_simp; try with_reducible rfl))
  (hl:listed.setIfInBounds i true=l':=by((try simp only [s1,s2,s3]); exact rfl))
  (ha:a.put o.dst v=a':=by((try simp only [Act.put,s1,s2,s3]); exact rfl))
  (hQ:∀c a w,Q (.panic c) (a.put o.dst v) w→Q (.panic c) a w:=by exact fun _ _ _ h=>h)
  (h:wpAnyH P md ops Q S fuel l' a' w):wpAnyH P md ops Q S (fuel+1) listed a w:=by
 simp only [Bool.and_eq_true] at hb
 subst hl ha
 exact wpAnyH_take (nthO_get hi) hb.1 hb.2.1 hb.2.2 hQ (Or.inl ⟨hw,hy⟩) hS h
theorem ts(i:Nat){o:Oper}{fuel:Nat}{listed l':Array Bool}{a a':Act}{w:World}(hi:nthO ops.toList i=some o:=by exact rfl)
  (hb:(Region.noSelect ops && (Region.free md ops listed i && (Region.ready md ops listed).contains i))=true:=by kernel_rfl)
  (hw:Region.wanted o (yielded ops a.tmps)=false:=by exact rfl) (hS:S w:=by assumption)
  (hl:listed.setIfInBounds i true=l':=by((try simp only [s1,s2,s3]); exact rfl))
  (ha:a.put o.dst undef=a':=by((try simp only [Act.put,s1,s2,s3]); exact rfl))
  (hQ:∀c a w,Q (.panic c) (a.put o.dst undef) w→Q (.panic c) a w:=by exact fun _ _ _ h=>h)
  (h:wpAnyH P md ops Q S fuel l' a' w):wpAnyH P md ops Q S (fuel+1) listed a w:=by
 simp only [Bool.and_eq_true] at hb
 subst hl ha
 exact wpAnyH_take (nthO_get hi) hb.1 hb.2.1 hb.2.2 hQ (Or.inr ⟨hw,rfl⟩) hS h
theorem rd(rs:List Nat){fuel:Nat}{listed:Array Bool}{a:Act}{w:World}(h:AllReadyH P md ops Q S fuel listed a w rs)
  (hr:Region.ready md ops listed=rs:=by kernel_rfl) (hne:rs≠[]:=by simp):wpAnyH P md ops Q S (fuel+1) listed a w:=wpAnyH_ready hr hne h
theorem rc{fuel:Nat}{listed:Array Bool}{a:Act}{w:World}{i:Nat}{o:Oper}{rs:List Nat}
  (h:∀K':Act→World→Prop,Shut (∀a w,S w→(S w→wpAnyH P md ops Q S fuel (listed.setIfInBounds i true) a w)→K' a w)→if Region.wanted o (yielded ops a.tmps)=true then Oper.wp P o a w K' Q else K' (a.put o.dst undef) w)
  (hs:AllReadyH P md ops Q S fuel listed a w rs) (ho:nthO ops.toList i=some o:=by exact rfl):AllReadyH P md ops Q S fuel listed a w (i :: rs):=AllReadyH.cons (nthO_get ho) h hs
end
end Go.Proofs.YtmgeglgboadfiaaGreatDoor

namespace Go.Proofs.YtmgeglgboadfiaaGreatDoor
open Go.RowKit
set_option linter.unusedVariables false
def KidsThere(n:Nat)(f:Nat→SlotD)(s:SlotD):Prop:=∀i,i<8→KidFound n f s.birth (s.ks i) (s.kb i) (s.ks i) (s.kb i)
theorem PtrOf.uniq{n:Nat}{f:Nat→SlotD}{x ps pb ps' pb':Int}(h:PtrOf n f x ps pb)(h':PtrOf n f x ps' pb'):ps=ps'∧pb=pb':=by
 rcases h with⟨a,b,c,rfl,rfl⟩ | ⟨a,rfl,rfl⟩ <;> rcases h' with⟨a',b',c',rfl,rfl⟩ | ⟨a',rfl,rfl⟩
 ·exact⟨rfl,rfl⟩
 ·exact absurd ⟨a,b,c⟩ a'
 ·exact absurd ⟨a',b',c'⟩ a
 ·exact⟨rfl,rfl⟩
theorem KidFound.uniq{n:Nat}{f:Nat→SlotD}{b ks kb rs rb rs' rb':Int}(h:KidFound n f b ks kb rs rb)(h':KidFound n f b ks kb rs' rb'):rs=rs'∧rb=rb':=by
 obtain⟨ps,pb,hp,h⟩:=h
 obtain⟨ps',pb',hp',h'⟩:=h'
 obtain⟨rfl,rfl⟩:=hp.uniq hp'
 rcases h with⟨a,rfl,rfl⟩ | ⟨a,rfl,rfl⟩ <;> rcases h' with⟨a',rfl,rfl⟩ | ⟨a',rfl,rfl⟩
 ·exact⟨rfl,rfl⟩
 ·exact absurd a a'
 ·exact absurd a' a
 ·exact⟨rfl,rfl⟩
theorem arr16_set(g:Nat→Int)(k:Nat)(hk:k<8)(x y:Int):((arr16 g).setIfInBounds (k*2) (.int .i64 x)).setIfInBounds (k*2+1) (.int .i64 y)=arr16 (fun j=>if j=k*2 then x else if j=k*2+1 then y else g j):=by
 apply Array.ext_getElem?
 intro i
 rw [Array.getElem?_setIfInBounds,Array.getElem?_setIfInBounds]
 simp only [Array.size_setIfInBounds,arr16_size]
 by_cases h16:i<16
 ·rw [arr16_at _ h16,arr16_at _ h16]
  by_cases e1:k*2+1=i
  ·subst e1
   rw [if_pos rfl,if_pos (by omega),if_neg (by omega),if_pos rfl]
  ·rw [if_neg e1]
   by_cases e0:k*2=i
   ·subst e0
    rw [if_pos rfl,if_pos (by omega),if_pos rfl]
   ·rw [if_neg e0,if_neg (by omega),if_neg (by omega)]
 ·have n1:(arr16 g)[i]?=none:=Array.getElem?_eq_none (by rw [arr16_size]; omega)
  have n2:(arr16 (fun j=>if j=k*2 then x else if j=k*2+1 then y else g j))[i]?=none:=Array.getElem?_eq_none (by rw [arr16_size]; omega)
  rw [n1,n2,if_neg (by omega),if_neg (by omega)]
theorem index_arr(g:Nat→Int)(k:Nat)(hk:k<8)(w:World):(Instr.index 155 (.agg (arr16 g)) (.int .i64 (k:Int))).run Tryz.prog w = .ok (.agg #[.int .i64 (g (k*2)),.int .i64 (g (k*2+1))]) w:=by
 rcases(by omega:k=0∨k=1∨k=2∨k=3∨k=4∨k=5∨k=6∨k=7)with rfl | rfl | rfl | rfl | rfl | rfl | rfl | rfl
 all_goals kernel_rfl
theorem part_arr(g:Nat→Int)(k:Nat)(hk:k<8)(w:World):(part 61 (arr16 g) (k*2)).run Tryz.prog w = .ok (.agg #[.int .i64 (g (k*2)),.int .i64 (g (k*2+1))]) w:=by
 rcases(by omega:k=0∨k=1∨k=2∨k=3∨k=4∨k=5∨k=6∨k=7)with rfl | rfl | rfl | rfl | rfl | rfl | rfl | rfl
 all_goals kernel_rfl
theorem eqPtrIn(d:Nat)(a b c e:Int)(w:World):(Op.equalIn (d+2) 61 (.agg #[.int .i64 a,.int .i64 b]) (.agg #[.int .i64 c,.int .i64 e])).run Tryz.prog w = .ok (a == c && b == e) w:=by
 by_cases h1:a=c <;> by_cases h2:b=e
 all_goals simp [go_sem,h1,h2]
theorem sizePtr(w:World):(sizeOf 61).run Tryz.prog w = .ok 2 w:=by kernel_rfl
theorem forIn_all{P:Program}(b:Nat→Bool)(F:Nat→Option Bool×Unit→Sem (ForInStep (Option Bool×Unit))):∀(L:List Nat) (w:World),(∀i∈L,∀s w,(F i s).run P w = .ok (if b i then .yield (none,())else .done (some false,())) w)→
  (forIn L (none,()) F).run P w = .ok (if L.all b then(none,())else(some false,())) w
 | [],w,_=>by simp [Sem.run_pure]
 | i :: L,w,hF=>by
  simp only [List.forIn_cons,Sem.run_bind,hF i (by simp),Result.andThen_ok,List.all_cons]
  by_cases hb:b i=true
  ·simp only [hb,if_true,Bool.true_and]
   exact forIn_all b F L w (fun j hj=>hF j (by simp [hj]))
  ·simp [hb,Sem.run_pure]
def eq16(g h:Nat→Int):Bool:=(List.range 8).all fun i=>g (i*2) == h (i*2) && g (i*2+1) == h (i*2+1)
theorem eq16_iff(g h:Nat→Int):eq16 g h=true↔∀i,i<8→g (i*2)=h (i*2)∧g (i*2+1)=h (i*2+1):=by
 simp [eq16,List.all_eq_true]
theorem eqlIn_arr(g h:Nat→Int)(d:Nat)(w:World):(Op.equalIn (d+3) 155 (.agg (arr16 g)) (.agg (arr16 h))).run Tryz.prog w = .ok (eq16 g h) w:=by
 rw [Op.equalIn]
 simp only [Sem.run_bind,run_underlying arrU,Result.andThen_ok,sizePtr]
 rw [Std.Legacy.Range.forIn_eq_forIn_range']
 have e:=forIn_all (P:=Tryz.prog) (fun i=>g (i*2) == h (i*2) && g (i*2+1) == h (i*2+1)) (fun i (__s:Option Bool×Unit)=>do
      let __do_lift ←part 61 (arr16 g) (i*2)
      let __do_lift_1 ←part 61 (arr16 h) (i*2)
      let __do_lift ←Op.equalIn (d+2) 61 __do_lift __do_lift_1
      if (!__do_lift)=true then pure (ForInStep.done (some false,()))else pure (ForInStep.yield (none,()))) (List.range 8) w (fun i hi s w=>by
   have hi8:i<8:=by simpa using hi
   simp only [Sem.run_bind,part_arr _ i hi8,Result.andThen_ok,eqPtrIn]
   cases (g (i*2) == h (i*2) && g (i*2+1) == h (i*2+1)) <;> simp [Sem.run_pure])
 have e2:List.range' 0 (([:8]:Std.Legacy.Range).size) ([:8]:Std.Legacy.Range).step=List.range 8:=by rfl
 rw [e2,e]
 simp only [Result.andThen_ok]
 unfold eq16
 cases ((List.range 8).all fun i=>g (i*2) == h (i*2) && g (i*2+1) == h (i*2+1)) <;> simp [Sem.run_pure]
theorem eql_arr(g h:Nat→Int)(w:World):(binOp .eql 155 (.agg (arr16 g)) (.agg (arr16 h))).run Tryz.prog w = .ok (.bool (eq16 g h)) w:=by
 rw [run_eql_struct,eqlIn_arr g h 9997]
 rfl
set_option maxRecDepth 20000 in
set_option maxHeartbeats 1000000 in
theorem kidsThere_any(v v0 v1 v2:Value)(n lo hi lo' hi':Nat)(f:Nat→SlotD)(s:SlotD)(w:World)(h1:SlotsAt w lo hi v n f)(h2:SlotAt w lo' hi' v0 v1 v2 s)(hk:s.kn=8) :
  Calls Tryz.prog 200 #[v,.agg #[v0,v1,v2]] w fun e w'=>BoolIs (KidsThere n f s) e∧Below w.heap.size w w':=by
 have Hv:Hid (SlotsAt w lo hi v n f):=h1
 obtain⟨m1,a,c,rfl,mc,g1⟩:=h1
 have Hs:Hid (SlotAt w lo' hi' v0 v1 v2 s):=h2
 obtain⟨rfl,⟨m2,ka,kc,rfl,mc2,g2⟩,rfl,m3⟩:=h2
 have Hk:Hid (s.kn=8):=hk
 clear g1 g2 hk
 go_enter Tryz.func200,Tryz.ntmps200
 go_wp2_with fail
 have ha1:=below_alloc w (.cells #[.int .i64 s.birth,.slice ka s.kn kc,.string s.data] 127)
 refine(kidsOf_any _ _ _ lo' hi' s _ (Hs.out.below ha1) (Or.inr Hk.out)).mono ?_
 rintro e w1 ⟨rfl,hb1⟩
 have Hx:Hid (Box3 w1 w.heap.size (.int .i64 s.birth) (.slice ka s.kn kc) (.string s.data)):=(Box3.new w _ _ _ _).below hb1
 have hb2:=below_next ha1 hb1
 have Hi16:Hid ((Tryz.prog.info? 155).map (·.size)=some (kidsA s).size):=by
  show _=_
  rw [kidsA,arr16_size]; exact infoArr
 clear ha1 hb1
 have z16:(#[Value.int .i64 0,Value.int .i64 0,Value.int .i64 0,Value.int .i64 0,Value.int .i64 0,Value.int .i64 0,Value.int .i64 0,Value.int .i64 0,Value.int .i64 0,Value.int .i64 0,Value.int .i64 0,Value.int .i64 0,Value.int .i64 0,Value.int .i64 0,Value.int .i64 0,Value.int .i64 0]:Array Value)=arr16 (fun _=>0):=rfl
 have Hz16:Hid ((#[Value.int .i64 0,Value.int .i64 0,Value.int .i64 0,Value.int .i64 0,Value.int .i64 0,Value.int .i64 0,Value.int .i64 0,Value.int .i64 0,Value.int .i64 0,Value.int .i64 0,Value.int .i64 0,Value.int .i64 0,Value.int .i64 0,Value.int .i64 0,Value.int .i64 0,Value.int .i64 0]:Array Value)=arr16 (fun _=>0)):=z16
 clear z16
 go_wp2_with (first
  | (refine wpList_store_row rfl 155 (.tmp 5) (.tmp 10) rfl w1.heap.size (kidsA s) rfl rfl 155 #[Value.int .i64 0,Value.int .i64 0,Value.int .i64 0,Value.int .i64 0,Value.int .i64 0,Value.int .i64 0,Value.int .i64 0,Value.int .i64 0,Value.int .i64 0,Value.int .i64 0,Value.int .i64 0,Value.int .i64 0,Value.int .i64 0,Value.int .i64 0,Value.int .i64 0,Value.int .i64 0] (heap_alloc_last _ _) Hi16.out (by rw [kidsA,arr16_size]; rfl) (arr16_one _) ?_; rw [World.setRow_alloc_new])
  | (refine wpList_load_row rfl 155 (.tmp 5) rfl w1.heap.size rfl 155 (kidsA s) (0,0) _ ?hh arrU rfl Hi16.out ?_; (exact(Below.heap_alloc _ _ _ (by simp)).trans (heap_alloc_last _ _))))
 have hsz1:w.heap.size<w1.heap.size:=Hx.out.1.lt
 go_loopw [12] (fun i wr=>∃(k:Nat) (g:Nat→Int),k≤8∧i = .int .i64 k∧(∀j,j<k→KidFound n f s.birth (s.ks j) (s.kb j) (g (j*2)) (g (j*2+1)))∧Box3 wr w.heap.size (.int .i64 s.birth) (.slice ka s.kn kc) (.string s.data)∧
   wr.heap[w1.heap.size]?=some (.cells (kidsA s) 155 (0,0))∧wr.heap[w1.heap.size+1]?=some (.cells (arr16 g) 155 (0,0))∧Below w.heap.size w wr) (fun i _=>8 - (intOf i).toNat)
 case atStart=>
  refine⟨0,fun _=>0,Nat.zero_le _,rfl,fun j hj=>absurd hj (Nat.not_lt_zero _),(Hx.out.below (below_alloc _ _)).below (below_alloc _ _),?_,?_,below_next (below_next hb2 (below_alloc _ _)) (below_alloc _ _)⟩
  ·exact(Below.heap_alloc _ _ _ (by simp)).trans (heap_alloc_last _ _)
  ·have:=heap_alloc_last (w1.alloc (.cells (kidsA s) 155)) (.cells #[Value.int .i64 0,Value.int .i64 0,Value.int .i64 0,Value.int .i64 0,Value.int .i64 0,Value.int .i64 0,Value.int .i64 0,Value.int .i64 0,Value.int .i64 0,Value.int .i64 0,Value.int .i64 0,Value.int .i64 0,Value.int .i64 0,Value.int .i64 0,Value.int .i64 0,Value.int .i64 0] 155)
   rw [World.size_alloc] at this
   rw [this,Hz16.out]
 case round=>
  obtain⟨k,g,hk,rfl,hall,hx,hK,hF,hb⟩:=hrel
  have Hall:Hid (∀j,j<k→KidFound n f s.birth (s.ks j) (s.kb j) (g (j*2)) (g (j*2+1))):=hall
  have HX:Hid (Box3 wr w.heap.size (.int .i64 s.birth) (.slice ka s.kn kc) (.string s.data)):=hx
  have HK:Hid (wr.heap[w1.heap.size]?=some (.cells (kidsA s) 155 (0,0))):=hK
  have HF:Hid (wr.heap[w1.heap.size+1]?=some (.cells (arr16 g) 155 (0,0))):=hF
  clear hall hx hK hF
  have hszF:w1.heap.size+1<wr.heap.size:=(Array.getElem?_eq_some_iff.1 HF.out).1
  by_cases hlt:k<8
  ·have hlt':(k:Int)<8:=by omega
   have hidx:∀w,(Instr.index 155 (.agg (kidsA s)) (.int .i64 (k:Int))).run Tryz.prog w = .ok (.agg #[.int .i64 (s.ks k),.int .i64 (s.kb k)]) w:=fun w=>by
    have e:=index_arr (kidCell s) k hlt w
    have e0:kidCell s (k*2)=s.ks k:=by unfold kidCell; rw [if_pos (by have:=Hk.out; omega),if_pos (by omega),show k*2 / 2=k by omega]
    have e1:kidCell s (k*2+1)=s.kb k:=by unfold kidCell; rw [if_pos (by have:=Hk.out; omega),if_neg (by omega),show(k*2+1) / 2=k by omega]
    rw [e0,e1] at e
    exact e
   obtain⟨⟨x0,x1⟩,⟨x2,x3⟩,⟨x4,x5⟩⟩:=HX.out
   have hszB:w.heap.size<wr.heap.size:=by omega
   go_wp2_with fail
   have hal:=below_alloc wr (.cells #[.int .i64 (s.ks k),.int .i64 (s.kb k)] 61)
   refine(kidFound_any _ n lo hi f _ _ _ _ (Hv.out.below (below_next hb hal))).mono ?_
   rintro e w2 ⟨⟨rs,rb,rfl,hkf⟩,hb3⟩
   have Hkf:Hid (KidFound n f s.birth (s.ks k) (s.kb k) rs rb):=hkf
   have hbb:=below_next hal hb3
   have HF2:Hid (w2.heap[w1.heap.size+1]?=some (.cells (arr16 g) 155 (0,0))):=(hbb.block _ hszF).trans HF.out
   have HK2:Hid (w2.heap[w1.heap.size]?=some (.cells (kidsA s) 155 (0,0))):=(hbb.block _ (by omega)).trans HK.out
   have HX2:Hid (Box3 w2 w.heap.size (.int .i64 s.birth) (.slice ka s.kn kc) (.string s.data)):=HX.out.below hbb
   have hbn:=below_next hb hbb
   clear hkf hb3 hal hbb x0 x1 x2 x3 x4 x5 hidx HF HK HX hb
   obtain⟨y0,y1⟩:=cell_of_block (i:=k*2) HF2.out (arr16_at g (by omega))
   obtain⟨y2,y3⟩:=cell_of_block (i:=k*2+1) HF2.out (arr16_at g (by omega))
   go_wp2
   go_roundw
   case rel=>
    refine⟨k+1,fun j=>if j=k*2 then rs else if j=k*2+1 then rb else g j,by omega,by go_num,fun j hj=>?_,(HX2.out.other _ (by omega)).other _ (by omega),?_,?_,(hbn.setCell (by show _≤w1.heap.size+1; omega) _).setCell (by show _≤w1.heap.size+1; omega) _⟩
    ·by_cases e:j=k
     ·subst e
      simp only [if_true]
      rw [if_neg (by omega)]
      exact Hkf.out
     ·simp only
      rw [if_neg (by omega),if_neg (by omega),if_neg (by omega),if_neg (by omega)]
      exact Hall.out j (by omega)
    ·rw [Below.heap_setCell _ _ _ _ (by show w1.heap.size≠w1.heap.size+1; omega),Below.heap_setCell _ _ _ _ (by show w1.heap.size≠w1.heap.size+1; omega)]
     exact HK2.out
    ·have:=heap_setCell_at (o:=k*2+1) (.int .i64 rb) (heap_setCell_at (o:=k*2) (.int .i64 rs) HF2.out)
     rw [arr16_set g k hlt] at this
     exact this
   case measure=>simp [intOf]; omega
  ·obtain rfl:k=8:=by omega
   have heql:∀w,(binOp .eql 155 (.agg (arr16 g)) (.agg (kidsA s))).run Tryz.prog w = .ok (.bool (eq16 g (kidCell s))) w:=fun w=>eql_arr g (kidCell s) w
   have Hg16:Hid ((Tryz.prog.info? 155).map (·.size)=some (arr16 g).size):=by
    show _=_
    rw [arr16_size]; exact infoArr
   go_wp2_with (first
    | (refine wpList_load_row rfl 155 (.tmp 6) rfl (w1.heap.size+1) rfl 155 (arr16 g) (0,0) _ HF.out arrU rfl Hg16.out ?_)
    | (refine wpList_load_row rfl 155 (.tmp 5) rfl w1.heap.size rfl 155 (kidsA s) (0,0) _ HK.out arrU rfl Hi16.out ?_))
   go_ret
   refine⟨⟨_,rfl,?_⟩,hb⟩
   rw [eq16_iff]
   have e0:∀i,i<8→kidCell s (i*2)=s.ks i∧kidCell s (i*2+1)=s.kb i:=fun i hi=>by
    have:=Hk.out
    refine⟨?_,?_⟩
    ·unfold kidCell; rw [if_pos (by omega),if_pos (by omega),show i*2 / 2=i by omega]
    ·unfold kidCell; rw [if_pos (by omega),if_neg (by omega),show(i*2+1) / 2=i by omega]
   constructor
   ·intro h i hi
    have:=Hall.out i hi
    rw [(h i hi).1,(h i hi).2,(e0 i hi).1,(e0 i hi).2] at this
    exact this
   ·intro h i hi
    rw [(e0 i hi).1,(e0 i hi).2]
    exact(Hall.out i hi).uniq (h i hi)
def SlotRightI(n:Nat)(f:Nat→SlotD)(s:SlotD):Prop:=Free s∨Page s∨(Node s∧KidsThere n f s)
def HeldOkI(p:PoolD)(i:Nat):Prop:=¬PtrOf p.n p.s (p.h i) 0 0∧¬Has i p.h (p.h i)
def RightI(p:PoolD):Prop:=p.n≤200∧p.hn≤p.n∧(∀i,i<p.n→SlotRightI p.n p.s (p.s i))∧∀i,i<p.hn→HeldOkI p i
set_option maxRecDepth 20000 in
set_option maxHeartbeats 1000000 in
theorem slotRight_any(v v0 v1 v2:Value)(n lo hi lo' hi':Nat)(f:Nat→SlotD)(s:SlotD)(w:World)(h1:SlotsAt w lo hi v n f)(h2:SlotAt w lo' hi' v0 v1 v2 s) :
  Calls Tryz.prog 158 #[v,.agg #[v0,v1,v2]] w fun e w'=>BoolIs (SlotRightI n f s) e∧Below w.heap.size w w':=by
 have Hv:Hid (SlotsAt w lo hi v n f):=h1
 obtain⟨m1,a,c,rfl,mc,g1⟩:=h1
 have Hs:Hid (SlotAt w lo' hi' v0 v1 v2 s):=h2
 obtain⟨rfl,⟨m2,ka,kc,rfl,mc2,g2⟩,rfl,m3⟩:=h2
 clear g1 g2
 go_enter Tryz.func158,Tryz.ntmps158
 go_wp2_with fail
 have ha1:=below_alloc w (.cells #[.int .i64 s.birth,.slice ka s.kn kc,.string s.data] 127)
 refine(isFree_any _ _ _ lo' hi' s _ (Hs.out.below ha1)).mono ?_
 rintro e w1 ⟨⟨t,rfl,ht⟩,hb1⟩
 have Hx:Hid (Box3 w1 w.heap.size (.int .i64 s.birth) (.slice ka s.kn kc) (.string s.data)):=(Box3.new w _ _ _ _).below hb1
 have hb2:=below_next ha1 hb1
 clear ha1 hb1
 by_cases hf:Free s
 ·obtain rfl:t=true:=ht.2 hf
  have HF:Hid (Free s):=hf
  clear ht hf
  go_wp2
  go_ret
  exact⟨BoolIs.yes (Or.inl HF.out),hb2⟩
 ·obtain rfl:t=false:=bool_no ht hf
  have HF:Hid (¬Free s):=hf
  clear ht hf
  obtain⟨⟨x0,x1⟩,⟨x2,x3⟩,⟨x4,x5⟩⟩:=Hx.out
  go_wp2_with fail
  refine(isPage_any _ _ _ lo' hi' s _ (Hs.out.below hb2)).mono ?_
  rintro e w2 ⟨⟨t,rfl,ht⟩,hb3⟩
  have Hx2:Hid (Box3 w2 w.heap.size (.int .i64 s.birth) (.slice ka s.kn kc) (.string s.data)):=Hx.out.below hb3
  have hb4:=below_next hb2 hb3
  clear hb3 hb2 x0 x1 x2 x3 x4 x5 Hx
  by_cases hf:Page s
  ·obtain rfl:t=true:=ht.2 hf
   have HP:Hid (Page s):=hf
   clear ht hf
   go_wp2
   go_ret
   exact⟨BoolIs.yes (Or.inr (Or.inl HP.out)),hb4⟩
  ·obtain rfl:t=false:=bool_no ht hf
   have HP:Hid (¬Page s):=hf
   clear ht hf
   obtain⟨⟨x0,x1⟩,⟨x2,x3⟩,⟨x4,x5⟩⟩:=Hx2.out
   go_wp2_with fail
   refine(isNode_any _ _ _ lo' hi' s _ (Hs.out.below hb4)).mono ?_
   rintro e w3 ⟨⟨t,rfl,ht⟩,hb5⟩
   have Hx3:Hid (Box3 w3 w.heap.size (.int .i64 s.birth) (.slice ka s.kn kc) (.string s.data)):=Hx2.out.below hb5
   have hb6:=below_next hb4 hb5
   clear hb5 hb4 x0 x1 x2 x3 x4 x5 Hx2
   by_cases hf:Node s
   ·obtain rfl:t=true:=ht.2 hf
    have HN:Hid (Node s):=hf
    clear ht hf
    obtain⟨⟨x0,x1⟩,⟨x2,x3⟩,⟨x4,x5⟩⟩:=Hx3.out
    go_wp2_with fail
    refine(kidsThere_any _ _ _ _ n lo hi lo' hi' f s _ (Hv.out.below hb6) (Hs.out.below hb6) HN.out.2.1).mono ?_
    rintro e w4 ⟨⟨t,rfl,ht⟩,hb7⟩
    have Ht:Hid (t=true↔KidsThere n f s):=ht
    have hb8:=below_next hb6 hb7
    clear hb7 hb6 x0 x1 x2 x3 x4 x5 Hx3 ht
    go_wp2
    go_ret
    refine⟨⟨t,rfl,Ht.out.trans ⟨fun h=>Or.inr (Or.inr ⟨HN.out,h⟩),fun h=>?_⟩⟩,hb8⟩
    rcases h with h | h | h
    ·exact absurd h HF.out
    ·exact absurd h HP.out
    ·exact h.2
   ·obtain rfl:t=false:=bool_no ht hf
    have HN:Hid (¬Node s):=hf
    clear ht hf
    go_wp2
    go_ret
    refine⟨BoolIs.no fun h=>?_,hb6⟩
    rcases h with h | h | h
    ·exact HF.out h
    ·exact HP.out h
    ·exact HN.out h.1
set_option maxRecDepth 20000 in
set_option maxHeartbeats 1000000 in
theorem heldRight_any(v0 v1:Value)(lo hi:Nat)(p:PoolD)(w:World)(h1:PoolAt w lo hi v0 v1 p) :
  Calls Tryz.prog 194 #[.agg #[v0,v1]] w fun e w'=>BoolIs (∀i,i<p.hn→HeldOkI p i) e∧Below w.heap.size w w':=by
 have Hp:Hid (PoolAt w lo hi v0 v1 p):=h1
 obtain⟨⟨m1,a,c,rfl,mc,g1⟩,⟨m2,a',c',rfl,mc',g2⟩⟩:=h1
 unfold maxLen at m1 m2
 clear g1 g2
 go_enter Tryz.func194,Tryz.ntmps194
 go_wp2
 go_loopw [8] (fun i wr=>∃k:Nat,k≤p.hn∧i = .int .i64 k∧(∀j,j<k→HeldOkI p j)∧Box2 wr w.heap.size (.slice a p.n c) (.slice a' p.hn c')∧Below w.heap.size w wr) (fun i _=>p.hn - (intOf i).toNat)
 case atStart=>exact⟨0,Nat.zero_le _,rfl,fun j hj=>absurd hj (Nat.not_lt_zero _),Box2.new _ _ _ _,below_alloc _ _⟩
 case round=>
  obtain⟨k,hk,rfl,hall,hx,hb⟩:=hrel
  have Hall:Hid (∀j,j<k→HeldOkI p j):=hall
  have Hx:Hid (Box2 wr w.heap.size (.slice a p.n c) (.slice a' p.hn c')):=hx
  clear hall hx
  obtain⟨⟨y0,y1⟩,⟨y2,y3⟩⟩:=Hx.out
  by_cases hlt:k<p.hn
  ·have hlt':(k:Int)<(p.hn:Int):=by omega
   have hint:=Hp.out.2.below hb
   have Hint:Hid (IntsAt wr lo hi (.slice a' p.hn c') p.hn p.h):=hint
   obtain⟨_,a2,cap2,hv2,_,hx2⟩:=hint
   simp only [Value.slice.injEq,true_and] at hv2
   obtain⟨rfl,rfl⟩:=hv2
   obtain⟨b,off,rfl,_,_,k1⟩:=hx2 (by omega)
   have hc1:=k1 k hlt
   clear k1 hx2
   go_wp2_with fail
   refine(ptrOf_any _ p.n lo hi p.s _ _ (Hp.out.1.below hb)).mono ?_
   rintro e w1 ⟨⟨ps,pb,rfl,hpo⟩,hb1⟩
   have Hpo:Hid (PtrOf p.n p.s (p.h k) ps pb):=hpo
   have HX:Hid (Box2 w1 w.heap.size (.slice a p.n c) (.slice (some ⟨b,off,none⟩) p.hn c')):=Hx.out.below hb1
   have HI:Hid (IntsAt w1 lo hi (.slice (some ⟨b,off,none⟩) k k) k p.h):=(Hint.out.below hb1).take (by omega) (by omega)
   have hbn:=below_next hb hb1
   clear hpo hb1 y0 y1 y2 y3 Hx
   by_cases hz:ps=0∧pb=0
   ·obtain⟨rfl,rfl⟩:=hz
    go_wp2
    go_ret
    exact⟨BoolIs.no fun h=>(h k hlt).1 Hpo.out,hbn⟩
   ·have HZ:Hid (¬PtrOf p.n p.s (p.h k) 0 0):=fun h=>by
     obtain⟨e0,e1⟩:=Hpo.out.uniq h
     exact hz ⟨e0,e1⟩
    have e0:(ps == 0)=false∨(ps == 0)=true∧(pb == 0)=false:=by
     by_cases h:ps=0
     ·right
      refine⟨by simp [h],?_⟩
      have:pb≠0:=fun h'=>hz ⟨h,h'⟩
      simp [this]
     ·left; simp [h]
    clear hz
    obtain⟨⟨y0,y1⟩,⟨y2,y3⟩⟩:=HX.out
    have hkc:k≤c':=by omega
    by_cases hh:Has k p.h (p.h k)
    ·have HH:Hid (Has k p.h (p.h k)):=hh
     clear hh
     rcases e0 with e0 | ⟨e0,e1⟩
     all_goals
      go_wp2_with fail
      refine(contains_any _ k lo hi p.h _ _ HI.out).mono ?_
      rintro e w2 ⟨⟨t,rfl,ht⟩,rfl⟩
      obtain rfl:t=true:=ht.2 HH.out
      clear ht
      go_wp2
      go_ret
      exact⟨BoolIs.no fun h=>(h k hlt).2 HH.out,hbn⟩
    ·have HH:Hid (¬Has k p.h (p.h k)):=hh
     clear hh
     rcases e0 with e0 | ⟨e0,e1⟩
     all_goals
      go_wp2_with fail
      refine(contains_any _ k lo hi p.h _ _ HI.out).mono ?_
      rintro e w2 ⟨⟨t,rfl,ht⟩,rfl⟩
      obtain rfl:t=false:=bool_no ht HH.out
      clear ht y0 y1 y2 y3
      go_wp2
      go_roundw
      case rel=>exact⟨k+1,by omega,by go_num,relNext hlt Hall.out ⟨HZ.out,HH.out⟩,HX.out,hbn⟩
      case measure=>simp [intOf]; omega
  ·obtain rfl:k=p.hn:=by omega
   go_wp2
   go_ret
   exact⟨BoolIs.yes Hall.out,hb⟩
theorem pigeon:∀(m n:Nat) (h:Nat→Nat),(∀i,i<m→h i<n)→(∀i j,i<j→j<m→h i≠h j)→m≤n
 | 0,_,_,_,_=>Nat.zero_le _
 | m+1,0,h,hlt,_=>absurd (hlt 0 (by omega)) (Nat.not_lt_zero _)
 | m+1,n+1,h,hlt,hne=>by
  have key:=pigeon m n (fun i=>if h i<h m then h i else h i - 1) (fun i hi=>by
   have a:=hlt i (by omega)
   have b:=hne i m hi (by omega)
   have c:=hlt m (by omega)
   show(if h i<h m then h i else h i - 1)<n
   split <;> omega) (fun i j hij hj=>by
   have a:=hne i j hij (by omega)
   have b:=hne i m (by omega) (by omega)
   have c:=hne j m (by omega) (by omega)
   show(if h i<h m then h i else h i - 1)≠(if h j<h m then h j else h j - 1)
   split <;> split <;> omega)
  omega
theorem free_birth{s:SlotD}(h:Free s):s.birth=0:=h.1
theorem ok_birth{n:Nat}{f:Nat→SlotD}{s:SlotD}(h:SlotRightI n f s)(hf:¬Free s):1≤s.birth:=by
 rcases h with h | h | h
 ·exact absurd h hf
 ·exact h.1.1
 ·exact h.1.1.1
theorem fits_birth{p:PoolD}{s:SlotD}(h:Free s∨Fits p s)(hf:¬Free s):1≤s.birth:=by
 rcases h with h | h
 ·exact absurd h hf
 ·exact h.1.1
theorem kid_iff{p:PoolD}{b ks kb:Int}(hall:∀i,i<p.n→¬Free (p.s i)→1≤(p.s i).birth):KidFound p.n p.s b ks kb ks kb↔KidOk p b ks kb:=by
 constructor
 ·rintro⟨ps,pb,hp,h⟩
  rcases h with⟨h,rfl,rfl⟩ | ⟨h,rfl,rfl⟩
  ·exact Or.inl ⟨rfl,rfl⟩
  ·rcases hp with⟨h1,h2,h3,_,h5⟩ | ⟨h1,rfl,rfl⟩
   ·right
    have hb:=hall ks.toNat (by omega) h3
    rw [←h5] at hb
    refine⟨⟨hb,h1,h2,h5.symm⟩,?_⟩
    by_cases hx:b<kb
    ·exact absurd (Or.inr hx) h
    ·omega
   ·exact absurd (Or.inl ⟨rfl,rfl⟩) h
 ·rintro(⟨rfl,rfl⟩ | ⟨⟨h1,h2,h3,h4⟩,h5⟩)
  ·by_cases hx:0<p.n∧¬Free (p.s 0)
   ·refine⟨0,(p.s 0).birth,Or.inl ⟨by omega,by omega,?_,rfl,rfl⟩,Or.inl ⟨Or.inl ⟨rfl,rfl⟩,rfl,rfl⟩⟩
    exact hx.2
   ·refine⟨0,0,Or.inr ⟨fun h=>hx ⟨by omega,h.2.2⟩,rfl,rfl⟩,Or.inl ⟨Or.inl ⟨rfl,rfl⟩,rfl,rfl⟩⟩
  ·refine⟨ks,kb,Or.inl ⟨h2,h3,fun hf=>?_,rfl,h4.symm⟩,Or.inr ⟨fun h=>?_,rfl,rfl⟩⟩
   ·have:=free_birth hf; omega
   ·rcases h with h | h
    ·have:=h.2; omega
    ·omega
theorem right_iff(p:PoolD):RightI p↔Right p:=by
 constructor
 ·rintro⟨h1,h2,h3,h4⟩
  have hall:∀i,i<p.n→¬Free (p.s i)→1≤(p.s i).birth:=fun i hi=>ok_birth (h3 i hi)
  refine⟨h1,fun i hi=>?_,fun i hi=>?_⟩
  ·rcases h3 i hi with h | h | h
   ·exact Or.inl h
   ·exact Or.inr ⟨h.1,Or.inl h.2⟩
   ·refine Or.inr ⟨h.1.1,Or.inr ⟨h.1.2.1,h.1.2.2,fun j hj=>?_⟩⟩
    exact(kid_iff hall).1 (h.2 j (by have:=h.1.2.1; omega))
  ·obtain⟨ha,hb⟩:=h4 i hi
   have hx:0≤p.h i∧p.h i<p.n∧¬Free (p.s (p.h i).toNat):=by
    by_cases hx:0≤p.h i∧p.h i<p.n∧¬Free (p.s (p.h i).toNat)
    ·exact hx
    ·exact absurd (Or.inr ⟨hx,rfl,rfl⟩) ha
   exact⟨hx.1,hx.2.1,hx.2.2,hb⟩
 ·rintro⟨h1,h3,h4⟩
  have hall:∀i,i<p.n→¬Free (p.s i)→1≤(p.s i).birth:=fun i hi=>fits_birth (h3 i hi)
  refine⟨h1,?_,fun i hi=>?_,fun i hi=>?_⟩
  ·refine pigeon p.hn p.n (fun i=>(p.h i).toNat) (fun i hi=>?_) (fun i j hij hj=>?_)
   ·obtain⟨a,b,_,_⟩:=h4 i hi
    show(p.h i).toNat<p.n
    omega
   ·obtain⟨a,b,_,d⟩:=h4 j hj
    obtain⟨a',b',_,_⟩:=h4 i (by omega)
    show(p.h i).toNat≠(p.h j).toNat
    intro e
    exact d ⟨i,hij,by omega⟩
  ·rcases h3 i hi with h | h
   ·exact Or.inl h
   ·rcases h.2 with g | g
    ·exact Or.inr (Or.inl ⟨h.1,g⟩)
    ·exact Or.inr (Or.inr ⟨⟨h.1,g.1,g.2.1⟩,fun j hj=>(kid_iff hall).2 (g.2.2 j (by omega))⟩)
  ·obtain⟨a,b,c,d⟩:=h4 i hi
   refine⟨fun hx=>?_,d⟩
   rcases hx with⟨_,_,_,e1,e2⟩ | ⟨hx,_⟩
   ·have:=hall (p.h i).toNat (by omega) c
    omega
   ·exact hx ⟨a,b,c⟩
set_option maxRecDepth 20000 in
set_option maxHeartbeats 1000000 in
theorem implPoolRight_any(v0 v1:Value)(lo hi:Nat)(p:PoolD)(w:World)(h1:PoolAt w lo hi v0 v1 p) :
  Calls Tryz.prog 154 #[.agg #[v0,v1]] w fun e w'=>BoolIs (Right p) e∧Below w.heap.size w w':=by
 have Hp:Hid (PoolAt w lo hi v0 v1 p):=h1
 obtain⟨⟨m1,a,c,rfl,mc,g1⟩,⟨m2,a',c',rfl,mc',g2⟩⟩:=h1
 unfold maxLen at m1 m2
 clear g1 g2
 have Hbw:Hid (Below w.heap.size w (w.alloc (.cells #[.slice a p.n c,.slice a' p.hn c'] 33))):=below_alloc _ _
 by_cases hn:(200:Int)<p.n
 ·have H:Hid (¬Right p):=fun h=>by have:=h.1; omega
  go_enter Tryz.func154,Tryz.ntmps154
  go_wp2
  go_ret
  exact⟨BoolIs.no H.out,Hbw.out⟩
 by_cases hn2:(p.n:Int)<p.hn
 ·have H:Hid (¬Right p):=fun h=>by have:=((right_iff p).2 h).2.1; omega
  go_enter Tryz.func154,Tryz.ntmps154
  go_wp2
  go_ret
  exact⟨BoolIs.no H.out,Hbw.out⟩
 ·go_enter Tryz.func154,Tryz.ntmps154
  go_wp2
  go_loopw [21] (fun i wr=>∃k:Nat,k≤p.n∧i = .int .i64 k∧(∀j,j<k→SlotRightI p.n p.s (p.s j))∧Box2 wr w.heap.size (.slice a p.n c) (.slice a' p.hn c')∧Below w.heap.size w wr) (fun i _=>p.n - (intOf i).toNat)
  case atStart=>exact⟨0,Nat.zero_le _,rfl,fun j hj=>absurd hj (Nat.not_lt_zero _),Box2.new _ _ _ _,Hbw.out⟩
  case round=>
   obtain⟨k,hk,rfl,hall,hx,hb⟩:=hrel
   have Hall:Hid (∀j,j<k→SlotRightI p.n p.s (p.s j)):=hall
   have Hx:Hid (Box2 wr w.heap.size (.slice a p.n c) (.slice a' p.hn c')):=hx
   clear hall hx
   obtain⟨⟨y0,y1⟩,⟨y2,y3⟩⟩:=Hx.out
   have hz0:w.heap.size<wr.heap.size:=Hx.out.1.lt
   by_cases hlt:k<p.n
   ·have hlt':(k:Int)<(p.n:Int):=by omega
    obtain⟨b,off,ka,kc,rfl,hs⟩:=(Hp.out.1.below hb).cells hlt
    have Hs:Hid (SlotCells wr b (off+k*3) lo hi ka kc (p.s k)):=hs
    obtain⟨q0,q1,q2,_⟩:=hs
    go_wp2_with fail
    have hal:=below_alloc wr (.cells #[.int .i64 (p.s k).birth,.slice ka (p.s k).kn kc,.string (p.s k).data] 127)
    refine(slotRight_any _ _ _ _ p.n lo hi lo hi p.s (p.s k) _ (Hp.out.1.below (below_next hb hal)) (Hs.out.slot.below hal)).mono ?_
    rintro e w1 ⟨⟨t,rfl,ht⟩,hb1⟩
    have hbb:=below_next hal hb1
    have HX:Hid (Box2 w1 w.heap.size (.slice (some ⟨b,off,none⟩) p.n c) (.slice a' p.hn c')):=Hx.out.below hbb
    have hbn:=below_next hb hbb
    have Ht:Hid (t=true↔SlotRightI p.n p.s (p.s k)):=ht
    clear hal hb1 hbb ht q0 q1 q2 y0 y1 y2 y3 Hx Hs
    cases t
    ·go_wp2
     go_ret
     refine⟨BoolIs.no fun h=>?_,hbn⟩
     have:=((right_iff p).2 h).2.2.1 k hlt
     exact absurd (Ht.out.2 this) (by simp)
    ·go_wp2
     go_roundw
     case rel=>exact⟨k+1,by omega,by go_num,relNext hlt Hall.out (by simpa using Ht.out),HX.out,hbn⟩
     case measure=>simp [intOf]; omega
   ·obtain rfl:k=p.n:=by omega
    go_wp2_with fail
    refine(heldRight_any _ _ lo hi p _ (Hp.out.below hb)).mono ?_
    rintro e w1 ⟨⟨t,rfl,ht⟩,hb1⟩
    have Ht:Hid (t=true↔∀i,i<p.hn→HeldOkI p i):=ht
    have hbn:=below_next hb hb1
    clear ht hb1 y0 y1 y2 y3
    go_wp2
    go_ret
    refine⟨⟨t,rfl,Ht.out.trans ⟨fun h=>?_,fun h=>?_⟩⟩,hbn⟩
    ·exact(right_iff p).1 ⟨by omega,by omega,Hall.out,h⟩
    ·exact((right_iff p).2 h).2.2.2
end Go.Proofs.YtmgeglgboadfiaaGreatDoor
