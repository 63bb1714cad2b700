/- The line of a set by Prev, as plain facts (no law is proved here). -/
import Derived.Test.YtmgeglgboadfiaaGreatDoorP11
import Derived.Deep.RegionHeld3
import Derived.BigQuiet
import Derived.Test.YtmgeglgboadfiaaGreatDoorP10
import Derived.Test.YtmgeglgboadfiaaGreatDoorP5
import Derived.Test.YtmgeglgboadfiaaGreatDoorP8
import Derived.Test.YtmgeglgboadfiaaGreatDoorP1
import Derived.Maps.OwnSet
import Derived.Test.YtmgeglgboadfiaaGreatDoorProg
import GoSem.ClaimJoined
import GoSem.ClaimMapViews
import Derived.JoinedTies
import Derived.KernelRfl
import Derived.RowKit
import Derived.WideKeyPair
import Derived.DeepKeys4
import Derived.WalkKit
namespace Go.Proofs.YtmgeglgboadfiaaGreatDoor
open Go.RowKit Go.Maps
set_option linter.unusedVariables false
open Classical in
noncomputable def ownN(W:WorldD)(name:ByteArray):Nat→Nat
 | 0=>0
 | k+1=>ownN W name k+(if (W.snaps k).set=name then 1 else 0)
theorem ownN_yes{W:WorldD}{name:ByteArray}{k:Nat}(h:(W.snaps k).set=name):ownN W name (k+1)=ownN W name k+1:=by simp [ownN,h]
theorem ownN_no{W:WorldD}{name:ByteArray}{k:Nat}(h:¬(W.snaps k).set=name):ownN W name (k+1)=ownN W name k:=by simp [ownN,h]
theorem ownN_le(W:WorldD)(name:ByteArray):∀k,ownN W name k≤k
 | 0=>Nat.le_refl _
 | k+1=>by
  have:=ownN_le W name k
  by_cases h:(W.snaps k).set=name
  ·rw [ownN_yes h]; omega
  ·rw [ownN_no h]; omega
inductive Steps (W:WorldD) (name:ByteArray) (start:Int):Nat→Int→Prop
 | zero:Steps W name start 0 start
 | next {n:Nat} {x:Int} {k:Nat}:Steps W name start n x→SnapNo W x k→(W.snaps k).set=name→Steps W name start (n+1) (W.snaps k).prev
def OwnAt(W:WorldD)(name:ByteArray)(x:Int):Prop:=∃k,SnapNo W x k∧(W.snaps k).set=name
def LineOk(W:WorldD)(name:ByteArray)(start origin:Int):Prop:=∃n e,Steps W name start n e∧¬OwnAt W name e∧n=ownN W name W.pn∧e=origin
theorem Steps.det{W:WorldD}{name:ByteArray}{start:Int}:∀{n:Nat} {x y:Int},Steps W name start n x→Steps W name start n y→x=y
 | 0,_,_,.zero,.zero=>rfl
 | n+1,_,_,.next h hk _,.next h' hk' _=>by
  have e:=Steps.det h h'
  subst e
  rw [SnapNo.uniq hk hk']
theorem Steps.less{W:WorldD}{name:ByteArray}{start:Int}:∀{n m:Nat} {x:Int},Steps W name start m x→n<m→∃y,Steps W name start n y∧OwnAt W name y
 | n,0,_,_,h=>absurd h (Nat.not_lt_zero _)
 | n,m+1,_,.next (x:=x) h hk hs,hl=>by
  by_cases e:n=m
  ·subst e; exact⟨x,h,_,hk,hs⟩
  ·exact Steps.less h (by omega)
theorem Steps.end{W:WorldD}{name:ByteArray}{start:Int}{n m:Nat}{x y:Int}(h:Steps W name start n x)(hx:¬OwnAt W name x)(h':Steps W name start m y)(hy:¬OwnAt W name y):n=m∧x=y:=by
 have e:n=m:=by
  rcases Nat.lt_trichotomy n m with hl | hl | hl
  ·obtain⟨z,hz,ho⟩:=h'.less hl
   rw [h.det hz] at hx
   exact absurd ho hx
  ·exact hl
  ·obtain⟨z,hz,ho⟩:=h.less hl
   rw [h'.det hz] at hy
   exact absurd ho hy
 subst e
 exact⟨rfl,h.det h'⟩
theorem line_iff{W:WorldD}{name:ByteArray}{start origin:Int}{n:Nat}{x:Int}(h:Steps W name start n x)(hx:¬OwnAt W name x):LineOk W name start origin↔n=ownN W name W.pn∧x=origin:=by
 constructor
 ·rintro⟨m,y,hs,hy,h1,h2⟩
  obtain⟨rfl,rfl⟩:=h.end hx hs hy
  exact⟨h1,h2⟩
 ·rintro⟨h1,h2⟩
  exact⟨n,x,h,hx,h1,h2⟩
theorem first_no{W:WorldD}{x r:Int}{k:Nat}(hk:SnapNo W x k)(h:FirstAt W.pn (fun k=>(W.snaps k).id=x) r):r=(k:Int):=by
 rcases h with⟨j,hj,e,hm,rfl⟩ | ⟨hn,_⟩
 ·rw [SnapNo.uniq hk ⟨hj,e,hm⟩]
 ·exact absurd hk.2.1 (hn k hk.1)
theorem HasId.no{W:WorldD}{x:Int}(h:HasId W x):∃k,SnapNo W x k:=snapNo_of (Nat.le_refl _) h
structure PrevOk (W:WorldD):Prop where
 ids:∀k,k<W.pn→1≤(W.snaps k).id∧(W.snaps k).id<900000
 prev:∀k,k<W.pn→(W.snaps k).prev=0∨HasId W (W.snaps k).prev
 less:∀k,k<W.pn→(W.snaps k).prev<(W.snaps k).id
 sets:∀k,k<W.sn→(W.sets k).prev=0∨HasId W (W.sets k).prev
 names:∀k,k<W.sn→(W.sets k).name.toList.isEmpty=false
theorem PrevOk.pos{W:WorldD}(h:PrevOk W):IdsPos W:=fun k hk=>(h.ids k hk).1
theorem HasId.range{W:WorldD}(h:PrevOk W){x:Int}(hx:HasId W x):1≤x∧x<900000:=by
 obtain⟨k,hk,rfl⟩:=hx
 exact h.ids k hk
theorem name_nonempty{s:ByteArray}(h:NameP s):s.toList.isEmpty=false:=by
 have:=h.1
 rw [Go.ByteArray.toList_eq]
 cases s with
 | mk d=>
  cases hd:d.toList with
  | nil=>
   have h0:d.size=0:=by rw [←Array.length_toList,hd]; rfl
   have h1:1≤d.size:=this
   omega
  | cons a l=>simp
theorem SpecNames.prevOk{W:WorldD}(h:SpecNames W):PrevOk W where
 ids:=fun k hk=>⟨(h.2.2.2.2.2 k hk).1.1,by have:=(h.2.2.2.2.2 k hk).1.2.1; have:=h.2.1.2; omega⟩
 prev:=fun k hk=>by
  by_cases e:(W.snaps k).prev=0
  ·exact Or.inl e
  ·exact Or.inr ((h.2.2.2.2.2 k hk).2.1.2 e).2
 less:=fun k hk=>by
  by_cases e:(W.snaps k).prev=0
  ·have:=(h.2.2.2.2.2 k hk).1.1; omega
  ·exact((h.2.2.2.2.2 k hk).2.1.2 e).1
 sets:=fun k hk=>by
  by_cases e:(W.sets k).prev=0
  ·exact Or.inl e
  ·exact Or.inr ((h.2.2.2.2.1 k hk).2.2.1 e)
 names:=fun k hk=>name_nonempty (h.2.2.2.2.1 k hk).1
structure WalkAt (W:WorldD) (name:ByteArray) (start:Int) (n:Nat) (x:Int):Prop where
 steps:Steps W name start n x
 there:x=0∨HasId W x
 least:0≤x
 sum:(n:Int)+x≤900000
theorem WalkAt.start{W:WorldD}(h:PrevOk W)(name:ByteArray){x:Int}(hx:x=0∨HasId W x):WalkAt W name x 0 x where
 steps:=.zero
 there:=hx
 least:=by rcases hx with rfl | hx; exact Int.le_refl _; have:=hx.range h; omega
 sum:=by rcases hx with rfl | hx; decide; have:=hx.range h; omega
theorem WalkAt.next{W:WorldD}(h:PrevOk W){name:ByteArray}{start:Int}{n:Nat}{x:Int}(hw:WalkAt W name start n x){k:Nat}(hk:SnapNo W x k)(hs:(W.snaps k).set=name):WalkAt W name start (n+1) (W.snaps k).prev where
 steps:=hw.steps.next hk hs
 there:=h.prev k hk.1
 least:=by rcases h.prev k hk.1 with e | e; omega; have:=e.range h; omega
 sum:=by have h1:=h.less k hk.1; have h2:=hw.sum; have h3:=hk.2.1; omega
theorem not_own_zero{W:WorldD}(h:PrevOk W)(name:ByteArray):¬OwnAt W name 0:=fun ⟨k,hk,_⟩=>by
 have:=(h.ids k hk.1).1
 have:=hk.2.1
 omega
theorem not_own_no{W:WorldD}{name:ByteArray}{x:Int}{k:Nat}(hk:SnapNo W x k)(hs:¬(W.snaps k).set=name):¬OwnAt W name x:=fun ⟨j,hj,e⟩=>hs (by rw [SnapNo.uniq hk hj]; exact e)
set_option maxRecDepth 20000 in
set_option maxHeartbeats 4000000 in
theorem l04Chains_any(v0 v1 v2 v3:Value)(lo hi:Nat)(W:WorldD)(w:World)(h:WorldAt w lo hi v0 v1 v2 v3 W)(hP:PrevOk W)(hs:W.sn≤8)(hp:W.pn≤20) :
  Calls Tryz.prog 70 #[worldV v0 v1 v2 v3 W] w fun e w'=>BoolIs (∀i,i<W.sn→LineOk W (W.sets i).name (W.sets i).prev (W.sets i).origin) e∧Below w.heap.size w w':=by
 have Hp:=hideW h
 have HP:=hideW hP
 obtain⟨m1,a,c,rfl,mc,-⟩:=id h.snaps
 obtain⟨m2,a',c',rfl,mc',-⟩:=id h.sets
 unfold maxLen at m1 m2
 clear h hP
 have ha:=below_alloc w (.cells #[v0,v1,.int .i64 W.time,.int .i64 W.next,.slice a' W.sn c',.slice a W.pn c] 37)
 have HB:=hideW (Box6.new w v0 v1 (.int .i64 W.time) (.int .i64 W.next) (.slice a' W.sn c') (.slice a W.pn c) 37)
 go_enter Tryz.func70,Tryz.ntmps70
 go_wp2
 go_loopw [3] (fun i wr=>∃k:Nat,k≤W.sn∧i = .int .i64 k∧(∀j,j<k→LineOk W (W.sets j).name (W.sets j).prev (W.sets j).origin)∧Box6 wr w.heap.size v0 v1 (.int .i64 W.time) (.int .i64 W.next) (.slice a' W.sn c') (.slice a W.pn c)∧Below w.heap.size w wr) (fun i _=>W.sn - (intOf i).toNat)
 case atStart=>exact⟨0,Nat.zero_le _,rfl,fun j hj=>absurd hj (Nat.not_lt_zero _),HB.out,ha⟩
 case round=>
  obtain⟨k,hk,rfl,hall,hX,hb⟩:=hrel
  have Hall:=hideW hall
  have HX:=hideW hX
  clear hall hX ha HB
  obtain⟨⟨x0,-⟩,⟨x2,-⟩,⟨x4,-⟩,⟨x6,-⟩,⟨x8,-⟩,⟨x10,-⟩⟩:=HX.out
  by_cases hlt:k<W.sn
  rotate_left
  ·obtain rfl:k=W.sn:=by omega
   go_wp2
   go_ret
   exact⟨BoolIs.yes Hall.out,hb⟩
  have hlt':(k:Int)<(W.sn:Int):=by omega
  obtain⟨b,off,vd,rfl,-⟩:=(Hp.out.sets.below hb).cells hlt
  go_wp2
  clear x0 x2 x4 x6 x8 x10
  go_loopw [5,6] (fun o i wr=>∃j:Nat,j≤W.pn∧i = .int .i64 j∧o = .int .i64 (ownN W (W.sets k).name j)∧Box6 wr w.heap.size v0 v1 (.int .i64 W.time) (.int .i64 W.next) (.slice (some ⟨b,off,none⟩) W.sn c') (.slice a W.pn c)∧Below w.heap.size w wr) (fun _ i _=>W.pn - (intOf i).toNat)
  case atStart=>exact⟨0,Nat.zero_le _,rfl,rfl,HX.out,hb⟩
  case round=>
   clear HX hb
   obtain⟨j,hj,rfl,rfl,hX,hb⟩:=hrel
   have HX:=hideW hX
   clear hX
   obtain⟨⟨x0,-⟩,⟨x2,-⟩,⟨x4,-⟩,⟨x6,-⟩,⟨x8,-⟩,⟨x10,-⟩⟩:=HX.out
   obtain⟨b',off',vd',e',hsk⟩:=(Hp.out.sets.below hb).cells hlt
   cases e'
   have n0:=hsk.c0
   have n1:=hsk.c1
   have n2:=hsk.c2
   clear hsk
   have hol:=ownN_le W (W.sets k).name j
   by_cases hjt:j<W.pn
   ·have hjt':(j:Int)<(W.pn:Int):=by omega
    obtain⟨b2,off2,vd2,rfl,hs2⟩:=(Hp.out.snaps.below hb).cells hjt
    have q2:=hs2.c2
    clear hs2
    have hbo:((ownN W (W.sets k).name j:Nat):Int)<1000:=by omega
    by_cases he:(W.snaps j).set=(W.sets k).name
    ·have f1:=str_eq he
     have H1:=hideW (ownN_yes he)
     clear he
     go_wp2
     go_quiet (fail)
     go_wp2
     go_roundw
     case rel=>exact⟨j+1,by omega,by go_num,by rw [H1.out]; go_num,HX.out.below (below_drewN (Below.refl _ _) _),below_drewN hb _⟩
     case measure=>simp [intOf]; omega
    ·have f1:=str_ne he
     have H1:=hideW (ownN_no he)
     clear he
     go_wp2
     go_quiet (fail)
     go_wp2
     go_roundw
     case rel=>exact⟨j+1,by omega,by go_num,by rw [H1.out],HX.out.below (below_drewN (Below.refl _ _) _),below_drewN hb _⟩
     case measure=>simp [intOf]; omega
   ·obtain rfl:j=W.pn:=by omega
    go_wp2
    clear x0 x2 x4 x6 x8 x10 n0 n1 n2
    go_loopw [4,7] (fun i x wr=>∃(n:Nat) (y:Int),i = .int .i64 n∧x = .int .i64 y∧WalkAt W (W.sets k).name (W.sets k).prev n y∧Box6 wr w.heap.size v0 v1 (.int .i64 W.time) (.int .i64 W.next) (.slice (some ⟨b,off,none⟩) W.sn c') (.slice a W.pn c)∧Below w.heap.size w wr) (fun _ x _=>(intOf x).toNat)
    case atStart=>exact⟨0,_,rfl,rfl,WalkAt.start HP.out _ (HP.out.sets k hlt),HX.out,hb⟩
    case round=>
     clear HX hb
     obtain⟨n,y,rfl,rfl,hw,hX,hb⟩:=hrel
     have HX:=hideW hX
     have Hw:=hideW hw
     have hsum:=hw.sum
     have hle:=hw.least
     clear hX hw
     obtain⟨⟨x0,-⟩,⟨x2,-⟩,⟨x4,-⟩,⟨x6,-⟩,⟨x8,-⟩,⟨x10,-⟩⟩:=HX.out
     obtain⟨b',off',vd',e',hsk⟩:=(Hp.out.sets.below hb).cells hlt
     cases e'
     have n0:=hsk.c0
     have n1:=hsk.c1
     clear hsk
     by_cases hz:y=0
     ·have Hno:=hideW (show ¬OwnAt W (W.sets k).name y by rw [hz]; exact not_own_zero HP.out _)
      have hzb:(y == 0)=true:=by simp [hz]
      have hzc:decide (y=0)=true:=by simp [hz]
      have hzd:(y != 0)=false:=by simp [hz]
      clear hz
      go_wp2_with fail
      go_quiet (fail)
      clear hzb hzc hzd
      have HXe:=hideW HX.out
      clear x0 x2 x4 x6 x8 x10
      obtain⟨⟨e0,-⟩,⟨e2,-⟩,⟨e4,-⟩,⟨e6,-⟩,⟨e8,-⟩,⟨e10,-⟩⟩:=HXe.out
      by_cases h1:n=ownN W (W.sets k).name W.pn
      ·by_cases h2:y=(W.sets k).origin
       ·have Hl:=hideW ((line_iff (origin:=(W.sets k).origin) Hw.out.steps Hno.out).2 ⟨h1,h2⟩)
        have g1:((n:Int) == (ownN W (W.sets k).name W.pn:Int))=true:=by simp [h1]
        have g2:((n:Int) != (ownN W (W.sets k).name W.pn:Int))=false:=by simp [h1]
        have g3:decide ((n:Int)=(ownN W (W.sets k).name W.pn:Int))=true:=by simp [h1]
        have g4:(y == (W.sets k).origin)=true:=by simp [h2]
        have g5:(y != (W.sets k).origin)=false:=by simp [h2]
        have g6:decide (y=(W.sets k).origin)=true:=by simp [h2]
        clear h1 h2
        go_wp2
        go_roundw
        case rel=>exact⟨k+1,by omega,by go_num,relNext hlt Hall.out Hl.out,HX.out.below (below_drewN (Below.refl _ _) _),below_drewN hb _⟩
        case measure=>simp [intOf]; omega
       ·have Hl:=hideW (show ¬LineOk W (W.sets k).name (W.sets k).prev (W.sets k).origin from fun h=>h2 ((line_iff Hw.out.steps Hno.out).1 h).2)
        have g1:((n:Int) == (ownN W (W.sets k).name W.pn:Int))=true:=by simp [h1]
        have g2:((n:Int) != (ownN W (W.sets k).name W.pn:Int))=false:=by simp [h1]
        have g3:decide ((n:Int)=(ownN W (W.sets k).name W.pn:Int))=true:=by simp [h1]
        have g4:(y == (W.sets k).origin)=false:=by simp [h2]
        have g5:(y != (W.sets k).origin)=true:=by simp [h2]
        have g6:decide (y=(W.sets k).origin)=false:=by simp [h2]
        clear h1 h2
        go_wp2
        go_ret
        exact⟨BoolIs.no fun hA=>Hl.out (hA k hlt),below_drewN hb _⟩
      ·have Hl:=hideW (show ¬LineOk W (W.sets k).name (W.sets k).prev (W.sets k).origin from fun h=>h1 ((line_iff Hw.out.steps Hno.out).1 h).1)
       have h3:¬(n:Int)=(ownN W (W.sets k).name W.pn:Int):=by omega
       have g1:((n:Int) == (ownN W (W.sets k).name W.pn:Int))=false:=by simp [h3]
       have g2:((n:Int) != (ownN W (W.sets k).name W.pn:Int))=true:=by simp [h3]
       have g3:decide ((n:Int)=(ownN W (W.sets k).name W.pn:Int))=false:=by simp [h3]
       clear h1 h3
       go_wp2
       go_ret
       exact⟨BoolIs.no fun hA=>Hl.out (hA k hlt),below_drewN hb _⟩
     ·obtain⟨kk,hkk⟩:=(Hw.out.there.resolve_left hz).no
      have Hkk:=hideW hkk
      have hkl:kk<W.pn:=hkk.1
      have hkl':(kk:Int)<(W.pn:Int):=by omega
      have hpos:=(HP.out.ids kk hkl).1
      have hyid:=hkk.2.1
      have hy1:1≤y:=by omega
      have hless:=HP.out.less kk hkl
      have Hle:=hideW (show(W.snaps kk).prev<y by omega)
      clear hkk hpos hyid hless
      have hzb:(y == 0)=false:=by simp [hz]
      have hzc:decide (y=0)=false:=by simp [hz]
      have hzd:(y != 0)=true:=by simp [hz]
      clear hz
      obtain⟨b2,off2,vd2,rfl,hs2⟩:=(Hp.out.snaps.below hb).cells hkl
      have q2:=hs2.c2
      have q3:=hs2.c3
      clear hs2
      by_cases he:(W.snaps kk).set=(W.sets k).name
      ·have Hnx:=hideW (Hw.out.next HP.out Hkk.out he)
       rw [he] at q2
       clear he
       go_wp2_with fail
       go_region_held3 (fun w'=>w'.cell? ⟨w.heap.size,0,none⟩=some v0∧w'.cell? ⟨w.heap.size,1,none⟩=some v1∧w'.cell? ⟨w.heap.size,2,none⟩=some (.int .i64 W.time)∧w'.cell? ⟨w.heap.size,3,none⟩=some (.int .i64 W.next)∧w'.cell? ⟨w.heap.size,4,none⟩=some (.slice (some ⟨b,off,none⟩) W.sn c')∧w'.cell? ⟨w.heap.size,5,none⟩=some (.slice (some ⟨b2,off2,none⟩) W.pn c)∧w'.cell? ⟨b2,off2+kk*8+2,none⟩=some (.string (W.sets k).name)∧w'.cell? ⟨b,off+k*6,none⟩=some (.string (W.sets k).name)) (go_keep)
        (first | (go_at_call 49; refine(l04Snap_any v0 v1 _ _ lo hi W y _ ?_).mono ?_; (exact(Hp.out.below hb).below (Below.refl _ _).drew); rintro e w6 ⟨r,rfl,hF,hb6⟩; obtain rfl:=first_no Hkk.out hF; obtain⟨⟨y0,_⟩,⟨y1,_⟩,⟨y2,_⟩,⟨y3,_⟩,⟨y4,_⟩,⟨y5,_⟩⟩:=HX.out.below (below_undrew hb6); have z2:=(hb6.cell (p:=⟨b2,off2+kk*8+2,none⟩) (lt_of_cell q2)).trans q2; have z0:=(hb6.cell (p:=⟨b,off+k*6,none⟩) (lt_of_cell n0)).trans n0))
       have HXe:=hideW (HX.out.below (below_undrew hb6))
       have hbe:=below_call hb hb6
       have z3:=(hb6.cell (p:=⟨b2,off2+kk*8+3,none⟩) (lt_of_cell q3)).trans q3
       have z1:=(hb6.cell (p:=⟨b,off+k*6+1,none⟩) (lt_of_cell n1)).trans n1
       clear hb6 HX hb hF y0 y1 y2 y3 y4 y5 x0 x2 x4 x6 x8 x10 q2 q3 n0 n1 hzb hzc hzd
       have hnb:(n:Int)<1000000:=by omega
       obtain⟨⟨e0,-⟩,⟨e2,-⟩,⟨e4,-⟩,⟨e6,-⟩,⟨e8,-⟩,⟨e10,-⟩⟩:=HXe.out
       go_wp2_with fail
       go_region_held3 (fun w'=>w'.cell? ⟨w.heap.size,0,none⟩=some v0∧w'.cell? ⟨w.heap.size,1,none⟩=some v1∧w'.cell? ⟨w.heap.size,2,none⟩=some (.int .i64 W.time)∧w'.cell? ⟨w.heap.size,3,none⟩=some (.int .i64 W.next)∧w'.cell? ⟨w.heap.size,4,none⟩=some (.slice (some ⟨b,off,none⟩) W.sn c')∧w'.cell? ⟨w.heap.size,5,none⟩=some (.slice (some ⟨b2,off2,none⟩) W.pn c)∧w'.cell? ⟨b2,off2+kk*8+3,none⟩=some (.int .i64 (W.snaps kk).prev)) (go_keep)
        (first | (go_at_call 49; refine(l04Snap_any v0 v1 _ _ lo hi W y _ ?_).mono ?_; (exact(Hp.out.below hbe).below (Below.refl _ _).drew); rintro e w7 ⟨r,rfl,hF,hb7⟩; obtain rfl:=first_no Hkk.out hF; obtain⟨⟨y0,_⟩,⟨y1,_⟩,⟨y2,_⟩,⟨y3,_⟩,⟨y4,_⟩,⟨y5,_⟩⟩:=HXe.out.below (below_undrew hb7); have z4:=(hb7.cell (p:=⟨b2,off2+kk*8+3,none⟩) (lt_of_cell z3)).trans z3))
       have HX8:=hideW (HXe.out.below (below_undrew hb7))
       have hb8:=below_call hbe hb7
       clear hb7 HXe hbe hF y0 y1 y2 y3 y4 y5 e0 e2 e4 e6 e8 e10
       go_wp2
       go_roundw
       case rel=>exact⟨n+1,_,by go_num,rfl,Hnx.out,HX8.out,hb8⟩
       case measure=>simp [intOf]; have:=Hle.out; have:=Hnx.out.least; omega
      have Hno:=hideW (not_own_no Hkk.out he)
      have f1:=str_ne he
      clear he
      go_wp2_with fail
      go_region_held3 (fun w'=>w'.cell? ⟨w.heap.size,0,none⟩=some v0∧w'.cell? ⟨w.heap.size,1,none⟩=some v1∧w'.cell? ⟨w.heap.size,2,none⟩=some (.int .i64 W.time)∧w'.cell? ⟨w.heap.size,3,none⟩=some (.int .i64 W.next)∧w'.cell? ⟨w.heap.size,4,none⟩=some (.slice (some ⟨b,off,none⟩) W.sn c')∧w'.cell? ⟨w.heap.size,5,none⟩=some (.slice (some ⟨b2,off2,none⟩) W.pn c)∧w'.cell? ⟨b2,off2+kk*8+2,none⟩=some (.string (W.snaps kk).set)∧w'.cell? ⟨b,off+k*6,none⟩=some (.string (W.sets k).name)) (go_keep)
       (first | (go_at_call 49; refine(l04Snap_any v0 v1 _ _ lo hi W y _ ?_).mono ?_; (exact(Hp.out.below hb).below (Below.refl _ _).drew); rintro e w6 ⟨r,rfl,hF,hb6⟩; obtain rfl:=first_no Hkk.out hF; obtain⟨⟨y0,_⟩,⟨y1,_⟩,⟨y2,_⟩,⟨y3,_⟩,⟨y4,_⟩,⟨y5,_⟩⟩:=HX.out.below (below_undrew hb6); have z2:=(hb6.cell (p:=⟨b2,off2+kk*8+2,none⟩) (lt_of_cell q2)).trans q2; have z0:=(hb6.cell (p:=⟨b,off+k*6,none⟩) (lt_of_cell n0)).trans n0))
      have HXe:=hideW (HX.out.below (below_undrew hb6))
      have hbe:=below_call hb hb6
      have z3:=(hb6.cell (p:=⟨b2,off2+kk*8+3,none⟩) (lt_of_cell q3)).trans q3
      have z1:=(hb6.cell (p:=⟨b,off+k*6+1,none⟩) (lt_of_cell n1)).trans n1
      clear hb6 HX hb hF y0 y1 y2 y3 y4 y5 x0 x2 x4 x6 x8 x10 q2 q3 n0 n1 hzb hzc hzd
      clear f1
      obtain⟨⟨e0,-⟩,⟨e2,-⟩,⟨e4,-⟩,⟨e6,-⟩,⟨e8,-⟩,⟨e10,-⟩⟩:=HXe.out
      by_cases h1:n=ownN W (W.sets k).name W.pn
      ·by_cases h2:y=(W.sets k).origin
       ·have Hl:=hideW ((line_iff (origin:=(W.sets k).origin) Hw.out.steps Hno.out).2 ⟨h1,h2⟩)
        have g1:((n:Int) == (ownN W (W.sets k).name W.pn:Int))=true:=by simp [h1]
        have g2:((n:Int) != (ownN W (W.sets k).name W.pn:Int))=false:=by simp [h1]
        have g3:decide ((n:Int)=(ownN W (W.sets k).name W.pn:Int))=true:=by simp [h1]
        have g4:(y == (W.sets k).origin)=true:=by simp [h2]
        have g5:(y != (W.sets k).origin)=false:=by simp [h2]
        have g6:decide (y=(W.sets k).origin)=true:=by simp [h2]
        clear h1 h2
        go_wp2
        go_roundw
        case rel=>exact⟨k+1,by omega,by go_num,relNext hlt Hall.out Hl.out,HXe.out,hbe⟩
        case measure=>simp [intOf]; omega
       ·have Hl:=hideW (show ¬LineOk W (W.sets k).name (W.sets k).prev (W.sets k).origin from fun h=>h2 ((line_iff Hw.out.steps Hno.out).1 h).2)
        have g1:((n:Int) == (ownN W (W.sets k).name W.pn:Int))=true:=by simp [h1]
        have g2:((n:Int) != (ownN W (W.sets k).name W.pn:Int))=false:=by simp [h1]
        have g3:decide ((n:Int)=(ownN W (W.sets k).name W.pn:Int))=true:=by simp [h1]
        have g4:(y == (W.sets k).origin)=false:=by simp [h2]
        have g5:(y != (W.sets k).origin)=true:=by simp [h2]
        have g6:decide (y=(W.sets k).origin)=false:=by simp [h2]
        clear h1 h2
        go_wp2
        go_ret
        exact⟨BoolIs.no fun hA=>Hl.out (hA k hlt),hbe⟩
      ·have Hl:=hideW (show ¬LineOk W (W.sets k).name (W.sets k).prev (W.sets k).origin from fun h=>h1 ((line_iff Hw.out.steps Hno.out).1 h).1)
       have h3:¬(n:Int)=(ownN W (W.sets k).name W.pn:Int):=by omega
       have g1:((n:Int) == (ownN W (W.sets k).name W.pn:Int))=false:=by simp [h3]
       have g2:((n:Int) != (ownN W (W.sets k).name W.pn:Int))=true:=by simp [h3]
       have g3:decide ((n:Int)=(ownN W (W.sets k).name W.pn:Int))=false:=by simp [h3]
       clear h1 h3
       go_wp2
       go_ret
       exact⟨BoolIs.no fun hA=>Hl.out (hA k hlt),hbe⟩
def DeadOf(W:WorldD)(i:Nat):Prop:=PSameL (memOf W i).dn (memOf W i).ds (memOf W i).db (lack (oldM W (memOf W i)) (treeM W (memOf W i)))
structure SpecW (W:WorldD):Prop where
 right:Right W.pool
 names:SpecNames W
 lines:∀i,i<W.sn→LineOk W (W.sets i).name (W.sets i).prev (W.sets i).origin
 snaps:∀i,i<W.pn→TreeOk W.pool (W.snaps i).rs (W.snaps i).rb
 sets:∀i,i<W.sn→TreeOk W.pool (W.sets i).rs (W.sets i).rb∧DeadOf W (W.pn+i)
 dead:∀i,i<W.pn→DeadOf W i
 reach:ReachEq W
 born:∀i,i<memN W→BornOf W i
 apart:ApartM W
theorem old_ok{W:WorldD}(h:∀k,k<W.pn→TreeOk W.pool (W.snaps k).rs (W.snaps k).rb)(x:Int):TreeOk W.pool (aheadOf W x).rs (aheadOf W x).rb:=by
 by_cases hx:∃k,SnapNo W x k
 ·obtain⟨k,hk⟩:=hx
  rw [aheadOf_at hk]
  exact h k hk.1
 ·have:aheadOf W x=zeroSnap:=by
   unfold aheadOf
   rw [dif_neg hx]
  rw [this]
  exact Or.inl ⟨rfl,rfl⟩
theorem trees_of{W:WorldD}(hR:Right W.pool)(hN:SpecNames W)(h1:∀i,i<W.pn→TreeOk W.pool (W.snaps i).rs (W.snaps i).rb)(h2:∀i,i<W.sn→TreeOk W.pool (W.sets i).rs (W.sets i).rb):Trees W where
 right:=hR
 ids:=hN.prevOk.less
 tree:=fun i hi=>by
  by_cases hp:i<W.pn
  ·rw [memOf_snap hp]; exact h1 i hp
  ·have e:=memOf_set W (i - W.pn)
   rw [show W.pn+(i - W.pn)=i by omega] at e
   rw [e]
   unfold memN at hi
   exact h2 _ (by omega)
 time:=fun i hi=>by
  by_cases hp:i<W.pn
  ·rw [memOf_snap hp]
   have:1≤(W.snaps i).time:=(hN.2.2.2.2.2 i hp).1.2.2.1
   show 0≤(W.snaps i).time
   omega
  ·have e:=memOf_set W (i - W.pn)
   rw [show W.pn+(i - W.pn)=i by omega] at e
   rw [e]
   have:1≤W.time:=hN.1.1
   show 0≤W.time
   omega
theorem dead_snap{v0 v1 v2 v3 vd:Value}{lo hi:Nat}{W:WorldD}{w:World}(h:WorldAt w lo hi v0 v1 v2 v3 W)(hR:Right W.pool)(hO:∀k,k<W.pn→TreeOk W.pool (W.snaps k).rs (W.snaps k).rb)(hP:IdsPos W){k:Nat}(hk:k<W.pn)(hD:PtrsAt w lo hi vd (W.snaps k).dn (W.snaps k).ds (W.snaps k).db)(w':World)(hb:Below w.heap.size w w') :
  Calls Tryz.prog 72 #[worldV v0 v1 v2 v3 W,.int .i64 (W.snaps k).prev,.agg #[.int .i64 (W.snaps k).rs,.int .i64 (W.snaps k).rb],vd] w' fun e w''=>BoolIs (DeadOf W k) e∧Below w'.heap.size w' w'':=by
 unfold DeadOf
 rw [memOf_snap hk]
 exact l04Dead_any v0 v1 v2 v3 vd lo hi lo hi _ _ _ W _ _ _ _ _ w' (h.below hb) (hD.below hb) hR (hO k hk) (old_ok hO _) hP rfl rfl
theorem dead_set{v0 v1 v2 v3 vd:Value}{lo hi:Nat}{W:WorldD}{w:World}(h:WorldAt w lo hi v0 v1 v2 v3 W)(hR:Right W.pool)(hO:∀k,k<W.pn→TreeOk W.pool (W.snaps k).rs (W.snaps k).rb)(hP:IdsPos W){k:Nat}(hT:TreeOk W.pool (W.sets k).rs (W.sets k).rb)(hD:PtrsAt w lo hi vd (W.sets k).dn (W.sets k).ds (W.sets k).db)(w':World)(hb:Below w.heap.size w w') :
  Calls Tryz.prog 72 #[worldV v0 v1 v2 v3 W,.int .i64 (W.sets k).prev,.agg #[.int .i64 (W.sets k).rs,.int .i64 (W.sets k).rb],vd] w' fun e w''=>BoolIs (DeadOf W (W.pn+k)) e∧Below w'.heap.size w' w'':=by
 unfold DeadOf
 rw [memOf_set]
 exact l04Dead_any v0 v1 v2 v3 vd lo hi lo hi _ _ _ W _ _ _ _ _ w' (h.below hb) (hD.below hb) hR hT (old_ok hO _) hP rfl rfl
end Go.Proofs.YtmgeglgboadfiaaGreatDoor

namespace Go.Proofs.YtmgeglgboadfiaaGreatDoor
open Go Go.RowKit Go.Maps
set_option linter.unusedVariables false
def rawE(v:Value):Option (DataW Value×List MemPlace):=some (.held v,[])
theorem rawE_inv{v:Value}{d:DataW Value}{ps:List MemPlace}(h:rawE v=some (d,ps)):d = .held v:=by
 unfold rawE at h
 simp only [Option.some.injEq,Prod.mk.injEq] at h
 exact h.1.symm
theorem rawE_mk(v:Value):rawE v=some (.held v,[]):=rfl
theorem wpList_lookup_raw{P:Program}(w:World){ops:Array Oper}{rest:List Oper}{o:Oper}{a:Act}{Q:Exit→Act→World→Prop}
  (hg:o.guard=none) (m x:Operand) (t:TypeId) (hop:o.op=Op.lookup t m x false)
  (k e:TypeId) (K:Keyed P k) (ht:P.underlying t=some (.map k e)) {z:Value} (hz:(zeroValue e).run P w = .ok z w) (b n:Nat) (D:DataW Value)
  (hm:a.eval m = .map (some b)) (hown:w.ownsMap P k rawE b n D) (key:Value) (kl:Lit) (hx:a.eval x=key) (hkey:keyOf P k key=some kl)
  (v:Value) (hat:D.atKey kl (.held z) = .held v) (hK:wpList P ops Q rest (a.put o.dst v) w) :
  wpList P ops Q (o :: rest) a w:=by
 refine wpList_plain hg fun K' hK'=>?_
 obtain⟨v',ps,hrun,hv⟩:=hown.lookup K ht hz (rawE_mk z) hkey
 have e1:=rawE_inv hv
 rw [hat] at e1
 injection e1 with e1
 subst e1
 unfold Oper.wp
 simp [execOp,hop,hm,hx,hrun,Result.andThen]
 exact hK' _ _ hK
theorem wpList_lookup_raw_ok{P:Program}(w:World){ops:Array Oper}{rest:List Oper}{o:Oper}{a:Act}{Q:Exit→Act→World→Prop}
  (hg:o.guard=none) (m x:Operand) (t:TypeId) (hop:o.op=Op.lookup t m x true)
  (k e:TypeId) (K:Keyed P k) (ht:P.underlying t=some (.map k e)) {z:Value} (hz:(zeroValue e).run P w = .ok z w) (b n:Nat) (D:DataW Value)
  (hm:a.eval m = .map (some b)) (hown:w.ownsMap P k rawE b n D) (key:Value) (kl:Lit) (hx:a.eval x=key) (hkey:keyOf P k key=some kl)
  (v:Value) (hat:D.atKey kl (.held z) = .held v) (c:Bool) (hc:Maps.has D kl=c) (hK:wpList P ops Q rest (a.put o.dst (.tuple #[v,.bool c])) w) :
  wpList P ops Q (o :: rest) a w:=by
 refine wpList_lookup_own_ok w hg m x t hop k e K ht rawE hz (.held z) [] (rawE_mk z) b n D hm hown key kl hx hkey (fun v' ps hv=>?_)
 have e1:=rawE_inv hv
 rw [hat] at e1
 injection e1 with e1
 subst e1
 rw [hc]
 exact hK
def putD(key:Nat→Lit)(val:Nat→Value):Nat→DataW Value
 | 0=>.map []
 | k+1=>(putD key val k).put (key k) (.held (val k))
def KeysOk(key:Nat→Lit):Prop:=∀i,WideAt.IsKeyLit (key i)
theorem putD_tidy{key:Nat→Lit}(hk:KeysOk key)(val:Nat→Value):∀k,Tidy (putD key val k)
 | 0=>tidy_empty
 | k+1=>(putD_tidy hk val k).put (hk k) _
theorem putD_has{key:Nat→Lit}(hk:KeysOk key)(val:Nat→Value)(l:Lit):∀k,Maps.has (putD key val k) l=true↔∃i,i<k∧key i=l
 | 0=>by
  constructor
  ·intro h; exact absurd h (by simp [putD,Maps.has])
  ·rintro⟨i,hi,_⟩; omega
 | k+1=>by
  by_cases hx:key k=l
  ·subst hx
   exact⟨fun _=>⟨k,by omega,rfl⟩,fun _=>has_put_same (putD_tidy hk val k).isMap (hk k) _⟩
  ·rw [show Maps.has (putD key val (k+1)) l=Maps.has (putD key val k) l from has_put_other (Ne.symm hx) _,putD_has hk val l k]
   constructor
   ·rintro⟨i,hi,e⟩; exact⟨i,by omega,e⟩
   ·rintro⟨i,hi,e⟩
    by_cases h:i=k
    ·subst h; exact absurd e hx
    ·exact⟨i,by omega,e⟩
theorem putD_none{key:Nat→Lit}(hk:KeysOk key)(val:Nat→Value){l:Lit}{k:Nat}(h:∀i,i<k→key i≠l)(z:DataW Value):(putD key val k).atKey l z=z:=by
 refine atKey_of_not_has ?_ _
 rw [Bool.eq_false_iff]
 intro hh
 obtain⟨i,hi,e⟩:=(putD_has hk val l k).1 hh
 exact h i hi e
theorem putD_at{key:Nat→Lit}(hk:KeysOk key)(val:Nat→Value)(z:DataW Value):∀k i,i<k→(∀j,i<j→j<k→key j≠key i)→(putD key val k).atKey (key i) z = .held (val i)
 | 0,i,hi,_=>absurd hi (Nat.not_lt_zero _)
 | k+1,i,hi,hd=>by
  by_cases e:i=k
  ·subst e; exact atKey_put_same (putD_tidy hk val i).isMap (hk i) _ _
  ·exact(atKey_put_other (Ne.symm (hd k (by omega) (by omega))) _ _).trans (putD_at hk val z k i (by omega) (fun j h1 h2=>hd j h1 (by omega)))
def DistL(n:Nat)(key:Nat→Lit):Prop:=∀i,i<n→∀k,k<i→key k≠key i
theorem distL_succ{k:Nat}{f:Nat→Lit}:DistL (k+1) f↔DistL k f∧∀i,i<k→f i≠f k:=by
 constructor
 ·exact fun h=>⟨fun i hi=>h i (by omega),fun i hi=>h k (by omega) i hi⟩
 ·rintro⟨h1,h2⟩ i hi j hj
  by_cases e:i=k
  ·subst e; exact h2 j hj
  ·exact h1 i (by omega) j hj
theorem putD_size{key:Nat→Lit}(hk:KeysOk key)(val:Nat→Value):∀k,Maps.size (putD key val k)≤k∧(Maps.size (putD key val k)=k↔DistL k key)
 | 0=>⟨Nat.le_refl _,fun _ i hi=>by omega,fun _=>rfl⟩
 | k+1=>by
  obtain⟨h1,h2⟩:=putD_size hk val k
  have e:Maps.size (putD key val (k+1))=if Maps.has (putD key val k) (key k)then Maps.size (putD key val k)else Maps.size (putD key val k)+1:=size_put (putD_tidy hk val k) _
  by_cases hh:Maps.has (putD key val k) (key k)=true
  ·rw [if_pos hh] at e
   rw [e,distL_succ]
   refine⟨by omega,fun h=>by omega,fun h=>?_⟩
   obtain⟨i,hi,he⟩:=(putD_has hk val (key k) k).1 hh
   exact absurd he (h.2 i hi)
  ·rw [if_neg hh] at e
   rw [e,distL_succ,←h2]
   refine⟨by omega,fun h=>⟨by omega,fun i hi he=>hh ((putD_has hk val (key k) k).2 ⟨i,hi,he⟩)⟩,fun h=>by omega⟩
end Go.Proofs.YtmgeglgboadfiaaGreatDoor

namespace Go.Proofs.YtmgeglgboadfiaaGreatDoor
open Go.RowKit Go.Maps
set_option linter.unusedVariables false
set_option maxRecDepth 20000 in
set_option maxHeartbeats 400000 in
theorem countRight_any(n:Int)(w:World):Calls Tryz.prog 202 #[.int .i64 n] w fun e w'=>BoolIs (Between n 1 900000) e∧w'=w:=by
 by_cases h1:1≤n
 ·by_cases h2:n≤900000
  ·go_enter Tryz.func202,Tryz.ntmps202
   go_wp2
   go_ret
   exact⟨BoolIs.yes ⟨h1,h2⟩,rfl⟩
  ·go_enter Tryz.func202,Tryz.ntmps202
   go_wp2
   go_ret
   exact⟨BoolIs.no fun h=>by have:=h.2; omega,rfl⟩
 ·go_enter Tryz.func202,Tryz.ntmps202
  go_wp2
  go_ret
  exact⟨BoolIs.no fun h=>by have:=h.1; omega,rfl⟩
def Mid(a x b:Int):Prop:=a<x∧x<b
set_option maxRecDepth 20000 in
set_option maxHeartbeats 400000 in
theorem between_any(a x b:Int)(w:World):Calls Tryz.prog 222 #[.int .i64 a,.int .i64 x,.int .i64 b] w fun e w'=>BoolIs (Mid a x b) e∧w'=w:=by
 by_cases h1:a<x
 ·by_cases h2:x<b
  ·go_enter Tryz.func222,Tryz.ntmps222
   go_wp2
   go_ret
   exact⟨BoolIs.yes ⟨h1,h2⟩,rfl⟩
  ·go_enter Tryz.func222,Tryz.ntmps222
   go_wp2
   go_ret
   exact⟨BoolIs.no fun h=>by have:=h.2; omega,rfl⟩
 ·go_enter Tryz.func222,Tryz.ntmps222
  go_wp2
  go_ret
  exact⟨BoolIs.no fun h=>by have:=h.1; omega,rfl⟩
def lastN(f:Nat→SetD):Nat→ByteArray
 | 0=>⟨#[]⟩
 | k+1=>(f k).name
def SetsI(n:Nat)(f:Nat→SetD):Prop:=n≤8∧∀i,i<n→NameP (f i).name∧Rises (lastN f i) (f i).name
set_option maxRecDepth 20000 in
set_option maxHeartbeats 2000000 in
theorem setsRight_any(v:Value)(n lo hi:Nat)(f:Nat→SetD)(w:World)(h:SetsAt w lo hi v n f) :
  Calls Tryz.prog 203 #[v] w fun e w'=>BoolIs (SetsI n f) e∧Below w.heap.size w w':=by
 have Hp:=hideW h
 obtain⟨m1,a,c,rfl,mc,-⟩:=id h
 unfold maxLen at m1
 clear h
 by_cases hn:n≤8
 rotate_left
 ·have hn':(8:Int)<(n:Int):=by omega
  go_enter Tryz.func203,Tryz.ntmps203
  go_wp2
  go_ret
  exact⟨BoolIs.no fun h=>hn h.1,Below.refl _ _⟩
 have hn':¬(8:Int)<(n:Int):=by omega
 go_enter Tryz.func203,Tryz.ntmps203
 go_wp2
 go_loopw [3,11] (fun l i wr=>∃k:Nat,k≤n∧i = .int .i64 k∧l = .string (lastN f k)∧(∀j,j<k→NameP (f j).name∧Rises (lastN f j) (f j).name)∧Below w.heap.size w wr) (fun _ i _=>n - (intOf i).toNat)
 case atStart=>exact⟨0,Nat.zero_le _,rfl,rfl,fun j hj=>absurd hj (Nat.not_lt_zero _),Below.refl _ _⟩
 case round=>
  obtain⟨k,hk,rfl,rfl,hall,hb⟩:=hrel
  have Hall:=hideW hall
  clear hall
  by_cases hlt:k<n
  rotate_left
  ·obtain rfl:k=n:=by omega
   go_wp2
   go_ret
   exact⟨BoolIs.yes ⟨hn,Hall.out⟩,hb⟩
  have hlt':(k:Int)<(n:Int):=by omega
  obtain⟨b,off,vd,rfl,hs2⟩:=(Hp.out.below hb).cells hlt
  obtain⟨-,ad,cd,rfl,-,-⟩:=id hs2.dead
  have hbs:=below_alloc wr (.cells #[.string (f k).name,.int .i64 (f k).origin,.int .i64 (f k).prev,.int .i64 (f k).rs,.int .i64 (f k).rb,.slice ad (f k).dn cd] 67)
  have HVs:=hideW (Box6.new wr (.string (f k).name) (.int .i64 (f k).origin) (.int .i64 (f k).prev) (.int .i64 (f k).rs) (.int .i64 (f k).rb) (.slice ad (f k).dn cd) 67)
  have hbw:=below_next hb hbs
  have q0:=hs2.c0
  have q1:=hs2.c1
  have q2:=hs2.c2
  have q3:=hs2.c3
  have q4:=hs2.c4
  have q5:=hs2.c5
  have hns:=hs2.small
  obtain⟨⟨y0,y1⟩,-⟩:=HVs.out
  clear hs2 hbs
  go_wp2_with fail
  clear q0 q1 q2 q3 q4 q5
  refine(implName_any (f k).name _ hns).mono ?_
  rintro e wn ⟨⟨tn,rfl,htn⟩,rfl⟩
  by_cases hA:NameP (f k).name
  rotate_left
  ·have Hn:=hideW hA
   obtain rfl:tn=false:=bool_no htn hA
   clear htn hA
   go_wp2
   go_ret
   exact⟨BoolIs.no fun h=>Hn.out (h.2 k hlt).1,hbw⟩
  have HA:=hideW hA
  obtain rfl:tn=true:=htn.2 hA
  clear htn hA
  by_cases hR:Rises (lastN f k) (f k).name
  ·have f1:=(leq_iff (f k).name (lastN f k)).2 hR
   have HR:=hideW hR
   clear hR
   go_wp2
   go_roundw
   case rel=>exact⟨k+1,by omega,by go_num,rfl,relNext hlt Hall.out ⟨HA.out,HR.out⟩,hbw⟩
   case measure=>simp [intOf]; omega
  ·have f1:(Op.bytesLess (f k).name.toList (lastN f k).toList || (f k).name.toList == (lastN f k).toList)=true:=by
    cases hc:(Op.bytesLess (f k).name.toList (lastN f k).toList || (f k).name.toList == (lastN f k).toList)
    ·exact absurd ((leq_iff _ _).1 hc) hR
    ·rfl
   have HR:=hideW hR
   clear hR
   go_wp2
   go_ret
   exact⟨BoolIs.no fun h=>HR.out (h.2 k hlt).2,hbw⟩
end Go.Proofs.YtmgeglgboadfiaaGreatDoor

namespace Go.Proofs.YtmgeglgboadfiaaGreatDoor
open Go Go.RowKit Go.Maps
set_option linter.unusedVariables false
theorem laidW:laidOutB Tryz.prog=true:=by kernel_rfl
theorem sizeW:300≤Tryz.prog.types.size+300 - 1∧1≤Tryz.prog.types.size:=by
 have h:decide (1≤Tryz.prog.types.size)=true:=by kernel_rfl
 have:=of_decide_eq_true h
 omega
theorem lessW{k:Nat}(h:decide (k<Tryz.prog.types.size)=true):k<Tryz.prog.types.size:=of_decide_eq_true h
theorem strU:Tryz.prog.underlying 9=some .string:=by kernel_rfl
theorem intU:Tryz.prog.underlying 2=some (.int .i64):=by kernel_rfl
theorem lawS:Keyed Tryz.prog 9:=string_keyed strU
theorem lawI:Keyed Tryz.prog 2:=int_keyed intU
def keyS(s:ByteArray):Lit:=.string s.data.toList
theorem keyS_of{s:ByteArray}(h:s.size≤maxLen):keyOf Tryz.prog 9 (.string s)=some (keyS s):=by simp [keyOf,mapKey,keyS,h]
theorem keyS_inj{s t:ByteArray}(h:keyS s=keyS t):s=t:=by
 unfold keyS at h
 injection h with h
 cases s; cases t
 simp only [ByteArray.mk.injEq]
 exact Array.toList_inj.1 h
theorem keyS_key(s:ByteArray):WideAt.IsKeyLit (keyS s):=trivial
def keyN(x:Int):Lit:=.int .i64 x
theorem keyN_of{x:Int}(h:(Lit.int .i64 x).wf=true):keyOf Tryz.prog 2 (.int .i64 x)=some (keyN x):=keyOf_int_mk intU h
theorem keyN_inj{x y:Int}(h:keyN x=keyN y):x=y:=by unfold keyN at h; injection h
theorem keyN_key(x:Int):WideAt.IsKeyLit (keyN x):=trivial
theorem twoU:Tryz.prog.underlying 266=some (.array 2 9):=by kernel_rfl
theorem lawT:Keyed Tryz.prog 266:=Keyed.of_law (deep_law_laid laidW (m:=5) (by decide) (lessW (by kernel_rfl)) (by kernel_rfl) (by kernel_rfl))
theorem keyT_of{s t:ByteArray}(hs:s.size≤maxLen)(ht:t.size≤maxLen):∃l,keyOf Tryz.prog 266 (.agg #[.string s,.string t])=some l:=by
 obtain⟨m,hm⟩:∃m,Tryz.prog.types.size+1=m+2:=⟨Tryz.prog.types.size - 1,by have:=sizeW; omega⟩
 have hk:Tryz.prog.keyType 266=true:=by kernel_rfl
 have hc:Tryz.prog.cellsOf 266=2:=by kernel_rfl
 have h1:Tryz.prog.cellsOf 9=1:=by kernel_rfl
 unfold keyOf
 simp only [twoU]
 rw [if_pos (by simp [hk,Value.formed,hc]),hm]
 unfold Program.keyLits
 simp only [twoU,Value.cells]
 rw [if_pos (by rw [hc]; rfl),show List.range 2 = [0,1] from rfl,List.mapM_cons,List.mapM_cons,List.mapM_nil]
 simp [h1,Program.keyLits,hs,ht]
theorem ptrU:Tryz.prog.underlying 61=some (.struct #[⟨"Slot",2,0,false, "", "",0⟩,⟨"Birth",2,1,false, "", "",8⟩]):=by kernel_rfl
theorem lawP:Keyed Tryz.prog 61:=Keyed.of_law (deep_law_laid laidW (m:=5) (by decide) (lessW (by kernel_rfl)) (by kernel_rfl) (by kernel_rfl))
theorem keyP_of{x y:Int}(hx:(Lit.int .i64 x).wf=true)(hy:(Lit.int .i64 y).wf=true):∃l,keyOf Tryz.prog 61 (.agg #[.int .i64 x,.int .i64 y])=some l:=by
 obtain⟨m,hm⟩:∃m,Tryz.prog.types.size+1=m+2:=⟨Tryz.prog.types.size - 1,by have:=sizeW; omega⟩
 have hk:Tryz.prog.keyType 61=true:=by kernel_rfl
 have hc:Tryz.prog.cellsOf 61=2:=by kernel_rfl
 have h1:Tryz.prog.cellsOf 2=1:=by kernel_rfl
 unfold keyOf
 simp only [ptrU]
 rw [if_pos (by simp [hk,Value.formed,hc]),hm]
 unfold Program.keyLits
 simp only [ptrU,Value.cells]
 rw [if_pos ⟨by rw [hc]; rfl,by kernel_rfl⟩]
 simp [h1,Program.keyLits,hx,hy]
end Go.Proofs.YtmgeglgboadfiaaGreatDoor

namespace Go.Proofs.YtmgeglgboadfiaaGreatDoor
open Go.RowKit Go.Maps
set_option linter.unusedVariables false
def setV(vd:Value)(s:SetD):Value:=.agg #[.string s.name,.int .i64 s.origin,.int .i64 s.prev,.int .i64 s.rs,.int .i64 s.rb,vd]
def snapV(vd:Value)(s:SnapD):Value:=.agg #[.int .i64 s.id,.string s.name,.string s.set,.int .i64 s.prev,.int .i64 s.time,.int .i64 s.rs,.int .i64 s.rb,vd]
def SetDeads(w:World)(lo hi n:Nat)(f:Nat→SetD)(vd:Nat→Value):Prop:=∀i,i<n→PtrsAt w lo hi (vd i) (f i).dn (f i).ds (f i).db
def SnapDeads(w:World)(lo hi n:Nat)(f:Nat→SnapD)(vd:Nat→Value):Prop:=∀i,i<n→PtrsAt w lo hi (vd i) (f i).dn (f i).ds (f i).db
open Classical in
theorem SetsAt.vals{w:World}{lo hi:Nat}{a:Option Addr}{n c:Nat}{f:Nat→SetD}(h:SetsAt w lo hi (.slice a n c) n f):∃vd:Nat→Value,SetDeads w lo hi n f vd∧∀i,i<n→∃b off,a=some ⟨b,off,none⟩∧SetCells w b (off+i*6) lo hi (vd i) (f i):=by
 have hx:∀i,∃v,i<n→∃b off,a=some ⟨b,off,none⟩∧SetCells w b (off+i*6) lo hi v (f i):=fun i=>by
  by_cases hi':i<n
  ·obtain⟨b,off,vd,ha,hs⟩:=h.cells hi'
   exact⟨vd,fun _=>⟨b,off,ha,hs⟩⟩
  ·exact⟨undef,fun h=>absurd h hi'⟩
 refine⟨fun i=>(hx i).choose,fun i hi'=>?_,fun i hi'=>(hx i).choose_spec hi'⟩
 obtain⟨b,off,_,hs⟩:=(hx i).choose_spec hi'
 exact hs.dead
open Classical in
theorem SnapsAt.vals{w:World}{lo hi:Nat}{a:Option Addr}{n c:Nat}{f:Nat→SnapD}(h:SnapsAt w lo hi (.slice a n c) n f):∃vd:Nat→Value,SnapDeads w lo hi n f vd∧∀i,i<n→∃b off,a=some ⟨b,off,none⟩∧SnapCells w b (off+i*8) lo hi (vd i) (f i):=by
 have hx:∀i,∃v,i<n→∃b off,a=some ⟨b,off,none⟩∧SnapCells w b (off+i*8) lo hi v (f i):=fun i=>by
  by_cases hi':i<n
  ·obtain⟨b,off,vd,ha,hs⟩:=h.cells hi'
   exact⟨vd,fun _=>⟨b,off,ha,hs⟩⟩
  ·exact⟨undef,fun h=>absurd h hi'⟩
 refine⟨fun i=>(hx i).choose,fun i hi'=>?_,fun i hi'=>(hx i).choose_spec hi'⟩
 obtain⟨b,off,_,hs⟩:=(hx i).choose_spec hi'
 exact hs.dead
theorem setsT:Tryz.prog.underlying 177=some (.map 9 67):=by kernel_rfl
theorem snapsT:Tryz.prog.underlying 218=some (.map 2 99):=by kernel_rfl
theorem apartT:Tryz.prog.underlying 265=some (.map 266 2):=by kernel_rfl
def SetsMap(w:World)(W:WorldD)(M n:Nat)(vd:Nat→Value):Prop:=w.ownsMap Tryz.prog 9 rawE M n (putD (fun i=>keyS (W.sets i).name) (fun i=>setV (vd i) (W.sets i)) n)
def SnapsMap(w:World)(W:WorldD)(M n:Nat)(vd:Nat→Value):Prop:=w.ownsMap Tryz.prog 2 rawE M n (putD (fun i=>keyN (W.snaps i).id) (fun i=>snapV (vd i) (W.snaps i)) n)
theorem SetsMap.below{w w':World}{W:WorldD}{M n:Nat}{vd:Nat→Value}(h:SetsMap w W M n vd)(t:Below w.heap.size w w'):SetsMap w' W M n vd:=h.kept (grownL t none) (by simp)
theorem SnapsMap.below{w w':World}{W:WorldD}{M n:Nat}{vd:Nat→Value}(h:SnapsMap w W M n vd)(t:Below w.heap.size w w'):SnapsMap w' W M n vd:=h.kept (grownL t none) (by simp)
set_option maxRecDepth 20000 in
set_option maxHeartbeats 2000000 in
theorem setsByName_any(v0 v1 v2 v3:Value)(lo hi:Nat)(W:WorldD)(w:World)(h:WorldAt w lo hi v0 v1 v2 v3 W)(hn:W.sn≤8) :
  Calls Tryz.prog 129 #[worldV v0 v1 v2 v3 W] w fun e w'=>∃vd,e = .returned (.map (some (w.heap.size+1)))∧SetsMap w' W (w.heap.size+1) W.sn vd∧SetDeads w lo hi W.sn W.sets vd∧Below w.heap.size w w':=by
 have Hp:=hideW h
 obtain⟨m1,a,c,rfl,mc,-⟩:=id h.sets
 unfold maxLen at m1
 obtain⟨vd,hvd,hcs⟩:=h.sets.vals
 have Hvd:=hideW hvd
 have Hcs:=hideW hcs
 clear h hvd hcs
 have ha:=below_alloc w (.cells #[v0,v1,.int .i64 W.time,.int .i64 W.next,.slice a W.sn c,v3] 37)
 have HB:=hideW (Box6.new w v0 v1 (.int .i64 W.time) (.int .i64 W.next) (.slice a W.sn c) v3 37)
 have hz1:(w.alloc (.cells #[v0,v1,.int .i64 W.time,.int .i64 W.next,.slice a W.sn c,v3] 37)).heap.size=w.heap.size+1:=World.size_alloc _ _
 have hm:=World.ownsMap_made (w.alloc (.cells #[v0,v1,.int .i64 W.time,.int .i64 W.next,.slice a W.sn c,v3] 37)) Tryz.prog 9 rawE
 rw [hz1] at hm
 have HM:=hideW hm
 have HB2:=hideW (HB.out.below (below_alloc _ (.map #[] 0)))
 have Hb2:=hideW (below_next ha (below_alloc _ (.map #[] 0)))
 have hmm:=@run_makeMap Tryz.prog
 obtain⟨⟨x0,-⟩,⟨x2,-⟩,⟨x4,-⟩,⟨x6,-⟩,⟨x8,-⟩,⟨x10,-⟩⟩:=HB2.out
 clear hm
 go_enter Tryz.func129,Tryz.ntmps129
 go_wp2
 clear x0 x2 x4 x6 x8 x10 ha
 go_loopw [10] (fun i wr=>∃k:Nat,k≤W.sn∧i = .int .i64 k∧SetsMap wr W (w.heap.size+1) k vd∧Below w.heap.size w wr∧w.heap.size+2≤wr.heap.size) (fun i _=>W.sn - (intOf i).toNat)
 case atStart=>exact⟨0,Nat.zero_le _,rfl,HM.out,Hb2.out,by rw [World.size_alloc,hz1]; omega⟩
 case round=>
  clear HM HB2 Hb2 HB hz1
  obtain⟨k,hk,rfl,hown,hb,hz⟩:=hrel
  have Hown:=hideW hown
  clear hown
  by_cases hlt:k<W.sn
  ·have hlt':(k:Int)<(W.sn:Int):=by omega
   obtain⟨b,off,rfl,hs0⟩:=Hcs.out k hlt
   have hs2:=hs0.below hb
   obtain⟨-,ad,cd,hvk,-,-⟩:=id hs2.dead
   have Hvk:=hideW hvk
   rw [hvk] at hs2
   clear hvk hs0
   have hbs:=below_alloc wr (.cells #[.string (W.sets k).name,.int .i64 (W.sets k).origin,.int .i64 (W.sets k).prev,.int .i64 (W.sets k).rs,.int .i64 (W.sets k).rb,.slice ad (W.sets k).dn cd] 67)
   have HVs:=hideW (Box6.new wr (.string (W.sets k).name) (.int .i64 (W.sets k).origin) (.int .i64 (W.sets k).prev) (.int .i64 (W.sets k).rs) (.int .i64 (W.sets k).rb) (.slice ad (W.sets k).dn cd) 67)
   have hbw:=below_next hb hbs
   have q0:=hs2.c0
   have q1:=hs2.c1
   have q2:=hs2.c2
   have q3:=hs2.c3
   have q4:=hs2.c4
   have q5:=hs2.c5
   have Hkey:=hideW (keyS_of hs2.small)
   obtain⟨⟨y0,y1⟩,⟨y2,y3⟩,⟨y4,y5⟩,⟨y6,y7⟩,⟨y8,y9⟩,⟨y10,y11⟩⟩:=HVs.out
   have Hown2:=hideW (Hown.out.below hbs)
   have hz2:=hbs.size
   clear hs2 hbs
   go_wp2_with (first
    | (at_mapUpdate; refine wpList_mapUpdate_own _ rfl _ _ _ 177 rfl 9 67 lawS setsT rawE (w.heap.size+1) k _ rfl Hown2.out (by unfold maxLen; omega) _ _ _ rfl rfl Hkey.out _ [] (rawE_mk _) ?_; intro w1 hown1 hgrow1)
    | go_in)
   go_roundw
   case rel=>
    refine⟨k+1,by omega,by go_num,?_,hbw.grown hgrow1 hbw.size (fun j hj=>by cases hj; omega),by have:=hgrow1.size; omega⟩
    unfold SetsMap putD setV
    rw [Hvk.out]
    exact hown1
   case measure=>simp [intOf]; omega
  ·obtain rfl:k=W.sn:=by omega
   go_wp2
   go_ret
   exact⟨vd,rfl,Hown.out,Hvd.out,hb⟩
end Go.Proofs.YtmgeglgboadfiaaGreatDoor
