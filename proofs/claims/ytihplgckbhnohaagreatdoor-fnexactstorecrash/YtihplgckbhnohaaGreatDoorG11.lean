/- What impl.pairOf answers. -/
import Derived.Test.YtihplgckbhnohaaGreatDoorG10
import Derived.Test.YtihplgckbhnohaaGreatDoorG3
import Derived.RegionTactic
import Derived.ChangeAlike
import Derived.BigRegion
import Derived.Test.YtihplgckbhnohaaGreatDoorG9
import Derived.Deep.RegionHeld3
import Derived.Deep.QuietTactic
import Derived.BigQuiet
import Derived.Test.YtihplgckbhnohaaGreatDoorG8
import Derived.Test.YtihplgckbhnohaaGreatDoorG1
import Derived.Deep.AppendLies
import Derived.Deep.WholeRow
namespace Go.Proofs.YtihplgckbhnohaaGreatDoor
open Go.RowKit Go.Maps
set_option linter.unusedVariables false
set_option maxRecDepth 20000 in
set_option maxHeartbeats 400000 in
theorem pairOf_any(v0 v1 v2 v3 u0 u1 u2 u3:Value)(lo hi:Nat)(S:StoreD)(w:World)(h:StoreAt w lo hi v0 v1 v2 v3 u0 u1 u2 u3 S) :
  Calls Tryz.prog 46 #[storeV v0 v1 v2 v3 u0 u1 u2 u3 S] w fun e w'=>e = .returned (storeV v0 v1 v2 v3 u0 u1 u2 u3 S)∧Below w.heap.size w w':=by
 obtain⟨s0a,t0a,s0b,t0b,s0c,t0c,s0d,t0d,rfl,rfl,rfl,rfl⟩:=h.live.form
 obtain⟨s1a,t1a,s1b,t1b,s1c,t1c,s1d,t1d,rfl,rfl,rfl,rfl⟩:=h.safe.form
 clear h
 have ha:=below_alloc w (.cells #[.slice s0a S.live.pool.n t0a,.slice s0b S.live.pool.hn t0b,.int .i64 S.live.time,.int .i64 S.live.next,.slice s0c S.live.sn t0c,.slice s0d S.live.pn t0d,.slice s1a S.safe.pool.n t1a,.slice s1b S.safe.pool.hn t1b,.int .i64 S.safe.time,.int .i64 S.safe.next,.slice s1c S.safe.sn t1c,.slice s1d S.safe.pn t1d] 41)
 have hb:=below_alloc (w.alloc (.cells #[.slice s0a S.live.pool.n t0a,.slice s0b S.live.pool.hn t0b,.int .i64 S.live.time,.int .i64 S.live.next,.slice s0c S.live.sn t0c,.slice s0d S.live.pn t0d,.slice s1a S.safe.pool.n t1a,.slice s1b S.safe.pool.hn t1b,.int .i64 S.safe.time,.int .i64 S.safe.next,.slice s1c S.safe.sn t1c,.slice s1d S.safe.pn t1d] 41)) (.cells #[.slice s0a S.live.pool.n t0a,.slice s0b S.live.pool.hn t0b,.int .i64 S.live.time,.int .i64 S.live.next,.slice s0c S.live.sn t0c,.slice s0d S.live.pn t0d,.slice s1a S.safe.pool.n t1a,.slice s1b S.safe.pool.hn t1b,.int .i64 S.safe.time,.int .i64 S.safe.next,.slice s1c S.safe.sn t1c,.slice s1d S.safe.pn t1d] 98)
 obtain⟨⟨x0,-⟩,⟨x1,-⟩,⟨x2,-⟩,⟨x3,-⟩,⟨x4,-⟩,⟨x5,-⟩,⟨x6,-⟩,⟨x7,-⟩,⟨x8,-⟩,⟨x9,-⟩,⟨x10,-⟩,⟨x11,-⟩⟩:=Box12.new w (.slice s0a S.live.pool.n t0a) (.slice s0b S.live.pool.hn t0b) (.int .i64 S.live.time) (.int .i64 S.live.next) (.slice s0c S.live.sn t0c) (.slice s0d S.live.pn t0d) (.slice s1a S.safe.pool.n t1a) (.slice s1b S.safe.pool.hn t1b) (.int .i64 S.safe.time) (.int .i64 S.safe.next) (.slice s1c S.safe.sn t1c) (.slice s1d S.safe.pn t1d) 41
 have hy:=Box12.new (w.alloc (.cells #[.slice s0a S.live.pool.n t0a,.slice s0b S.live.pool.hn t0b,.int .i64 S.live.time,.int .i64 S.live.next,.slice s0c S.live.sn t0c,.slice s0d S.live.pn t0d,.slice s1a S.safe.pool.n t1a,.slice s1b S.safe.pool.hn t1b,.int .i64 S.safe.time,.int .i64 S.safe.next,.slice s1c S.safe.sn t1c,.slice s1d S.safe.pn t1d] 41)) (.slice s0a S.live.pool.n t0a) (.slice s0b S.live.pool.hn t0b) (.int .i64 S.live.time) (.int .i64 S.live.next) (.slice s0c S.live.sn t0c) (.slice s0d S.live.pn t0d) (.slice s1a S.safe.pool.n t1a) (.slice s1b S.safe.pool.hn t1b) (.int .i64 S.safe.time) (.int .i64 S.safe.next) (.slice s1c S.safe.sn t1c) (.slice s1d S.safe.pn t1d) 98
 rw [World.size_alloc] at hy
 have HR:=hy
 clear hy
 go_enter Tryz.func46,Tryz.ntmps46
 go_wp2
 refine bodyPost_ret (v:=.agg #[.slice s0a S.live.pool.n t0a,.slice s0b S.live.pool.hn t0b,.int .i64 S.live.time,.int .i64 S.live.next,.slice s0c S.live.sn t0c,.slice s0d S.live.pn t0d,.slice s1a S.safe.pool.n t1a,.slice s1b S.safe.pool.hn t1b,.int .i64 S.safe.time,.int .i64 S.safe.next,.slice s1c S.safe.sn t1c,.slice s1d S.safe.pn t1d]) (by simp [results,Tryz.results46,go_sem,HR.1.1,HR.2.1.1,HR.2.2.1.1,HR.2.2.2.1.1,HR.2.2.2.2.1.1,HR.2.2.2.2.2.1.1,HR.2.2.2.2.2.2.1.1,HR.2.2.2.2.2.2.2.1.1,HR.2.2.2.2.2.2.2.2.1.1,HR.2.2.2.2.2.2.2.2.2.1.1,HR.2.2.2.2.2.2.2.2.2.2.1.1,HR.2.2.2.2.2.2.2.2.2.2.2.1]) rfl ⟨rfl,?_⟩
 exact below_next ha hb
end Go.Proofs.YtihplgckbhnohaaGreatDoor

namespace Go.Proofs.YtihplgckbhnohaaGreatDoor
open Go.RowKit
set_option linter.unusedVariables false
def AheadIs(W:WorldD)(x s b t:Int):Prop:=(∃k,x≠0∧SnapNo W x k∧s=(W.snaps k).rs∧b=(W.snaps k).rb∧t=(W.snaps k).time)∨((x=0∨∀k,k<W.pn→(W.snaps k).id≠x)∧s=0∧b=0∧t=0)
set_option maxRecDepth 20000 in
set_option maxHeartbeats 2000000 in
theorem l04Ahead_any(v0 v1 v2 v3:Value)(lo hi:Nat)(W:WorldD)(x:Int)(w:World)(h:WorldAt w lo hi v0 v1 v2 v3 W) :
  Calls Tryz.prog 100 #[worldV v0 v1 v2 v3 W,.int .i64 x] w fun e w'=>∃s b t:Int,e = .returned (.tuple #[.agg #[.int .i64 s,.int .i64 b],.int .i64 t])∧AheadIs W x s b t∧Below w.heap.size w w':=by
 have Hp:=hideW h
 obtain⟨m1,a,c,rfl,mc,_⟩:=id h.snaps
 unfold maxLen at m1
 clear h
 have ha:=below_alloc w (.cells #[v0,v1,.int .i64 W.time,.int .i64 W.next,v2,.slice a W.pn c] 39)
 have hB:=Box6.new w v0 v1 (.int .i64 W.time) (.int .i64 W.next) v2 (.slice a W.pn c) 39
 have ha2:=below_alloc (w.alloc (.cells #[v0,v1,.int .i64 W.time,.int .i64 W.next,v2,.slice a W.pn c] 39)) (.cells #[.int .i64 0,.int .i64 0] 88)
 have hR:=Box2.new (w.alloc (.cells #[v0,v1,.int .i64 W.time,.int .i64 W.next,v2,.slice a W.pn c] 39)) (.int .i64 0) (.int .i64 0) 88
 have hB2:=hB.below ha2
 have hb2:=below_next ha ha2
 have hsz:(w.alloc (.cells #[v0,v1,.int .i64 W.time,.int .i64 W.next,v2,.slice a W.pn c] 39)).heap.size=w.heap.size+1:=World.size_alloc _ _
 rw [hsz] at hR
 clear ha ha2 hB
 go_enter Tryz.func100,Tryz.ntmps100
 go_wp2_with fail
 generalize ((w.alloc (.cells #[v0,v1,.int .i64 W.time,.int .i64 W.next,v2,.slice a W.pn c] 39)).alloc (.cells #[.int .i64 0,.int .i64 0] 88))=W0 at hR hB2 hb2 ⊢
 refine(l04Snap_any v0 v1 v2 _ lo hi W x W0 (Hp.out.below hb2)).mono ?_
 rintro e w1 ⟨r,rfl,hF,hb1⟩
 have hR1:=hR.below hb1
 have hX1:=hB2.below hb1
 have hbw:=below_next hb2 hb1
 clear hR hB2 hb2 hb1 hsz
 have HR:=hideW hR1
 have HX:=hideW hX1
 clear hR1 hX1
 obtain⟨⟨y0,y1⟩,⟨y2,y3⟩⟩:=HR.out
 obtain⟨⟨x0,x1⟩,⟨x2,x3⟩,⟨x4,x5⟩,⟨x6,x7⟩,⟨x8,x9⟩,⟨x10,x11⟩⟩:=HX.out
 by_cases hx:x=0
 ·subst hx
  clear hF
  go_wp2
  refine bodyPost_ret (v:=.tuple #[.agg #[.int .i64 0,.int .i64 0],.int .i64 0]) (by simp [results,Tryz.results100,go_sem,y0,y2]) rfl ⟨0,0,0,rfl,Or.inr ⟨Or.inl rfl,rfl,rfl,rfl⟩,?_⟩
  exact(hbw.setCell (by show w.heap.size≤w.heap.size+1; omega) _).setCell (by show w.heap.size≤w.heap.size+1; omega) _
 ·have Hx:=hideW hx
  have f0:(x == 0)=false:=by simp [hx]
  clear hx
  rcases hF with⟨k,hk,hi',hm,rfl⟩ | ⟨hn,rfl⟩
  ·obtain⟨b,off,vd,rfl,hs⟩:=(Hp.out.snaps.below hbw).cells hk
   have q4:=hs.c4
   have q5:=hs.c5
   have q6:=hs.c6
   have hk':(k:Int)<(W.pn:Int):=by omega
   have hlt:b<w.heap.size:=by
    obtain⟨b2,off2,vd2,e2,hs2⟩:=Hp.out.snaps.cells hk
    cases e2
    exact lt_of_cell hs2.c0
   have hne:b≠w.heap.size+1:=by omega
   have hne2:w.heap.size≠w.heap.size+1:=by omega
   have Hk:=hideW (And.intro hi' hm)
   clear hs hi' hm hlt
   have hge:w.heap.size≤w.heap.size+1:=by omega
   generalize w.heap.size+1=R at *
   go_wp2
   go_region
   go_wp2
   refine bodyPost_ret (v:=.tuple #[.agg #[.int .i64 (W.snaps k).rs,.int .i64 (W.snaps k).rb],.int .i64 (W.snaps k).time]) (by simp [results,Tryz.results100,go_sem,y0,y2]) rfl ⟨_,_,_,rfl,Or.inl ⟨k,Hx.out,⟨hk,Hk.out.1,Hk.out.2⟩,rfl,rfl,rfl⟩,?_⟩
   exact((hbw.setCell hge _).setCell hge _).drew
  ·have Hn:=hideW hn
   clear hn
   go_wp2
   refine bodyPost_ret (v:=.tuple #[.agg #[.int .i64 0,.int .i64 0],.int .i64 0]) (by simp [results,Tryz.results100,go_sem,y0,y2]) rfl ⟨0,0,0,rfl,Or.inr ⟨Or.inr Hn.out,rfl,rfl,rfl⟩,?_⟩
   exact(hbw.setCell (by show w.heap.size≤w.heap.size+1; omega) _).setCell (by show w.heap.size≤w.heap.size+1; omega) _
end Go.Proofs.YtihplgckbhnohaaGreatDoor

namespace Go.Proofs.YtihplgckbhnohaaGreatDoor
open Go.RowKit
set_option linter.unusedVariables false
theorem PtrOf.some(n:Nat)(f:Nat→SlotD)(x:Int):∃ps pb,PtrOf n f x ps pb:=by
 by_cases h:0≤x∧x<n∧¬Free (f x.toNat)
 ·exact⟨x,(f x.toNat).birth,Or.inl ⟨h.1,h.2.1,h.2.2,rfl,rfl⟩⟩
 ·exact⟨0,0,Or.inr ⟨h,rfl,rfl⟩⟩
set_option maxRecDepth 20000 in
set_option maxHeartbeats 1000000 in
theorem isPtr_any(v:Value)(n lo hi:Nat)(f:Nat→SlotD)(xs xb:Int)(w:World)(h1:SlotsAt w lo hi v n f) :
  Calls Tryz.prog 157 #[v,.agg #[.int .i64 xs,.int .i64 xb]] w fun e w'=>BoolIs (¬PtrEq xs xb 0 0∧PtrOf n f xs xs xb) e∧Below w.heap.size w w':=by
 have Hi:Hid (SlotsAt w lo hi v n f):=h1
 obtain⟨m1,a,c,rfl,mc,g1⟩:=h1
 clear g1
 have ha:=below_alloc w (.cells #[.int .i64 xs,.int .i64 xb] 88)
 have Hx:Hid (Box2 (w.alloc (.cells #[.int .i64 xs,.int .i64 xb] 88)) w.heap.size (.int .i64 xs) (.int .i64 xb)):=Box2.new _ _ _ _
 by_cases hz:xs=0∧xb=0
 ·obtain⟨rfl,rfl⟩:=hz
  go_enter Tryz.func157,Tryz.ntmps157
  go_wp2_with fail
  go_quiet (fail)
  go_wp2
  go_ret
  exact⟨BoolIs.no fun h=>h.1 ⟨rfl,rfl⟩,below_drewN ha _⟩
 ·have HZ:Hid (¬PtrEq xs xb 0 0):=hz
  have e0:(xs == 0)=false∨(xs == 0)=true∧(xb == 0)=false:=by
   by_cases h:xs=0
   ·right
    refine⟨by simp [h],?_⟩
    have:xb≠0:=fun h'=>hz ⟨h,h'⟩
    simp [this]
   ·left; simp [h]
  clear hz
  obtain⟨ps0,pb0,h0⟩:=PtrOf.some n f xs
  have H0:Hid (PtrOf n f xs ps0 pb0):=h0
  clear h0
  by_cases hq:xs=ps0∧xb=pb0
  ·obtain⟨rfl,rfl⟩:=hq
   rcases e0 with e0 | ⟨e0,e1⟩
   all_goals
    go_enter Tryz.func157,Tryz.ntmps157
    go_wp2_with fail
    go_region_held3 (fun w'=>w'.cell? ⟨w.heap.size,0,none⟩=some (.int .i64 xs)∧w'.cell? ⟨w.heap.size,1,none⟩=some (.int .i64 xb)) (go_keep)
     (first | (go_at_call 153; refine(ptrOf_any _ n lo hi f _ _ ?_).mono ?_; (exact(Hi.out.below ha).below ((Below.refl _ _).drew)); rintro e w1 ⟨⟨ps,pb,rfl,hp⟩,hb1⟩; obtain⟨rfl,rfl⟩:=H0.out.uniq hp; clear hp; have hbb:=below_undrew hb1; have z0:=(Hx.out.below hbb).1.1; have z1:=(Hx.out.below hbb).2.1))
    have hbn:=below_next ha hbb
    clear hb1 hbb z0 z1
    go_wp2
    go_ret
    exact⟨BoolIs.yes ⟨HZ.out,H0.out⟩,hbn⟩
  ·have HQ:Hid (¬(xs=ps0∧xb=pb0)):=hq
   have e4:(xs == ps0)=false∨(xs == ps0)=true∧(xb == pb0)=false:=by
    by_cases h:xs=ps0
    ·right
     refine⟨by simp [h],?_⟩
     have:xb≠pb0:=fun h'=>hq ⟨h,h'⟩
     simp [this]
    ·left; simp [h]
   clear hq
   rcases e0 with e0 | ⟨e0,e1⟩
   all_goals
    rcases e4 with e4 | ⟨e4,e5⟩
    all_goals
     go_enter Tryz.func157,Tryz.ntmps157
     go_wp2_with fail
     go_region_held3 (fun w'=>w'.cell? ⟨w.heap.size,0,none⟩=some (.int .i64 xs)∧w'.cell? ⟨w.heap.size,1,none⟩=some (.int .i64 xb)) (go_keep)
      (first | (go_at_call 153; refine(ptrOf_any _ n lo hi f _ _ ?_).mono ?_; (exact(Hi.out.below ha).below ((Below.refl _ _).drew)); rintro e w1 ⟨⟨ps,pb,rfl,hp⟩,hb1⟩; obtain⟨rfl,rfl⟩:=H0.out.uniq hp; clear hp; have hbb:=below_undrew hb1; have z0:=(Hx.out.below hbb).1.1; have z1:=(Hx.out.below hbb).2.1))
     have hbn:=below_next ha hbb
     clear hb1 hbb z0 z1
     go_wp2
     go_ret
     refine⟨BoolIs.no fun h=>?_,hbn⟩
     obtain⟨q0,q1⟩:=h.2.uniq H0.out
     exact HQ.out ⟨q0,q1⟩
theorem isPtr_iff{p:PoolD}{xs xb:Int}(hR:Right p):(¬PtrEq xs xb 0 0∧PtrOf p.n p.s xs xs xb)↔Points p xs xb:=by
 constructor
 ·rintro⟨h,h1 | ⟨_,h2,h3⟩⟩
  ·obtain⟨a,b,c,_,e⟩:=h1
   have:=fits_birth (hR.2.1 xs.toNat (by omega)) c
   exact⟨by omega,a,b,e.symm⟩
  ·exact absurd ⟨h2,h3⟩ h
 ·rintro⟨a,b,c,d⟩
  refine⟨fun h=>by have:=h.2; omega,Or.inl ⟨b,c,fun hf=>?_,rfl,d.symm⟩⟩
  have:=free_birth hf
  omega
end Go.Proofs.YtihplgckbhnohaaGreatDoor

namespace Go.Proofs.YtihplgckbhnohaaGreatDoor
open Go.RowKit
set_option linter.unusedVariables false
def Nil(xs xb:Int):Prop:=xs=0∧xb=0
instance (xs xb:Int):Decidable (Nil xs xb):=inferInstanceAs (Decidable (xs=0∧xb=0))
def one(xs xb:Int):List (Int×Int):=if Nil xs xb then [] else [(xs,xb)]
def kidsUp(ks kb:Nat→Int):Nat→List (Int×Int)
 | 0=>[]
 | k+1=>kidsUp ks kb k ++ one (ks k) (kb k)
def kidS(s:SlotD)(i:Nat):Int:=kidCell s (i*2)
def kidB(s:SlotD)(i:Nat):Int:=kidCell s (i*2+1)
def lowL(s:SlotD):List (Int×Int):=kidsUp (kidS s) (kidB s) 8
def midL(p:PoolD)(xs xb:Int):List (Int×Int):=if Nil xs xb then [] else(xs,xb) :: lowL (p.s xs.toNat)
def subUp(p:PoolD)(s:SlotD):Nat→List (Int×Int)
 | 0=>[]
 | k+1=>subUp p s k ++ midL p (kidS s k) (kidB s k)
def treeL(p:PoolD)(rs rb:Int):List (Int×Int):=if Nil rs rb then [] else(rs,rb) :: subUp p (p.s rs.toNat) 8
theorem kidS_at{s:SlotD}(h:s.kn=8){i:Nat}(hi:i<8):kidS s i=s.ks i:=by
 unfold kidS kidCell
 rw [show i*2 / 2=i by omega,if_pos (by omega),if_pos (by omega)]
theorem kidB_at{s:SlotD}(h:s.kn=8){i:Nat}(hi:i<8):kidB s i=s.kb i:=by
 unfold kidB kidCell
 rw [show(i*2+1) / 2=i by omega,if_pos (by omega),if_neg (by omega)]
theorem kidS_no{s:SlotD}(h:s.kn=0)(i:Nat):kidS s i=0:=by
 unfold kidS kidCell
 rw [if_neg (by omega)]
theorem kidB_no{s:SlotD}(h:s.kn=0)(i:Nat):kidB s i=0:=by
 unfold kidB kidCell
 rw [if_neg (by omega)]
theorem mem_one{xs xb:Int}{x:Int×Int}:x∈one xs xb↔x=(xs,xb)∧¬Nil xs xb:=by
 unfold one
 by_cases h:Nil xs xb
 ·rw [if_pos h]; simp [h]
 ·rw [if_neg h]; simp [h]
theorem mem_kidsUp{ks kb:Nat→Int}{x:Int×Int}:∀{k:Nat},x∈kidsUp ks kb k↔∃i,i<k∧x=(ks i,kb i)∧¬Nil (ks i) (kb i)
 | 0=>by simp [kidsUp]
 | k+1=>by
  rw [kidsUp,List.mem_append,mem_kidsUp,mem_one]
  constructor
  ·rintro(⟨i,hi,h⟩ | h)
   ·exact⟨i,by omega,h⟩
   ·exact⟨k,by omega,h⟩
  ·rintro⟨i,hi,h⟩
   by_cases e:i=k
   ·subst e; exact Or.inr h
   ·exact Or.inl ⟨i,by omega,h⟩
theorem mem_midL{p:PoolD}{xs xb:Int}{x:Int×Int}:x∈midL p xs xb↔¬Nil xs xb∧(x=(xs,xb)∨x∈lowL (p.s xs.toNat)):=by
 unfold midL
 by_cases h:Nil xs xb
 ·rw [if_pos h]; simp [h]
 ·rw [if_neg h]; simp [h]
theorem mem_subUp{p:PoolD}{s:SlotD}{x:Int×Int}:∀{k:Nat},x∈subUp p s k↔∃i,i<k∧x∈midL p (kidS s i) (kidB s i)
 | 0=>by simp [subUp]
 | k+1=>by
  rw [subUp,List.mem_append,mem_subUp]
  constructor
  ·rintro(⟨i,hi,h⟩ | h)
   ·exact⟨i,by omega,h⟩
   ·exact⟨k,by omega,h⟩
  ·rintro⟨i,hi,h⟩
   by_cases e:i=k
   ·subst e; exact Or.inr h
   ·exact Or.inl ⟨i,by omega,h⟩
theorem kidsUp_len(ks kb:Nat→Int):∀k,(kidsUp ks kb k).length≤k
 | 0=>Nat.le_refl _
 | k+1=>by
  have:=kidsUp_len ks kb k
  unfold kidsUp one
  split <;> simp <;> omega
theorem midL_len(p:PoolD)(xs xb:Int):(midL p xs xb).length≤9:=by
 unfold midL
 have:=kidsUp_len (kidS (p.s xs.toNat)) (kidB (p.s xs.toNat)) 8
 split
 ·simp
 ·show(lowL _).length+1≤9
  unfold lowL
  omega
theorem subUp_len(p:PoolD)(s:SlotD):∀k,(subUp p s k).length≤9*k
 | 0=>Nat.le_refl _
 | k+1=>by
  have:=subUp_len p s k
  have:=midL_len p (kidS s k) (kidB s k)
  unfold subUp
  rw [List.length_append]
  omega
theorem treeL_len(p:PoolD)(rs rb:Int):(treeL p rs rb).length≤73:=by
 unfold treeL
 have:=subUp_len p (p.s rs.toNat) 8
 split
 ·simp
 ·show(subUp _ _ _).length+1≤73
  omega
def NodeAt(p:PoolD)(xs xb:Int):Prop:=Points p xs xb∧0<(p.s xs.toNat).kn∧¬Has p.hn p.h xs
def PageAt(p:PoolD)(xs xb:Int):Prop:=Points p xs xb∧(p.s xs.toNat).kn=0∧¬Has p.hn p.h xs
def LowOk(p:PoolD)(s:SlotD):Prop:=(∀i,i<8→Nil (kidS s i) (kidB s i)∨PageAt p (kidS s i) (kidB s i))∧∃i,i<8∧¬Nil (kidS s i) (kidB s i)
def MidOk(p:PoolD)(s:SlotD)(i:Nat):Prop:=Nil (kidS s i) (kidB s i)∨(NodeAt p (kidS s i) (kidB s i)∧LowOk p (p.s (kidS s i).toNat))
def slotsL(l:List (Int×Int)):List Int:=l.map Prod.fst
def TopOk(p:PoolD)(s:SlotD):Prop:=(∀i,i<8→MidOk p s i)∧∃i,i<8∧¬Nil (kidS s i) (kidB s i)
def TreeOk(p:PoolD)(rs rb:Int):Prop:=Nil rs rb∨(NodeAt p rs rb∧TopOk p (p.s rs.toNat)∧(slotsL (treeL p rs rb)).Nodup)
def Shape1(p:PoolD)(s:SlotD):Prop:=(∃i,i<8∧¬Nil (kidS s i) (kidB s i))∧∀i,i<8→Nil (kidS s i) (kidB s i)∨Page (p.s (kidS s i).toNat)
def Shape0(p:PoolD)(s:SlotD):Prop:=(∃i,i<8∧¬Nil (kidS s i) (kidB s i))∧∀i,i<8→Nil (kidS s i) (kidB s i)∨Shape1 p (p.s (kidS s i).toNat)
def Apart(p:PoolD)(l:List (Int×Int)):Prop:=l.Nodup∧∀x,x∈l→¬Has p.hn p.h x.1
def TreeOkI(p:PoolD)(rs rb:Int):Prop:=Nil rs rb∨(Points p rs rb∧Shape0 p (p.s rs.toNat)∧Apart p (treeL p rs rb))
theorem points_fits{p:PoolD}{xs xb:Int}(hR:Right p)(h:Points p xs xb):Fits p (p.s xs.toNat):=by
 obtain⟨h1,h2,h3,h4⟩:=h
 rcases hR.2.1 xs.toNat (by omega)with hf | hf
 ·have:=hf.1; omega
 ·exact hf
theorem fits_kn{p:PoolD}{s:SlotD}(h:Fits p s):s.kn=0∨s.kn=8:=by
 rcases h.2 with h | h
 ·exact Or.inl h.1
 ·exact Or.inr h.1
theorem points_kn{p:PoolD}{xs xb:Int}(hR:Right p)(h:Points p xs xb):(p.s xs.toNat).kn=0∨(p.s xs.toNat).kn=8:=fits_kn (points_fits hR h)
theorem kid_points{p:PoolD}{s:SlotD}(h:Fits p s){i:Nat}(hi:i<8)(hn:¬Nil (kidS s i) (kidB s i)):Points p (kidS s i) (kidB s i)∧kidB s i≤s.birth:=by
 rcases h.2 with h2 | h2
 ·exact absurd ⟨kidS_no h2.1 i,kidB_no h2.1 i⟩ hn
 ·rw [kidS_at h2.1 hi,kidB_at h2.1 hi] at hn ⊢
  rcases h2.2.2 i (by omega)with h3 | h3
  ·exact absurd h3 hn
  ·exact h3
theorem page_iff{p:PoolD}{xs xb:Int}(hR:Right p)(h:Points p xs xb):Page (p.s xs.toNat)↔(p.s xs.toNat).kn=0:=by
 have hf:=points_fits hR h
 constructor
 ·exact fun h=>h.2.1
 ·intro h0
  rcases hf.2 with h2 | h2
  ·exact⟨hf.1,h2⟩
  ·omega
theorem some_kid{s:SlotD}(h:s.kn=0∨s.kn=8)(he:∃i,i<8∧¬Nil (kidS s i) (kidB s i)):s.kn=8:=by
 rcases h with h | h
 ·obtain⟨i,_,hi⟩:=he
  exact absurd ⟨kidS_no h i,kidB_no h i⟩ hi
 ·exact h
theorem tree_points{p:PoolD}{rs rb:Int}(hR:Right p)(h:Points p rs rb):∀x,x∈treeL p rs rb→Points p x.1 x.2∧x.2≤rb:=by
 intro x hx
 unfold treeL at hx
 split at hx
 ·simp at hx
 ·rw [List.mem_cons,mem_subUp] at hx
  rcases hx with rfl | ⟨i,hi,hx⟩
  ·exact⟨h,by simp⟩
  ·have hf:=points_fits hR h
   have hbr:(p.s rs.toNat).birth=rb:=h.2.2.2
   obtain⟨hn,hx⟩:=mem_midL.1 hx
   have hk:=kid_points hf hi hn
   rcases hx with rfl | hx
   ·exact⟨hk.1,by rw [←hbr]; exact hk.2⟩
   ·obtain⟨j,hj,rfl,hn2⟩:=mem_kidsUp.1 hx
    have hf2:=points_fits hR hk.1
    have hk2:=kid_points hf2 hj hn2
    have e:(p.s (kidS (p.s rs.toNat) i).toNat).birth=kidB (p.s rs.toNat) i:=hk.1.2.2.2
    have:=hk.2
    have:=hk2.2
    exact⟨hk2.1,by show kidB _ j≤rb; omega⟩
theorem nodup_iff{p:PoolD}{l:List (Int×Int)}(h:∀x,x∈l→Points p x.1 x.2):(slotsL l).Nodup↔l.Nodup:=by
 unfold slotsL List.Nodup
 rw [List.pairwise_map]
 constructor
 ·exact fun hp=>hp.imp (fun hne e=>hne (by rw [e]))
 ·intro hp
  refine List.Pairwise.imp_of_mem ?_ hp
  intro a b ha hb hne e
  apply hne
  have h1:=(h a ha).2.2.2
  have h2:=(h b hb).2.2.2
  rw [e] at h1
  obtain⟨a1,a2⟩:=a
  obtain⟨b1,b2⟩:=b
  simp only [Prod.mk.injEq]
  exact⟨e,by simp only at h1 h2 e; rw [←h1,←h2]⟩
theorem tree_iff{p:PoolD}{rs rb:Int}(hR:Right p):TreeOkI p rs rb↔TreeOk p rs rb:=by
 by_cases hz:Nil rs rb
 ·exact⟨fun _=>Or.inl hz,fun _=>Or.inl hz⟩
 have hroot:(rs,rb)∈treeL p rs rb:=by unfold treeL; rw [if_neg hz]; simp
 have hkid:∀i,i<8→¬Nil (kidS (p.s rs.toNat) i) (kidB (p.s rs.toNat) i)→(kidS (p.s rs.toNat) i,kidB (p.s rs.toNat) i)∈treeL p rs rb:=fun i hi hn=>by
  unfold treeL
  rw [if_neg hz,List.mem_cons,mem_subUp]
  exact Or.inr ⟨i,hi,mem_midL.2 ⟨hn,Or.inl rfl⟩⟩
 have hlow:∀i,i<8→¬Nil (kidS (p.s rs.toNat) i) (kidB (p.s rs.toNat) i)→∀x,x∈lowL (p.s (kidS (p.s rs.toNat) i).toNat)→x∈treeL p rs rb:=fun i hi hn x hx=>by
  unfold treeL
  rw [if_neg hz,List.mem_cons,mem_subUp]
  exact Or.inr ⟨i,hi,mem_midL.2 ⟨hn,Or.inr hx⟩⟩
 constructor
 ·rintro(h | ⟨hP,⟨he,hS⟩,hA⟩)
  ·exact Or.inl h
  ·right
   have hf:=points_fits hR hP
   have hk8:=some_kid (fits_kn hf) he
   refine⟨⟨hP,by omega,hA.2 _ hroot⟩,⟨fun i hi=>?_,he⟩,(nodup_iff (fun x hx=>(tree_points hR hP x hx).1)).2 hA.1⟩
   by_cases hn:Nil (kidS (p.s rs.toNat) i) (kidB (p.s rs.toNat) i)
   ·exact Or.inl hn
   ·right
    have hk:=kid_points hf hi hn
    have hf2:=points_fits hR hk.1
    obtain⟨he2,hS2⟩:Shape1 p (p.s (kidS (p.s rs.toNat) i).toNat):=by
     rcases hS i hi with h | h
     ·exact absurd h hn
     ·exact h
    have hk82:=some_kid (fits_kn hf2) he2
    refine⟨⟨hk.1,by omega,hA.2 _ (hkid i hi hn)⟩,fun j hj=>?_,he2⟩
    by_cases hn2:Nil (kidS (p.s (kidS (p.s rs.toNat) i).toNat) j) (kidB (p.s (kidS (p.s rs.toNat) i).toNat) j)
    ·exact Or.inl hn2
    ·right
     have hk2:=kid_points hf2 hj hn2
     refine⟨hk2.1,?_,hA.2 _ (hlow i hi hn _ (mem_kidsUp.2 ⟨j,hj,rfl,hn2⟩))⟩
     rcases hS2 j hj with h | h
     ·exact absurd h hn2
     ·exact h.2.1
 ·rintro(h | ⟨hN,⟨hM,he⟩,hD⟩)
  ·exact Or.inl h
  ·right
   have hP:=hN.1
   have hf:=points_fits hR hP
   have held:∀x,x∈treeL p rs rb→¬Has p.hn p.h x.1:=fun x hx=>by
    unfold treeL at hx
    rw [if_neg hz,List.mem_cons,mem_subUp] at hx
    rcases hx with rfl | ⟨i,hi,hx⟩
    ·exact hN.2.2
    ·obtain⟨hn,hx⟩:=mem_midL.1 hx
     rcases hM i hi with h | ⟨h1,h2⟩
     ·exact absurd h hn
     ·rcases hx with rfl | hx
      ·exact h1.2.2
      ·obtain⟨j,hj,rfl,hn2⟩:=mem_kidsUp.1 hx
       rcases h2.1 j hj with h | h
       ·exact absurd h hn2
       ·exact h.2.2
   refine⟨hP,⟨he,fun i hi=>?_⟩,(nodup_iff (fun x hx=>(tree_points hR hP x hx).1)).1 hD,held⟩
   rcases hM i hi with h | ⟨h1,h2,h3⟩
   ·exact Or.inl h
   ·refine Or.inr ⟨h3,fun j hj=>?_⟩
    rcases h2 j hj with h | h
    ·exact Or.inl h
    ·exact Or.inr ((page_iff hR h.1).2 h.2.1)
end Go.Proofs.YtihplgckbhnohaaGreatDoor

namespace Go.Proofs.YtihplgckbhnohaaGreatDoor
open Go.RowKit
set_option linter.unusedVariables false
theorem hideT{P:Prop}(h:P):Hid P:=h
theorem start22(w:World)(a0 a1 x0 x1:Value)(t1 t2:TypeId) :
  Box2 ((w.alloc (.cells #[a0,a1] t1)).alloc (.cells #[x0,x1] t2)) w.heap.size a0 a1∧Box2 ((w.alloc (.cells #[a0,a1] t1)).alloc (.cells #[x0,x1] t2)) (w.heap.size+1) x0 x1∧
  Below w.heap.size w ((w.alloc (.cells #[a0,a1] t1)).alloc (.cells #[x0,x1] t2))∧((w.alloc (.cells #[a0,a1] t1)).alloc (.cells #[x0,x1] t2)).heap.size=w.heap.size+2:=by
 refine⟨(Box2.new w a0 a1 t1).below (below_alloc _ _),?_,below_next (below_alloc _ _) (below_alloc _ _),by simp⟩
 have:=Box2.new (w.alloc (.cells #[a0,a1] t1)) x0 x1 t2
 rw [World.size_alloc] at this
 exact this
set_option maxRecDepth 20000 in
set_option maxHeartbeats 1000000 in
theorem l02Node_any(v0 v1:Value)(lo hi:Nat)(p:PoolD)(xs xb:Int)(w:World)(h1:PoolAt w lo hi v0 v1 p) :
  Calls Tryz.prog 98 #[.agg #[v0,v1],.agg #[.int .i64 xs,.int .i64 xb]] w fun e w'=>BoolIs (NodeAt p xs xb) e∧Below w.heap.size w w':=by
 have Hp:=hideT h1
 obtain⟨a,c,a',c',rfl,rfl⟩:∃a c a' c',v0 = .slice a p.n c∧v1 = .slice a' p.hn c':=by
  obtain⟨⟨_,a,c,h1,_⟩,⟨_,a',c',h3,_⟩⟩:=h1
  exact⟨a,c,a',c',h1,h3⟩
 clear h1
 have hst:=start22 w (.slice a p.n c) (.slice a' p.hn c') (.int .i64 xs) (.int .i64 xb) 35 88
 go_enter Tryz.func98,Tryz.ntmps98
 go_wp2_with fail
 generalize (w.alloc (.cells #[.slice a p.n c,.slice a' p.hn c'] 35)).alloc (.cells #[.int .i64 xs,.int .i64 xb] 88)=W at hst ⊢
 obtain⟨hB,hX,hba,hz⟩:=hst
 refine(l01Points_any _ _ lo hi p xs xb _ (Hp.out.below hba)).mono ?_
 rintro e w1 ⟨⟨t,rfl,ht⟩,hb1⟩
 have HB1:=hideT (hB.below hb1)
 have HX1:=hideT (hX.below hb1)
 have hB1:=below_next hba hb1
 clear hB hX hba hb1
 by_cases hPt:Points p xs xb
 ·obtain rfl:t=true:=ht.2 hPt
  have HPt:=hideT hPt
  obtain⟨k,rfl⟩:=Int.eq_ofNat_of_zero_le hPt.2.1
  have hk:k<p.n:=by have:=hPt.2.2.1; omega
  have hk':(k:Int)<(p.n:Int):=by omega
  clear ht hPt
  obtain⟨b,off,ka,kc,rfl,hs⟩:=(Hp.out.1.below hB1).cells hk
  obtain⟨q0,q1,q2,_⟩:=hs
  obtain⟨⟨x0,x1⟩,⟨x2,x3⟩⟩:=HB1.out
  obtain⟨⟨y0,y1⟩,⟨y2,y3⟩⟩:=HX1.out
  by_cases hkn:0<(p.s k).kn
  ·have HK:=hideT hkn
   have f1:(0:Int)<((p.s k).kn:Int):=by first | omega | simp [hkn]
   clear hkn
   go_wp2_with fail
   refine(l01Has_any _ p.hn lo hi p.h _ _ (Hp.out.2.below hB1)).mono ?_
   rintro e w2 ⟨⟨t2,rfl,ht2⟩,rfl⟩
   have HT:=hideT ht2
   clear ht2 x0 x1 x2 x3 y0 y1 y2 y3 q0 q1 q2
   go_wp2
   go_ret
   refine⟨?_,hB1⟩
   by_cases hh:Has p.hn p.h (k:Int)
   ·obtain rfl:t2=true:=HT.out.2 hh
    exact BoolIs.no fun h=>h.2.2 hh
   ·obtain rfl:t2=false:=bool_no HT.out hh
    refine BoolIs.yes ⟨HPt.out,?_,hh⟩
    rw [Int.toNat_natCast]
    exact HK.out
  ·have HK:=hideT hkn
   have f1:¬(0:Int)<((p.s k).kn:Int):=by first | omega | (simp; omega)
   clear hkn
   go_wp2
   go_ret
   refine⟨BoolIs.no fun h=>?_,hB1⟩
   have:=h.2.1
   rw [Int.toNat_natCast] at this
   exact HK.out this
 ·obtain rfl:t=false:=bool_no ht hPt
  have HPt:=hideT hPt
  clear ht hPt
  go_wp2
  go_ret
  exact⟨BoolIs.no fun h=>HPt.out h.1,hB1⟩
set_option maxRecDepth 20000 in
set_option maxHeartbeats 1000000 in
theorem l02Page_any(v0 v1:Value)(lo hi:Nat)(p:PoolD)(xs xb:Int)(w:World)(h1:PoolAt w lo hi v0 v1 p) :
  Calls Tryz.prog 99 #[.agg #[v0,v1],.agg #[.int .i64 xs,.int .i64 xb]] w fun e w'=>BoolIs (PageAt p xs xb) e∧Below w.heap.size w w':=by
 have Hp:=hideT h1
 obtain⟨a,c,a',c',rfl,rfl⟩:∃a c a' c',v0 = .slice a p.n c∧v1 = .slice a' p.hn c':=by
  obtain⟨⟨_,a,c,h1,_⟩,⟨_,a',c',h3,_⟩⟩:=h1
  exact⟨a,c,a',c',h1,h3⟩
 clear h1
 have hst:=start22 w (.slice a p.n c) (.slice a' p.hn c') (.int .i64 xs) (.int .i64 xb) 35 88
 go_enter Tryz.func99,Tryz.ntmps99
 go_wp2_with fail
 generalize (w.alloc (.cells #[.slice a p.n c,.slice a' p.hn c'] 35)).alloc (.cells #[.int .i64 xs,.int .i64 xb] 88)=W at hst ⊢
 obtain⟨hB,hX,hba,hz⟩:=hst
 refine(l01Points_any _ _ lo hi p xs xb _ (Hp.out.below hba)).mono ?_
 rintro e w1 ⟨⟨t,rfl,ht⟩,hb1⟩
 have HB1:=hideT (hB.below hb1)
 have HX1:=hideT (hX.below hb1)
 have hB1:=below_next hba hb1
 clear hB hX hba hb1
 by_cases hPt:Points p xs xb
 ·obtain rfl:t=true:=ht.2 hPt
  have HPt:=hideT hPt
  obtain⟨k,rfl⟩:=Int.eq_ofNat_of_zero_le hPt.2.1
  have hk:k<p.n:=by have:=hPt.2.2.1; omega
  have hk':(k:Int)<(p.n:Int):=by omega
  clear ht hPt
  obtain⟨b,off,ka,kc,rfl,hs⟩:=(Hp.out.1.below hB1).cells hk
  obtain⟨q0,q1,q2,_⟩:=hs
  obtain⟨⟨x0,x1⟩,⟨x2,x3⟩⟩:=HB1.out
  obtain⟨⟨y0,y1⟩,⟨y2,y3⟩⟩:=HX1.out
  by_cases hkn:(p.s k).kn=0
  ·have HK:=hideT hkn
   have f1:(((p.s k).kn:Int) == 0)=true:=by first | omega | simp [hkn]
   clear hkn
   go_wp2_with fail
   refine(l01Has_any _ p.hn lo hi p.h _ _ (Hp.out.2.below hB1)).mono ?_
   rintro e w2 ⟨⟨t2,rfl,ht2⟩,rfl⟩
   have HT:=hideT ht2
   clear ht2 x0 x1 x2 x3 y0 y1 y2 y3 q0 q1 q2
   go_wp2
   go_ret
   refine⟨?_,hB1⟩
   by_cases hh:Has p.hn p.h (k:Int)
   ·obtain rfl:t2=true:=HT.out.2 hh
    exact BoolIs.no fun h=>h.2.2 hh
   ·obtain rfl:t2=false:=bool_no HT.out hh
    refine BoolIs.yes ⟨HPt.out,?_,hh⟩
    rw [Int.toNat_natCast]
    exact HK.out
  ·have HK:=hideT hkn
   have f1:(((p.s k).kn:Int) == 0)=false:=by first | omega | (simp; omega)
   clear hkn
   go_wp2
   go_ret
   refine⟨BoolIs.no fun h=>?_,hB1⟩
   have:=h.2.1
   rw [Int.toNat_natCast] at this
   exact HK.out this
 ·obtain rfl:t=false:=bool_no ht hPt
  have HPt:=hideT hPt
  clear ht hPt
  go_wp2
  go_ret
  exact⟨BoolIs.no fun h=>HPt.out h.1,hB1⟩
end Go.Proofs.YtihplgckbhnohaaGreatDoor

namespace Go.Proofs.YtihplgckbhnohaaGreatDoor
open Go.RowKit
set_option linter.unusedVariables false
def StepShape(p:PoolD)(Low:SlotD→Prop)(s:SlotD):Prop:=(∃i,i<8∧¬Nil (kidS s i) (kidB s i))∧∀i,i<8→Nil (kidS s i) (kidB s i)∨Low (p.s (kidS s i).toNat)
def ShapeAt(p:PoolD)(L:Int)(Low:SlotD→Prop):Prop:=∀(v:Value) (lo hi:Nat) (xs xb:Int) (w:World),SlotsAt w lo hi v p.n p.s→Points p xs xb→
 Calls Tryz.prog 158 #[v,.agg #[.int .i64 xs,.int .i64 xb],.int .i64 L] w fun e w'=>BoolIs (Low (p.s xs.toNat)) e∧Below w.heap.size w w'
theorem zero_kids(s:SlotD):eq16 (kidCell s) (fun _=>0)=true↔¬∃i,i<8∧¬Nil (kidS s i) (kidB s i):=by
 rw [eq16_iff]
 constructor
 ·rintro h ⟨i,hi,hn⟩
  exact hn (h i hi)
 ·intro h i hi
  by_cases hn:Nil (kidS s i) (kidB s i)
  ·exact hn
  ·exact absurd ⟨i,hi,hn⟩ h
set_option maxRecDepth 20000 in
set_option maxHeartbeats 1000000 in
theorem shape2_any(p:PoolD):ShapeAt p 2 Page:=by
 intro v lo hi xs xb w hs hP
 have Hs:=hideT hs
 obtain⟨_,a,c,rfl,_⟩:=id hs
 obtain⟨k,rfl⟩:=Int.eq_ofNat_of_zero_le hP.2.1
 have hk:k<p.n:=by have:=hP.2.2.1; omega
 have hk':(k:Int)<(p.n:Int):=by omega
 have ha:=below_alloc w (.cells #[.int .i64 (k:Int),.int .i64 xb] 88)
 obtain⟨⟨x0,x1⟩,⟨x2,x3⟩⟩:=Box2.new w (.int .i64 (k:Int)) (.int .i64 xb) 88
 obtain⟨b,off,ka,kc,rfl,hsc⟩:=(Hs.out.below ha).cells hk
 have HC:=hideT hsc
 obtain⟨q0,q1,q2,_⟩:=hsc
 clear hs hP
 go_enter Tryz.func158,Tryz.ntmps158
 go_wp2_with fail
 have ha2:=below_alloc (w.alloc (.cells #[.int .i64 (k:Int),.int .i64 xb] 88)) (.cells #[.int .i64 (p.s k).birth,.slice ka (p.s k).kn kc,.string (p.s k).data] 66)
 refine(isPage_any _ _ _ lo hi (p.s k) _ (HC.out.slot.below ha2)).mono ?_
 rintro e w1 ⟨⟨t,rfl,ht⟩,hb1⟩
 have hB:=below_next (below_next ha ha2) hb1
 have HT:=hideT ht
 clear ht hb1
 go_wp2
 go_ret
 refine⟨⟨t,rfl,?_⟩,hB⟩
 rw [Int.toNat_natCast]
 exact HT.out
set_option maxRecDepth 20000 in
set_option maxHeartbeats 2000000 in
theorem shape_step(p:PoolD)(L:Int)(Low:SlotD→Prop)(hR:Right p)(hL:0≤L∧L<2)(hlow:ShapeAt p (L+1) Low):ShapeAt p L (StepShape p Low):=by
 intro v lo hi xs xb w hs hP
 have Hlow:=hideT hlow
 have HR:=hideT hR
 have Hs:=hideT hs
 have HP:=hideT hP
 have Hf:=hideT (points_fits hR hP)
 obtain⟨_,a,c,rfl,_⟩:=id hs
 obtain⟨k,rfl⟩:=Int.eq_ofNat_of_zero_le hP.2.1
 rw [Int.toNat_natCast] at Hf
 have hk:k<p.n:=by have:=hP.2.2.1; omega
 have hk':(k:Int)<(p.n:Int):=by omega
 have hL2:(L == 2)=false:=by simp; omega
 have ha:=below_alloc w (.cells #[.int .i64 (k:Int),.int .i64 xb] 88)
 obtain⟨⟨x0,x1⟩,⟨x2,x3⟩⟩:=Box2.new w (.int .i64 (k:Int)) (.int .i64 xb) 88
 obtain⟨b,off,ka,kc,rfl,hsc⟩:=(Hs.out.below ha).cells hk
 have HC:=hideT hsc
 obtain⟨q0,q1,q2,_⟩:=hsc
 clear hs hP hlow hR
 go_enter Tryz.func158,Tryz.ntmps158
 go_wp2_with fail
 have ha2:=below_alloc (w.alloc (.cells #[.int .i64 (k:Int),.int .i64 xb] 88)) (.cells #[.int .i64 (p.s k).birth,.slice ka (p.s k).kn kc,.string (p.s k).data] 66)
 refine(kidsOf_any _ _ _ lo hi (p.s k) _ (HC.out.slot.below ha2) (fits_kn Hf.out)).mono ?_
 rintro e w1 ⟨rfl,hb1⟩
 have hB:=below_next (below_next ha ha2) hb1
 clear hb1 ha ha2 x0 x1 x2 x3 q0 q1 q2 HC
 have Hi16:Hid ((Tryz.prog.info? 218).map (·.size)=some (kidsA (p.s k)).size):=by
  show _=_
  rw [kidsA,arr16_size]; exact infoArr
 have Hz16:Hid ((#[Value.int .i64 0,Value.int .i64 0,Value.int .i64 0,Value.int .i64 0,Value.int .i64 0,Value.int .i64 0,Value.int .i64 0,Value.int .i64 0,Value.int .i64 0,Value.int .i64 0,Value.int .i64 0,Value.int .i64 0,Value.int .i64 0,Value.int .i64 0,Value.int .i64 0,Value.int .i64 0]:Array Value)=arr16 (fun _=>0)):=rfl
 have heql:∀w,(binOp .eql 218 (.agg (kidsA (p.s k))) (.agg #[Value.int .i64 0,Value.int .i64 0,Value.int .i64 0,Value.int .i64 0,Value.int .i64 0,Value.int .i64 0,Value.int .i64 0,Value.int .i64 0,Value.int .i64 0,Value.int .i64 0,Value.int .i64 0,Value.int .i64 0,Value.int .i64 0,Value.int .i64 0,Value.int .i64 0,Value.int .i64 0])).run Tryz.prog w = .ok (.bool (eq16 (kidCell (p.s k)) (fun _=>0))) w:=fun w=>eql_arr (kidCell (p.s k)) (fun _=>0) w
 have hblk:(w1.alloc (.cells (kidsA (p.s k)) 218)).heap[w1.heap.size]?=some (.cells (kidsA (p.s k)) 218 (0,0)):=heap_alloc_last _ _
 have HK:=hideT hblk
 have hB2:=below_next hB (below_alloc w1 (.cells (kidsA (p.s k)) 218))
 clear hblk hB
 by_cases hz:eq16 (kidCell (p.s k)) (fun _=>0)=true
 ·have HZ:=hideT ((zero_kids _).1 hz)
  go_wp2_with (first
   | (refine wpList_store_row rfl 218 (.tmp 8) (.tmp 20) rfl w1.heap.size (kidsA (p.s k)) rfl rfl 218 #[Value.int .i64 0,Value.int .i64 0,Value.int .i64 0,Value.int .i64 0,Value.int .i64 0,Value.int .i64 0,Value.int .i64 0,Value.int .i64 0,Value.int .i64 0,Value.int .i64 0,Value.int .i64 0,Value.int .i64 0,Value.int .i64 0,Value.int .i64 0,Value.int .i64 0,Value.int .i64 0] (heap_alloc_last _ _) Hi16.out (by rw [kidsA,arr16_size]; rfl) (arr16_one _) ?_; rw [World.setRow_alloc_new])
   | (refine wpList_load_row rfl 218 (.tmp 8) rfl w1.heap.size rfl 218 (kidsA (p.s k)) (0,0) _ HK.out arrU rfl Hi16.out ?_))
  go_ret
  exact⟨BoolIs.no fun h=>HZ.out (by rw [Int.toNat_natCast] at h; exact h.1),hB2⟩
 ·have HZ:Hid (∃i,i<8∧¬Nil (kidS (p.s k) i) (kidB (p.s k) i)):=by
   by_cases h:∃i,i<8∧¬Nil (kidS (p.s k) i) (kidB (p.s k) i)
   ·exact h
   ·exact absurd ((zero_kids _).2 h) hz
  have hz':eq16 (kidCell (p.s k)) (fun _=>0)=false:=by simpa using hz
  clear hz
  go_wp2_with (first
   | (refine wpList_store_row rfl 218 (.tmp 8) (.tmp 20) rfl w1.heap.size (kidsA (p.s k)) rfl rfl 218 #[Value.int .i64 0,Value.int .i64 0,Value.int .i64 0,Value.int .i64 0,Value.int .i64 0,Value.int .i64 0,Value.int .i64 0,Value.int .i64 0,Value.int .i64 0,Value.int .i64 0,Value.int .i64 0,Value.int .i64 0,Value.int .i64 0,Value.int .i64 0,Value.int .i64 0,Value.int .i64 0] (heap_alloc_last _ _) Hi16.out (by rw [kidsA,arr16_size]; rfl) (arr16_one _) ?_; rw [World.setRow_alloc_new])
   | (refine wpList_load_row rfl 218 (.tmp 8) rfl w1.heap.size rfl 218 (kidsA (p.s k)) (0,0) _ HK.out arrU rfl Hi16.out ?_))
  have hz1:w1.heap.size<(w1.alloc (.cells (kidsA (p.s k)) 218)).heap.size:=by rw [World.size_alloc]; exact Nat.lt_succ_self _
  go_loopw [24] (fun i wr=>∃j:Nat,j≤8∧i = .int .i64 j∧(∀m,m<j→Nil (kidS (p.s k) m) (kidB (p.s k) m)∨Low (p.s (kidS (p.s k) m).toNat))∧wr.heap[w1.heap.size]?=some (.cells (kidsA (p.s k)) 218 (0,0))∧Below w.heap.size w wr) (fun i _=>8 - (intOf i).toNat)
  case atStart=>exact⟨0,Nat.zero_le _,rfl,fun m hm=>absurd hm (Nat.not_lt_zero _),HK.out,hB2⟩
  case round=>
   obtain⟨j,hj,rfl,hall,hK,hb⟩:=hrel
   have Hall:=hideT hall
   have HKr:=hideT hK
   have hszK:w1.heap.size<wr.heap.size:=(Array.getElem?_eq_some_iff.1 hK).1
   clear hall hK
   by_cases hlt:j<8
   ·have hlt':(j:Int)<8:=by omega
    obtain⟨y0,y1⟩:=cell_of_block (i:=j*2) HKr.out (arr16_at (kidCell (p.s k)) (by omega))
    obtain⟨y2,y3⟩:=cell_of_block (i:=j*2+1) HKr.out (arr16_at (kidCell (p.s k)) (by omega))
    by_cases hn:Nil (kidS (p.s k) j) (kidB (p.s k) j)
    ·have HN:=hideT hn
     rw [show kidCell (p.s k) (j*2)=0 from hn.1] at y0
     rw [show kidCell (p.s k) (j*2+1)=0 from hn.2] at y2
     clear hn
     go_wp2
     go_roundw
     case rel=>exact⟨j+1,by omega,by go_num,relNext (n:=8) hlt Hall.out (Or.inl HN.out),HKr.out,hb⟩
     case measure=>simp [intOf]; omega
    ·have HN:=hideT hn
     have hkp:=hideT (kid_points Hf.out hlt hn).1
     have e0:(kidCell (p.s k) (j*2) == 0)=false∨(kidCell (p.s k) (j*2) == 0)=true∧(kidCell (p.s k) (j*2+1) == 0)=false:=by
      by_cases h:kidCell (p.s k) (j*2)=0
      ·right
       refine⟨by simp [h],?_⟩
       have:kidCell (p.s k) (j*2+1)≠0:=fun h'=>hn ⟨h,h'⟩
       simp [this]
      ·left; simp [h]
     clear hn
     rcases e0 with e0 | ⟨e0,e1⟩
     all_goals
      go_wp2_with fail
      refine(Hlow.out _ lo hi (kidCell (p.s k) (j*2)) (kidCell (p.s k) (j*2+1)) _ (Hs.out.below hb) hkp.out).mono ?_
      rintro e w2 ⟨⟨t,rfl,ht⟩,hb2⟩
      have HT:=hideT ht
      have HK2:=hideT ((hb2.block _ hszK).trans HKr.out)
      have hbn:=below_next hb hb2
      clear ht hb2 y0 y1 y2 y3
      cases t
      ·go_wp2
       go_ret
       refine⟨BoolIs.no fun h=>?_,hbn⟩
       rw [Int.toNat_natCast] at h
       rcases h.2 j hlt with h1 | h1
       ·exact HN.out h1
       ·exact absurd (HT.out.2 h1) (by simp)
      ·go_wp2
       go_roundw
       case rel=>exact⟨j+1,by omega,by go_num,relNext (n:=8) hlt Hall.out (Or.inr (HT.out.1 trivial)),HK2.out,hbn⟩
       case measure=>simp [intOf]; omega
   ·obtain rfl:j=8:=by omega
    go_wp2
    go_ret
    exact⟨BoolIs.yes (by rw [Int.toNat_natCast]; exact⟨HZ.out,Hall.out⟩),hb⟩
theorem shape1_any(p:PoolD)(hR:Right p):ShapeAt p 1 (Shape1 p):=shape_step p 1 Page hR (by omega) (shape2_any p)
theorem shape0_any(p:PoolD)(hR:Right p):ShapeAt p 0 (Shape0 p):=shape_step p 0 (Shape1 p) hR (by omega) (shape1_any p hR)
end Go.Proofs.YtihplgckbhnohaaGreatDoor

namespace Go.Proofs.YtihplgckbhnohaaGreatDoor
open Go.RowKit
set_option linter.unusedVariables false
def pcl:List (Int×Int)→List Value
 | []=>[]
 | x :: l=>.int .i64 x.1 :: .int .i64 x.2 :: pcl l
theorem pcl_len:∀l,(pcl l).length=l.length*2
 | []=>rfl
 | x :: l=>by simp [pcl,pcl_len l]; omega
theorem pcl_append:∀l m,pcl (l ++ m)=pcl l ++ pcl m
 | [],m=>rfl
 | x :: l,m=>by simp [pcl,pcl_append l m]
theorem pcl_one:∀l,∀u∈pcl l,u.oneCell'=true
 | [],u,hu=>by simp [pcl] at hu
 | x :: l,u,hu=>by
  simp only [pcl,List.mem_cons] at hu
  rcases hu with rfl | rfl | hu
  ·rfl
  ·rfl
  ·exact pcl_one l u hu
theorem pcl_get:∀(l:List (Int×Int)) i,i<l.length→(pcl l)[i*2]?=some (.int .i64 (l.getD i (0,0)).1)∧(pcl l)[i*2+1]?=some (.int .i64 (l.getD i (0,0)).2):=by
 intro l
 induction l with
 | nil=>intro i hi; simp at hi
 | cons x l ih=>
  intro i hi
  cases i with
  | zero=>exact⟨rfl,rfl⟩
  | succ i=>
   have:=ih i (by simpa using hi)
   rw [show(i+1)*2=i*2+1+1 by omega]
   simpa [pcl] using this
def fstL(l:List (Int×Int))(i:Nat):Int:=(l.getD i (0,0)).1
def sndL(l:List (Int×Int))(i:Nat):Int:=(l.getD i (0,0)).2
theorem infoPtrL:(Tryz.prog.info? 88).map (fun i=>(i.zero,i.size,i.bytes))=some (some (.agg #[.int .i64 0,.int .i64 0]),2,16):=by kernel_rfl
theorem grownL{w w1:World}(h:Below w.heap.size w w1)(row:Option Nat):w.grownBy w1 row:=⟨h.os,h.tape,h.output,h.size,fun k hk _=>h.block k hk⟩
def RowL(w:World)(base:Nat)(v:Value)(l:List (Int×Int)):Prop:=w.ownsRow base 88 2 v l.length (pcl l)
theorem RowL.below{w w1:World}{base:Nat}{v:Value}{l:List (Int×Int)}(h:RowL w base v l)(hb:Below w.heap.size w w1):RowL w1 base v l:=
 h.kept (grownL hb none) (by cases v.ownBlock <;> simp)
theorem RowL.turned{w w1:World}{base:Nat}{v:Value}{l:List (Int×Int)}{row:Option Nat}(h:RowL w base v l)(hg:w.grownBy w1 row)(hne:∀q,v.ownBlock=some q→row≠some q):RowL w1 base v l:=
 h.kept hg (by
  cases hv:v.ownBlock with
  | none=>simp
  | some q=>exact Or.inr (fun e=>hne q hv e.symm))
theorem RowL.nil(w:World)(base:Nat):RowL w base (.slice none 0 0) []:=World.ownsRow_nil _ _ _ _
theorem RowL.mono{w:World}{base base':Nat}{v:Value}{l:List (Int×Int)}(h:RowL w base v l)(hb:base'≤base):RowL w base' v l:=by
 refine⟨h.1,h.2.imp id ?_⟩
 rintro⟨g,cap,cur,e,h1,h2⟩
 exact⟨g,cap,cur,e,Nat.le_trans hb h1,h2⟩
theorem RowL.put{w:World}{base b o:Nat}{v:Value}{l:List (Int×Int)}(h:RowL w base v l)(hb:b<base)(u:Value):RowL (w.setCell ⟨b,o,none⟩ u) base v l:=by
 refine⟨h.1,h.2.imp id ?_⟩
 rintro⟨g,cap,cur,e,h1,h2,h3⟩
 exact⟨g,cap,cur,e,h1,(Below.heap_setCell _ _ _ _ (fun e=>by have:g=b:=e; omega)).trans h2,h3⟩
theorem RowL.lt{w:World}{base:Nat}{v:Value}{l:List (Int×Int)}(h:RowL w base v l){q:Nat}(hq:v.ownBlock=some q):base≤q∧q<w.heap.size:=by
 rcases h.2 with⟨rfl,_⟩ | ⟨g,cap,cur,rfl,hb,hg,_⟩
 ·simp [Value.ownBlock] at hq
 ·simp only [Value.ownBlock,Option.some.injEq] at hq
  subst hq
  exact⟨hb,(Array.getElem?_eq_some_iff.1 hg).1⟩
theorem RowL.own{w:World}{base:Nat}{v:Value}{l:List (Int×Int)}(h:RowL w base v l)(hm:l.length≤maxLen):∃b,PtrsOwn w b v l.length (fstL l) (sndL l)∧(0<l.length→v.ownBlock=some b∧base≤b∧b<w.heap.size):=by
 by_cases h0:0<l.length
 ·obtain⟨g,cap,rfl,hcp,hb,hlt,hcell⟩:=owns_cell h h0
  refine⟨g,⟨hm,_,cap,rfl,hcp,fun _=>⟨0,rfl,fun i hi=>?_⟩⟩,fun _=>⟨rfl,hb,hlt⟩⟩
  rw [Nat.zero_add]
  exact⟨hcell _ _ (pcl_get l i hi).1,hcell _ _ (pcl_get l i hi).2⟩
 ·obtain⟨a,cap,rfl,hcp⟩:=owns_form h
  exact⟨0,⟨hm,a,cap,rfl,hcp,fun h=>absurd h h0⟩,fun h=>absurd h h0⟩
structure Two (w:World) (lo hi:Nat) (v v':Value) (l l':List (Int×Int)) (b b':Nat):Prop where
 one:PtrsOwn w b v l.length (fstL l) (sndL l)
 two:PtrsOwn w b' v' l'.length (fstL l') (sndL l')
 in1:0<l.length→lo≤b∧b<hi
 in2:0<l'.length→lo≤b'∧b'<hi
 apart:0<l.length→0<l'.length→b≠b'
theorem Two.of{w:World}{lo:Nat}{v v':Value}{l l':List (Int×Int)}(h:RowL w lo v l)(h':RowL w lo v' l')(hm:l.length≤maxLen)(hm':l'.length≤maxLen)(ha:∀q,v.ownBlock=some q→v'.ownBlock≠some q):∃b b',Two w lo w.heap.size v v' l l' b b':=by
 obtain⟨b,h1,h2⟩:=h.own hm
 obtain⟨b',h3,h4⟩:=h'.own hm'
 refine⟨b,b',h1,h3,fun h0=>(h2 h0).2,fun h0=>(h4 h0).2,fun h0 h0' e=>?_⟩
 subst e
 exact ha _ (h2 h0).1 (h4 h0').1
theorem Two.below{w w':World}{lo hi:Nat}{v v':Value}{l l':List (Int×Int)}{b b':Nat}(h:Two w lo hi v v' l l' b b')(t:Below w.heap.size w w'):Two w' lo hi v v' l l' b b':=⟨h.one.below t,h.two.below t,h.in1,h.in2,h.apart⟩
theorem Two.turned{S:Nat→Prop}{w w':World}{lo hi:Nat}{v v':Value}{l l':List (Int×Int)}{b b':Nat}(h:Two w lo hi v v' l l' b b')(t:Turned S w w')(hs:∀k,S k→k<lo∨hi≤k):Two w' lo hi v v' l l' b b':=
 ⟨h.one.turned t (fun h0 hx=>by have:=h.in1 h0; have:=hs _ hx; omega),h.two.turned t (fun h0 hx=>by have:=h.in2 h0; have:=hs _ hx; omega),h.in1,h.in2,h.apart⟩
end Go.Proofs.YtihplgckbhnohaaGreatDoor
