/- What impl.isPtr answers. -/
import Derived.Test.YtmgeglgboadfiaaGreatDoorP4
import Derived.Deep.RegionHeld3
import Derived.Deep.QuietTactic
import Derived.BigQuiet
import Derived.Test.YtmgeglgboadfiaaGreatDoorP2
import Derived.Test.YtmgeglgboadfiaaGreatDoorP1
import Derived.Deep.RegionWith
namespace Go.Proofs.YtmgeglgboadfiaaGreatDoor
open Go.RowKit
set_option linter.unusedVariables false
theorem PtrOf.some(n:Nat)(f:Nat→SlotD)(x:Int):∃ps pb,PtrOf n f x ps pb:=by
 by_cases h:0≤x∧x<n∧¬Free (f x.toNat)
 ·exact⟨x,(f x.toNat).birth,Or.inl ⟨h.1,h.2.1,h.2.2,rfl,rfl⟩⟩
 ·exact⟨0,0,Or.inr ⟨h,rfl,rfl⟩⟩
set_option maxRecDepth 20000 in
set_option maxHeartbeats 1000000 in
theorem isPtr_any(v:Value)(n lo hi:Nat)(f:Nat→SlotD)(xs xb:Int)(w:World)(h1:SlotsAt w lo hi v n f) :
  Calls Tryz.prog 191 #[v,.agg #[.int .i64 xs,.int .i64 xb]] w fun e w'=>BoolIs (¬PtrEq xs xb 0 0∧PtrOf n f xs xs xb) e∧Below w.heap.size w w':=by
 have Hi:Hid (SlotsAt w lo hi v n f):=h1
 obtain⟨m1,a,c,rfl,mc,g1⟩:=h1
 clear g1
 have ha:=below_alloc w (.cells #[.int .i64 xs,.int .i64 xb] 61)
 have Hx:Hid (Box2 (w.alloc (.cells #[.int .i64 xs,.int .i64 xb] 61)) w.heap.size (.int .i64 xs) (.int .i64 xb)):=Box2.new _ _ _ _
 by_cases hz:xs=0∧xb=0
 ·obtain⟨rfl,rfl⟩:=hz
  go_enter Tryz.func191,Tryz.ntmps191
  go_wp2_with fail
  go_quiet (fail)
  go_wp2
  go_ret
  exact⟨BoolIs.no fun h=>h.1 ⟨rfl,rfl⟩,below_drewN ha _⟩
 ·have HZ:Hid (¬PtrEq xs xb 0 0):=hz
  have e0:(xs == 0)=false∨(xs == 0)=true∧(xb == 0)=false:=by
   by_cases h:xs=0
   ·right
    refine⟨by simp [h],?_⟩
    have:xb≠0:=fun h'=>hz ⟨h,h'⟩
    simp [this]
   ·left; simp [h]
  clear hz
  obtain⟨ps0,pb0,h0⟩:=PtrOf.some n f xs
  have H0:Hid (PtrOf n f xs ps0 pb0):=h0
  clear h0
  by_cases hq:xs=ps0∧xb=pb0
  ·obtain⟨rfl,rfl⟩:=hq
   rcases e0 with e0 | ⟨e0,e1⟩
   all_goals
    go_enter Tryz.func191,Tryz.ntmps191
    go_wp2_with fail
    go_region_held3 (fun w'=>w'.cell? ⟨w.heap.size,0,none⟩=some (.int .i64 xs)∧w'.cell? ⟨w.heap.size,1,none⟩=some (.int .i64 xb)) (go_keep)
     (first | (go_at_call 216; refine(ptrOf_any _ n lo hi f _ _ ?_).mono ?_; (exact(Hi.out.below ha).below ((Below.refl _ _).drew)); rintro e w1 ⟨⟨ps,pb,rfl,hp⟩,hb1⟩; obtain⟨rfl,rfl⟩:=H0.out.uniq hp; clear hp; have hbb:=below_undrew hb1; have z0:=(Hx.out.below hbb).1.1; have z1:=(Hx.out.below hbb).2.1))
    have hbn:=below_next ha hbb
    clear hb1 hbb z0 z1
    go_wp2
    go_ret
    exact⟨BoolIs.yes ⟨HZ.out,H0.out⟩,hbn⟩
  ·have HQ:Hid (¬(xs=ps0∧xb=pb0)):=hq
   have e4:(xs == ps0)=false∨(xs == ps0)=true∧(xb == pb0)=false:=by
    by_cases h:xs=ps0
    ·right
     refine⟨by simp [h],?_⟩
     have:xb≠pb0:=fun h'=>hq ⟨h,h'⟩
     simp [this]
    ·left; simp [h]
   clear hq
   rcases e0 with e0 | ⟨e0,e1⟩
   all_goals
    rcases e4 with e4 | ⟨e4,e5⟩
    all_goals
     go_enter Tryz.func191,Tryz.ntmps191
     go_wp2_with fail
     go_region_held3 (fun w'=>w'.cell? ⟨w.heap.size,0,none⟩=some (.int .i64 xs)∧w'.cell? ⟨w.heap.size,1,none⟩=some (.int .i64 xb)) (go_keep)
      (first | (go_at_call 216; refine(ptrOf_any _ n lo hi f _ _ ?_).mono ?_; (exact(Hi.out.below ha).below ((Below.refl _ _).drew)); rintro e w1 ⟨⟨ps,pb,rfl,hp⟩,hb1⟩; obtain⟨rfl,rfl⟩:=H0.out.uniq hp; clear hp; have hbb:=below_undrew hb1; have z0:=(Hx.out.below hbb).1.1; have z1:=(Hx.out.below hbb).2.1))
     have hbn:=below_next ha hbb
     clear hb1 hbb z0 z1
     go_wp2
     go_ret
     refine⟨BoolIs.no fun h=>?_,hbn⟩
     obtain⟨q0,q1⟩:=h.2.uniq H0.out
     exact HQ.out ⟨q0,q1⟩
theorem isPtr_iff{p:PoolD}{xs xb:Int}(hR:Right p):(¬PtrEq xs xb 0 0∧PtrOf p.n p.s xs xs xb)↔Points p xs xb:=by
 constructor
 ·rintro⟨h,h1 | ⟨_,h2,h3⟩⟩
  ·obtain⟨a,b,c,_,e⟩:=h1
   have:=fits_birth (hR.2.1 xs.toNat (by omega)) c
   exact⟨by omega,a,b,e.symm⟩
  ·exact absurd ⟨h2,h3⟩ h
 ·rintro⟨a,b,c,d⟩
  refine⟨fun h=>by have:=h.2; omega,Or.inl ⟨b,c,fun hf=>?_,rfl,d.symm⟩⟩
  have:=free_birth hf
  omega
def Nil(xs xb:Int):Prop:=xs=0∧xb=0
instance (xs xb:Int):Decidable (Nil xs xb):=inferInstanceAs (Decidable (xs=0∧xb=0))
def one(xs xb:Int):List (Int×Int):=if Nil xs xb then [] else [(xs,xb)]
def kidsUp(ks kb:Nat→Int):Nat→List (Int×Int)
 | 0=>[]
 | k+1=>kidsUp ks kb k ++ one (ks k) (kb k)
def kidS(s:SlotD)(i:Nat):Int:=kidCell s (i*2)
def kidB(s:SlotD)(i:Nat):Int:=kidCell s (i*2+1)
def lowL(s:SlotD):List (Int×Int):=kidsUp (kidS s) (kidB s) 8
def midL(p:PoolD)(xs xb:Int):List (Int×Int):=if Nil xs xb then [] else(xs,xb) :: lowL (p.s xs.toNat)
def subUp(p:PoolD)(s:SlotD):Nat→List (Int×Int)
 | 0=>[]
 | k+1=>subUp p s k ++ midL p (kidS s k) (kidB s k)
def treeL(p:PoolD)(rs rb:Int):List (Int×Int):=if Nil rs rb then [] else(rs,rb) :: subUp p (p.s rs.toNat) 8
theorem kidS_at{s:SlotD}(h:s.kn=8){i:Nat}(hi:i<8):kidS s i=s.ks i:=by
 unfold kidS kidCell
 rw [show i*2 / 2=i by omega,if_pos (by omega),if_pos (by omega)]
theorem kidB_at{s:SlotD}(h:s.kn=8){i:Nat}(hi:i<8):kidB s i=s.kb i:=by
 unfold kidB kidCell
 rw [show(i*2+1) / 2=i by omega,if_pos (by omega),if_neg (by omega)]
theorem kidS_no{s:SlotD}(h:s.kn=0)(i:Nat):kidS s i=0:=by
 unfold kidS kidCell
 rw [if_neg (by omega)]
theorem kidB_no{s:SlotD}(h:s.kn=0)(i:Nat):kidB s i=0:=by
 unfold kidB kidCell
 rw [if_neg (by omega)]
theorem mem_one{xs xb:Int}{x:Int×Int}:x∈one xs xb↔x=(xs,xb)∧¬Nil xs xb:=by
 unfold one
 by_cases h:Nil xs xb
 ·rw [if_pos h]; simp [h]
 ·rw [if_neg h]; simp [h]
theorem mem_kidsUp{ks kb:Nat→Int}{x:Int×Int}:∀{k:Nat},x∈kidsUp ks kb k↔∃i,i<k∧x=(ks i,kb i)∧¬Nil (ks i) (kb i)
 | 0=>by simp [kidsUp]
 | k+1=>by
  rw [kidsUp,List.mem_append,mem_kidsUp,mem_one]
  constructor
  ·rintro(⟨i,hi,h⟩ | h)
   ·exact⟨i,by omega,h⟩
   ·exact⟨k,by omega,h⟩
  ·rintro⟨i,hi,h⟩
   by_cases e:i=k
   ·subst e; exact Or.inr h
   ·exact Or.inl ⟨i,by omega,h⟩
theorem mem_midL{p:PoolD}{xs xb:Int}{x:Int×Int}:x∈midL p xs xb↔¬Nil xs xb∧(x=(xs,xb)∨x∈lowL (p.s xs.toNat)):=by
 unfold midL
 by_cases h:Nil xs xb
 ·rw [if_pos h]; simp [h]
 ·rw [if_neg h]; simp [h]
theorem mem_subUp{p:PoolD}{s:SlotD}{x:Int×Int}:∀{k:Nat},x∈subUp p s k↔∃i,i<k∧x∈midL p (kidS s i) (kidB s i)
 | 0=>by simp [subUp]
 | k+1=>by
  rw [subUp,List.mem_append,mem_subUp]
  constructor
  ·rintro(⟨i,hi,h⟩ | h)
   ·exact⟨i,by omega,h⟩
   ·exact⟨k,by omega,h⟩
  ·rintro⟨i,hi,h⟩
   by_cases e:i=k
   ·subst e; exact Or.inr h
   ·exact Or.inl ⟨i,by omega,h⟩
theorem kidsUp_len(ks kb:Nat→Int):∀k,(kidsUp ks kb k).length≤k
 | 0=>Nat.le_refl _
 | k+1=>by
  have:=kidsUp_len ks kb k
  unfold kidsUp one
  split <;> simp <;> omega
theorem midL_len(p:PoolD)(xs xb:Int):(midL p xs xb).length≤9:=by
 unfold midL
 have:=kidsUp_len (kidS (p.s xs.toNat)) (kidB (p.s xs.toNat)) 8
 split
 ·simp
 ·show(lowL _).length+1≤9
  unfold lowL
  omega
theorem subUp_len(p:PoolD)(s:SlotD):∀k,(subUp p s k).length≤9*k
 | 0=>Nat.le_refl _
 | k+1=>by
  have:=subUp_len p s k
  have:=midL_len p (kidS s k) (kidB s k)
  unfold subUp
  rw [List.length_append]
  omega
theorem treeL_len(p:PoolD)(rs rb:Int):(treeL p rs rb).length≤73:=by
 unfold treeL
 have:=subUp_len p (p.s rs.toNat) 8
 split
 ·simp
 ·show(subUp _ _ _).length+1≤73
  omega
def NodeAt(p:PoolD)(xs xb:Int):Prop:=Points p xs xb∧0<(p.s xs.toNat).kn∧¬Has p.hn p.h xs
def PageAt(p:PoolD)(xs xb:Int):Prop:=Points p xs xb∧(p.s xs.toNat).kn=0∧¬Has p.hn p.h xs
def LowOk(p:PoolD)(s:SlotD):Prop:=(∀i,i<8→Nil (kidS s i) (kidB s i)∨PageAt p (kidS s i) (kidB s i))∧∃i,i<8∧¬Nil (kidS s i) (kidB s i)
def MidOk(p:PoolD)(s:SlotD)(i:Nat):Prop:=Nil (kidS s i) (kidB s i)∨(NodeAt p (kidS s i) (kidB s i)∧LowOk p (p.s (kidS s i).toNat))
def slotsL(l:List (Int×Int)):List Int:=l.map Prod.fst
def TopOk(p:PoolD)(s:SlotD):Prop:=(∀i,i<8→MidOk p s i)∧∃i,i<8∧¬Nil (kidS s i) (kidB s i)
def TreeOk(p:PoolD)(rs rb:Int):Prop:=Nil rs rb∨(NodeAt p rs rb∧TopOk p (p.s rs.toNat)∧(slotsL (treeL p rs rb)).Nodup)
def Shape1(p:PoolD)(s:SlotD):Prop:=(∃i,i<8∧¬Nil (kidS s i) (kidB s i))∧∀i,i<8→Nil (kidS s i) (kidB s i)∨Page (p.s (kidS s i).toNat)
def Shape0(p:PoolD)(s:SlotD):Prop:=(∃i,i<8∧¬Nil (kidS s i) (kidB s i))∧∀i,i<8→Nil (kidS s i) (kidB s i)∨Shape1 p (p.s (kidS s i).toNat)
def Apart(p:PoolD)(l:List (Int×Int)):Prop:=l.Nodup∧∀x,x∈l→¬Has p.hn p.h x.1
def TreeOkI(p:PoolD)(rs rb:Int):Prop:=Nil rs rb∨(Points p rs rb∧Shape0 p (p.s rs.toNat)∧Apart p (treeL p rs rb))
theorem points_fits{p:PoolD}{xs xb:Int}(hR:Right p)(h:Points p xs xb):Fits p (p.s xs.toNat):=by
 obtain⟨h1,h2,h3,h4⟩:=h
 rcases hR.2.1 xs.toNat (by omega)with hf | hf
 ·have:=hf.1; omega
 ·exact hf
theorem fits_kn{p:PoolD}{s:SlotD}(h:Fits p s):s.kn=0∨s.kn=8:=by
 rcases h.2 with h | h
 ·exact Or.inl h.1
 ·exact Or.inr h.1
theorem points_kn{p:PoolD}{xs xb:Int}(hR:Right p)(h:Points p xs xb):(p.s xs.toNat).kn=0∨(p.s xs.toNat).kn=8:=fits_kn (points_fits hR h)
theorem kid_points{p:PoolD}{s:SlotD}(h:Fits p s){i:Nat}(hi:i<8)(hn:¬Nil (kidS s i) (kidB s i)):Points p (kidS s i) (kidB s i)∧kidB s i≤s.birth:=by
 rcases h.2 with h2 | h2
 ·exact absurd ⟨kidS_no h2.1 i,kidB_no h2.1 i⟩ hn
 ·rw [kidS_at h2.1 hi,kidB_at h2.1 hi] at hn ⊢
  rcases h2.2.2 i (by omega)with h3 | h3
  ·exact absurd h3 hn
  ·exact h3
theorem page_iff{p:PoolD}{xs xb:Int}(hR:Right p)(h:Points p xs xb):Page (p.s xs.toNat)↔(p.s xs.toNat).kn=0:=by
 have hf:=points_fits hR h
 constructor
 ·exact fun h=>h.2.1
 ·intro h0
  rcases hf.2 with h2 | h2
  ·exact⟨hf.1,h2⟩
  ·omega
theorem some_kid{s:SlotD}(h:s.kn=0∨s.kn=8)(he:∃i,i<8∧¬Nil (kidS s i) (kidB s i)):s.kn=8:=by
 rcases h with h | h
 ·obtain⟨i,_,hi⟩:=he
  exact absurd ⟨kidS_no h i,kidB_no h i⟩ hi
 ·exact h
theorem tree_points{p:PoolD}{rs rb:Int}(hR:Right p)(h:Points p rs rb):∀x,x∈treeL p rs rb→Points p x.1 x.2∧x.2≤rb:=by
 intro x hx
 unfold treeL at hx
 split at hx
 ·simp at hx
 ·rw [List.mem_cons,mem_subUp] at hx
  rcases hx with rfl | ⟨i,hi,hx⟩
  ·exact⟨h,by simp⟩
  ·have hf:=points_fits hR h
   have hbr:(p.s rs.toNat).birth=rb:=h.2.2.2
   obtain⟨hn,hx⟩:=mem_midL.1 hx
   have hk:=kid_points hf hi hn
   rcases hx with rfl | hx
   ·exact⟨hk.1,by rw [←hbr]; exact hk.2⟩
   ·obtain⟨j,hj,rfl,hn2⟩:=mem_kidsUp.1 hx
    have hf2:=points_fits hR hk.1
    have hk2:=kid_points hf2 hj hn2
    have e:(p.s (kidS (p.s rs.toNat) i).toNat).birth=kidB (p.s rs.toNat) i:=hk.1.2.2.2
    have:=hk.2
    have:=hk2.2
    exact⟨hk2.1,by show kidB _ j≤rb; omega⟩
theorem nodup_iff{p:PoolD}{l:List (Int×Int)}(h:∀x,x∈l→Points p x.1 x.2):(slotsL l).Nodup↔l.Nodup:=by
 unfold slotsL List.Nodup
 rw [List.pairwise_map]
 constructor
 ·exact fun hp=>hp.imp (fun hne e=>hne (by rw [e]))
 ·intro hp
  refine List.Pairwise.imp_of_mem ?_ hp
  intro a b ha hb hne e
  apply hne
  have h1:=(h a ha).2.2.2
  have h2:=(h b hb).2.2.2
  rw [e] at h1
  obtain⟨a1,a2⟩:=a
  obtain⟨b1,b2⟩:=b
  simp only [Prod.mk.injEq]
  exact⟨e,by simp only at h1 h2 e; rw [←h1,←h2]⟩
theorem tree_iff{p:PoolD}{rs rb:Int}(hR:Right p):TreeOkI p rs rb↔TreeOk p rs rb:=by
 by_cases hz:Nil rs rb
 ·exact⟨fun _=>Or.inl hz,fun _=>Or.inl hz⟩
 have hroot:(rs,rb)∈treeL p rs rb:=by unfold treeL; rw [if_neg hz]; simp
 have hkid:∀i,i<8→¬Nil (kidS (p.s rs.toNat) i) (kidB (p.s rs.toNat) i)→(kidS (p.s rs.toNat) i,kidB (p.s rs.toNat) i)∈treeL p rs rb:=fun i hi hn=>by
  unfold treeL
  rw [if_neg hz,List.mem_cons,mem_subUp]
  exact Or.inr ⟨i,hi,mem_midL.2 ⟨hn,Or.inl rfl⟩⟩
 have hlow:∀i,i<8→¬Nil (kidS (p.s rs.toNat) i) (kidB (p.s rs.toNat) i)→∀x,x∈lowL (p.s (kidS (p.s rs.toNat) i).toNat)→x∈treeL p rs rb:=fun i hi hn x hx=>by
  unfold treeL
  rw [if_neg hz,List.mem_cons,mem_subUp]
  exact Or.inr ⟨i,hi,mem_midL.2 ⟨hn,Or.inr hx⟩⟩
 constructor
 ·rintro(h | ⟨hP,⟨he,hS⟩,hA⟩)
  ·exact Or.inl h
  ·right
   have hf:=points_fits hR hP
   have hk8:=some_kid (fits_kn hf) he
   refine⟨⟨hP,by omega,hA.2 _ hroot⟩,⟨fun i hi=>?_,he⟩,(nodup_iff (fun x hx=>(tree_points hR hP x hx).1)).2 hA.1⟩
   by_cases hn:Nil (kidS (p.s rs.toNat) i) (kidB (p.s rs.toNat) i)
   ·exact Or.inl hn
   ·right
    have hk:=kid_points hf hi hn
    have hf2:=points_fits hR hk.1
    obtain⟨he2,hS2⟩:Shape1 p (p.s (kidS (p.s rs.toNat) i).toNat):=by
     rcases hS i hi with h | h
     ·exact absurd h hn
     ·exact h
    have hk82:=some_kid (fits_kn hf2) he2
    refine⟨⟨hk.1,by omega,hA.2 _ (hkid i hi hn)⟩,fun j hj=>?_,he2⟩
    by_cases hn2:Nil (kidS (p.s (kidS (p.s rs.toNat) i).toNat) j) (kidB (p.s (kidS (p.s rs.toNat) i).toNat) j)
    ·exact Or.inl hn2
    ·right
     have hk2:=kid_points hf2 hj hn2
     refine⟨hk2.1,?_,hA.2 _ (hlow i hi hn _ (mem_kidsUp.2 ⟨j,hj,rfl,hn2⟩))⟩
     rcases hS2 j hj with h | h
     ·exact absurd h hn2
     ·exact h.2.1
 ·rintro(h | ⟨hN,⟨hM,he⟩,hD⟩)
  ·exact Or.inl h
  ·right
   have hP:=hN.1
   have hf:=points_fits hR hP
   have held:∀x,x∈treeL p rs rb→¬Has p.hn p.h x.1:=fun x hx=>by
    unfold treeL at hx
    rw [if_neg hz,List.mem_cons,mem_subUp] at hx
    rcases hx with rfl | ⟨i,hi,hx⟩
    ·exact hN.2.2
    ·obtain⟨hn,hx⟩:=mem_midL.1 hx
     rcases hM i hi with h | ⟨h1,h2⟩
     ·exact absurd h hn
     ·rcases hx with rfl | hx
      ·exact h1.2.2
      ·obtain⟨j,hj,rfl,hn2⟩:=mem_kidsUp.1 hx
       rcases h2.1 j hj with h | h
       ·exact absurd h hn2
       ·exact h.2.2
   refine⟨hP,⟨he,fun i hi=>?_⟩,(nodup_iff (fun x hx=>(tree_points hR hP x hx).1)).1 hD,held⟩
   rcases hM i hi with h | ⟨h1,h2,h3⟩
   ·exact Or.inl h
   ·refine Or.inr ⟨h3,fun j hj=>?_⟩
    rcases h2 j hj with h | h
    ·exact Or.inl h
    ·exact Or.inr ((page_iff hR h.1).2 h.2.1)
set_option maxRecDepth 20000 in
set_option maxHeartbeats 1000000 in
theorem l01Points_any(v0 v1:Value)(lo hi:Nat)(p:PoolD)(xs xb:Int)(w:World)(h1:PoolAt w lo hi v0 v1 p) :
  Calls Tryz.prog 184 #[.agg #[v0,v1],.agg #[.int .i64 xs,.int .i64 xb]] w fun e w'=>BoolIs (Points p xs xb) e∧Below w.heap.size w w':=by
 obtain⟨⟨m1,a,c,rfl,mc,g1⟩,⟨_,a',c',rfl,_⟩⟩:=h1
 unfold maxLen at m1
 have G1:Hid (0<p.n→∃b off,a=some ⟨b,off,none⟩∧lo≤b∧b<hi∧∀i,i<p.n→∃v0 v1 v2,w.cell? ⟨b,off+i*3,none⟩=some v0∧w.cell? ⟨b,off+i*3+1,none⟩=some v1∧w.cell? ⟨b,off+i*3+2,none⟩=some v2∧SlotAt w lo hi v0 v1 v2 (p.s i)):=g1
 clear g1
 have hbw:=((Below.refl w.heap.size w).alloc (Nat.le_refl _) (.cells #[.slice a p.n c,.slice a' p.hn c'] 33)).alloc (by simp) (.cells #[.int .i64 xs,.int .i64 xb] 61)
 have Hbw:Hid (Below w.heap.size w ((w.alloc (.cells #[.slice a p.n c,.slice a' p.hn c'] 33)).alloc (.cells #[.int .i64 xs,.int .i64 xb] 61))):=hbw
 clear hbw
 by_cases h1:1≤xb
 ·by_cases h2:0≤xs
  ·by_cases h3:xs<p.n
   ·obtain⟨x,rfl⟩:=Int.eq_ofNat_of_zero_le h2
    have h3n:x<p.n:=by omega
    obtain⟨b,off,rfl,_,_,k1⟩:=G1.out (by omega)
    obtain⟨x0,x1,x2,c0,c1,c2,hs⟩:=k1 x h3n
    obtain⟨rfl,_⟩:=hs
    have hlt:=lt_of_cell c0
    clear k1 G1 c1 c2
    by_cases h4:(p.s x).birth=xb
    ·have H:Hid (Points p x xb):=⟨h1,h2,h3,by rw [Int.toNat_natCast]; exact h4⟩
     have e4:((p.s x).birth == xb)=true:=by simp [h4]
     clear h4
     go_enter Tryz.func184,Tryz.ntmps184
     go_wp2_with fail
     go_quiet (fail)
     go_wp2
     go_ret
     exact⟨BoolIs.yes H.out,below_drewN Hbw.out _⟩
    ·have H:Hid (¬Points p x xb):=fun h=>h4 (by have:=h.2.2.2; rw [Int.toNat_natCast] at this; exact this)
     have e4:((p.s x).birth == xb)=false:=by simp [h4]
     clear h4
     go_enter Tryz.func184,Tryz.ntmps184
     go_wp2_with fail
     go_quiet (fail)
     go_wp2
     go_ret
     exact⟨BoolIs.no H.out,below_drewN Hbw.out _⟩
   ·have H:Hid (¬Points p xs xb):=fun h=>h3 h.2.2.1
    have e3:decide (xs<(p.n:Int))=false:=by simpa using h3
    go_enter Tryz.func184,Tryz.ntmps184
    go_wp2_with fail
    go_quiet (fail)
    go_wp2
    go_ret
    exact⟨BoolIs.no H.out,below_drewN Hbw.out _⟩
  ·have H:Hid (¬Points p xs xb):=fun h=>h2 h.2.1
   have e3:decide (0≤xs)=false:=by simpa using h2
   go_enter Tryz.func184,Tryz.ntmps184
   go_wp2_with fail
   go_quiet (fail)
   go_wp2
   go_ret
   exact⟨BoolIs.no H.out,below_drewN Hbw.out _⟩
 ·have H:Hid (¬Points p xs xb):=fun h=>h1 h.1
  have e3:decide (1≤xb)=false:=by simpa using h1
  go_enter Tryz.func184,Tryz.ntmps184
  go_wp2_with fail
  go_quiet (fail)
  go_wp2
  go_ret
  exact⟨BoolIs.no H.out,below_drewN Hbw.out _⟩
theorem Box2.two(w:World)(v0 v1:Value)(t:TypeId)(o:Obj):Box2 ((w.alloc (.cells #[v0,v1] t)).alloc o) w.heap.size v0 v1:=(Box2.new w v0 v1 t).below (below_alloc _ _)
theorem Box3.second(w:World)(v0 v1 v2:Value)(t:TypeId)(o:Obj):Box3 ((w.alloc o).alloc (.cells #[v0,v1,v2] t)) (w.heap.size+1) v0 v1 v2:=by
 have:=Box3.new (w.alloc o) v0 v1 v2 t
 rw [World.size_alloc] at this
 exact this
set_option maxRecDepth 20000 in
set_option maxHeartbeats 1000000 in
theorem l01Fits_any(v0 v1 s0 s1 s2:Value)(lo hi lo' hi':Nat)(p:PoolD)(s:SlotD)(w:World)(h1:PoolAt w lo hi v0 v1 p)(h2:SlotAt w lo' hi' s0 s1 s2 s) :
  Calls Tryz.prog 136 #[.agg #[v0,v1],.agg #[s0,s1,s2]] w fun e w'=>BoolIs (Fits p s) e∧Below w.heap.size w w':=by
 have Hp:Hid (PoolAt w lo hi v0 v1 p):=h1
 obtain⟨⟨m1,a,c,rfl,_⟩,⟨_,a',c',rfl,_⟩⟩:=h1
 obtain⟨rfl,hk,rfl,m3⟩:=h2
 obtain⟨m2,ka,kc,rfl,mkc,g1⟩:=hk
 have G1:Hid (0<s.kn→∃b off,ka=some ⟨b,off,none⟩∧lo'≤b∧b<hi'∧∀i,i<s.kn→w.cell? ⟨b,off+i*2,none⟩=some (.int .i64 (s.ks i))∧w.cell? ⟨b,off+i*2+1,none⟩=some (.int .i64 (s.kb i))):=g1
 clear g1
 unfold maxLen at m1 m2 m3
 have hbw:=((Below.refl w.heap.size w).alloc (Nat.le_refl _) (.cells #[.slice a p.n c,.slice a' p.hn c'] 33)).alloc (by simp) (.cells #[.int .i64 s.birth,.slice ka s.kn kc,.string s.data] 127)
 have Hbw:Hid (Below w.heap.size w ((w.alloc (.cells #[.slice a p.n c,.slice a' p.hn c'] 33)).alloc (.cells #[.int .i64 s.birth,.slice ka s.kn kc,.string s.data] 127))):=hbw
 clear hbw
 by_cases hB:BirthOk s.birth
 ·by_cases hk0:s.kn=0
  ·have e2:((s.kn:Int) == 0)=true:=by simp [hk0]
   by_cases hd:s.data.size=16
   ·have H:Hid (Fits p s):=⟨hB,Or.inl ⟨hk0,hd⟩⟩
    have HB:Hid (BirthOk s.birth):=hB
    have e3:((s.data.size:Int) == 16)=true:=by simp [hd]
    clear hk0 hd hB
    go_enter Tryz.func136,Tryz.ntmps136
    go_wp2_with (go_at_call 145; refine(l01Birth_any _ _).mono ?_; rintro e w' ⟨⟨t,rfl,ht⟩,rfl⟩; obtain rfl:t=true:=ht.2 HB.out; clear ht)
    go_ret
    exact⟨BoolIs.yes H.out,Hbw.out⟩
   ·have H:Hid (¬Fits p s):=fun h=>by
     rcases h.2 with h | h
     ·exact hd h.2
     ·omega
    have HB:Hid (BirthOk s.birth):=hB
    have e3:((s.data.size:Int) == 16)=false:=by simp; omega
    clear hk0 hd hB
    go_enter Tryz.func136,Tryz.ntmps136
    go_wp2_with (go_at_call 145; refine(l01Birth_any _ _).mono ?_; rintro e w' ⟨⟨t,rfl,ht⟩,rfl⟩; obtain rfl:t=true:=ht.2 HB.out; clear ht)
    go_ret
    exact⟨BoolIs.no H.out,Hbw.out⟩
  ·have e2:((s.kn:Int) == 0)=false:=by simp; omega
   by_cases hk8:s.kn=8
   ·by_cases hd:s.data.toList.isEmpty=true
    ·have HB:Hid (BirthOk s.birth):=hB
     have e3:((s.kn:Int) != 8)=false:=by simp; omega
     have H8:Hid (s.kn=8):=hk8
     have hk8':(s.kn:Int)≤8:=by omega
     clear hk8 hB hk0
     have HD:Hid (s.data.toList.isEmpty=true):=hd
     go_enter Tryz.func136,Tryz.ntmps136
     go_wp2_with (go_at_call 145; refine(l01Birth_any _ _).mono ?_; rintro e w' ⟨⟨t,rfl,ht⟩,rfl⟩; obtain rfl:t=true:=ht.2 HB.out; clear ht)
     go_loopw [5] (fun i wr=>∃k:Nat,k≤s.kn∧i = .int .i64 k∧(∀j,j<k→KidOk p s.birth (s.ks j) (s.kb j))∧Box2 wr w.heap.size (.slice a p.n c) (.slice a' p.hn c')∧Box3 wr (w.heap.size+1) (.int .i64 s.birth) (.slice ka s.kn kc) (.string s.data)∧Below w.heap.size w wr) (fun i _=>s.kn - (intOf i).toNat)
     case atStart=>exact⟨0,Nat.zero_le _,rfl,fun j hj=>absurd hj (Nat.not_lt_zero _),Box2.two _ _ _ _ _,Box3.second _ _ _ _ _ _,Hbw.out⟩
     case round=>
      obtain⟨k,hk,rfl,hall,hx2,hx3,hb⟩:=hrel
      have Hall:Hid (∀j,j<k→KidOk p s.birth (s.ks j) (s.kb j)):=hall
      have Hx2:Hid (Box2 wr w.heap.size (.slice a p.n c) (.slice a' p.hn c')):=hx2
      have Hx3:Hid (Box3 wr (w.heap.size+1) (.int .i64 s.birth) (.slice ka s.kn kc) (.string s.data)):=hx3
      clear hall hx2 hx3
      have hz0:w.heap.size<wr.heap.size:=Hx2.out.1.lt
      have hz1:w.heap.size+1<wr.heap.size:=Hx3.out.1.lt
      obtain⟨⟨y0,y1⟩,⟨y2,y3⟩⟩:=Hx2.out
      obtain⟨⟨z0,z1⟩,⟨z2,z3⟩,⟨z4,z5⟩⟩:=Hx3.out
      by_cases hlt:k<s.kn
      ·have hlt':(k:Int)<(s.kn:Int):=by omega
       obtain⟨b,off,rfl,_,_,k1⟩:=G1.out (by omega)
       have hc1:=(hb.cell (lt_of_cell (k1 k hlt).1)).trans (k1 k hlt).1
       have hd1:=(hb.cell (lt_of_cell (k1 k hlt).2)).trans (k1 k hlt).2
       clear k1 G1
       go_wp2_with fail
       have hal:=below_alloc wr (.cells #[.int .i64 (s.ks k),.int .i64 (s.kb k)] 61)
       refine(l01None_any _ _ _).mono ?_
       rintro e w1 ⟨⟨t,rfl,ht⟩,hb1⟩
       have HX2:Hid (Box2 w1 w.heap.size (.slice a p.n c) (.slice a' p.hn c')):=(Hx2.out.below hal).below hb1
       have HX3:Hid (Box3 w1 (w.heap.size+1) (.int .i64 s.birth) (.slice (some ⟨b,off,none⟩) s.kn kc) (.string s.data)):=(Hx3.out.below hal).below hb1
       have HX4:Hid (Box2 w1 wr.heap.size (.int .i64 (s.ks k)) (.int .i64 (s.kb k))):=(Box2.new wr _ _ _).below hb1
       have hbN:Below w.heap.size w w1:=below_next (below_next hb hal) hb1
       clear hal hb1 y0 y1 y2 y3 z0 z1 z2 z3 z4 z5 hc1 hd1 Hx2 Hx3
       by_cases hnone:PtrEq (s.ks k) (s.kb k) 0 0
       ·obtain rfl:t=true:=ht.2 hnone
        have HK:Hid (KidOk p s.birth (s.ks k) (s.kb k)):=Or.inl hnone
        clear ht hnone
        go_wp2
        go_roundw
        case rel=>exact⟨k+1,by omega,by go_num,relNext hlt Hall.out HK.out,HX2.out,HX3.out,hbN⟩
        case measure=>simp [intOf]; omega
       ·obtain rfl:t=false:=Bool.eq_false_iff.2 (fun h=>hnone (ht.1 h))
        have HN:Hid (¬PtrEq (s.ks k) (s.kb k) 0 0):=hnone
        clear ht hnone
        obtain⟨⟨y0,y1⟩,⟨y2,y3⟩⟩:=HX2.out
        obtain⟨⟨q0,q1⟩,⟨q2,q3⟩⟩:=HX4.out
        go_wp2_with fail
        refine(l01Points_any _ _ lo hi p _ _ _ (Hp.out.below hbN)).mono ?_
        rintro e w2 ⟨⟨t,rfl,ht⟩,hb2⟩
        have HY2:Hid (Box2 w2 w.heap.size (.slice a p.n c) (.slice a' p.hn c')):=HX2.out.below hb2
        have HY3:Hid (Box3 w2 (w.heap.size+1) (.int .i64 s.birth) (.slice (some ⟨b,off,none⟩) s.kn kc) (.string s.data)):=HX3.out.below hb2
        have HY4:Hid (Box2 w2 wr.heap.size (.int .i64 (s.ks k)) (.int .i64 (s.kb k))):=HX4.out.below hb2
        have hbM:Below w.heap.size w w2:=below_next hbN hb2
        clear hb2 hbN y0 y1 y2 y3 q0 q1 q2 q3 HX2 HX3 HX4
        by_cases hpo:Points p (s.ks k) (s.kb k)
        ·obtain rfl:t=true:=ht.2 hpo
         have HP:Hid (Points p (s.ks k) (s.kb k)):=hpo
         clear ht hpo
         obtain⟨⟨q0,q1⟩,⟨q2,q3⟩⟩:=HY4.out
         obtain⟨⟨z0,z1⟩,⟨z2,z3⟩,⟨z4,z5⟩⟩:=HY3.out
         by_cases hle:s.birth<s.kb k
         ·go_wp2
          go_ret
          refine⟨BoolIs.no fun h=>?_,hbM⟩
          rcases h.2 with h | h
          ·omega
          ·rcases h.2.2 k hlt with h | h
           ·exact HN.out h
           ·have:=h.2; omega
         ·have HK:Hid (KidOk p s.birth (s.ks k) (s.kb k)):=Or.inr ⟨HP.out,by omega⟩
          go_wp2
          go_roundw
          case rel=>exact⟨k+1,by omega,by go_num,relNext hlt Hall.out HK.out,HY2.out,HY3.out,hbM⟩
          case measure=>simp [intOf]; omega
        ·obtain rfl:t=false:=Bool.eq_false_iff.2 (fun h=>hpo (ht.1 h))
         have HP:Hid (¬Points p (s.ks k) (s.kb k)):=hpo
         clear ht hpo
         go_wp2
         go_ret
         refine⟨BoolIs.no fun h=>?_,hbM⟩
         rcases h.2 with h | h
         ·omega
         ·rcases h.2.2 k hlt with h | h
          ·exact HN.out h
          ·exact HP.out h.1
      ·go_wp2
       go_ret
       exact⟨BoolIs.yes ⟨HB.out,Or.inr ⟨H8.out,HD.out,fun i hi=>Hall.out i (by omega)⟩⟩,hb⟩
    ·have H:Hid (¬Fits p s):=fun h=>by
      rcases h.2 with h | h
      ·omega
      ·exact hd h.2.1
     have HB:Hid (BirthOk s.birth):=hB
     have e3:((s.kn:Int) != 8)=false:=by simp; omega
     have e4:s.data.toList.isEmpty=false:=by simpa using hd
     clear hk8 hB hk0 hd
     go_enter Tryz.func136,Tryz.ntmps136
     go_wp2_with (go_at_call 145; refine(l01Birth_any _ _).mono ?_; rintro e w' ⟨⟨t,rfl,ht⟩,rfl⟩; obtain rfl:t=true:=ht.2 HB.out; clear ht)
     go_ret
     exact⟨BoolIs.no H.out,Hbw.out⟩
   ·have H:Hid (¬Fits p s):=fun h=>by
     rcases h.2 with h | h
     ·omega
     ·exact hk8 h.1
    have HB:Hid (BirthOk s.birth):=hB
    have e3:((s.kn:Int) != 8)=true:=by simp; omega
    clear hk8 hB hk0
    go_enter Tryz.func136,Tryz.ntmps136
    go_wp2_with (go_at_call 145; refine(l01Birth_any _ _).mono ?_; rintro e w' ⟨⟨t,rfl,ht⟩,rfl⟩; obtain rfl:t=true:=ht.2 HB.out; clear ht)
    go_ret
    exact⟨BoolIs.no H.out,Hbw.out⟩
 ·have HB:Hid (¬BirthOk s.birth):=hB
  clear hB
  go_enter Tryz.func136,Tryz.ntmps136
  go_wp2_with (go_at_call 145; refine(l01Birth_any _ _).mono ?_; rintro e w' ⟨⟨t,rfl,ht⟩,rfl⟩; obtain rfl:t=false:=Bool.eq_false_iff.2 (fun h=>HB.out (ht.1 h)); clear ht)
  go_ret
  exact⟨BoolIs.no fun h=>HB.out h.1,Hbw.out⟩
set_option maxRecDepth 20000 in
set_option maxHeartbeats 1000000 in
theorem specPoolRight_any(v0 v1:Value)(lo hi:Nat)(p:PoolD)(w:World)(h1:PoolAt w lo hi v0 v1 p) :
  Calls Tryz.prog 68 #[.agg #[v0,v1]] w fun e w'=>BoolIs (Right p) e∧Below w.heap.size w w':=by
 have Hp:Hid (PoolAt w lo hi v0 v1 p):=h1
 obtain⟨⟨m1,a,c,rfl,mc,g1⟩,⟨m2,a',c',rfl,mc',g2⟩⟩:=h1
 unfold maxLen at m1 m2
 clear g1 g2
 have Hbw:Hid (Below w.heap.size w (w.alloc (.cells #[.slice a p.n c,.slice a' p.hn c'] 33))):=below_alloc _ _
 by_cases hn:(200:Int)<p.n
 ·have H:Hid (¬Right p):=fun h=>by have:=h.1; omega
  go_enter Tryz.func68,Tryz.ntmps68
  go_wp2
  go_ret
  exact⟨BoolIs.no H.out,Hbw.out⟩
 ·go_enter Tryz.func68,Tryz.ntmps68
  go_wp2
  go_loopw [3] (fun i wr=>∃k:Nat,k≤p.n∧i = .int .i64 k∧(∀j,j<k→Free (p.s j)∨Fits p (p.s j))∧Box2 wr w.heap.size (.slice a p.n c) (.slice a' p.hn c')∧Below w.heap.size w wr) (fun i _=>p.n - (intOf i).toNat)
  case atStart=>exact⟨0,Nat.zero_le _,rfl,fun j hj=>absurd hj (Nat.not_lt_zero _),Box2.new _ _ _ _,Hbw.out⟩
  case round=>
   obtain⟨k,hk,rfl,hall,hx,hb⟩:=hrel
   have Hall:Hid (∀j,j<k→Free (p.s j)∨Fits p (p.s j)):=hall
   have Hx:Hid (Box2 wr w.heap.size (.slice a p.n c) (.slice a' p.hn c')):=hx
   clear hall hx
   obtain⟨⟨y0,y1⟩,⟨y2,y3⟩⟩:=Hx.out
   by_cases hlt:k<p.n
   ·have hlt':(k:Int)<(p.n:Int):=by omega
    obtain⟨b,off,ka,kc,rfl,hs⟩:=(Hp.out.1.below hb).cells hlt
    have Hs:Hid (SlotCells wr b (off+k*3) lo hi ka kc (p.s k)):=hs
    obtain⟨q0,q1,q2,_⟩:=hs
    by_cases hf:Free (p.s k)
    ·have HF:Hid (Free (p.s k)):=hf
     clear hf
     go_wp2_with fail
     first
      | (go_region_with (first | (go_at_call 74; refine(l01Free_any _ _ _ lo hi (p.s k) _ ?_).mono ?_; (exact Hs.out.slot.below ((Below.refl _ _).drew)); rintro e w1 ⟨⟨t,rfl,hx⟩,hb1⟩; obtain rfl:t=true:=hx.2 HF.out; clear hx; have hbb:=below_undrew hb1; have rr0:=(Hx.out.below hbb).1.1; have rr1:=(Hx.out.below hbb).2.1; have rr2:=(Hs.out.below hbb).c0; have rr3:=(Hs.out.below hbb).c1; have rr4:=(Hs.out.below hbb).c2)))
      | fail
     all_goals
      have hbn:=below_next hb hbb
      have HX:Hid (Box2 w1 w.heap.size (.slice (some ⟨b,off,none⟩) p.n c) (.slice a' p.hn c')):=Hx.out.below hbb
      clear hb1 hbb rr0 rr1 rr2 rr3 rr4 q0 q1 q2 y0 y1 y2 y3 Hs Hx
      go_wp2
      go_roundw
      case rel=>exact⟨k+1,by omega,by go_num,relNext hlt Hall.out (Or.inl HF.out),HX.out,hbn⟩
      case measure=>simp [intOf]; omega
    ·have HF:Hid (¬Free (p.s k)):=hf
     clear hf
     by_cases hft:Fits p (p.s k)
     ·have HT:Hid (Fits p (p.s k)):=hft
      clear hft
      go_wp2_with fail
      go_region_held3 (fun w'=>w'.cell? ⟨w.heap.size,0,none⟩=some (.slice (some ⟨b,off,none⟩) p.n c)∧w'.cell? ⟨w.heap.size,1,none⟩=some (.slice a' p.hn c')∧w'.cell? ⟨b,off+k*3,none⟩=some (.int .i64 (p.s k).birth)∧w'.cell? ⟨b,off+k*3+1,none⟩=some (.slice ka (p.s k).kn kc)∧w'.cell? ⟨b,off+k*3+2,none⟩=some (.string (p.s k).data)) (go_keep)
       (first
        | (go_at_call 74; refine(l01Free_any _ _ _ lo hi (p.s k) _ ?_).mono ?_; (exact Hs.out.slot.below ((Below.refl _ _).drew)); rintro e w1 ⟨⟨t,rfl,hx⟩,hb1⟩; obtain rfl:t=false:=bool_no hx HF.out; clear hx; have hbb:=below_undrew hb1; have rr0:=(Hx.out.below hbb).1.1; have rr1:=(Hx.out.below hbb).2.1; have rr2:=(Hs.out.below hbb).c0; have rr3:=(Hs.out.below hbb).c1; have rr4:=(Hs.out.below hbb).c2)
        | (go_at_call 136; refine(l01Fits_any _ _ _ _ _ lo hi lo hi p (p.s k) _ ?_ ?_).mono ?_; (exact Hp.out.below (below_next hb hbb)); (exact Hs.out.slot.below hbb); rintro e w2 ⟨⟨t2,rfl,hx2⟩,hb2⟩; obtain rfl:t2=true:=hx2.2 HT.out; clear hx2; have hbb2:=below_next hbb hb2; have rr0':=(Hx.out.below hbb2).1.1; have rr1':=(Hx.out.below hbb2).2.1; have rr2':=(Hs.out.below hbb2).c0; have rr3':=(Hs.out.below hbb2).c1; have rr4':=(Hs.out.below hbb2).c2))
      have hbn:=below_next hb hbb2
      have HX:Hid (Box2 w2 w.heap.size (.slice (some ⟨b,off,none⟩) p.n c) (.slice a' p.hn c')):=Hx.out.below hbb2
      clear hb1 hbb rr0 rr1 rr2 rr3 rr4 q0 q1 q2 y0 y1 y2 y3 Hs Hx rr0' rr1' rr2' rr3' rr4' hb2 hbb2
      go_wp2
      go_roundw
      case rel=>exact⟨k+1,by omega,by go_num,relNext hlt Hall.out (Or.inr HT.out),HX.out,hbn⟩
      case measure=>simp [intOf]; omega
     ·have HT:Hid (¬Fits p (p.s k)):=hft
      clear hft
      go_wp2_with fail
      go_region_held3 (fun w'=>w'.cell? ⟨w.heap.size,0,none⟩=some (.slice (some ⟨b,off,none⟩) p.n c)∧w'.cell? ⟨w.heap.size,1,none⟩=some (.slice a' p.hn c')∧w'.cell? ⟨b,off+k*3,none⟩=some (.int .i64 (p.s k).birth)∧w'.cell? ⟨b,off+k*3+1,none⟩=some (.slice ka (p.s k).kn kc)∧w'.cell? ⟨b,off+k*3+2,none⟩=some (.string (p.s k).data)) (go_keep)
       (first
        | (go_at_call 74; refine(l01Free_any _ _ _ lo hi (p.s k) _ ?_).mono ?_; (exact Hs.out.slot.below ((Below.refl _ _).drew)); rintro e w1 ⟨⟨t,rfl,hx⟩,hb1⟩; obtain rfl:t=false:=bool_no hx HF.out; clear hx; have hbb:=below_undrew hb1; have rr0:=(Hx.out.below hbb).1.1; have rr1:=(Hx.out.below hbb).2.1; have rr2:=(Hs.out.below hbb).c0; have rr3:=(Hs.out.below hbb).c1; have rr4:=(Hs.out.below hbb).c2)
        | (go_at_call 136; refine(l01Fits_any _ _ _ _ _ lo hi lo hi p (p.s k) _ ?_ ?_).mono ?_; (exact Hp.out.below (below_next hb hbb)); (exact Hs.out.slot.below hbb); rintro e w2 ⟨⟨t2,rfl,hx2⟩,hb2⟩; obtain rfl:t2=false:=bool_no hx2 HT.out; clear hx2; have hbb2:=below_next hbb hb2; have rr0':=(Hx.out.below hbb2).1.1; have rr1':=(Hx.out.below hbb2).2.1; have rr2':=(Hs.out.below hbb2).c0; have rr3':=(Hs.out.below hbb2).c1; have rr4':=(Hs.out.below hbb2).c2))
      have hbn:=below_next hb hbb2
      clear hb1 hbb rr0 rr1 rr2 rr3 rr4 q0 q1 q2 y0 y1 y2 y3 Hs Hx rr0' rr1' rr2' rr3' rr4' hb2 hbb2
      go_wp2
      go_ret
      refine⟨BoolIs.no fun h=>?_,hbn⟩
      rcases h.2.1 k hlt with h | h
      ·exact HF.out h
      ·exact HT.out h
   ·obtain rfl:k=p.n:=by omega
    have hns:p.n≤200:=by omega
    have HX:Hid (Box2 wr w.heap.size (.slice a p.n c) (.slice a' p.hn c')):=Hx.out
    have HB:Hid (Below w.heap.size w wr):=hb
    have HA:Hid (∀j,j<p.n→Free (p.s j)∨Fits p (p.s j)):=Hall.out
    clear Hx hb Hall
    go_wp2
    obtain⟨wo,hwo⟩:∃wo:World,wo=wr:=⟨_,rfl⟩
    rw [←hwo] at HX HB ⊢
    clear hwo y0 y1 y2 y3
    go_loopw [4] (fun i wr=>∃k:Nat,k≤p.hn∧i = .int .i64 k∧(∀j,j<k→HeldOk p j)∧Box2 wr w.heap.size (.slice a p.n c) (.slice a' p.hn c')∧Below w.heap.size w wr) (fun i _=>p.hn - (intOf i).toNat)
    case atStart=>exact⟨0,Nat.zero_le _,rfl,fun j hj=>absurd hj (Nat.not_lt_zero _),HX.out,HB.out⟩
    case round=>
     obtain⟨k,hk,rfl,hall,hx,hb⟩:=hrel
     have Hall:Hid (∀j,j<k→HeldOk p j):=hall
     have Hx:Hid (Box2 wr w.heap.size (.slice a p.n c) (.slice a' p.hn c')):=hx
     clear hall hx
     obtain⟨⟨y0,y1⟩,⟨y2,y3⟩⟩:=Hx.out
     by_cases hlt:k<p.hn
     ·have hlt':(k:Int)<(p.hn:Int):=by omega
      have hint:=Hp.out.2.below hb
      have Hint:Hid (IntsAt wr lo hi (.slice a' p.hn c') p.hn p.h):=hint
      obtain⟨_,a2,cap2,hv2,_,hx2⟩:=hint
      simp only [Value.slice.injEq,true_and] at hv2
      obtain⟨rfl,rfl⟩:=hv2
      obtain⟨b,off,rfl,_,_,k1⟩:=hx2 (by omega)
      have hc1:=k1 k hlt
      clear k1 hx2
      by_cases h1:p.h k<0
      ·go_wp2
       go_ret
       exact⟨BoolIs.no fun h=>by have:=(h.2.2 k hlt).1; omega,hb⟩
      ·by_cases h2:(p.n:Int)≤p.h k
       ·go_wp2
        go_ret
        exact⟨BoolIs.no fun h=>by have:=(h.2.2 k hlt).2.1; omega,hb⟩
       ·obtain⟨x,hx⟩:=Int.eq_ofNat_of_zero_le (show 0≤p.h k by omega)
        rw [hx] at hc1 h1 h2
        have HX1:Hid (p.h k=x):=hx
        have hxn:x<p.n:=by omega
        have hxl:(x:Int)<(p.n:Int):=by omega
        clear hx
        obtain⟨bs,offs,ka,kc,rfl,hs⟩:=(Hp.out.1.below hb).cells hxn
        have Hs:Hid (SlotCells wr bs (offs+x*3) lo hi ka kc (p.s x)):=hs
        obtain⟨q0,q1,q2,_⟩:=hs
        by_cases hf:Free (p.s x)
        ·have HF:Hid (Free (p.s x)):=hf
         clear hf
         go_wp2_with fail
         refine(l01Free_any _ _ _ lo hi (p.s x) _ Hs.out.slot).mono ?_
         rintro e w1 ⟨⟨t,rfl,hx⟩,hb1⟩
         obtain rfl:t=true:=hx.2 HF.out
         clear hx
         have hbn:=below_next hb hb1
         clear hb1 q0 q1 q2 y0 y1 y2 y3
         go_wp2
         go_ret
         refine⟨BoolIs.no fun h=>?_,hbn⟩
         have:=(h.2.2 k hlt).2.2.1
         rw [HX1.out,Int.toNat_natCast] at this
         exact this HF.out
        ·have HF:Hid (¬Free (p.s x)):=hf
         clear hf
         go_wp2_with fail
         refine(l01Free_any _ _ _ lo hi (p.s x) _ Hs.out.slot).mono ?_
         rintro e w1 ⟨⟨t,rfl,hx⟩,hb1⟩
         obtain rfl:t=false:=bool_no hx HF.out
         clear hx
         have hbn:=below_next hb hb1
         have HX3:Hid (Box2 w1 w.heap.size (.slice (some ⟨bs,offs,none⟩) p.n c) (.slice (some ⟨b,off,none⟩) p.hn c')):=Hx.out.below hb1
         have HI:Hid (IntsAt w1 lo hi (.slice (some ⟨b,off,none⟩) k c') k p.h):=(Hint.out.below hb1).take (by omega) (by omega)
         clear hb1 q0 q1 q2 y0 y1 y2 y3
         obtain⟨⟨y0,y1⟩,⟨y2,y3⟩⟩:=HX3.out
         have hkc:k≤c':=by omega
         go_wp2_with fail
         refine(l01Has_any _ k lo hi p.h _ _ HI.out).mono ?_
         rintro e w2 ⟨⟨t,rfl,hx⟩,rfl⟩
         clear y0 y1 y2 y3
         by_cases hh:Has k p.h (x:Int)
         ·obtain rfl:t=true:=hx.2 hh
          have HH:Hid (Has k p.h (x:Int)):=hh
          clear hx hh
          go_wp2
          go_ret
          refine⟨BoolIs.no fun h=>?_,hbn⟩
          have:=(h.2.2 k hlt).2.2.2
          rw [HX1.out] at this
          exact this HH.out
         ·obtain rfl:t=false:=bool_no hx hh
          have HH:Hid (HeldOk p k):=by
           refine⟨by rw [HX1.out]; exact Int.natCast_nonneg _,by rw [HX1.out]; exact hxl,by rw [HX1.out,Int.toNat_natCast]; exact HF.out,by rw [HX1.out]; exact hh⟩
          clear hx hh
          go_wp2
          go_roundw
          case rel=>exact⟨k+1,by omega,by go_num,relNext hlt Hall.out HH.out,HX3.out,hbn⟩
          case measure=>simp [intOf]; omega
     ·obtain rfl:k=p.hn:=by omega
      go_wp2
      go_ret
      exact⟨BoolIs.yes ⟨hns,HA.out,Hall.out⟩,hb⟩
theorem hideT{P:Prop}(h:P):Hid P:=h
theorem start22(w:World)(a0 a1 x0 x1:Value)(t1 t2:TypeId) :
  Box2 ((w.alloc (.cells #[a0,a1] t1)).alloc (.cells #[x0,x1] t2)) w.heap.size a0 a1∧Box2 ((w.alloc (.cells #[a0,a1] t1)).alloc (.cells #[x0,x1] t2)) (w.heap.size+1) x0 x1∧
  Below w.heap.size w ((w.alloc (.cells #[a0,a1] t1)).alloc (.cells #[x0,x1] t2))∧((w.alloc (.cells #[a0,a1] t1)).alloc (.cells #[x0,x1] t2)).heap.size=w.heap.size+2:=by
 refine⟨(Box2.new w a0 a1 t1).below (below_alloc _ _),?_,below_next (below_alloc _ _) (below_alloc _ _),by simp⟩
 have:=Box2.new (w.alloc (.cells #[a0,a1] t1)) x0 x1 t2
 rw [World.size_alloc] at this
 exact this
set_option maxRecDepth 20000 in
set_option maxHeartbeats 1000000 in
theorem l02Node_any(v0 v1:Value)(lo hi:Nat)(p:PoolD)(xs xb:Int)(w:World)(h1:PoolAt w lo hi v0 v1 p) :
  Calls Tryz.prog 139 #[.agg #[v0,v1],.agg #[.int .i64 xs,.int .i64 xb]] w fun e w'=>BoolIs (NodeAt p xs xb) e∧Below w.heap.size w w':=by
 have Hp:=hideT h1
 obtain⟨a,c,a',c',rfl,rfl⟩:∃a c a' c',v0 = .slice a p.n c∧v1 = .slice a' p.hn c':=by
  obtain⟨⟨_,a,c,h1,_⟩,⟨_,a',c',h3,_⟩⟩:=h1
  exact⟨a,c,a',c',h1,h3⟩
 clear h1
 have hst:=start22 w (.slice a p.n c) (.slice a' p.hn c') (.int .i64 xs) (.int .i64 xb) 33 61
 go_enter Tryz.func139,Tryz.ntmps139
 go_wp2_with fail
 generalize (w.alloc (.cells #[.slice a p.n c,.slice a' p.hn c'] 33)).alloc (.cells #[.int .i64 xs,.int .i64 xb] 61)=W at hst ⊢
 obtain⟨hB,hX,hba,hz⟩:=hst
 refine(l01Points_any _ _ lo hi p xs xb _ (Hp.out.below hba)).mono ?_
 rintro e w1 ⟨⟨t,rfl,ht⟩,hb1⟩
 have HB1:=hideT (hB.below hb1)
 have HX1:=hideT (hX.below hb1)
 have hB1:=below_next hba hb1
 clear hB hX hba hb1
 by_cases hPt:Points p xs xb
 ·obtain rfl:t=true:=ht.2 hPt
  have HPt:=hideT hPt
  obtain⟨k,rfl⟩:=Int.eq_ofNat_of_zero_le hPt.2.1
  have hk:k<p.n:=by have:=hPt.2.2.1; omega
  have hk':(k:Int)<(p.n:Int):=by omega
  clear ht hPt
  obtain⟨b,off,ka,kc,rfl,hs⟩:=(Hp.out.1.below hB1).cells hk
  obtain⟨q0,q1,q2,_⟩:=hs
  obtain⟨⟨x0,x1⟩,⟨x2,x3⟩⟩:=HB1.out
  obtain⟨⟨y0,y1⟩,⟨y2,y3⟩⟩:=HX1.out
  by_cases hkn:0<(p.s k).kn
  ·have HK:=hideT hkn
   have f1:(0:Int)<((p.s k).kn:Int):=by first | omega | simp [hkn]
   clear hkn
   go_wp2_with fail
   refine(l01Has_any _ p.hn lo hi p.h _ _ (Hp.out.2.below hB1)).mono ?_
   rintro e w2 ⟨⟨t2,rfl,ht2⟩,rfl⟩
   have HT:=hideT ht2
   clear ht2 x0 x1 x2 x3 y0 y1 y2 y3 q0 q1 q2
   go_wp2
   go_ret
   refine⟨?_,hB1⟩
   by_cases hh:Has p.hn p.h (k:Int)
   ·obtain rfl:t2=true:=HT.out.2 hh
    exact BoolIs.no fun h=>h.2.2 hh
   ·obtain rfl:t2=false:=bool_no HT.out hh
    refine BoolIs.yes ⟨HPt.out,?_,hh⟩
    rw [Int.toNat_natCast]
    exact HK.out
  ·have HK:=hideT hkn
   have f1:¬(0:Int)<((p.s k).kn:Int):=by first | omega | (simp; omega)
   clear hkn
   go_wp2
   go_ret
   refine⟨BoolIs.no fun h=>?_,hB1⟩
   have:=h.2.1
   rw [Int.toNat_natCast] at this
   exact HK.out this
 ·obtain rfl:t=false:=bool_no ht hPt
  have HPt:=hideT hPt
  clear ht hPt
  go_wp2
  go_ret
  exact⟨BoolIs.no fun h=>HPt.out h.1,hB1⟩
set_option maxRecDepth 20000 in
set_option maxHeartbeats 1000000 in
theorem l02Page_any(v0 v1:Value)(lo hi:Nat)(p:PoolD)(xs xb:Int)(w:World)(h1:PoolAt w lo hi v0 v1 p) :
  Calls Tryz.prog 140 #[.agg #[v0,v1],.agg #[.int .i64 xs,.int .i64 xb]] w fun e w'=>BoolIs (PageAt p xs xb) e∧Below w.heap.size w w':=by
 have Hp:=hideT h1
 obtain⟨a,c,a',c',rfl,rfl⟩:∃a c a' c',v0 = .slice a p.n c∧v1 = .slice a' p.hn c':=by
  obtain⟨⟨_,a,c,h1,_⟩,⟨_,a',c',h3,_⟩⟩:=h1
  exact⟨a,c,a',c',h1,h3⟩
 clear h1
 have hst:=start22 w (.slice a p.n c) (.slice a' p.hn c') (.int .i64 xs) (.int .i64 xb) 33 61
 go_enter Tryz.func140,Tryz.ntmps140
 go_wp2_with fail
 generalize (w.alloc (.cells #[.slice a p.n c,.slice a' p.hn c'] 33)).alloc (.cells #[.int .i64 xs,.int .i64 xb] 61)=W at hst ⊢
 obtain⟨hB,hX,hba,hz⟩:=hst
 refine(l01Points_any _ _ lo hi p xs xb _ (Hp.out.below hba)).mono ?_
 rintro e w1 ⟨⟨t,rfl,ht⟩,hb1⟩
 have HB1:=hideT (hB.below hb1)
 have HX1:=hideT (hX.below hb1)
 have hB1:=below_next hba hb1
 clear hB hX hba hb1
 by_cases hPt:Points p xs xb
 ·obtain rfl:t=true:=ht.2 hPt
  have HPt:=hideT hPt
  obtain⟨k,rfl⟩:=Int.eq_ofNat_of_zero_le hPt.2.1
  have hk:k<p.n:=by have:=hPt.2.2.1; omega
  have hk':(k:Int)<(p.n:Int):=by omega
  clear ht hPt
  obtain⟨b,off,ka,kc,rfl,hs⟩:=(Hp.out.1.below hB1).cells hk
  obtain⟨q0,q1,q2,_⟩:=hs
  obtain⟨⟨x0,x1⟩,⟨x2,x3⟩⟩:=HB1.out
  obtain⟨⟨y0,y1⟩,⟨y2,y3⟩⟩:=HX1.out
  by_cases hkn:(p.s k).kn=0
  ·have HK:=hideT hkn
   have f1:(((p.s k).kn:Int) == 0)=true:=by first | omega | simp [hkn]
   clear hkn
   go_wp2_with fail
   refine(l01Has_any _ p.hn lo hi p.h _ _ (Hp.out.2.below hB1)).mono ?_
   rintro e w2 ⟨⟨t2,rfl,ht2⟩,rfl⟩
   have HT:=hideT ht2
   clear ht2 x0 x1 x2 x3 y0 y1 y2 y3 q0 q1 q2
   go_wp2
   go_ret
   refine⟨?_,hB1⟩
   by_cases hh:Has p.hn p.h (k:Int)
   ·obtain rfl:t2=true:=HT.out.2 hh
    exact BoolIs.no fun h=>h.2.2 hh
   ·obtain rfl:t2=false:=bool_no HT.out hh
    refine BoolIs.yes ⟨HPt.out,?_,hh⟩
    rw [Int.toNat_natCast]
    exact HK.out
  ·have HK:=hideT hkn
   have f1:(((p.s k).kn:Int) == 0)=false:=by first | omega | (simp; omega)
   clear hkn
   go_wp2
   go_ret
   refine⟨BoolIs.no fun h=>?_,hB1⟩
   have:=h.2.1
   rw [Int.toNat_natCast] at this
   exact HK.out this
 ·obtain rfl:t=false:=bool_no ht hPt
  have HPt:=hideT hPt
  clear ht hPt
  go_wp2
  go_ret
  exact⟨BoolIs.no fun h=>HPt.out h.1,hB1⟩
end Go.Proofs.YtmgeglgboadfiaaGreatDoor
