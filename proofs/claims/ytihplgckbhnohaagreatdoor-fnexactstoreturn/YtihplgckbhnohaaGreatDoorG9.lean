/- What impl.PoolRight answers: true just where the pool is right. -/
import Derived.Test.YtihplgckbhnohaaGreatDoorG8
import Derived.Test.YtihplgckbhnohaaGreatDoorG4
import Derived.Test.YtihplgckbhnohaaGreatDoorG1
import Derived.Deep.RegionWith
import Derived.Maps.OwnSet
namespace Go.Proofs.YtihplgckbhnohaaGreatDoor
open Go.RowKit
set_option linter.unusedVariables false
theorem pigeon:∀(m n:Nat) (h:Nat→Nat),(∀i,i<m→h i<n)→(∀i j,i<j→j<m→h i≠h j)→m≤n
 | 0,_,_,_,_=>Nat.zero_le _
 | m+1,0,h,hlt,_=>absurd (hlt 0 (by omega)) (Nat.not_lt_zero _)
 | m+1,n+1,h,hlt,hne=>by
  have key:=pigeon m n (fun i=>if h i<h m then h i else h i - 1) (fun i hi=>by
   have a:=hlt i (by omega)
   have b:=hne i m hi (by omega)
   have c:=hlt m (by omega)
   show(if h i<h m then h i else h i - 1)<n
   split <;> omega) (fun i j hij hj=>by
   have a:=hne i j hij (by omega)
   have b:=hne i m (by omega) (by omega)
   have c:=hne j m (by omega) (by omega)
   show(if h i<h m then h i else h i - 1)≠(if h j<h m then h j else h j - 1)
   split <;> split <;> omega)
  omega
theorem free_birth{s:SlotD}(h:Free s):s.birth=0:=h.1
theorem ok_birth{n:Nat}{f:Nat→SlotD}{s:SlotD}(h:SlotRightI n f s)(hf:¬Free s):1≤s.birth:=by
 rcases h with h | h | h
 ·exact absurd h hf
 ·exact h.1.1
 ·exact h.1.1.1
theorem fits_birth{p:PoolD}{s:SlotD}(h:Free s∨Fits p s)(hf:¬Free s):1≤s.birth:=by
 rcases h with h | h
 ·exact absurd h hf
 ·exact h.1.1
theorem kid_iff{p:PoolD}{b ks kb:Int}(hall:∀i,i<p.n→¬Free (p.s i)→1≤(p.s i).birth):KidFound p.n p.s b ks kb ks kb↔KidOk p b ks kb:=by
 constructor
 ·rintro⟨ps,pb,hp,h⟩
  rcases h with⟨h,rfl,rfl⟩ | ⟨h,rfl,rfl⟩
  ·exact Or.inl ⟨rfl,rfl⟩
  ·rcases hp with⟨h1,h2,h3,_,h5⟩ | ⟨h1,rfl,rfl⟩
   ·right
    have hb:=hall ks.toNat (by omega) h3
    rw [←h5] at hb
    refine⟨⟨hb,h1,h2,h5.symm⟩,?_⟩
    by_cases hx:b<kb
    ·exact absurd (Or.inr hx) h
    ·omega
   ·exact absurd (Or.inl ⟨rfl,rfl⟩) h
 ·rintro(⟨rfl,rfl⟩ | ⟨⟨h1,h2,h3,h4⟩,h5⟩)
  ·by_cases hx:0<p.n∧¬Free (p.s 0)
   ·refine⟨0,(p.s 0).birth,Or.inl ⟨by omega,by omega,?_,rfl,rfl⟩,Or.inl ⟨Or.inl ⟨rfl,rfl⟩,rfl,rfl⟩⟩
    exact hx.2
   ·refine⟨0,0,Or.inr ⟨fun h=>hx ⟨by omega,h.2.2⟩,rfl,rfl⟩,Or.inl ⟨Or.inl ⟨rfl,rfl⟩,rfl,rfl⟩⟩
  ·refine⟨ks,kb,Or.inl ⟨h2,h3,fun hf=>?_,rfl,h4.symm⟩,Or.inr ⟨fun h=>?_,rfl,rfl⟩⟩
   ·have:=free_birth hf; omega
   ·rcases h with h | h
    ·have:=h.2; omega
    ·omega
theorem right_iff(p:PoolD):RightI p↔Right p:=by
 constructor
 ·rintro⟨h1,h2,h3,h4⟩
  have hall:∀i,i<p.n→¬Free (p.s i)→1≤(p.s i).birth:=fun i hi=>ok_birth (h3 i hi)
  refine⟨h1,fun i hi=>?_,fun i hi=>?_⟩
  ·rcases h3 i hi with h | h | h
   ·exact Or.inl h
   ·exact Or.inr ⟨h.1,Or.inl h.2⟩
   ·refine Or.inr ⟨h.1.1,Or.inr ⟨h.1.2.1,h.1.2.2,fun j hj=>?_⟩⟩
    exact(kid_iff hall).1 (h.2 j (by have:=h.1.2.1; omega))
  ·obtain⟨ha,hb⟩:=h4 i hi
   have hx:0≤p.h i∧p.h i<p.n∧¬Free (p.s (p.h i).toNat):=by
    by_cases hx:0≤p.h i∧p.h i<p.n∧¬Free (p.s (p.h i).toNat)
    ·exact hx
    ·exact absurd (Or.inr ⟨hx,rfl,rfl⟩) ha
   exact⟨hx.1,hx.2.1,hx.2.2,hb⟩
 ·rintro⟨h1,h3,h4⟩
  have hall:∀i,i<p.n→¬Free (p.s i)→1≤(p.s i).birth:=fun i hi=>fits_birth (h3 i hi)
  refine⟨h1,?_,fun i hi=>?_,fun i hi=>?_⟩
  ·refine pigeon p.hn p.n (fun i=>(p.h i).toNat) (fun i hi=>?_) (fun i j hij hj=>?_)
   ·obtain⟨a,b,_,_⟩:=h4 i hi
    show(p.h i).toNat<p.n
    omega
   ·obtain⟨a,b,_,d⟩:=h4 j hj
    obtain⟨a',b',_,_⟩:=h4 i (by omega)
    show(p.h i).toNat≠(p.h j).toNat
    intro e
    exact d ⟨i,hij,by omega⟩
  ·rcases h3 i hi with h | h
   ·exact Or.inl h
   ·rcases h.2 with g | g
    ·exact Or.inr (Or.inl ⟨h.1,g⟩)
    ·exact Or.inr (Or.inr ⟨⟨h.1,g.1,g.2.1⟩,fun j hj=>(kid_iff hall).2 (g.2.2 j (by omega))⟩)
  ·obtain⟨a,b,c,d⟩:=h4 i hi
   refine⟨fun hx=>?_,d⟩
   rcases hx with⟨_,_,_,e1,e2⟩ | ⟨hx,_⟩
   ·have:=hall (p.h i).toNat (by omega) c
    omega
   ·exact hx ⟨a,b,c⟩
set_option maxRecDepth 20000 in
set_option maxHeartbeats 1000000 in
theorem implPoolRight_any(v0 v1:Value)(lo hi:Nat)(p:PoolD)(w:World)(h1:PoolAt w lo hi v0 v1 p) :
  Calls Tryz.prog 120 #[.agg #[v0,v1]] w fun e w'=>BoolIs (Right p) e∧Below w.heap.size w w':=by
 have Hp:Hid (PoolAt w lo hi v0 v1 p):=h1
 obtain⟨⟨m1,a,c,rfl,mc,g1⟩,⟨m2,a',c',rfl,mc',g2⟩⟩:=h1
 unfold maxLen at m1 m2
 clear g1 g2
 have Hbw:Hid (Below w.heap.size w (w.alloc (.cells #[.slice a p.n c,.slice a' p.hn c'] 35))):=below_alloc _ _
 by_cases hn:(200:Int)<p.n
 ·have H:Hid (¬Right p):=fun h=>by have:=h.1; omega
  go_enter Tryz.func120,Tryz.ntmps120
  go_wp2
  go_ret
  exact⟨BoolIs.no H.out,Hbw.out⟩
 by_cases hn2:(p.n:Int)<p.hn
 ·have H:Hid (¬Right p):=fun h=>by have:=((right_iff p).2 h).2.1; omega
  go_enter Tryz.func120,Tryz.ntmps120
  go_wp2
  go_ret
  exact⟨BoolIs.no H.out,Hbw.out⟩
 ·go_enter Tryz.func120,Tryz.ntmps120
  go_wp2
  go_loopw [21] (fun i wr=>∃k:Nat,k≤p.n∧i = .int .i64 k∧(∀j,j<k→SlotRightI p.n p.s (p.s j))∧Box2 wr w.heap.size (.slice a p.n c) (.slice a' p.hn c')∧Below w.heap.size w wr) (fun i _=>p.n - (intOf i).toNat)
  case atStart=>exact⟨0,Nat.zero_le _,rfl,fun j hj=>absurd hj (Nat.not_lt_zero _),Box2.new _ _ _ _,Hbw.out⟩
  case round=>
   obtain⟨k,hk,rfl,hall,hx,hb⟩:=hrel
   have Hall:Hid (∀j,j<k→SlotRightI p.n p.s (p.s j)):=hall
   have Hx:Hid (Box2 wr w.heap.size (.slice a p.n c) (.slice a' p.hn c')):=hx
   clear hall hx
   obtain⟨⟨y0,y1⟩,⟨y2,y3⟩⟩:=Hx.out
   have hz0:w.heap.size<wr.heap.size:=Hx.out.1.lt
   by_cases hlt:k<p.n
   ·have hlt':(k:Int)<(p.n:Int):=by omega
    obtain⟨b,off,ka,kc,rfl,hs⟩:=(Hp.out.1.below hb).cells hlt
    have Hs:Hid (SlotCells wr b (off+k*3) lo hi ka kc (p.s k)):=hs
    obtain⟨q0,q1,q2,_⟩:=hs
    go_wp2_with fail
    have hal:=below_alloc wr (.cells #[.int .i64 (p.s k).birth,.slice ka (p.s k).kn kc,.string (p.s k).data] 66)
    refine(slotRight_any _ _ _ _ p.n lo hi lo hi p.s (p.s k) _ (Hp.out.1.below (below_next hb hal)) (Hs.out.slot.below hal)).mono ?_
    rintro e w1 ⟨⟨t,rfl,ht⟩,hb1⟩
    have hbb:=below_next hal hb1
    have HX:Hid (Box2 w1 w.heap.size (.slice (some ⟨b,off,none⟩) p.n c) (.slice a' p.hn c')):=Hx.out.below hbb
    have hbn:=below_next hb hbb
    have Ht:Hid (t=true↔SlotRightI p.n p.s (p.s k)):=ht
    clear hal hb1 hbb ht q0 q1 q2 y0 y1 y2 y3 Hx Hs
    cases t
    ·go_wp2
     go_ret
     refine⟨BoolIs.no fun h=>?_,hbn⟩
     have:=((right_iff p).2 h).2.2.1 k hlt
     exact absurd (Ht.out.2 this) (by simp)
    ·go_wp2
     go_roundw
     case rel=>exact⟨k+1,by omega,by go_num,relNext hlt Hall.out (by simpa using Ht.out),HX.out,hbn⟩
     case measure=>simp [intOf]; omega
   ·obtain rfl:k=p.n:=by omega
    go_wp2_with fail
    refine(heldRight_any _ _ lo hi p _ (Hp.out.below hb)).mono ?_
    rintro e w1 ⟨⟨t,rfl,ht⟩,hb1⟩
    have Ht:Hid (t=true↔∀i,i<p.hn→HeldOkI p i):=ht
    have hbn:=below_next hb hb1
    clear ht hb1 y0 y1 y2 y3
    go_wp2
    go_ret
    refine⟨⟨t,rfl,Ht.out.trans ⟨fun h=>?_,fun h=>?_⟩⟩,hbn⟩
    ·exact(right_iff p).1 ⟨by omega,by omega,Hall.out,h⟩
    ·exact((right_iff p).2 h).2.2.2
end Go.Proofs.YtihplgckbhnohaaGreatDoor

namespace Go.Proofs.YtihplgckbhnohaaGreatDoor
open Go.RowKit
set_option linter.unusedVariables false
set_option maxRecDepth 20000 in
set_option maxHeartbeats 1000000 in
theorem l01Points_any(v0 v1:Value)(lo hi:Nat)(p:PoolD)(xs xb:Int)(w:World)(h1:PoolAt w lo hi v0 v1 p) :
  Calls Tryz.prog 106 #[.agg #[v0,v1],.agg #[.int .i64 xs,.int .i64 xb]] w fun e w'=>BoolIs (Points p xs xb) e∧Below w.heap.size w w':=by
 obtain⟨⟨m1,a,c,rfl,mc,g1⟩,⟨_,a',c',rfl,_⟩⟩:=h1
 unfold maxLen at m1
 have G1:Hid (0<p.n→∃b off,a=some ⟨b,off,none⟩∧lo≤b∧b<hi∧∀i,i<p.n→∃v0 v1 v2,w.cell? ⟨b,off+i*3,none⟩=some v0∧w.cell? ⟨b,off+i*3+1,none⟩=some v1∧w.cell? ⟨b,off+i*3+2,none⟩=some v2∧SlotAt w lo hi v0 v1 v2 (p.s i)):=g1
 clear g1
 have hbw:=((Below.refl w.heap.size w).alloc (Nat.le_refl _) (.cells #[.slice a p.n c,.slice a' p.hn c'] 35)).alloc (by simp) (.cells #[.int .i64 xs,.int .i64 xb] 88)
 have Hbw:Hid (Below w.heap.size w ((w.alloc (.cells #[.slice a p.n c,.slice a' p.hn c'] 35)).alloc (.cells #[.int .i64 xs,.int .i64 xb] 88))):=hbw
 clear hbw
 by_cases h1:1≤xb
 ·by_cases h2:0≤xs
  ·by_cases h3:xs<p.n
   ·obtain⟨x,rfl⟩:=Int.eq_ofNat_of_zero_le h2
    have h3n:x<p.n:=by omega
    obtain⟨b,off,rfl,_,_,k1⟩:=G1.out (by omega)
    obtain⟨x0,x1,x2,c0,c1,c2,hs⟩:=k1 x h3n
    obtain⟨rfl,_⟩:=hs
    have hlt:=lt_of_cell c0
    clear k1 G1 c1 c2
    by_cases h4:(p.s x).birth=xb
    ·have H:Hid (Points p x xb):=⟨h1,h2,h3,by rw [Int.toNat_natCast]; exact h4⟩
     have e4:((p.s x).birth == xb)=true:=by simp [h4]
     clear h4
     go_enter Tryz.func106,Tryz.ntmps106
     go_wp2_with fail
     go_quiet (fail)
     go_wp2
     go_ret
     exact⟨BoolIs.yes H.out,below_drewN Hbw.out _⟩
    ·have H:Hid (¬Points p x xb):=fun h=>h4 (by have:=h.2.2.2; rw [Int.toNat_natCast] at this; exact this)
     have e4:((p.s x).birth == xb)=false:=by simp [h4]
     clear h4
     go_enter Tryz.func106,Tryz.ntmps106
     go_wp2_with fail
     go_quiet (fail)
     go_wp2
     go_ret
     exact⟨BoolIs.no H.out,below_drewN Hbw.out _⟩
   ·have H:Hid (¬Points p xs xb):=fun h=>h3 h.2.2.1
    have e3:decide (xs<(p.n:Int))=false:=by simpa using h3
    go_enter Tryz.func106,Tryz.ntmps106
    go_wp2_with fail
    go_quiet (fail)
    go_wp2
    go_ret
    exact⟨BoolIs.no H.out,below_drewN Hbw.out _⟩
  ·have H:Hid (¬Points p xs xb):=fun h=>h2 h.2.1
   have e3:decide (0≤xs)=false:=by simpa using h2
   go_enter Tryz.func106,Tryz.ntmps106
   go_wp2_with fail
   go_quiet (fail)
   go_wp2
   go_ret
   exact⟨BoolIs.no H.out,below_drewN Hbw.out _⟩
 ·have H:Hid (¬Points p xs xb):=fun h=>h1 h.1
  have e3:decide (1≤xb)=false:=by simpa using h1
  go_enter Tryz.func106,Tryz.ntmps106
  go_wp2_with fail
  go_quiet (fail)
  go_wp2
  go_ret
  exact⟨BoolIs.no H.out,below_drewN Hbw.out _⟩
theorem Box2.two(w:World)(v0 v1:Value)(t:TypeId)(o:Obj):Box2 ((w.alloc (.cells #[v0,v1] t)).alloc o) w.heap.size v0 v1:=(Box2.new w v0 v1 t).below (below_alloc _ _)
theorem Box3.second(w:World)(v0 v1 v2:Value)(t:TypeId)(o:Obj):Box3 ((w.alloc o).alloc (.cells #[v0,v1,v2] t)) (w.heap.size+1) v0 v1 v2:=by
 have:=Box3.new (w.alloc o) v0 v1 v2 t
 rw [World.size_alloc] at this
 exact this
set_option maxRecDepth 20000 in
set_option maxHeartbeats 1000000 in
theorem l01Fits_any(v0 v1 s0 s1 s2:Value)(lo hi lo' hi':Nat)(p:PoolD)(s:SlotD)(w:World)(h1:PoolAt w lo hi v0 v1 p)(h2:SlotAt w lo' hi' s0 s1 s2 s) :
  Calls Tryz.prog 75 #[.agg #[v0,v1],.agg #[s0,s1,s2]] w fun e w'=>BoolIs (Fits p s) e∧Below w.heap.size w w':=by
 have Hp:Hid (PoolAt w lo hi v0 v1 p):=h1
 obtain⟨⟨m1,a,c,rfl,_⟩,⟨_,a',c',rfl,_⟩⟩:=h1
 obtain⟨rfl,hk,rfl,m3⟩:=h2
 obtain⟨m2,ka,kc,rfl,mkc,g1⟩:=hk
 have G1:Hid (0<s.kn→∃b off,ka=some ⟨b,off,none⟩∧lo'≤b∧b<hi'∧∀i,i<s.kn→w.cell? ⟨b,off+i*2,none⟩=some (.int .i64 (s.ks i))∧w.cell? ⟨b,off+i*2+1,none⟩=some (.int .i64 (s.kb i))):=g1
 clear g1
 unfold maxLen at m1 m2 m3
 have hbw:=((Below.refl w.heap.size w).alloc (Nat.le_refl _) (.cells #[.slice a p.n c,.slice a' p.hn c'] 35)).alloc (by simp) (.cells #[.int .i64 s.birth,.slice ka s.kn kc,.string s.data] 66)
 have Hbw:Hid (Below w.heap.size w ((w.alloc (.cells #[.slice a p.n c,.slice a' p.hn c'] 35)).alloc (.cells #[.int .i64 s.birth,.slice ka s.kn kc,.string s.data] 66))):=hbw
 clear hbw
 by_cases hB:BirthOk s.birth
 ·by_cases hk0:s.kn=0
  ·have e2:((s.kn:Int) == 0)=true:=by simp [hk0]
   by_cases hd:s.data.size=16
   ·have H:Hid (Fits p s):=⟨hB,Or.inl ⟨hk0,hd⟩⟩
    have HB:Hid (BirthOk s.birth):=hB
    have e3:((s.data.size:Int) == 16)=true:=by simp [hd]
    clear hk0 hd hB
    go_enter Tryz.func75,Tryz.ntmps75
    go_wp2_with (go_at_call 105; refine(l01Birth_any _ _).mono ?_; rintro e w' ⟨⟨t,rfl,ht⟩,rfl⟩; obtain rfl:t=true:=ht.2 HB.out; clear ht)
    go_ret
    exact⟨BoolIs.yes H.out,Hbw.out⟩
   ·have H:Hid (¬Fits p s):=fun h=>by
     rcases h.2 with h | h
     ·exact hd h.2
     ·omega
    have HB:Hid (BirthOk s.birth):=hB
    have e3:((s.data.size:Int) == 16)=false:=by simp; omega
    clear hk0 hd hB
    go_enter Tryz.func75,Tryz.ntmps75
    go_wp2_with (go_at_call 105; refine(l01Birth_any _ _).mono ?_; rintro e w' ⟨⟨t,rfl,ht⟩,rfl⟩; obtain rfl:t=true:=ht.2 HB.out; clear ht)
    go_ret
    exact⟨BoolIs.no H.out,Hbw.out⟩
  ·have e2:((s.kn:Int) == 0)=false:=by simp; omega
   by_cases hk8:s.kn=8
   ·by_cases hd:s.data.toList.isEmpty=true
    ·have HB:Hid (BirthOk s.birth):=hB
     have e3:((s.kn:Int) != 8)=false:=by simp; omega
     have H8:Hid (s.kn=8):=hk8
     have hk8':(s.kn:Int)≤8:=by omega
     clear hk8 hB hk0
     have HD:Hid (s.data.toList.isEmpty=true):=hd
     go_enter Tryz.func75,Tryz.ntmps75
     go_wp2_with (go_at_call 105; refine(l01Birth_any _ _).mono ?_; rintro e w' ⟨⟨t,rfl,ht⟩,rfl⟩; obtain rfl:t=true:=ht.2 HB.out; clear ht)
     go_loopw [5] (fun i wr=>∃k:Nat,k≤s.kn∧i = .int .i64 k∧(∀j,j<k→KidOk p s.birth (s.ks j) (s.kb j))∧Box2 wr w.heap.size (.slice a p.n c) (.slice a' p.hn c')∧Box3 wr (w.heap.size+1) (.int .i64 s.birth) (.slice ka s.kn kc) (.string s.data)∧Below w.heap.size w wr) (fun i _=>s.kn - (intOf i).toNat)
     case atStart=>exact⟨0,Nat.zero_le _,rfl,fun j hj=>absurd hj (Nat.not_lt_zero _),Box2.two _ _ _ _ _,Box3.second _ _ _ _ _ _,Hbw.out⟩
     case round=>
      obtain⟨k,hk,rfl,hall,hx2,hx3,hb⟩:=hrel
      have Hall:Hid (∀j,j<k→KidOk p s.birth (s.ks j) (s.kb j)):=hall
      have Hx2:Hid (Box2 wr w.heap.size (.slice a p.n c) (.slice a' p.hn c')):=hx2
      have Hx3:Hid (Box3 wr (w.heap.size+1) (.int .i64 s.birth) (.slice ka s.kn kc) (.string s.data)):=hx3
      clear hall hx2 hx3
      have hz0:w.heap.size<wr.heap.size:=Hx2.out.1.lt
      have hz1:w.heap.size+1<wr.heap.size:=Hx3.out.1.lt
      obtain⟨⟨y0,y1⟩,⟨y2,y3⟩⟩:=Hx2.out
      obtain⟨⟨z0,z1⟩,⟨z2,z3⟩,⟨z4,z5⟩⟩:=Hx3.out
      by_cases hlt:k<s.kn
      ·have hlt':(k:Int)<(s.kn:Int):=by omega
       obtain⟨b,off,rfl,_,_,k1⟩:=G1.out (by omega)
       have hc1:=(hb.cell (lt_of_cell (k1 k hlt).1)).trans (k1 k hlt).1
       have hd1:=(hb.cell (lt_of_cell (k1 k hlt).2)).trans (k1 k hlt).2
       clear k1 G1
       go_wp2_with fail
       have hal:=below_alloc wr (.cells #[.int .i64 (s.ks k),.int .i64 (s.kb k)] 88)
       refine(l01None_any _ _ _).mono ?_
       rintro e w1 ⟨⟨t,rfl,ht⟩,hb1⟩
       have HX2:Hid (Box2 w1 w.heap.size (.slice a p.n c) (.slice a' p.hn c')):=(Hx2.out.below hal).below hb1
       have HX3:Hid (Box3 w1 (w.heap.size+1) (.int .i64 s.birth) (.slice (some ⟨b,off,none⟩) s.kn kc) (.string s.data)):=(Hx3.out.below hal).below hb1
       have HX4:Hid (Box2 w1 wr.heap.size (.int .i64 (s.ks k)) (.int .i64 (s.kb k))):=(Box2.new wr _ _ _).below hb1
       have hbN:Below w.heap.size w w1:=below_next (below_next hb hal) hb1
       clear hal hb1 y0 y1 y2 y3 z0 z1 z2 z3 z4 z5 hc1 hd1 Hx2 Hx3
       by_cases hnone:PtrEq (s.ks k) (s.kb k) 0 0
       ·obtain rfl:t=true:=ht.2 hnone
        have HK:Hid (KidOk p s.birth (s.ks k) (s.kb k)):=Or.inl hnone
        clear ht hnone
        go_wp2
        go_roundw
        case rel=>exact⟨k+1,by omega,by go_num,relNext hlt Hall.out HK.out,HX2.out,HX3.out,hbN⟩
        case measure=>simp [intOf]; omega
       ·obtain rfl:t=false:=Bool.eq_false_iff.2 (fun h=>hnone (ht.1 h))
        have HN:Hid (¬PtrEq (s.ks k) (s.kb k) 0 0):=hnone
        clear ht hnone
        obtain⟨⟨y0,y1⟩,⟨y2,y3⟩⟩:=HX2.out
        obtain⟨⟨q0,q1⟩,⟨q2,q3⟩⟩:=HX4.out
        go_wp2_with fail
        refine(l01Points_any _ _ lo hi p _ _ _ (Hp.out.below hbN)).mono ?_
        rintro e w2 ⟨⟨t,rfl,ht⟩,hb2⟩
        have HY2:Hid (Box2 w2 w.heap.size (.slice a p.n c) (.slice a' p.hn c')):=HX2.out.below hb2
        have HY3:Hid (Box3 w2 (w.heap.size+1) (.int .i64 s.birth) (.slice (some ⟨b,off,none⟩) s.kn kc) (.string s.data)):=HX3.out.below hb2
        have HY4:Hid (Box2 w2 wr.heap.size (.int .i64 (s.ks k)) (.int .i64 (s.kb k))):=HX4.out.below hb2
        have hbM:Below w.heap.size w w2:=below_next hbN hb2
        clear hb2 hbN y0 y1 y2 y3 q0 q1 q2 q3 HX2 HX3 HX4
        by_cases hpo:Points p (s.ks k) (s.kb k)
        ·obtain rfl:t=true:=ht.2 hpo
         have HP:Hid (Points p (s.ks k) (s.kb k)):=hpo
         clear ht hpo
         obtain⟨⟨q0,q1⟩,⟨q2,q3⟩⟩:=HY4.out
         obtain⟨⟨z0,z1⟩,⟨z2,z3⟩,⟨z4,z5⟩⟩:=HY3.out
         by_cases hle:s.birth<s.kb k
         ·go_wp2
          go_ret
          refine⟨BoolIs.no fun h=>?_,hbM⟩
          rcases h.2 with h | h
          ·omega
          ·rcases h.2.2 k hlt with h | h
           ·exact HN.out h
           ·have:=h.2; omega
         ·have HK:Hid (KidOk p s.birth (s.ks k) (s.kb k)):=Or.inr ⟨HP.out,by omega⟩
          go_wp2
          go_roundw
          case rel=>exact⟨k+1,by omega,by go_num,relNext hlt Hall.out HK.out,HY2.out,HY3.out,hbM⟩
          case measure=>simp [intOf]; omega
        ·obtain rfl:t=false:=Bool.eq_false_iff.2 (fun h=>hpo (ht.1 h))
         have HP:Hid (¬Points p (s.ks k) (s.kb k)):=hpo
         clear ht hpo
         go_wp2
         go_ret
         refine⟨BoolIs.no fun h=>?_,hbM⟩
         rcases h.2 with h | h
         ·omega
         ·rcases h.2.2 k hlt with h | h
          ·exact HN.out h
          ·exact HP.out h.1
      ·go_wp2
       go_ret
       exact⟨BoolIs.yes ⟨HB.out,Or.inr ⟨H8.out,HD.out,fun i hi=>Hall.out i (by omega)⟩⟩,hb⟩
    ·have H:Hid (¬Fits p s):=fun h=>by
      rcases h.2 with h | h
      ·omega
      ·exact hd h.2.1
     have HB:Hid (BirthOk s.birth):=hB
     have e3:((s.kn:Int) != 8)=false:=by simp; omega
     have e4:s.data.toList.isEmpty=false:=by simpa using hd
     clear hk8 hB hk0 hd
     go_enter Tryz.func75,Tryz.ntmps75
     go_wp2_with (go_at_call 105; refine(l01Birth_any _ _).mono ?_; rintro e w' ⟨⟨t,rfl,ht⟩,rfl⟩; obtain rfl:t=true:=ht.2 HB.out; clear ht)
     go_ret
     exact⟨BoolIs.no H.out,Hbw.out⟩
   ·have H:Hid (¬Fits p s):=fun h=>by
     rcases h.2 with h | h
     ·omega
     ·exact hk8 h.1
    have HB:Hid (BirthOk s.birth):=hB
    have e3:((s.kn:Int) != 8)=true:=by simp; omega
    clear hk8 hB hk0
    go_enter Tryz.func75,Tryz.ntmps75
    go_wp2_with (go_at_call 105; refine(l01Birth_any _ _).mono ?_; rintro e w' ⟨⟨t,rfl,ht⟩,rfl⟩; obtain rfl:t=true:=ht.2 HB.out; clear ht)
    go_ret
    exact⟨BoolIs.no H.out,Hbw.out⟩
 ·have HB:Hid (¬BirthOk s.birth):=hB
  clear hB
  go_enter Tryz.func75,Tryz.ntmps75
  go_wp2_with (go_at_call 105; refine(l01Birth_any _ _).mono ?_; rintro e w' ⟨⟨t,rfl,ht⟩,rfl⟩; obtain rfl:t=false:=Bool.eq_false_iff.2 (fun h=>HB.out (ht.1 h)); clear ht)
  go_ret
  exact⟨BoolIs.no fun h=>HB.out h.1,Hbw.out⟩
end Go.Proofs.YtihplgckbhnohaaGreatDoor

namespace Go.Proofs.YtihplgckbhnohaaGreatDoor
open Go.RowKit
set_option linter.unusedVariables false
set_option maxRecDepth 20000 in
set_option maxHeartbeats 1000000 in
theorem specPoolRight_any(v0 v1:Value)(lo hi:Nat)(p:PoolD)(w:World)(h1:PoolAt w lo hi v0 v1 p) :
  Calls Tryz.prog 45 #[.agg #[v0,v1]] w fun e w'=>BoolIs (Right p) e∧Below w.heap.size w w':=by
 have Hp:Hid (PoolAt w lo hi v0 v1 p):=h1
 obtain⟨⟨m1,a,c,rfl,mc,g1⟩,⟨m2,a',c',rfl,mc',g2⟩⟩:=h1
 unfold maxLen at m1 m2
 clear g1 g2
 have Hbw:Hid (Below w.heap.size w (w.alloc (.cells #[.slice a p.n c,.slice a' p.hn c'] 35))):=below_alloc _ _
 by_cases hn:(200:Int)<p.n
 ·have H:Hid (¬Right p):=fun h=>by have:=h.1; omega
  go_enter Tryz.func45,Tryz.ntmps45
  go_wp2
  go_ret
  exact⟨BoolIs.no H.out,Hbw.out⟩
 ·go_enter Tryz.func45,Tryz.ntmps45
  go_wp2
  go_loopw [3] (fun i wr=>∃k:Nat,k≤p.n∧i = .int .i64 k∧(∀j,j<k→Free (p.s j)∨Fits p (p.s j))∧Box2 wr w.heap.size (.slice a p.n c) (.slice a' p.hn c')∧Below w.heap.size w wr) (fun i _=>p.n - (intOf i).toNat)
  case atStart=>exact⟨0,Nat.zero_le _,rfl,fun j hj=>absurd hj (Nat.not_lt_zero _),Box2.new _ _ _ _,Hbw.out⟩
  case round=>
   obtain⟨k,hk,rfl,hall,hx,hb⟩:=hrel
   have Hall:Hid (∀j,j<k→Free (p.s j)∨Fits p (p.s j)):=hall
   have Hx:Hid (Box2 wr w.heap.size (.slice a p.n c) (.slice a' p.hn c')):=hx
   clear hall hx
   obtain⟨⟨y0,y1⟩,⟨y2,y3⟩⟩:=Hx.out
   by_cases hlt:k<p.n
   ·have hlt':(k:Int)<(p.n:Int):=by omega
    obtain⟨b,off,ka,kc,rfl,hs⟩:=(Hp.out.1.below hb).cells hlt
    have Hs:Hid (SlotCells wr b (off+k*3) lo hi ka kc (p.s k)):=hs
    obtain⟨q0,q1,q2,_⟩:=hs
    by_cases hf:Free (p.s k)
    ·have HF:Hid (Free (p.s k)):=hf
     clear hf
     go_wp2_with fail
     first
      | (go_region_with (first | (go_at_call 28; refine(l01Free_any _ _ _ lo hi (p.s k) _ ?_).mono ?_; (exact Hs.out.slot.below ((Below.refl _ _).drew)); rintro e w1 ⟨⟨t,rfl,hx⟩,hb1⟩; obtain rfl:t=true:=hx.2 HF.out; clear hx; have hbb:=below_undrew hb1; have rr0:=(Hx.out.below hbb).1.1; have rr1:=(Hx.out.below hbb).2.1; have rr2:=(Hs.out.below hbb).c0; have rr3:=(Hs.out.below hbb).c1; have rr4:=(Hs.out.below hbb).c2)))
      | fail
     all_goals
      have hbn:=below_next hb hbb
      have HX:Hid (Box2 w1 w.heap.size (.slice (some ⟨b,off,none⟩) p.n c) (.slice a' p.hn c')):=Hx.out.below hbb
      clear hb1 hbb rr0 rr1 rr2 rr3 rr4 q0 q1 q2 y0 y1 y2 y3 Hs Hx
      go_wp2
      go_roundw
      case rel=>exact⟨k+1,by omega,by go_num,relNext hlt Hall.out (Or.inl HF.out),HX.out,hbn⟩
      case measure=>simp [intOf]; omega
    ·have HF:Hid (¬Free (p.s k)):=hf
     clear hf
     by_cases hft:Fits p (p.s k)
     ·have HT:Hid (Fits p (p.s k)):=hft
      clear hft
      go_wp2_with fail
      go_region_held3 (fun w'=>w'.cell? ⟨w.heap.size,0,none⟩=some (.slice (some ⟨b,off,none⟩) p.n c)∧w'.cell? ⟨w.heap.size,1,none⟩=some (.slice a' p.hn c')∧w'.cell? ⟨b,off+k*3,none⟩=some (.int .i64 (p.s k).birth)∧w'.cell? ⟨b,off+k*3+1,none⟩=some (.slice ka (p.s k).kn kc)∧w'.cell? ⟨b,off+k*3+2,none⟩=some (.string (p.s k).data)) (go_keep)
       (first
        | (go_at_call 28; refine(l01Free_any _ _ _ lo hi (p.s k) _ ?_).mono ?_; (exact Hs.out.slot.below ((Below.refl _ _).drew)); rintro e w1 ⟨⟨t,rfl,hx⟩,hb1⟩; obtain rfl:t=false:=bool_no hx HF.out; clear hx; have hbb:=below_undrew hb1; have rr0:=(Hx.out.below hbb).1.1; have rr1:=(Hx.out.below hbb).2.1; have rr2:=(Hs.out.below hbb).c0; have rr3:=(Hs.out.below hbb).c1; have rr4:=(Hs.out.below hbb).c2)
        | (go_at_call 75; refine(l01Fits_any _ _ _ _ _ lo hi lo hi p (p.s k) _ ?_ ?_).mono ?_; (exact Hp.out.below (below_next hb hbb)); (exact Hs.out.slot.below hbb); rintro e w2 ⟨⟨t2,rfl,hx2⟩,hb2⟩; obtain rfl:t2=true:=hx2.2 HT.out; clear hx2; have hbb2:=below_next hbb hb2; have rr0':=(Hx.out.below hbb2).1.1; have rr1':=(Hx.out.below hbb2).2.1; have rr2':=(Hs.out.below hbb2).c0; have rr3':=(Hs.out.below hbb2).c1; have rr4':=(Hs.out.below hbb2).c2))
      have hbn:=below_next hb hbb2
      have HX:Hid (Box2 w2 w.heap.size (.slice (some ⟨b,off,none⟩) p.n c) (.slice a' p.hn c')):=Hx.out.below hbb2
      clear hb1 hbb rr0 rr1 rr2 rr3 rr4 q0 q1 q2 y0 y1 y2 y3 Hs Hx rr0' rr1' rr2' rr3' rr4' hb2 hbb2
      go_wp2
      go_roundw
      case rel=>exact⟨k+1,by omega,by go_num,relNext hlt Hall.out (Or.inr HT.out),HX.out,hbn⟩
      case measure=>simp [intOf]; omega
     ·have HT:Hid (¬Fits p (p.s k)):=hft
      clear hft
      go_wp2_with fail
      go_region_held3 (fun w'=>w'.cell? ⟨w.heap.size,0,none⟩=some (.slice (some ⟨b,off,none⟩) p.n c)∧w'.cell? ⟨w.heap.size,1,none⟩=some (.slice a' p.hn c')∧w'.cell? ⟨b,off+k*3,none⟩=some (.int .i64 (p.s k).birth)∧w'.cell? ⟨b,off+k*3+1,none⟩=some (.slice ka (p.s k).kn kc)∧w'.cell? ⟨b,off+k*3+2,none⟩=some (.string (p.s k).data)) (go_keep)
       (first
        | (go_at_call 28; refine(l01Free_any _ _ _ lo hi (p.s k) _ ?_).mono ?_; (exact Hs.out.slot.below ((Below.refl _ _).drew)); rintro e w1 ⟨⟨t,rfl,hx⟩,hb1⟩; obtain rfl:t=false:=bool_no hx HF.out; clear hx; have hbb:=below_undrew hb1; have rr0:=(Hx.out.below hbb).1.1; have rr1:=(Hx.out.below hbb).2.1; have rr2:=(Hs.out.below hbb).c0; have rr3:=(Hs.out.below hbb).c1; have rr4:=(Hs.out.below hbb).c2)
        | (go_at_call 75; refine(l01Fits_any _ _ _ _ _ lo hi lo hi p (p.s k) _ ?_ ?_).mono ?_; (exact Hp.out.below (below_next hb hbb)); (exact Hs.out.slot.below hbb); rintro e w2 ⟨⟨t2,rfl,hx2⟩,hb2⟩; obtain rfl:t2=false:=bool_no hx2 HT.out; clear hx2; have hbb2:=below_next hbb hb2; have rr0':=(Hx.out.below hbb2).1.1; have rr1':=(Hx.out.below hbb2).2.1; have rr2':=(Hs.out.below hbb2).c0; have rr3':=(Hs.out.below hbb2).c1; have rr4':=(Hs.out.below hbb2).c2))
      have hbn:=below_next hb hbb2
      clear hb1 hbb rr0 rr1 rr2 rr3 rr4 q0 q1 q2 y0 y1 y2 y3 Hs Hx rr0' rr1' rr2' rr3' rr4' hb2 hbb2
      go_wp2
      go_ret
      refine⟨BoolIs.no fun h=>?_,hbn⟩
      rcases h.2.1 k hlt with h | h
      ·exact HF.out h
      ·exact HT.out h
   ·obtain rfl:k=p.n:=by omega
    have hns:p.n≤200:=by omega
    have HX:Hid (Box2 wr w.heap.size (.slice a p.n c) (.slice a' p.hn c')):=Hx.out
    have HB:Hid (Below w.heap.size w wr):=hb
    have HA:Hid (∀j,j<p.n→Free (p.s j)∨Fits p (p.s j)):=Hall.out
    clear Hx hb Hall
    go_wp2
    obtain⟨wo,hwo⟩:∃wo:World,wo=wr:=⟨_,rfl⟩
    rw [←hwo] at HX HB ⊢
    clear hwo y0 y1 y2 y3
    go_loopw [4] (fun i wr=>∃k:Nat,k≤p.hn∧i = .int .i64 k∧(∀j,j<k→HeldOk p j)∧Box2 wr w.heap.size (.slice a p.n c) (.slice a' p.hn c')∧Below w.heap.size w wr) (fun i _=>p.hn - (intOf i).toNat)
    case atStart=>exact⟨0,Nat.zero_le _,rfl,fun j hj=>absurd hj (Nat.not_lt_zero _),HX.out,HB.out⟩
    case round=>
     obtain⟨k,hk,rfl,hall,hx,hb⟩:=hrel
     have Hall:Hid (∀j,j<k→HeldOk p j):=hall
     have Hx:Hid (Box2 wr w.heap.size (.slice a p.n c) (.slice a' p.hn c')):=hx
     clear hall hx
     obtain⟨⟨y0,y1⟩,⟨y2,y3⟩⟩:=Hx.out
     by_cases hlt:k<p.hn
     ·have hlt':(k:Int)<(p.hn:Int):=by omega
      have hint:=Hp.out.2.below hb
      have Hint:Hid (IntsAt wr lo hi (.slice a' p.hn c') p.hn p.h):=hint
      obtain⟨_,a2,cap2,hv2,_,hx2⟩:=hint
      simp only [Value.slice.injEq,true_and] at hv2
      obtain⟨rfl,rfl⟩:=hv2
      obtain⟨b,off,rfl,_,_,k1⟩:=hx2 (by omega)
      have hc1:=k1 k hlt
      clear k1 hx2
      by_cases h1:p.h k<0
      ·go_wp2
       go_ret
       exact⟨BoolIs.no fun h=>by have:=(h.2.2 k hlt).1; omega,hb⟩
      ·by_cases h2:(p.n:Int)≤p.h k
       ·go_wp2
        go_ret
        exact⟨BoolIs.no fun h=>by have:=(h.2.2 k hlt).2.1; omega,hb⟩
       ·obtain⟨x,hx⟩:=Int.eq_ofNat_of_zero_le (show 0≤p.h k by omega)
        rw [hx] at hc1 h1 h2
        have HX1:Hid (p.h k=x):=hx
        have hxn:x<p.n:=by omega
        have hxl:(x:Int)<(p.n:Int):=by omega
        clear hx
        obtain⟨bs,offs,ka,kc,rfl,hs⟩:=(Hp.out.1.below hb).cells hxn
        have Hs:Hid (SlotCells wr bs (offs+x*3) lo hi ka kc (p.s x)):=hs
        obtain⟨q0,q1,q2,_⟩:=hs
        by_cases hf:Free (p.s x)
        ·have HF:Hid (Free (p.s x)):=hf
         clear hf
         go_wp2_with fail
         refine(l01Free_any _ _ _ lo hi (p.s x) _ Hs.out.slot).mono ?_
         rintro e w1 ⟨⟨t,rfl,hx⟩,hb1⟩
         obtain rfl:t=true:=hx.2 HF.out
         clear hx
         have hbn:=below_next hb hb1
         clear hb1 q0 q1 q2 y0 y1 y2 y3
         go_wp2
         go_ret
         refine⟨BoolIs.no fun h=>?_,hbn⟩
         have:=(h.2.2 k hlt).2.2.1
         rw [HX1.out,Int.toNat_natCast] at this
         exact this HF.out
        ·have HF:Hid (¬Free (p.s x)):=hf
         clear hf
         go_wp2_with fail
         refine(l01Free_any _ _ _ lo hi (p.s x) _ Hs.out.slot).mono ?_
         rintro e w1 ⟨⟨t,rfl,hx⟩,hb1⟩
         obtain rfl:t=false:=bool_no hx HF.out
         clear hx
         have hbn:=below_next hb hb1
         have HX3:Hid (Box2 w1 w.heap.size (.slice (some ⟨bs,offs,none⟩) p.n c) (.slice (some ⟨b,off,none⟩) p.hn c')):=Hx.out.below hb1
         have HI:Hid (IntsAt w1 lo hi (.slice (some ⟨b,off,none⟩) k c') k p.h):=(Hint.out.below hb1).take (by omega) (by omega)
         clear hb1 q0 q1 q2 y0 y1 y2 y3
         obtain⟨⟨y0,y1⟩,⟨y2,y3⟩⟩:=HX3.out
         have hkc:k≤c':=by omega
         go_wp2_with fail
         refine(l01Has_any _ k lo hi p.h _ _ HI.out).mono ?_
         rintro e w2 ⟨⟨t,rfl,hx⟩,rfl⟩
         clear y0 y1 y2 y3
         by_cases hh:Has k p.h (x:Int)
         ·obtain rfl:t=true:=hx.2 hh
          have HH:Hid (Has k p.h (x:Int)):=hh
          clear hx hh
          go_wp2
          go_ret
          refine⟨BoolIs.no fun h=>?_,hbn⟩
          have:=(h.2.2 k hlt).2.2.2
          rw [HX1.out] at this
          exact this HH.out
         ·obtain rfl:t=false:=bool_no hx hh
          have HH:Hid (HeldOk p k):=by
           refine⟨by rw [HX1.out]; exact Int.natCast_nonneg _,by rw [HX1.out]; exact hxl,by rw [HX1.out,Int.toNat_natCast]; exact HF.out,by rw [HX1.out]; exact hh⟩
          clear hx hh
          go_wp2
          go_roundw
          case rel=>exact⟨k+1,by omega,by go_num,relNext hlt Hall.out HH.out,HX3.out,hbn⟩
          case measure=>simp [intOf]; omega
     ·obtain rfl:k=p.hn:=by omega
      go_wp2
      go_ret
      exact⟨BoolIs.yes ⟨hns,HA.out,Hall.out⟩,hb⟩
end Go.Proofs.YtihplgckbhnohaaGreatDoor

namespace Go.Proofs.YtihplgckbhnohaaGreatDoor
open Go.RowKit Go.Maps
set_option linter.unusedVariables false
def TimeOk(t:Int):Prop:=0≤t∧t≤1000000
def PtrOk(s b:Int):Prop:=0≤s∧s≤199∧1≤b∧b≤1000000
def Dist(n:Nat)(f:Nat→Int):Prop:=∀i,i<n→∀k,k<i→f k≠f i
def PtrsOk(n:Nat)(f g:Nat→Int):Prop:=n≤200∧(∀i,i<n→PtrOk (f i) (g i))∧Dist n f
def PIn(n:Nat)(f g:Nat→Int)(x y:Int):Prop:=∃j,j<n∧f j=x∧g j=y
def PSame(n:Nat)(f g:Nat→Int)(m:Nat)(f' g':Nat→Int):Prop:=PtrsOk n f g∧PtrsOk m f' g'∧n=m∧∀i,i<n→PIn m f' g' (f i) (g i)
theorem Dist.inj{n:Nat}{f:Nat→Int}(h:Dist n f){i k:Nat}(hi:i<n)(hk:k<n)(e:f i=f k):i=k:=by
 rcases Nat.lt_trichotomy i k with h1 | h1 | h1
 ·exact absurd e (h k hk i h1)
 ·exact h1
 ·exact absurd e.symm (h i hi k h1)
theorem pigeonD:∀(n m:Nat) (h:Nat→Nat),(∀i,i<n→h i<m)→(∀i k,i<n→k<n→h i=h k→i=k)→n≤m
 | 0,_,_,_,_=>Nat.zero_le _
 | n+1,m,h,h1,h2=>by
  have hm:=h1 n (Nat.lt_succ_self n)
  have:=pigeonD n (m - 1) (fun i=>if h i<h n then h i else h i - 1) (fun i hi=>by
   have:=h1 i (by omega)
   have:h i≠h n:=fun e=>by have:=h2 i n (by omega) (by omega) e; omega
   show(if h i<h n then h i else h i - 1)<m - 1
   split <;> omega) (fun i k hi hk e=>by
   have a1:h i≠h n:=fun e=>by have:=h2 i n (by omega) (by omega) e; omega
   have a2:h k≠h n:=fun e=>by have:=h2 k n (by omega) (by omega) e; omega
   have e':(if h i<h n then h i else h i - 1)=(if h k<h n then h k else h k - 1):=e
   refine h2 i k (by omega) (by omega) ?_
   split at e' <;> split at e' <;> omega)
  omega
theorem same_flip{n:Nat}{f g f' g':Nat→Int}(h1:PtrsOk n f g)(h2:PtrsOk n f' g')(h:∀i,i<n→PIn n f' g' (f i) (g i)):∀j,j<n→PIn n f g (f' j) (g' j):=by
 intro j hj
 by_cases hx:PIn n f g (f' j) (g' j)
 ·exact hx
 ·exfalso
  have:=pigeonD n (n - 1) (fun i=>if hi:i<n then(if (h i hi).choose<j then(h i hi).choose else(h i hi).choose - 1)else 0) (fun i hi=>by
   have hs:=(h i hi).choose_spec
   have hne:(h i hi).choose≠j:=fun e=>hx ⟨i,hi,by rw [←hs.2.1,e],by rw [←hs.2.2,e]⟩
   simp only [hi,dif_pos]
   split <;> omega) (fun i k hi hk e=>by
   have hs:=(h i hi).choose_spec
   have hs':=(h k hk).choose_spec
   have hne:(h i hi).choose≠j:=fun e=>hx ⟨i,hi,by rw [←hs.2.1,e],by rw [←hs.2.2,e]⟩
   have hne':(h k hk).choose≠j:=fun e=>hx ⟨k,hk,by rw [←hs'.2.1,e],by rw [←hs'.2.2,e]⟩
   simp only [hi,hk,dif_pos] at e
   have e2:(h i hi).choose=(h k hk).choose:=by split at e <;> split at e <;> omega
   refine h1.2.2.inj hi hk ?_
   rw [←hs.2.1,←hs'.2.1,e2])
  omega
theorem PSame.symm{n m:Nat}{f g f' g':Nat→Int}(h:PSame n f g m f' g'):PSame m f' g' n f g:=by
 obtain⟨h1,h2,rfl,h3⟩:=h
 exact⟨h2,h1,rfl,same_flip h1 h2 h3⟩
def keyI(x:Int):Lit:=.int .i64 x
theorem keyI_ne{x y:Int}(h:x≠y):keyI x≠keyI y:=fun e=>h (by unfold keyI at e; injection e)
theorem keyI_key(x:Int):WideAt.IsKeyLit (keyI x):=trivial
def datI(x:Int):DataW Unit:=.lit (.int .i64 x)
theorem datI_inj{x y:Int}(h:datI x=datI y):x=y:=by unfold datI at h; injection h with h; injection h
def seenD(f g:Nat→Int):Nat→DataW Unit
 | 0=>.map []
 | k+1=>(seenD f g k).put (keyI (f k)) (datI (g k))
theorem seen_tidy(f g:Nat→Int):∀k,Tidy (seenD f g k)
 | 0=>tidy_empty
 | k+1=>(seen_tidy f g k).put (keyI_key _) _
theorem seen_has(f g:Nat→Int)(x:Int):∀k,Maps.has (seenD f g k) (keyI x)=true↔∃i,i<k∧f i=x
 | 0=>by
  constructor
  ·intro h; exact absurd h (by simp [seenD,Maps.has])
  ·rintro⟨i,hi,_⟩; omega
 | k+1=>by
  by_cases hx:f k=x
  ·subst hx
   exact⟨fun _=>⟨k,by omega,rfl⟩,fun _=>has_put_same (seen_tidy f g k).isMap (keyI_key _) _⟩
  ·rw [show Maps.has (seenD f g (k+1)) (keyI x)=Maps.has (seenD f g k) (keyI x)from has_put_other (keyI_ne (Ne.symm hx)) _,seen_has f g x k]
   constructor
   ·rintro⟨i,hi,e⟩; exact⟨i,by omega,e⟩
   ·rintro⟨i,hi,e⟩
    by_cases h:i=k
    ·subst h; exact absurd e hx
    ·exact⟨i,by omega,e⟩
theorem dist_succ{k:Nat}{f:Nat→Int}:Dist (k+1) f↔Dist k f∧∀i,i<k→f i≠f k:=by
 constructor
 ·exact fun h=>⟨fun i hi=>h i (by omega),fun i hi=>h k (by omega) i hi⟩
 ·rintro⟨h1,h2⟩ i hi j hj
  by_cases e:i=k
  ·subst e; exact h2 j hj
  ·exact h1 i (by omega) j hj
theorem seen_size(f g:Nat→Int):∀k,Maps.size (seenD f g k)≤k∧(Maps.size (seenD f g k)=k↔Dist k f)
 | 0=>⟨Nat.le_refl _,fun _ i hi=>by omega,fun _=>rfl⟩
 | k+1=>by
  obtain⟨h1,h2⟩:=seen_size f g k
  have e:Maps.size (seenD f g (k+1))=if Maps.has (seenD f g k) (keyI (f k))then Maps.size (seenD f g k)else Maps.size (seenD f g k)+1:=size_put (seen_tidy f g k) _
  by_cases hh:Maps.has (seenD f g k) (keyI (f k))=true
  ·rw [if_pos hh] at e
   rw [e,dist_succ]
   refine⟨by omega,fun h=>by omega,fun h=>?_⟩
   obtain⟨i,hi,he⟩:=(seen_has f g (f k) k).1 hh
   exact absurd he (h.2 i hi)
  ·rw [if_neg hh] at e
   rw [e,dist_succ,←h2]
   refine⟨by omega,fun h=>⟨by omega,fun i hi he=>hh ((seen_has f g (f k) k).2 ⟨i,hi,he⟩)⟩,fun h=>by omega⟩
theorem seen_at{n:Nat}{f:Nat→Int}(g:Nat→Int)(hd:Dist n f)(z:DataW Unit):∀k,k≤n→∀i,i<k→(seenD f g k).atKey (keyI (f i)) z=datI (g i)
 | 0,_,i,hi=>absurd hi (Nat.not_lt_zero _)
 | k+1,hk,i,hi=>by
  by_cases e:i=k
  ·subst e; exact atKey_put_same (seen_tidy f g i).isMap (keyI_key _) _ _
  ·exact(atKey_put_other (keyI_ne (fun h=>e (hd.inj (by omega) (by omega) h))) _ _).trans (seen_at g hd z k (by omega) i (by omega))
structure LeftD (n:Nat) (f g f':Nat→Int) (k:Nat) (D:DataW Unit):Prop where
 tidy:Tidy D
 size:Maps.size D+k=n
 at':∀x,(∀j,j<k→f' j≠x)→(∀i,i<n→f i=x→D.atKey (keyI x) (datI 0)=datI (g i))∧((∀i,i<n→f i≠x)→D.atKey (keyI x) (datI 0)=datI 0)
 has:∀x,Maps.has D (keyI x)=true↔(∃i,i<n∧f i=x)∧∀j,j<k→f' j≠x
theorem LeftD.start{n:Nat}{f g:Nat→Int}(h:PtrsOk n f g)(f':Nat→Int):LeftD n f g f' 0 (seenD f g n) where
 tidy:=seen_tidy f g n
 size:=by rw [(seen_size f g n).2.2 h.2.2]; rfl
 at':=fun x _=>⟨fun i hi e=>by subst e; exact seen_at g h.2.2 _ n (Nat.le_refl _) i hi,fun hno=>by
  refine atKey_of_not_has ?_ _
  rw [Bool.eq_false_iff]
  intro hh
  obtain⟨i,hi,e⟩:=(seen_has f g x n).1 hh
  exact hno i hi e⟩
 has:=fun x=>by
  rw [seen_has]
  exact⟨fun h=>⟨h,fun j hj=>absurd hj (Nat.not_lt_zero _)⟩,fun h=>h.1⟩
theorem LeftD.next{n m:Nat}{f g f' g':Nat→Int}{k:Nat}{D:DataW Unit}(h:LeftD n f g f' k D)(h2:PtrsOk m f' g')(hk:k<m)(e:D.atKey (keyI (f' k)) (datI 0)=datI (g' k)):LeftD n f g f' (k+1) (D.del (keyI (f' k))):=by
 have hhas:Maps.has D (keyI (f' k))=true:=by
  by_cases hh:Maps.has D (keyI (f' k))=true
  ·exact hh
  ·rw [atKey_of_not_has (by simpa using hh)] at e
   have:=datI_inj e
   have:=(h2.2.1 k hk).2.2.1
   omega
 have hs:=size_del (k:=keyI (f' k)) h.tidy
 rw [hhas] at hs
 refine⟨h.tidy.del _,?_,fun x hx=>?_,fun x=>?_⟩
 ·have:=h.size
  have hs':Maps.size (D.del (keyI (f' k)))+1=Maps.size D:=hs
  omega
 ·have hne:f' k≠x:=hx k (by omega)
  rw [atKey_del_other (keyI_ne (Ne.symm hne))]
  exact h.at' x (fun j hj=>hx j (by omega))
 ·by_cases hne:f' k=x
  ·subst hne
   rw [has_del_same]
   exact⟨fun h=>absurd h (by simp),fun h=>absurd rfl (h.2 k (by omega))⟩
  ·rw [has_del_other (keyI_ne (Ne.symm hne)),h.has x]
   refine and_congr_right fun _=>⟨fun h j hj=>?_,fun h j hj=>h j (by omega)⟩
   by_cases ej:j=k
   ·subst ej; exact hne
   ·exact h j (by omega)
theorem LeftD.no{n m:Nat}{f g f' g':Nat→Int}{k:Nat}{D:DataW Unit}(h:LeftD n f g f' k D)(h1:PtrsOk n f g)(h2:PtrsOk m f' g')(hk:k<m){c:Int}(e:D.atKey (keyI (f' k)) (datI 0)=datI c)(hc:c≠g' k):¬PSame n f g m f' g':=by
 intro hs
 obtain⟨i,hi,e1,e2⟩:=hs.symm.2.2.2 k hk
 have:=(h.at' (f' k) (fun j hj=>h2.2.2 k hk j hj)).1 i hi e1
 rw [e] at this
 exact hc ((datI_inj this).trans e2)
theorem LeftD.end{n m:Nat}{f g f' g':Nat→Int}{D:DataW Unit}(h:LeftD n f g f' m D)(h1:PtrsOk n f g)(h2:PtrsOk m f' g')(hin:∀j,j<m→PIn n f g (f' j) (g' j)):Maps.size D=0↔PSame n f g m f' g':=by
 have hs:=h.size
 constructor
 ·intro h0
  obtain rfl:m=n:=by omega
  exact PSame.symm ⟨h2,h1,rfl,hin⟩
 ·intro hp
  have:=hp.2.2.1
  omega
theorem LeftD.in{n m:Nat}{f g f' g':Nat→Int}{k:Nat}{D:DataW Unit}(h:LeftD n f g f' k D)(h2:PtrsOk m f' g')(hk:k<m)(e:D.atKey (keyI (f' k)) (datI 0)=datI (g' k)):PIn n f g (f' k) (g' k):=by
 by_cases hx:∃i,i<n∧f i=f' k
 ·obtain⟨i,hi,ei⟩:=hx
  have:=(h.at' (f' k) (fun j hj=>h2.2.2 k hk j hj)).1 i hi ei
  rw [e] at this
  exact⟨i,hi,ei,(datI_inj this).symm⟩
 ·have:=(h.at' (f' k) (fun j hj=>h2.2.2 k hk j hj)).2 (fun i hi e=>hx ⟨i,hi,e⟩)
  rw [e] at this
  have:=datI_inj this
  have:=(h2.2.1 k hk).2.2.1
  omega
def youngL(f g:Nat→Int)(t:Int):Nat→List (Int×Int)
 | 0=>[]
 | k+1=>if t<g k then youngL f g t k ++ [(f k,g k)] else youngL f g t k
def oldL(f g:Nat→Int)(t:Int):Nat→List (Int×Int)
 | 0=>[]
 | k+1=>if t<g k then oldL f g t k else oldL f g t k ++ [(f k,g k)]
theorem young_len(f g:Nat→Int)(t:Int):∀k,(youngL f g t k).length+(oldL f g t k).length=k
 | 0=>rfl
 | k+1=>by
  have:=young_len f g t k
  unfold youngL oldL
  split <;> simp <;> omega
end Go.Proofs.YtihplgckbhnohaaGreatDoor
