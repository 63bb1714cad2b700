/- What the laws' own functions of copying leave (toPtr, toPtrS, toSlot, toSlotS, toInt64S, toPool): new memory that holds the same. -/
import Derived.Test.YtmgeglgboadfiaaGreatDoorP24
import Derived.Test.YtmgeglgboadfiaaGreatDoorP1
import Derived.Deep.OwnRows
import Derived.Test.YtmgeglgboadfiaaGreatDoorP12
import Derived.Test.YtmgeglgboadfiaaGreatDoorP11
import Derived.Test.YtmgeglgboadfiaaGreatDoorP3
import Derived.Test.YtmgeglgboadfiaaGreatDoorP21
import Derived.Test.YtmgeglgboadfiaaGreatDoorP6
import Derived.Test.YtmgeglgboadfiaaGreatDoorP20
import Derived.Test.YtmgeglgboadfiaaGreatDoorP16
namespace Go.Proofs.YtmgeglgboadfiaaGreatDoor
open Go.RowKit
set_option linter.unusedVariables false
set_option maxRecDepth 20000 in
set_option maxHeartbeats 400000 in
theorem toInt64S_any(v:Value)(n lo hi:Nat)(f:Nat→Int)(w:World)(h1:IntsAt w lo hi v n f)(hn:n≤1048576) :
  Calls Tryz.prog 88 #[v] w fun e w'=>(∃v',e = .returned v'∧IntsOwn w' w.heap.size v' n f)∧Below w.heap.size w w'∧w.heap.size<w'.heap.size:=by
 obtain⟨m1,a,c,rfl,mc,g1⟩:=h1
 have hm1:=m1
 unfold maxLen at m1
 have G1:Hid (0<n→∃b off,a=some ⟨b,off,none⟩∧lo≤b∧b<hi∧∀i,i<n→w.cell? ⟨b,off+i,none⟩=some (.int .i64 (f i))):=g1
 clear g1
 have hmk:=make_zeros 23 2 (.int .i64 0) 1 8 (by kernel_rfl) infoInt64 rfl n hn (by omega)
 go_enter Tryz.func88,Tryz.ntmps88
 go_wp2
 go_loopw [4] (fun i wr=>∃k:Nat,k≤n∧i = .int .i64 k∧(∀j,j<n→Cell wr w.heap.size (0+j) (.int .i64 (if j<k then f j else 0)))∧Below w.heap.size w wr∧w.heap.size<wr.heap.size) (fun i _=>n - (intOf i).toNat)
 case atStart=>exact⟨0,Nat.zero_le _,rfl,fun j hj=>by have:=new_cell w #[.int .i64 0] n j 0 2 hj (by simp); simpa using this,below_alloc _ _,by simp⟩
 case round=>
  obtain⟨k,hk,rfl,hall,hb,hsz⟩:=hrel
  have Hall:Hid (∀j,j<n→Cell wr w.heap.size (0+j) (.int .i64 (if j<k then f j else 0))):=hall
  clear hall
  by_cases hlt:k<n
  ·have hlt':(k:Int)<(n:Int):=by omega
   obtain⟨b,off,rfl,_,_,k1⟩:=G1.out (by omega)
   have hc1:=(hb.cell (lt_of_cell (k1 k hlt))).trans (k1 k hlt)
   obtain⟨hc2,hf2⟩:=Hall.out k hlt
   rw [if_neg (Nat.lt_irrefl k),Nat.zero_add] at hc2
   rw [Nat.zero_add] at hf2
   go_wp2
   go_roundw
   case rel=>
    refine⟨k+1,by omega,by go_num,fun j hj=>?_,hb.setCell (Nat.le_refl _) _,by simpa using hsz⟩
    by_cases e:j=k
    ·subst e
     rw [if_pos (by omega)]
     simpa using (Hall.out j hj).set (.int .i64 (f j))
    ·have:=(Hall.out j hj).other (b':=w.heap.size) (o':=k) (.int .i64 (f k)) (Or.inr (by omega))
     by_cases e2:j<k
     ·rw [if_pos (by omega)]; rw [if_pos e2] at this; exact this
     ·rw [if_neg (by omega)]; rw [if_neg e2] at this; exact this
   case measure=>simp [intOf]; omega
  ·obtain rfl:k=n:=by omega
   go_wp2
   go_ret
   refine⟨⟨_,rfl,hm1,_,k,rfl,Nat.le_refl _,fun _=>⟨0,rfl,fun i hi=>?_⟩,fun h=>absurd h (Nat.lt_irrefl _)⟩,hb,hsz⟩
   have:=Hall.out i hi
   rw [if_pos hi] at this
   exact this
set_option maxRecDepth 20000 in
set_option maxHeartbeats 400000 in
theorem toPtr_any(a b:Int)(w:World) :
  Calls Tryz.prog 148 #[.agg #[.int .i64 a,.int .i64 b]] w fun e w'=>e = .returned (.agg #[.int .i64 a,.int .i64 b])∧Below w.heap.size w w':=by
 go_enter Tryz.func148,Tryz.ntmps148
 go_wp2
 refine bodyPost_ret (v:=.agg #[.int .i64 a,.int .i64 b]) (by simp [results,Tryz.results148,go_sem]) rfl ⟨rfl,?_⟩
 exact(((Below.refl _ _).alloc (Nat.le_refl _) _).alloc (by simp) _).alloc (by simp; omega) _
set_option maxRecDepth 20000 in
set_option maxHeartbeats 400000 in
theorem toPtrS_any(v:Value)(n lo hi:Nat)(f g:Nat→Int)(w:World)(h1:PtrsAt w lo hi v n f g)(hn:n≤1048576) :
  Calls Tryz.prog 149 #[v] w fun e w'=>(∃v',e = .returned v'∧PtrsOwn w' w.heap.size v' n f g)∧Below w.heap.size w w'∧w.heap.size<w'.heap.size:=by
 obtain⟨m1,a,c,rfl,mc,g1⟩:=h1
 have hm1:=m1
 unfold maxLen at m1
 have G1:Hid (0<n→∃b off,a=some ⟨b,off,none⟩∧lo≤b∧b<hi∧∀i,i<n→w.cell? ⟨b,off+i*2,none⟩=some (.int .i64 (f i))∧w.cell? ⟨b,off+i*2+1,none⟩=some (.int .i64 (g i))):=g1
 clear g1
 have hmk:=make_zeros 62 61 (.agg #[.int .i64 0,.int .i64 0]) 2 16 (by kernel_rfl) infoPtr rfl n hn (by omega)
 go_enter Tryz.func149,Tryz.ntmps149
 go_wp2
 go_loopw [4] (fun i wr=>∃k:Nat,k≤n∧i = .int .i64 k∧(∀j,j<n→Cell wr w.heap.size (0+j*2) (.int .i64 (if j<k then f j else 0))∧Cell wr w.heap.size (0+j*2+1) (.int .i64 (if j<k then g j else 0)))∧Below w.heap.size w wr∧w.heap.size<wr.heap.size) (fun i _=>n - (intOf i).toNat)
 case atStart=>
  refine⟨0,Nat.zero_le _,rfl,fun j hj=>⟨?_,?_⟩,below_alloc _ _,by simp⟩
  ·have:=new_cell w #[.int .i64 0,.int .i64 0] n j 0 61 hj (by simp); simpa using this
  ·have:=new_cell w #[.int .i64 0,.int .i64 0] n j 1 61 hj (by simp); simpa using this
 case round=>
  obtain⟨k,hk,rfl,hall,hb,hsz⟩:=hrel
  have Hall:Hid (∀j,j<n→Cell wr w.heap.size (0+j*2) (.int .i64 (if j<k then f j else 0))∧Cell wr w.heap.size (0+j*2+1) (.int .i64 (if j<k then g j else 0))):=hall
  clear hall
  by_cases hlt:k<n
  ·have hlt':(k:Int)<(n:Int):=by omega
   obtain⟨b,off,rfl,_,_,k1⟩:=G1.out (by omega)
   have hc1:=(hb.cell (lt_of_cell (k1 k hlt).1)).trans (k1 k hlt).1
   have hd1:=(hb.cell (lt_of_cell (k1 k hlt).2)).trans (k1 k hlt).2
   clear k1 G1
   go_wp2_with fail
   refine(toPtr_any _ _ _).mono ?_
   rintro e w1 ⟨rfl,hb1⟩
   have hb2:=below_next hb hb1
   have hsz2:w.heap.size<w1.heap.size:=Nat.lt_of_lt_of_le hsz hb1.size
   have Hall2:Hid (∀j,j<n→Cell w1 w.heap.size (0+j*2) (.int .i64 (if j<k then f j else 0))∧Cell w1 w.heap.size (0+j*2+1) (.int .i64 (if j<k then g j else 0))):=fun j hj=>⟨(Hall.out j hj).1.below hb1,(Hall.out j hj).2.below hb1⟩
   clear Hall hb1 hc1 hd1
   obtain⟨⟨hc2,hf2⟩,⟨hc3,hf3⟩⟩:=Hall2.out k hlt
   rw [if_neg (Nat.lt_irrefl k),Nat.zero_add] at hc2 hc3
   rw [Nat.zero_add] at hf2 hf3
   go_wp2
   go_roundw
   case rel=>
    refine⟨k+1,by omega,by go_num,fun j hj=>?_,(hb2.setCell (Nat.le_refl _) _).setCell (Nat.le_refl _) _,by simpa using hsz2⟩
    by_cases e:j=k
    ·subst e
     rw [if_pos (by omega),if_pos (by omega)]
     have t1:=((Hall2.out j hj).1.set (.int .i64 (f j))).other (b':=w.heap.size) (o':=0+j*2+1) (.int .i64 (g j)) (Or.inr (by omega))
     have t2:=((Hall2.out j hj).2.other (b':=w.heap.size) (o':=0+j*2) (.int .i64 (f j)) (Or.inr (by omega))).set (.int .i64 (g j))
     simp only [Nat.zero_add] at t1 t2 ⊢
     exact⟨t1,t2⟩
    ·have t1:=((Hall2.out j hj).1.other (b':=w.heap.size) (o':=k*2) (.int .i64 (f k)) (Or.inr (by omega))).other (b':=w.heap.size) (o':=k*2+1) (.int .i64 (g k)) (Or.inr (by omega))
     have t2:=((Hall2.out j hj).2.other (b':=w.heap.size) (o':=k*2) (.int .i64 (f k)) (Or.inr (by omega))).other (b':=w.heap.size) (o':=k*2+1) (.int .i64 (g k)) (Or.inr (by omega))
     by_cases e2:j<k
     ·rw [if_pos (by omega),if_pos (by omega)]; rw [if_pos e2] at t1 t2; exact⟨t1,t2⟩
     ·rw [if_neg (by omega),if_neg (by omega)]; rw [if_neg e2] at t1 t2; exact⟨t1,t2⟩
   case measure=>simp [intOf]; omega
  ·obtain rfl:k=n:=by omega
   go_wp2
   go_ret
   refine⟨⟨_,rfl,hm1,_,k,rfl,Nat.le_refl _,fun _=>⟨0,rfl,fun i hi=>?_⟩⟩,hb,hsz⟩
   have:=Hall.out i hi
   rw [if_pos hi,if_pos hi] at this
   exact this
set_option maxRecDepth 20000 in
set_option maxHeartbeats 400000 in
theorem toSlot_any(v0 v1 v2:Value)(lo hi:Nat)(s:SlotD)(w:World)(h1:SlotAt w lo hi v0 v1 v2 s)(hn:s.kn≤1048576) :
  Calls Tryz.prog 147 #[.agg #[v0,v1,v2]] w fun e w'=>(∃kv kb,e = .returned (.agg #[.int .i64 s.birth,kv,.string s.data])∧PtrsOwn w' kb kv s.kn s.ks s.kb∧w.heap.size≤kb∧kb<w'.heap.size)∧Below w.heap.size w w':=by
 obtain⟨rfl,p1,rfl,m1⟩:=h1
 have q1:=p1
 obtain⟨_,a,c,rfl,_⟩:=p1
 go_enter Tryz.func147,Tryz.ntmps147
 go_wp2_with fail
 have ha1:=below_alloc w (.cells #[.int .i64 s.birth,.slice a s.kn c,.string s.data] 183)
 have ha2:=below_next ha1 (below_alloc _ (.cells #[.int .i64 0,.slice none 0 0,.string ⟨#[]⟩] 127))
 have ha3:=below_next ha2 (below_alloc _ (.cells #[.int .i64 s.birth,.slice none 0 0,.string ⟨#[]⟩] 127))
 refine(toPtrS_any _ s.kn lo hi _ _ _ (q1.below ha3) hn).mono ?_
 rintro e w1 ⟨⟨kv,rfl,hown⟩,hb1,hsz⟩
 have HB:Hid (Box3 w1 w.heap.size (.int .i64 s.birth) (.slice a s.kn c) (.string s.data)):=(((Box3.new w _ _ _ _).below (below_alloc _ _)).below (below_alloc _ _)).below hb1
 have HR:Hid (Box3 w1 (w.heap.size+1) (.int .i64 0) (.slice none 0 0) (.string ⟨#[]⟩)):=by
  have:=(((Box3.new (w.alloc (.cells #[.int .i64 s.birth,.slice a s.kn c,.string s.data] 183)) (.int .i64 0) (.slice none 0 0) (.string ⟨#[]⟩) 127).below (below_alloc _ _)).below hb1)
  rw [World.size_alloc] at this
  exact this
 have HO:Hid (Box3 w1 (w.heap.size+1+1) (.int .i64 s.birth) (.slice none 0 0) (.string ⟨#[]⟩)):=by
  have:=((Box3.new ((w.alloc (.cells #[.int .i64 s.birth,.slice a s.kn c,.string s.data] 183)).alloc (.cells #[.int .i64 0,.slice none 0 0,.string ⟨#[]⟩] 127)) (.int .i64 s.birth) (.slice none 0 0) (.string ⟨#[]⟩) 127).below hb1)
  rw [World.size_alloc,World.size_alloc] at this
  exact this
 have hb2:=below_next ha3 hb1
 have Hown:Hid (PtrsOwn w1 (w.heap.size+1+1+1) kv s.kn s.ks s.kb):=by
  have:=hown
  rw [World.size_alloc,World.size_alloc,World.size_alloc] at this
  exact this
 have hsz':w.heap.size+1+1+1<w1.heap.size:=by
  rw [World.size_alloc,World.size_alloc,World.size_alloc] at hsz
  exact hsz
 clear hsz
 obtain⟨_,ka,kc,rfl,_⟩:=hown
 clear ha1 ha2 ha3 hb1
 obtain⟨⟨x0,x1⟩,⟨x2,x3⟩,⟨x4,x5⟩⟩:=HB.out
 obtain⟨⟨y0,y1⟩,⟨y2,y3⟩,⟨y4,y5⟩⟩:=HR.out
 obtain⟨⟨z0,z1⟩,⟨z2,z3⟩,⟨z4,z5⟩⟩:=HO.out
 go_wp2
 have HR2:=((HR.out.other (b':=w.heap.size+1+1) (o':=1) (.slice ka s.kn kc) (by omega)).other (b':=w.heap.size+1+1) (o':=2) (.string s.data) (by omega)).put (.int .i64 s.birth) (.slice ka s.kn kc) (.string s.data)
 refine bodyPost_ret (v:=.agg #[.int .i64 s.birth,.slice ka s.kn kc,.string s.data]) (by simp [results,Tryz.results147,go_sem,HR2.1.1,HR2.2.1.1,HR2.2.2.1]) rfl ⟨⟨_,w.heap.size+1+1+1,rfl,?_,by omega,by simpa using hsz'⟩,?_⟩
 ·exact((((Hown.out.put _ (by omega)).put _ (by omega)).put _ (by omega)).put _ (by omega)).put _ (by omega)
 ·exact((((hb2.setCell (by show _≤w.heap.size+1+1; omega) _).setCell (by show _≤w.heap.size+1+1; omega) _).setCell (by show _≤w.heap.size+1; omega) _).setCell (by show _≤w.heap.size+1; omega) _).setCell (by show _≤w.heap.size+1; omega) _
structure Part (wr:World) (bs n k:Nat) (f:Nat→SlotD) (kb:Nat→Nat) (kv:Nat→Value):Prop where
 slots:∀j,j<n→SlotOwn wr bs (0+j*3) (kb j) (kv j) (if j<k then f j else zeroS)
 apart:KidsApart kb k f
 place:∀j,j<k→0<(f j).kn→bs<kb j∧kb j<wr.heap.size
theorem Part.below{wr w':World}{bs n k:Nat}{f:Nat→SlotD}{kb:Nat→Nat}{kv:Nat→Value}(h:Part wr bs n k f kb kv)(t:Below wr.heap.size wr w'):Part w' bs n k f kb kv:=
 ⟨fun j hj=>(h.slots j hj).below t,h.apart,fun j hj h0=>by have:=h.place j hj h0; have:=t.size; omega⟩
theorem Part.next{wr w1:World}{bs n k b:Nat}{f:Nat→SlotD}{kb:Nat→Nat}{kv:Nat→Value}{v:Value}(h:Part wr bs n k f kb kv)(hk:k<n)(hbs:bs<wr.heap.size)(t:Below wr.heap.size wr w1)
  (hp:PtrsOwn w1 b v (f k).kn (f k).ks (f k).kb) (hb:wr.heap.size≤b) (hb2:b<w1.heap.size) (hs:(f k).data.size≤maxLen) :
  Part (((w1.setCell ⟨bs,0+k*3,none⟩ (.int .i64 (f k).birth)).setCell ⟨bs,0+k*3+1,none⟩ v).setCell ⟨bs,0+k*3+2,none⟩ (.string (f k).data)) bs n (k+1) f (fun j=>if j=k then b else kb j) (fun j=>if j=k then v else kv j):=by
 have h':=h.below t
 refine⟨fun j hj=>?_,fun i j hi hj hij h1 h2=>?_,fun j hj h0=>?_⟩
 ·have hj':=h'.slots j hj
  by_cases e:j=k
  ·subst e
   simp only [if_true]
   rw [if_pos (by omega)]
   refine⟨?_,?_,?_,?_,hs,fun _=>by omega⟩
   ·exact((hj'.birth.set _).other _ (Or.inr (by omega))).other _ (Or.inr (by omega))
   ·exact((hj'.kidsv.other _ (Or.inr (by omega))).set _).other _ (Or.inr (by omega))
   ·exact((hj'.data.other _ (Or.inr (by omega))).other _ (Or.inr (by omega))).set _
   ·exact((hp.put _ (by omega)).put _ (by omega)).put _ (by omega)
  ·simp only [if_neg e]
   have es:(if j<k+1 then f j else zeroS)=if j<k then f j else zeroS:=by
    by_cases e2:j<k
    ·rw [if_pos e2,if_pos (by omega)]
    ·rw [if_neg e2,if_neg (by omega)]
   rw [es]
   refine⟨?_,?_,?_,?_,hj'.small,hj'.apart⟩
   ·exact((hj'.birth.other _ (Or.inr (by omega))).other _ (Or.inr (by omega))).other _ (Or.inr (by omega))
   ·exact((hj'.kidsv.other _ (Or.inr (by omega))).other _ (Or.inr (by omega))).other _ (Or.inr (by omega))
   ·exact((hj'.data.other _ (Or.inr (by omega))).other _ (Or.inr (by omega))).other _ (Or.inr (by omega))
   ·refine((hj'.kids.turned (Turned.put _ _ _ _) ?_).turned (Turned.put _ _ _ _) ?_).turned (Turned.put _ _ _ _) ?_
    all_goals exact fun h0 hx=>hj'.apart h0 hx
 ·show(if i=k then b else kb i)≠(if j=k then b else kb j)
  by_cases e1:i=k
  ·by_cases e2:j=k
   ·omega
   ·rw [if_pos e1,if_neg e2]
    have:=h.place j (by omega) h2
    omega
  ·by_cases e2:j=k
   ·rw [if_neg e1,if_pos e2]
    have:=h.place i (by omega) h1
    omega
   ·rw [if_neg e1,if_neg e2]
    exact h.apart i j (by omega) (by omega) hij h1 h2
 ·simp only [World.size_setCell]
  by_cases e:j=k
  ·rw [if_pos e]; omega
  ·rw [if_neg e]
   have:=h'.place j (by omega) h0
   omega
theorem zeroS_own{w:World}{bs n j:Nat}(hj:j<n)(hbs:bs=w.heap.size):SlotOwn (w.alloc (.cells (zeros #[.int .i64 0,.slice none 0 0,.string ⟨#[]⟩] n) 127)) bs (0+j*3) 0 (.slice none 0 0) zeroS:=by
 subst hbs
 have c0:=new_cell w #[.int .i64 0,.slice none 0 0,.string ⟨#[]⟩] n j 0 127 hj (by simp)
 have c1:=new_cell w #[.int .i64 0,.slice none 0 0,.string ⟨#[]⟩] n j 1 127 hj (by simp)
 have c2:=new_cell w #[.int .i64 0,.slice none 0 0,.string ⟨#[]⟩] n j 2 127 hj (by simp)
 refine⟨?_,?_,?_,⟨Nat.zero_le _,none,0,rfl,Nat.le_refl _,fun h=>absurd h (Nat.lt_irrefl _)⟩,Nat.zero_le _,fun h=>absurd h (Nat.lt_irrefl _)⟩
 ·show Cell _ _ _ (.int .i64 0)
  simpa using c0
 ·simpa using c1
 ·show Cell _ _ _ (.string ⟨#[]⟩)
  simpa using c2
set_option maxRecDepth 20000 in
set_option maxHeartbeats 400000 in
theorem toSlotS_any(v:Value)(n lo hi:Nat)(f:Nat→SlotD)(w:World)(h1:SlotsAt w lo hi v n f)(hn:n+slotsN f n≤1048576) :
  Calls Tryz.prog 87 #[v] w fun e w'=>(∃v' kb kv,e = .returned v'∧SlotsOwn w' w.heap.size kb kv v' n f∧KidsApart kb n f∧∀j,j<n→0<(f j).kn→w.heap.size<kb j∧kb j<w'.heap.size)∧Below w.heap.size w w'∧w.heap.size<w'.heap.size:=by
 obtain⟨m1,a,c,rfl,mc,g1⟩:=h1
 have hm1:=m1
 unfold maxLen at m1
 have G1:Hid (0<n→∃b off,a=some ⟨b,off,none⟩∧lo≤b∧b<hi∧∀i,i<n→∃v0 v1 v2,w.cell? ⟨b,off+i*3,none⟩=some v0∧w.cell? ⟨b,off+i*3+1,none⟩=some v1∧w.cell? ⟨b,off+i*3+2,none⟩=some v2∧SlotAt w lo hi v0 v1 v2 (f i)):=g1
 have Hn:Hid (n+slotsN f n≤1048576):=hn
 clear g1
 have hmk:=make_zeros 31 127 (.agg #[.int .i64 0,.slice none 0 0,.string ⟨#[]⟩]) 3 48 (by kernel_rfl) infoSlotT rfl n (by omega) (by omega)
 clear hn
 go_enter Tryz.func87,Tryz.ntmps87
 go_wp2
 go_loopw [4] (fun i wr=>∃(k:Nat) (kb:Nat→Nat) (kv:Nat→Value),k≤n∧i = .int .i64 k∧Part wr w.heap.size n k f kb kv∧Below w.heap.size w wr∧w.heap.size<wr.heap.size) (fun i _=>n - (intOf i).toNat)
 case atStart=>exact⟨0,fun _=>0,fun _=>.slice none 0 0,Nat.zero_le _,rfl,⟨fun j hj=>by rw [if_neg (by omega)]; exact zeroS_own hj rfl,fun i j hi=>absurd hi (by omega),fun j hj=>absurd hj (by omega)⟩,below_alloc _ _,by simp⟩
 case round=>
  obtain⟨k,kb,kv,hk,rfl,hpart,hb,hsz⟩:=hrel
  by_cases hlt:k<n
  ·have hlt':(k:Int)<(n:Int):=by omega
   obtain⟨b,off,rfl,_,_,k1⟩:=G1.out (by omega)
   obtain⟨x0,x1,x2,c0,c1,c2,hs⟩:=k1 k hlt
   have hd0:=(hb.cell (lt_of_cell c0)).trans c0
   have hd1:=(hb.cell (lt_of_cell c1)).trans c1
   have hd2:=(hb.cell (lt_of_cell c2)).trans c2
   have hs':=hs.below hb
   have Hs:Hid (SlotAt wr lo hi x0 x1 x2 (f k)):=hs'
   clear k1 G1 c0 c1 c2 hs
   obtain⟨rfl,⟨_,ka,kc,rfl,_⟩,rfl,hsmall⟩:=hs'
   go_wp2_with fail
   refine(toSlot_any _ _ _ lo hi (f k) _ Hs.out (by have h1:=Hn.out; have h2:=slotN_le f hlt; unfold slotN at h2; omega)).mono ?_
   rintro e w1 ⟨⟨nv,nb,rfl,hp,hnb1,hnb2⟩,hb1⟩
   have hb2:=below_next hb hb1
   have hz:=(hpart.slots k hlt).below hb1
   obtain⟨e0,e1⟩:=hz.birth
   obtain⟨e2,e3⟩:=hz.kidsv
   obtain⟨e4,e5⟩:=hz.data
   clear hd0 hd1 hd2 hz
   rw [Nat.zero_add] at e0 e1 e2 e3 e4 e5
   have Hp:Hid (PtrsOwn w1 nb nv (f k).kn (f k).ks (f k).kb):=hp
   obtain⟨_,na,nc,rfl,_⟩:=hp
   have hsz1:w.heap.size<w1.heap.size:=by have:=hb1.size; omega
   go_wp2
   go_roundw
   case rel=>
    refine⟨k+1,(fun j=>if j=k then nb else kb j),(fun j=>if j=k then .slice na (f k).kn nc else kv j),by omega,by go_num,?_,((hb2.setCell (Nat.le_refl _) _).setCell (Nat.le_refl _) _).setCell (Nat.le_refl _) _,by simpa using hsz1⟩
    have hx:=hpart.next hlt hsz hb1 Hp.out hnb1 hnb2 hsmall
    rw [Nat.zero_add] at hx
    exact hx
   case measure=>simp [intOf]; omega
  ·obtain rfl:k=n:=by omega
   go_wp2
   go_ret
   refine⟨⟨_,kb,kv,rfl,⟨hm1,_,k,rfl,Nat.le_refl _,fun _=>⟨0,rfl,fun i hi=>?_⟩⟩,hpart.apart,hpart.place⟩,hb,hsz⟩
   have:=hpart.slots i hi
   rw [if_pos hi] at this
   exact this
set_option maxRecDepth 20000 in
set_option maxHeartbeats 400000 in
theorem toPool_any(v0 v1:Value)(lo hi:Nat)(p:PoolD)(w:World)(h1:PoolAt w lo hi v0 v1 p)(hn:poolN p≤1048576):Calls Tryz.prog 30 #[.agg #[v0,v1]] w (NewPool p w):=by
 have q1:=h1
 obtain⟨⟨_,a,c,rfl,_⟩,⟨_,a',c',rfl,_⟩⟩:=h1
 unfold poolN at hn
 go_enter Tryz.func30,Tryz.ntmps30
 go_wp2_with fail
 have ha1:=below_alloc w (.cells #[.slice a p.n c,.slice a' p.hn c'] 25)
 have ha2:=below_next ha1 (below_alloc _ (.cells #[.slice none 0 0,.slice none 0 0] 33))
 have ha3:=below_next ha2 (below_alloc _ (.cells #[.slice none 0 0,.slice none 0 0] 33))
 refine(toSlotS_any _ p.n lo hi p.s _ (q1.1.below ha3) (by omega)).mono ?_
 rintro e w1 ⟨⟨sv,kb,kv,rfl,hown,hap,hpl⟩,hb1,hsz⟩
 have HB:Hid (Box2 w1 w.heap.size (.slice a p.n c) (.slice a' p.hn c')):=(((Box2.new w _ _ _).below (below_alloc _ _)).below (below_alloc _ _)).below hb1
 have HR:Hid (Box2 w1 (w.heap.size+1) (.slice none 0 0) (.slice none 0 0)):=by
  have:=(((Box2.new (w.alloc (.cells #[.slice a p.n c,.slice a' p.hn c'] 25)) (.slice none 0 0) (.slice none 0 0) 33).below (below_alloc _ _)).below hb1)
  rw [World.size_alloc] at this
  exact this
 have HO:Hid (Box2 w1 (w.heap.size+1+1) (.slice none 0 0) (.slice none 0 0)):=by
  have:=((Box2.new ((w.alloc (.cells #[.slice a p.n c,.slice a' p.hn c'] 25)).alloc (.cells #[.slice none 0 0,.slice none 0 0] 33)) (.slice none 0 0) (.slice none 0 0) 33).below hb1)
  rw [World.size_alloc,World.size_alloc] at this
  exact this
 have hb2:=below_next ha3 hb1
 rw [World.size_alloc,World.size_alloc,World.size_alloc] at hown hpl hsz
 have Hown:Hid (SlotsOwn w1 (w.heap.size+1+1+1) kb kv sv p.n p.s):=hown
 have Hap:Hid (KidsApart kb p.n p.s):=hap
 have Hpl:Hid (∀j,j<p.n→0<(p.s j).kn→w.heap.size+1+1+1<kb j∧kb j<w1.heap.size):=hpl
 obtain⟨_,sa,sc,rfl,_⟩:=hown
 clear hap hpl ha1 ha2 ha3 hb1
 obtain⟨⟨x0,x1⟩,⟨x2,x3⟩⟩:=HB.out
 obtain⟨⟨z0,z1⟩,⟨z2,z3⟩⟩:=HO.out
 go_wp2_with fail
 have hb3:=hb2.setCell (p:=⟨w.heap.size+1+1,0,none⟩) (by show _≤w.heap.size+1+1; omega) (.slice sa p.n sc)
 refine(toInt64S_any _ p.hn lo hi p.h _ (q1.2.below hb3) (by omega)).mono ?_
 rintro e w2 ⟨⟨hv,rfl,hiown⟩,hb4,hsz4⟩
 rw [World.size_setCell] at hiown hsz4
 have hb5:=below_next hb3 hb4
 have HR2:Hid (Box2 w2 (w.heap.size+1) (.slice none 0 0) (.slice none 0 0)):=(HR.out.other _ (by omega)).below hb4
 have HO2:Hid (Box2 w2 (w.heap.size+1+1) (.slice sa p.n sc) (.slice none 0 0)):=(show Box2 (w1.setCell ⟨w.heap.size+1+1,0,none⟩ (.slice sa p.n sc)) (w.heap.size+1+1) (.slice sa p.n sc) (.slice none 0 0)from⟨HO.out.1.set _,HO.out.2.other _ (Or.inr (by omega))⟩).below hb4
 have Hown2:Hid (SlotsOwn w2 (w.heap.size+1+1+1) kb kv (.slice sa p.n sc) p.n p.s):=
  (Hown.out.turned (Turned.put _ _ _ _) (fun _ e=>by omega) (fun i hi h0 e=>by have:=Hpl.out i hi h0; omega)).below hb4
 have Hiown:Hid (IntsOwn w2 w1.heap.size hv p.hn p.h):=hiown
 obtain⟨_,ia,ic,rfl,_⟩:=hiown
 clear x0 x1 x2 x3 z0 z1 z2 z3 hb4 hb3 HB HR HO Hown hb2
 obtain⟨⟨y0,y1⟩,⟨y2,y3⟩⟩:=HR2.out
 obtain⟨⟨z0,z1⟩,⟨z2,z3⟩⟩:=HO2.out
 go_wp2
 have HR3:=(HR2.out.other (b':=w.heap.size+1+1) (o':=1) (.slice ia p.hn ic) (by omega)).put (.slice sa p.n sc) (.slice ia p.hn ic)
 refine bodyPost_ret (v:=.agg #[.slice sa p.n sc,.slice ia p.hn ic]) (by simp [results,Tryz.results30,go_sem,HR3.1.1,HR3.2.1]) rfl ⟨_,_,rfl,?_,?_⟩
 ·refine⟨w.heap.size+1+1+1,w1.heap.size,kb,kv,?_,Hap.out,?_,?_,?_⟩
  ·have pl:=Hpl.out
   refine((Hown2.out.turned (Turned.put _ _ _ _) ?_ ?_).turned (Turned.put _ _ _ _) ?_ ?_).turned (Turned.put _ _ _ _) ?_ ?_
   ·exact fun _ e=>by omega
   ·exact fun i hi h0 e=>by have:=pl i hi h0; omega
   ·exact fun _ e=>by omega
   ·exact fun i hi h0 e=>by have:=pl i hi h0; omega
   ·exact fun _ e=>by omega
   ·exact fun i hi h0 e=>by have:=pl i hi h0; omega
  ·exact((Hiown.out.put _ (by omega)).put _ (by omega)).put _ (by omega)
  ·rintro h0 (⟨_,e⟩ | ⟨i,hi,h1,e⟩)
   ·omega
   ·have:=Hpl.out i hi h1; omega
  ·simp only [World.size_setCell]
   rintro k ((⟨_,rfl⟩ | ⟨i,hi,h1,rfl⟩) | ⟨_,rfl⟩)
   ·omega
   ·have:=Hpl.out i hi h1; omega
   ·omega
 ·exact((hb5.setCell (by show _≤w.heap.size+1+1; omega) _).setCell (by show _≤w.heap.size+1; omega) _).setCell (by show _≤w.heap.size+1; omega) _
end Go.Proofs.YtmgeglgboadfiaaGreatDoor

namespace Go.Proofs.YtmgeglgboadfiaaGreatDoor
open Go.RowKit Go.Maps
set_option linter.unusedVariables false
theorem Box6.off6{w:World}{b:Nat}{a0 a1 a2 a3 a4 a5:Value}(h:Box6 w b a0 a1 a2 a3 a4 a5){b':Nat}(o:Nat)(u:Value)(o':Nat)(u':Value)(hne:b'≠b):Box6 ((w.setCell ⟨b',o,none⟩ u).setCell ⟨b',o',none⟩ u') b a0 a1 a2 a3 a4 a5:=by
 obtain⟨h0,h1,h2,h3,h4,h5⟩:=h
 have hc:∀{j:Nat} {v:Value},Cell w b j v→Cell ((w.setCell ⟨b',o,none⟩ u).setCell ⟨b',o',none⟩ u') b j v:=fun hc=>(hc.other _ (Or.inl hne)).other _ (Or.inl hne)
 exact⟨hc h0,hc h1,hc h2,hc h3,hc h4,hc h5⟩
theorem Box6.mid6{w:World}{b:Nat}{a0 a1 a2 a3 a4 a5:Value}(h:Box6 w b a0 a1 a2 a3 a4 a5)(u u':Value):Box6 ((w.setCell ⟨b,3,none⟩ u).setCell ⟨b,4,none⟩ u') b a0 a1 a2 u u' a5:=by
 obtain⟨h0,h1,h2,h3,h4,h5⟩:=h
 exact⟨(h0.other _ (Or.inr (by omega))).other _ (Or.inr (by omega)),(h1.other _ (Or.inr (by omega))).other _ (Or.inr (by omega)),(h2.other _ (Or.inr (by omega))).other _ (Or.inr (by omega)),(h3.set _).other _ (Or.inr (by omega)),(h4.other _ (Or.inr (by omega))).set _,(h5.other _ (Or.inr (by omega))).other _ (Or.inr (by omega))⟩
set_option maxRecDepth 20000 in
set_option maxHeartbeats 400000 in
theorem toSet_any(v:Value)(lo hi:Nat)(s:SetD)(w:World)(h1:PtrsAt w lo hi v s.dn s.ds s.db)(hn:s.dn≤1048576) :
  Calls Tryz.prog 89 #[setV v s] w fun e w'=>(∃v' b,e = .returned (setV v' s)∧PtrsOwn w' b v' s.dn s.ds s.db∧w.heap.size≤b∧b<w'.heap.size)∧Below w.heap.size w w':=by
 unfold setV
 have H1:=hideW h1
 obtain⟨-,a,c,rfl,-⟩:=id h1
 clear h1
 have hst:∀Wa Wb Wc:World,Wa=w.alloc (.cells #[.string s.name,.int .i64 s.origin,.int .i64 s.prev,.int .i64 s.rs,.int .i64 s.rb,.slice a s.dn c] 116)→Wb=Wa.alloc (.cells #[.string ⟨#[]⟩,.int .i64 0,.int .i64 0,.int .i64 0,.int .i64 0,.slice none 0 0] 67)→Wc=Wb.alloc (.cells #[.string s.name,.int .i64 s.origin,.int .i64 s.prev,.int .i64 0,.int .i64 0,.slice none 0 0] 67)→Box6 Wc w.heap.size (.string s.name) (.int .i64 s.origin) (.int .i64 s.prev) (.int .i64 s.rs) (.int .i64 s.rb) (.slice a s.dn c)∧Box6 Wc (w.heap.size+1) (.string ⟨#[]⟩) (.int .i64 0) (.int .i64 0) (.int .i64 0) (.int .i64 0) (.slice none 0 0)∧Box6 Wc (w.heap.size+1+1) (.string s.name) (.int .i64 s.origin) (.int .i64 s.prev) (.int .i64 0) (.int .i64 0) (.slice none 0 0)∧Below w.heap.size w Wc∧Wc.heap.size=w.heap.size+3:=by
  rintro Wa Wb Wc ea eb ec
  have ha:=below_alloc w (.cells #[.string s.name,.int .i64 s.origin,.int .i64 s.prev,.int .i64 s.rs,.int .i64 s.rb,.slice a s.dn c] 116)
  have h1:=Box6.new w (.string s.name) (.int .i64 s.origin) (.int .i64 s.prev) (.int .i64 s.rs) (.int .i64 s.rb) (.slice a s.dn c) 116
  have z1:Wa.heap.size=w.heap.size+1:=by rw [ea]; exact World.size_alloc _ _
  rw [←ea] at ha h1
  have hb:=below_alloc Wa (.cells #[.string ⟨#[]⟩,.int .i64 0,.int .i64 0,.int .i64 0,.int .i64 0,.slice none 0 0] 67)
  have h2:=Box6.new Wa (.string ⟨#[]⟩) (.int .i64 0) (.int .i64 0) (.int .i64 0) (.int .i64 0) (.slice none 0 0) 67
  have z2:Wb.heap.size=w.heap.size+1+1:=by rw [eb,World.size_alloc,z1]
  rw [←eb,z1] at h2
  rw [←eb] at hb
  have hc:=below_alloc Wb (.cells #[.string s.name,.int .i64 s.origin,.int .i64 s.prev,.int .i64 0,.int .i64 0,.slice none 0 0] 67)
  have h3:=Box6.new Wb (.string s.name) (.int .i64 s.origin) (.int .i64 s.prev) (.int .i64 0) (.int .i64 0) (.slice none 0 0) 67
  have z3:Wc.heap.size=w.heap.size+3:=by rw [ec,World.size_alloc,z2]
  rw [←ec,z2] at h3
  rw [←ec] at hc
  exact⟨(h1.below hb).below hc,h2.below hc,h3,below_next (below_next ha hb) hc,z3⟩
 obtain⟨hx,hy,hz,hbw,hsz⟩:=hst _ _ _ rfl rfl rfl
 have HX:=hideW hx
 have HY:=hideW hy
 have HZ:=hideW hz
 have HS:=hideW hsz
 clear hx hy hz hst hsz
 go_enter Tryz.func89,Tryz.ntmps89
 go_wp2_with fail
 generalize ((w.alloc (.cells #[.string s.name,.int .i64 s.origin,.int .i64 s.prev,.int .i64 s.rs,.int .i64 s.rb,.slice a s.dn c] 116)).alloc (.cells #[.string ⟨#[]⟩,.int .i64 0,.int .i64 0,.int .i64 0,.int .i64 0,.slice none 0 0] 67)).alloc (.cells #[.string s.name,.int .i64 s.origin,.int .i64 s.prev,.int .i64 0,.int .i64 0,.slice none 0 0] 67)=W0 at HX HY HZ HS hbw ⊢
 refine(toPtr_any s.rs s.rb W0).mono ?_
 rintro e w1 ⟨rfl,hb1⟩
 have HX1:=hideW ((HX.out.below hb1).off6 3 (.int .i64 s.rs) 4 (.int .i64 s.rb) (show w.heap.size+1+1≠_ by omega))
 have HY1:=hideW ((HY.out.below hb1).off6 3 (.int .i64 s.rs) 4 (.int .i64 s.rb) (show w.heap.size+1+1≠_ by omega))
 have HZ1:=hideW ((HZ.out.below hb1).mid6 (.int .i64 s.rs) (.int .i64 s.rb))
 have hB1:Below w.heap.size w ((w1.setCell ⟨w.heap.size+1+1,3,none⟩ (.int .i64 s.rs)).setCell ⟨w.heap.size+1+1,4,none⟩ (.int .i64 s.rb)):=((below_next hbw hb1).setCell (by show _≤w.heap.size+1+1; omega) _).setCell (by show _≤w.heap.size+1+1; omega) _
 have HS1:=hideW (show w.heap.size+3≤((w1.setCell ⟨w.heap.size+1+1,3,none⟩ (.int .i64 s.rs)).setCell ⟨w.heap.size+1+1,4,none⟩ (.int .i64 s.rb)).heap.size by simp only [World.size_setCell]; have:=hb1.size; have:=HS.out; omega)
 obtain⟨⟨x0,x0'⟩,⟨x1,x1'⟩,⟨x2,x2'⟩,⟨x3,x3'⟩,⟨x4,x4'⟩,⟨x5,x5'⟩⟩:=HX.out.below hb1
 obtain⟨⟨z0,z0'⟩,⟨z1,z1'⟩,⟨z2,z2'⟩,⟨z3,z3'⟩,⟨z4,z4'⟩,⟨z5,z5'⟩⟩:=HZ.out.below hb1
 clear hb1 hbw HX HY HZ HS
 go_wp2_with fail
 clear x0 x1 x2 x3 x4 x5 z0 z1 z2 z3 z4 z5 x0' x1' x2' x3' x4' x5' z0' z1' z2' z3' z4' z5'
 generalize (w1.setCell ⟨w.heap.size+1+1,3,none⟩ (.int .i64 s.rs)).setCell ⟨w.heap.size+1+1,4,none⟩ (.int .i64 s.rb)=W1 at HX1 HY1 HZ1 HS1 hB1 ⊢
 refine(toPtrS_any _ s.dn lo hi _ _ W1 (H1.out.below hB1) hn).mono ?_
 rintro e w2 ⟨⟨v',rfl,ho⟩,hb2,hz2⟩
 obtain⟨-,av,cv,rfl,-,-⟩:=id ho
 have HO:=hideW ho
 have HX2:=hideW (HX1.out.below hb2)
 have HY2:=hideW (HY1.out.below hb2)
 have HZ2:=hideW (HZ1.out.below hb2)
 have hB2:=below_next hB1 hb2
 clear ho hb2 HX1 HY1 HZ1 hB1
 obtain⟨⟨x0,x0'⟩,⟨x1,x1'⟩,⟨x2,x2'⟩,⟨x3,x3'⟩,⟨x4,x4'⟩,⟨x5,x5'⟩⟩:=HX2.out
 obtain⟨⟨y0,y0'⟩,⟨y1,y1'⟩,⟨y2,y2'⟩,⟨y3,y3'⟩,⟨y4,y4'⟩,⟨y5,y5'⟩⟩:=HY2.out
 obtain⟨⟨z0,z0'⟩,⟨z1,z1'⟩,⟨z2,z2'⟩,⟨z3,z3'⟩,⟨z4,z4'⟩,⟨z5,z5'⟩⟩:=HZ2.out
 go_wp2
 have HR:=(show Box6 (w2.setCell ⟨w.heap.size+1+1,5,none⟩ (.slice av s.dn cv)) (w.heap.size+1) _ _ _ _ _ _ from(by
  obtain⟨h0,h1,h2,h3,h4,h5⟩:=HY2.out
  have hc:∀{j:Nat} {v:Value},Cell w2 (w.heap.size+1) j v→Cell (w2.setCell ⟨w.heap.size+1+1,5,none⟩ (.slice av s.dn cv)) (w.heap.size+1) j v:=fun hc=>hc.other _ (Or.inl (by omega))
  exact⟨hc h0,hc h1,hc h2,hc h3,hc h4,hc h5⟩)).put (.string s.name) (.int .i64 s.origin) (.int .i64 s.prev) (.int .i64 s.rs) (.int .i64 s.rb) (.slice av s.dn cv)
 have hs1:=HS1.out
 refine bodyPost_ret (v:=.agg #[.string s.name,.int .i64 s.origin,.int .i64 s.prev,.int .i64 s.rs,.int .i64 s.rb,.slice av s.dn cv]) (by simp [results,Tryz.results89,go_sem,HR.1.1,HR.2.1.1,HR.2.2.1.1,HR.2.2.2.1.1,HR.2.2.2.2.1.1,HR.2.2.2.2.2.1]) rfl ⟨⟨_,W1.heap.size,rfl,?_,by omega,by simpa using hz2⟩,?_⟩
 ·exact((((((HO.out.put _ (by omega)).put _ (by omega)).put _ (by omega)).put _ (by omega)).put _ (by omega)).put _ (by omega)).put _ (by omega)
 ·exact((((((hB2.setCell (by show _≤w.heap.size+1+1; omega) _).setCell (by show _≤w.heap.size+1; omega) _).setCell (by show _≤w.heap.size+1; omega) _).setCell (by show _≤w.heap.size+1; omega) _).setCell (by show _≤w.heap.size+1; omega) _).setCell (by show _≤w.heap.size+1; omega) _).setCell (by show _≤w.heap.size+1; omega) _
set_option maxRecDepth 20000 in
set_option maxHeartbeats 400000 in
theorem toSnap_any(v:Value)(lo hi:Nat)(s:SnapD)(w:World)(h1:PtrsAt w lo hi v s.dn s.ds s.db)(hn:s.dn≤1048576) :
  Calls Tryz.prog 90 #[snapV v s] w fun e w'=>(∃v' b,e = .returned (snapV v' s)∧PtrsOwn w' b v' s.dn s.ds s.db∧w.heap.size≤b∧b<w'.heap.size)∧Below w.heap.size w w':=by
 unfold snapV
 have H1:=hideW h1
 obtain⟨-,a,c,rfl,-⟩:=id h1
 clear h1
 have hst:∀Wa Wb Wc:World,Wa=w.alloc (.cells #[.int .i64 s.id,.string s.name,.string s.set,.int .i64 s.prev,.int .i64 s.time,.int .i64 s.rs,.int .i64 s.rb,.slice a s.dn c] 119)→Wb=Wa.alloc (.cells #[.int .i64 0,.string ⟨#[]⟩,.string ⟨#[]⟩,.int .i64 0,.int .i64 0,.int .i64 0,.int .i64 0,.slice none 0 0] 99)→Wc=Wb.alloc (.cells #[.int .i64 s.id,.string s.name,.string s.set,.int .i64 s.prev,.int .i64 s.time,.int .i64 0,.int .i64 0,.slice none 0 0] 99)→Row8 Wc w.heap.size (.int .i64 s.id) (.string s.name) (.string s.set) (.int .i64 s.prev) (.int .i64 s.time) (.int .i64 s.rs) (.int .i64 s.rb) (.slice a s.dn c)∧Row8 Wc (w.heap.size+1) (.int .i64 0) (.string ⟨#[]⟩) (.string ⟨#[]⟩) (.int .i64 0) (.int .i64 0) (.int .i64 0) (.int .i64 0) (.slice none 0 0)∧Row8 Wc (w.heap.size+1+1) (.int .i64 s.id) (.string s.name) (.string s.set) (.int .i64 s.prev) (.int .i64 s.time) (.int .i64 0) (.int .i64 0) (.slice none 0 0)∧Below w.heap.size w Wc∧Wc.heap.size=w.heap.size+3:=by
  rintro Wa Wb Wc ea eb ec
  have ha:=below_alloc w (.cells #[.int .i64 s.id,.string s.name,.string s.set,.int .i64 s.prev,.int .i64 s.time,.int .i64 s.rs,.int .i64 s.rb,.slice a s.dn c] 119)
  have h1:=Row8.new w (.int .i64 s.id) (.string s.name) (.string s.set) (.int .i64 s.prev) (.int .i64 s.time) (.int .i64 s.rs) (.int .i64 s.rb) (.slice a s.dn c) 119
  have z1:Wa.heap.size=w.heap.size+1:=by rw [ea]; exact World.size_alloc _ _
  rw [←ea] at ha h1
  have hb:=below_alloc Wa (.cells #[.int .i64 0,.string ⟨#[]⟩,.string ⟨#[]⟩,.int .i64 0,.int .i64 0,.int .i64 0,.int .i64 0,.slice none 0 0] 99)
  have h2:=Row8.new Wa (.int .i64 0) (.string ⟨#[]⟩) (.string ⟨#[]⟩) (.int .i64 0) (.int .i64 0) (.int .i64 0) (.int .i64 0) (.slice none 0 0) 99
  have z2:Wb.heap.size=w.heap.size+1+1:=by rw [eb,World.size_alloc,z1]
  rw [←eb,z1] at h2
  rw [←eb] at hb
  have hc:=below_alloc Wb (.cells #[.int .i64 s.id,.string s.name,.string s.set,.int .i64 s.prev,.int .i64 s.time,.int .i64 0,.int .i64 0,.slice none 0 0] 99)
  have h3:=Row8.new Wb (.int .i64 s.id) (.string s.name) (.string s.set) (.int .i64 s.prev) (.int .i64 s.time) (.int .i64 0) (.int .i64 0) (.slice none 0 0) 99
  have z3:Wc.heap.size=w.heap.size+3:=by rw [ec,World.size_alloc,z2]
  rw [←ec,z2] at h3
  rw [←ec] at hc
  exact⟨(h1.below hb).below hc,h2.below hc,h3,below_next (below_next ha hb) hc,z3⟩
 obtain⟨hx,hy,hz,hbw,hsz⟩:=hst _ _ _ rfl rfl rfl
 have HX:=hideW hx
 have HY:=hideW hy
 have HZ:=hideW hz
 have HS:=hideW hsz
 clear hx hy hz hst hsz
 go_enter Tryz.func90,Tryz.ntmps90
 go_wp2_with fail
 generalize ((w.alloc (.cells #[.int .i64 s.id,.string s.name,.string s.set,.int .i64 s.prev,.int .i64 s.time,.int .i64 s.rs,.int .i64 s.rb,.slice a s.dn c] 119)).alloc (.cells #[.int .i64 0,.string ⟨#[]⟩,.string ⟨#[]⟩,.int .i64 0,.int .i64 0,.int .i64 0,.int .i64 0,.slice none 0 0] 99)).alloc (.cells #[.int .i64 s.id,.string s.name,.string s.set,.int .i64 s.prev,.int .i64 s.time,.int .i64 0,.int .i64 0,.slice none 0 0] 99)=W0 at HX HY HZ HS hbw ⊢
 refine(toPtr_any s.rs s.rb W0).mono ?_
 rintro e w1 ⟨rfl,hb1⟩
 have HX1:=hideW ((HX.out.below hb1).off8 5 (.int .i64 s.rs) 6 (.int .i64 s.rb) (show w.heap.size+1+1≠_ by omega))
 have HY1:=hideW ((HY.out.below hb1).off8 5 (.int .i64 s.rs) 6 (.int .i64 s.rb) (show w.heap.size+1+1≠_ by omega))
 have HZ1:=hideW ((HZ.out.below hb1).mid8 (.int .i64 s.rs) (.int .i64 s.rb))
 have hB1:Below w.heap.size w ((w1.setCell ⟨w.heap.size+1+1,5,none⟩ (.int .i64 s.rs)).setCell ⟨w.heap.size+1+1,6,none⟩ (.int .i64 s.rb)):=((below_next hbw hb1).setCell (by show _≤w.heap.size+1+1; omega) _).setCell (by show _≤w.heap.size+1+1; omega) _
 have HS1:=hideW (show w.heap.size+3≤((w1.setCell ⟨w.heap.size+1+1,5,none⟩ (.int .i64 s.rs)).setCell ⟨w.heap.size+1+1,6,none⟩ (.int .i64 s.rb)).heap.size by simp only [World.size_setCell]; have:=hb1.size; have:=HS.out; omega)
 obtain⟨⟨x0,x0'⟩,⟨x1,x1'⟩,⟨x2,x2'⟩,⟨x3,x3'⟩,⟨x4,x4'⟩,⟨x5,x5'⟩,⟨x6,x6'⟩,⟨x7,x7'⟩⟩:=HX.out.below hb1
 obtain⟨⟨z0,z0'⟩,⟨z1,z1'⟩,⟨z2,z2'⟩,⟨z3,z3'⟩,⟨z4,z4'⟩,⟨z5,z5'⟩,⟨z6,z6'⟩,⟨z7,z7'⟩⟩:=HZ.out.below hb1
 clear hb1 hbw HX HY HZ HS
 go_wp2_with fail
 clear x0 x1 x2 x3 x4 x5 x6 x7 x0' x1' x2' x3' x4' x5' x6' x7' z0 z1 z2 z3 z4 z5 z6 z7 z0' z1' z2' z3' z4' z5' z6' z7'
 generalize (w1.setCell ⟨w.heap.size+1+1,5,none⟩ (.int .i64 s.rs)).setCell ⟨w.heap.size+1+1,6,none⟩ (.int .i64 s.rb)=W1 at HX1 HY1 HZ1 HS1 hB1 ⊢
 refine(toPtrS_any _ s.dn lo hi _ _ W1 (H1.out.below hB1) hn).mono ?_
 rintro e w2 ⟨⟨v',rfl,ho⟩,hb2,hz2⟩
 obtain⟨-,av,cv,rfl,-,-⟩:=id ho
 have HO:=hideW ho
 have HX2:=hideW (HX1.out.below hb2)
 have HY2:=hideW (HY1.out.below hb2)
 have HZ2:=hideW (HZ1.out.below hb2)
 have hB2:=below_next hB1 hb2
 clear ho hb2 HX1 HY1 HZ1 hB1
 obtain⟨⟨x0,x0'⟩,⟨x1,x1'⟩,⟨x2,x2'⟩,⟨x3,x3'⟩,⟨x4,x4'⟩,⟨x5,x5'⟩,⟨x6,x6'⟩,⟨x7,x7'⟩⟩:=HX2.out
 obtain⟨⟨y0,y0'⟩,⟨y1,y1'⟩,⟨y2,y2'⟩,⟨y3,y3'⟩,⟨y4,y4'⟩,⟨y5,y5'⟩,⟨y6,y6'⟩,⟨y7,y7'⟩⟩:=HY2.out
 obtain⟨⟨z0,z0'⟩,⟨z1,z1'⟩,⟨z2,z2'⟩,⟨z3,z3'⟩,⟨z4,z4'⟩,⟨z5,z5'⟩,⟨z6,z6'⟩,⟨z7,z7'⟩⟩:=HZ2.out
 go_wp2
 have HR:=(show Row8 (w2.setCell ⟨w.heap.size+1+1,7,none⟩ (.slice av s.dn cv)) (w.heap.size+1) _ _ _ _ _ _ _ _ from(by
  obtain⟨h0,h1,h2,h3,h4,h5,h6,h7⟩:=HY2.out
  have hc:∀{j:Nat} {v:Value},Cell w2 (w.heap.size+1) j v→Cell (w2.setCell ⟨w.heap.size+1+1,7,none⟩ (.slice av s.dn cv)) (w.heap.size+1) j v:=fun hc=>hc.other _ (Or.inl (by omega))
  exact⟨hc h0,hc h1,hc h2,hc h3,hc h4,hc h5,hc h6,hc h7⟩)).put (.int .i64 s.id) (.string s.name) (.string s.set) (.int .i64 s.prev) (.int .i64 s.time) (.int .i64 s.rs) (.int .i64 s.rb) (.slice av s.dn cv)
 have hs1:=HS1.out
 refine bodyPost_ret (v:=.agg #[.int .i64 s.id,.string s.name,.string s.set,.int .i64 s.prev,.int .i64 s.time,.int .i64 s.rs,.int .i64 s.rb,.slice av s.dn cv]) (by simp [results,Tryz.results90,go_sem,HR.1.1,HR.2.1.1,HR.2.2.1.1,HR.2.2.2.1.1,HR.2.2.2.2.1.1,HR.2.2.2.2.2.1.1,HR.2.2.2.2.2.2.1.1,HR.2.2.2.2.2.2.2.1]) rfl ⟨⟨_,W1.heap.size,rfl,?_,by omega,by simpa using hz2⟩,?_⟩
 ·exact(((((((((HO.out.put _ (by omega)).put _ (by omega)).put _ (by omega)).put _ (by omega)).put _ (by omega)).put _ (by omega)).put _ (by omega)).put _ (by omega)).put _ (by omega))
 ·exact(((((((((hB2.setCell (by show _≤w.heap.size+1+1; omega) _).setCell (by show _≤w.heap.size+1; omega) _).setCell (by show _≤w.heap.size+1; omega) _).setCell (by show _≤w.heap.size+1; omega) _).setCell (by show _≤w.heap.size+1; omega) _).setCell (by show _≤w.heap.size+1; omega) _).setCell (by show _≤w.heap.size+1; omega) _).setCell (by show _≤w.heap.size+1; omega) _).setCell (by show _≤w.heap.size+1; omega) _)
end Go.Proofs.YtmgeglgboadfiaaGreatDoor

namespace Go.Proofs.YtmgeglgboadfiaaGreatDoor
open Go.RowKit
set_option linter.unusedVariables false
theorem wpList_append_run{P:Program}{w w1:World}{ops:Array Oper}{rest:List Oper}{o:Oper}{a:Act}{Q:Exit→Act→World→Prop}(hgd:o.guard=none)(s x:Operand)(t:TypeId)
  (ho:o.op = .call {callee:=.builtin .append,args:=#[s,x],argTypes:=#[t,t]}) (vs vx v':Value) (hs:a.eval s=vs) (hx:a.eval x=vx) (hrun:(Builtin.append_ #[t,t] o.type #[vs,vx]).run P w = .ok v' w1)
  (h:wpList P ops Q rest (a.put o.dst v') w1):wpList P ops Q (o :: rest) a w:=by
 refine wpList_plain hgd fun K hK=>?_
 unfold Oper.wp
 simp [execOp,ho,resolve,invoke,builtin,hs,hx,hrun,Result.andThen]
 exact hK _ _ h
end Go.Proofs.YtmgeglgboadfiaaGreatDoor

namespace Go.Proofs.YtmgeglgboadfiaaGreatDoor
open Go.RowKit Go.Maps
set_option linter.unusedVariables false
def zeroSetD:SetD:=⟨⟨#[]⟩,0,0,0,0,0,fun _=>0,fun _=>0⟩
open Classical in
noncomputable def setAt(W:WorldD)(x:ByteArray):SetD:=if h:∃k,SetNo W x k then W.sets h.choose else zeroSetD
theorem setAt_at{W:WorldD}{x:ByteArray}{k:Nat}(h:SetNo W x k):setAt W x=W.sets k:=by
 have hx:∃k,SetNo W x k:=⟨k,h⟩
 unfold setAt
 rw [dif_pos hx,hx.choose_spec.uniq h]
theorem setNo_of{W:WorldD}{x:ByteArray}:∀{n:Nat},n≤W.sn→(∃i,i<n∧(W.sets i).name=x)→∃k,SetNo W x k
 | 0,_,⟨i,hi,_⟩=>absurd hi (Nat.not_lt_zero _)
 | n+1,hn,⟨i,hi,e⟩=>by
  by_cases hx:∃j,j<n∧(W.sets j).name=x
  ·exact setNo_of (by omega) hx
  ·have:i=n:=by
    by_cases h:i=n
    ·exact h
    ·exact absurd ⟨i,by omega,e⟩ hx
   subst this
   exact⟨i,by omega,e,fun j hj e2=>hx ⟨j,hj,e2⟩⟩
def NamesDist(W:WorldD):Prop:=∀i,i<W.sn→∀j,j<i→(W.sets j).name≠(W.sets i).name
theorem SpecNames.rise{W:WorldD}(h:SpecNames W):∀i,i<W.sn→∀j,j<i→Rises (W.sets j).name (W.sets i).name
 | 0,_,j,hj=>absurd hj (Nat.not_lt_zero _)
 | i+1,hi,j,hj=>by
  have h1:Rises (W.sets i).name (W.sets (i+1)).name:=(h.2.2.2.2.1 (i+1) hi).2.1 (by omega)
  by_cases e:j=i
  ·subst e; exact h1
  ·exact bl_trans _ _ _ (SpecNames.rise h i (by omega) j (by omega)) h1
theorem SpecNames.dist{W:WorldD}(h:SpecNames W):NamesDist W:=fun i hi j hj e=>by
 have:=h.rise i hi j hj
 unfold Rises at this
 rw [e,bl_irrefl] at this
 exact absurd this (by simp)
theorem setN_one(f:Nat→SetD):∀{n i:Nat},i<n→setN (f i)≤setsN f n
 | n+1,i,h=>by
  show setN (f i)≤setsN f n+setN (f n)
  by_cases e:i=n
  ·subst e; omega
  ·have:=setN_one f (show i<n by omega); omega
theorem snapN_one(f:Nat→SnapD):∀{n i:Nat},i<n→snapN (f i)≤snapsN f n
 | n+1,i,h=>by
  show snapN (f i)≤snapsN f n+snapN (f n)
  by_cases e:i=n
  ·subst e; omega
  ·have:=snapN_one f (show i<n by omega); omega
theorem worldN_deads{W:WorldD}(h:worldN W≤1048576):DeadsN W:=by
 unfold worldN at h
 refine⟨fun i hi=>?_,fun i hi=>?_⟩
 ·have:=setN_one W.sets hi; unfold setN at this; omega
 ·have:=snapN_one W.snaps hi; unfold snapN at this; omega
theorem setNames_look{W:WorldD}{w:World}{lo hi:Nat}{vd:Nat→Value}(hD:NamesDist W)(hd:SetDeads w lo hi W.sn W.sets vd)(x:ByteArray):∃a c,(putD (fun i=>keyS (W.sets i).name) (fun i=>setV (vd i) (W.sets i)) W.sn).atKey (keyS x) (.held (.agg #[.string ⟨#[]⟩,.int .i64 0,.int .i64 0,.int .i64 0,.int .i64 0,.slice none 0 0])) = .held (setV (.slice a (setAt W x).dn c) (setAt W x))∧PtrsAt w lo hi (.slice a (setAt W x).dn c) (setAt W x).dn (setAt W x).ds (setAt W x).db:=by
 have hk:KeysOk (fun i=>keyS (W.sets i).name):=fun i=>keyS_key _
 by_cases hx:∃k,SetNo W x k
 ·obtain⟨k,hk'⟩:=hx
  rw [setAt_at hk']
  have hp:=hd k hk'.1
  obtain⟨_,a,c,hv,_⟩:=id hp
  refine⟨a,c,?_,by rw [←hv]; exact hp⟩
  have:=putD_at hk (fun i=>setV (vd i) (W.sets i)) (.held (.agg #[.string ⟨#[]⟩,.int .i64 0,.int .i64 0,.int .i64 0,.int .i64 0,.slice none 0 0])) W.sn k hk'.1 (fun j h1 h2 e=>hD j h2 k h1 (keyS_inj e).symm)
  rw [hk'.2.1] at this
  rw [this,hv]
 ·have e:setAt W x=zeroSetD:=by unfold setAt; rw [dif_neg hx]
  rw [e]
  refine⟨none,0,?_,⟨Nat.zero_le _,none,0,rfl,Nat.le_refl _,fun h=>absurd h (by simp [zeroSetD])⟩⟩
  refine putD_none hk _ (fun i hi' e2=>?_) _
  exact hx (setNo_of (Nat.le_refl _) ⟨i,hi',keyS_inj e2⟩)
end Go.Proofs.YtmgeglgboadfiaaGreatDoor
