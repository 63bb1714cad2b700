/- What spec.l05Hold does: all of a list are held. -/
import Derived.Test.YtihdcanckbkgfaaGreatDoorG29
import Derived.Test.YtihdcanckbkgfaaGreatDoorG27
import Derived.Test.YtihdcanckbkgfaaGreatDoorG3
import Derived.Test.YtihdcanckbkgfaaGreatDoorG4
import Derived.Test.YtihdcanckbkgfaaGreatDoorG23
import Derived.Deep.RegionHeld3
import Derived.Deep.RegionLaw
import Derived.Test.YtihdcanckbkgfaaGreatDoorG20
import Derived.Test.YtihdcanckbkgfaaGreatDoorG25
import Derived.Test.YtihdcanckbkgfaaGreatDoorG21
namespace Go.Proofs.YtihdcanckbkgfaaGreatDoor
open Go.RowKit
set_option linter.unusedVariables false
structure KeptH (p:Prop):Prop where
 out:p
theorem join_oneH{A B:Prop}(f:KeptH A→B)(h:A):B:=f ⟨h⟩
theorem append_heldIn{wa wb:World}{S:Nat→Prop}{X g cap base:Nat}{v0 v1:Value}{q:PoolD}{x:Int}(ho:PoolIn wa S v0 v1 q)(t:Turned (fun k=>0<q.hn∧v1.ownBlock=some k) wa wb)
  (hrow:wb.ownsRow base 2 1 (.slice (some ⟨g,0,none⟩) (q.hn+1) cap) (q.hn+1) (ic q.h q.hn ++ [.int .i64 x])) (hat:(0<q.hn∧v1.ownBlock=some g)∨¬S g) (hX:¬S X) (hXg:g≠X) (hm:q.hn+1≤maxLen) :
  PoolIn (wb.setCell ⟨X,1,none⟩ (.slice (some ⟨g,0,none⟩) (q.hn+1) cap)) (fun k=>S k∨k=g) v0 (.slice (some ⟨g,0,none⟩) (q.hn+1) cap) (holdD q x):=by
 obtain⟨bs,hb,kb,kv,h1,h2,h3,h4,h5⟩:=ho
 have tX:=Turned.put wb X 1 (.slice (some ⟨g,0,none⟩) (q.hn+1) cap)
 have hsb:∀k,SlotsB bs kb q.n q.s k→¬(0<q.hn∧v1.ownBlock=some k):=fun k hk hx=>by
  rw [h3.block hx.1] at hx
  simp only [Option.some.injEq] at hx
  exact h4 hx.1 (hx.2▸hk)
 have hsX:∀k,SlotsB bs kb q.n q.s k→¬k=X:=fun k hk e=>hX (e▸h5 k (Or.inl hk))
 have s1:=(h1.turned t (fun h0=>hsb _ (Or.inl ⟨h0,rfl⟩)) (fun i hi h=>hsb _ (Or.inr ⟨i,hi,h,rfl⟩))).turned tX (fun h0=>hsX _ (Or.inl ⟨h0,rfl⟩)) (fun i hi h=>hsX _ (Or.inr ⟨i,hi,h,rfl⟩))
 rw [←ic_hold] at hrow
 have hrow2:=hrow.kept (grown_of_turned tX) (Or.inr (by simp [Value.ownBlock]; exact hXg))
 obtain⟨gb,hi2,hg2⟩:=ints_of_owns2 (f:=(holdD q x).h) hm hrow2 (fun e=>absurd e (Nat.succ_ne_zero _))
 obtain rfl:g=gb:=by have:=hg2 (Nat.succ_pos _); simpa [Value.ownBlock] using this
 refine⟨bs,g,kb,kv,s1,h2,hi2,fun _ hx=>?_,fun k hk=>?_⟩
 ·rcases hat with⟨h0,he⟩ | he
  ·exact hsb g hx ⟨h0,he⟩
  ·exact he (h5 g (Or.inl hx))
 ·rcases hk with hk | ⟨_,rfl⟩
  ·exact Or.inl (h5 k (Or.inl hk))
  ·exact Or.inr rfl
set_option maxRecDepth 20000 in
set_option maxHeartbeats 2000000 in
theorem l05Hold_any(V lo hi:Nat)(P:Nat→Prop)(z0 z1 z2 z3 v:Value)(tm nx:Int)(p:PoolD)(l:List (Int×Int))(w:World)(hV:Box6 w V z0 z1 (.int .i64 tm) (.int .i64 nx) z2 z3)(hP:PoolIn w P z0 z1 p)(hPl:∀j,P j→j<V)(hv:PtrsAt w lo hi v l.length (fstL l) (sndL l))(hlo:V<lo)(hhi:hi≤w.heap.size)(hl:l.length≤200)(hpn:p.hn≤400) :
  Calls Tryz.prog 30 #[.pointer (some ⟨V,0,none⟩),v] w fun e w'=>e = .returned (.int .i64 (l.length:Int))∧∃y1,Box6 w' V z0 y1 (.int .i64 tm) (.int .i64 nx) z2 z3∧PoolIn w' (fun j=>P j∨(w.heap.size≤j∧j<w'.heap.size)) z0 y1 (holdAll p l)∧Turned (fun j=>j=V∨P j∨w.heap.size≤j) w w':=by
 have hVl:=hV.1.lt
 obtain⟨-,a,c,rfl,-,hx⟩:=hv
 have HX:=hideW hx
 have HV:=hideW hV
 have HP:=hideW hP
 clear hV hP hx
 go_enter Tryz.func30,Tryz.ntmps30
 go_wp2_with fail
 go_loopw [5] (fun i wr=>∃(k:Nat) (y1:Value),k≤l.length∧i = .int .i64 k∧Box6 wr V z0 y1 (.int .i64 tm) (.int .i64 nx) z2 z3∧PoolIn wr (fun j=>P j∨(w.heap.size≤j∧j<wr.heap.size)) z0 y1 (holdAll p (l.take k))∧Turned (fun j=>j=V∨P j∨w.heap.size≤j) w wr) (fun i _=>l.length - (intOf i).toNat)
 case atStart=>exact⟨0,_,Nat.zero_le _,rfl,HV.out,HP.out.mono (fun j h=>Or.inl h),Turned.refl _ _⟩
 case round=>
  obtain⟨k,y1,hk,rfl,hVk,hPk,hTk⟩:=hrel
  have HVk:=hideW hVk
  have HPk:=hideW hPk
  have HTk:=hideW hTk
  have hzk:=hTk.size
  clear hVk hPk hTk
  by_cases hlt:k<l.length
  ·have hlt':(k:Int)<(l.length:Int):=by omega
   obtain⟨b,off,rfl,hb1,hb2,hcell⟩:=HX.out (by omega)
   have q0:=(HTk.out.cell (o:=off+k*2) (show b<w.heap.size by omega) (fun h=>by
    rcases h with h | h | h
    ·omega
    ·have:=hPl b h; omega
    ·omega)).trans (hcell k hlt).1
   have hkl:(holdAll p (l.take k)).hn≤1000:=by
    rw [(holdAll_n (l.take k) p).2.2,List.length_take]
    omega
   obtain⟨bs,hbk,kb,kv,i1,i2,i3,i4,i5⟩:=id HPk.out
   obtain⟨a1,c1,rfl⟩:∃a1 c1,y1 = .slice a1 (holdAll p (l.take k)).hn c1:=by obtain⟨_,a1,c1,e,_⟩:=i3; exact⟨a1,c1,e⟩
   have hb0:Below wr.heap.size wr wr.drew:=(Below.refl _ _).drew
   have hba:=below_alloc wr.drew (.cells #[.int .i64 (fstL l k)] 2)
   have hbA:Below wr.heap.size wr (wr.drew.alloc (.cells #[.int .i64 (fstL l k)] 2)):=below_next hb0 hba
   obtain⟨base,g,cap,w5,hr5,hrow5,hT5,hg5,hgz5⟩:=run_hold1 (B:=wr.drew.heap.size) (x:=fstL l k) (i3.below hbA) hkl (World.cell?_alloc_at _ _ _ _ rfl) 23
   have hzA:(wr.drew.alloc (.cells #[.int .i64 (fstL l k)] 2)).heap.size≥wr.heap.size+1:=by rw [World.size_alloc]; exact Nat.le_refl _
   have hz5:wr.heap.size+1≤w5.heap.size:=by have:=hT5.size; omega
   have hkb:∀j,0<(holdAll p (l.take k)).hn∧(Value.slice a1 (holdAll p (l.take k)).hn c1).ownBlock=some j→P j∨(w.heap.size≤j∧j<wr.heap.size):=fun j h=>by
    have e:=i3.block h.1
    rw [h.2] at e
    injection e with e
    rw [e]
    exact i5 hbk (Or.inr ⟨h.1,rfl⟩)
   have hVn:∀j,0<(holdAll p (l.take k)).hn∧(Value.slice a1 (holdAll p (l.take k)).hn c1).ownBlock=some j→j≠V∧j≠b:=fun j h=>by
    rcases hkb j h with h' | h'
    ·have:=hPl j h'; exact⟨by omega,by omega⟩
    ·exact⟨by omega,by omega⟩
   have hgV:g≠V:=by
    rcases hg5 with h | h
    ·exact(hVn g h).1
    ·omega
   have hV5:=(HVk.out.below hbA).turned hT5 (fun h=>(hVn V h).1 rfl)
   have HKP:=hideW (show ∀w',Below wr.drew.heap.size wr.drew w'→(fun w':World=>w'.cell? ⟨b,off+k*2,none⟩=some (.int .i64 (fstL l k))) w' from fun w' hb=>(hb.cell (p:=⟨b,off+k*2,none⟩) (show b<wr.heap.size by omega)).trans q0)
   have HK5:=hideW (show(fun w':World=>w'.cell? ⟨b,off+k*2,none⟩=some (.int .i64 (fstL l k))) w5 from(hT5.cell (o:=off+k*2) (show b<_ by omega) (fun h=>(hVn b h).2 rfl)).trans ((hbA.cell (p:=⟨b,off+k*2,none⟩) (show b<wr.heap.size by omega)).trans q0))
   have hT6:=Turned.put w5 V 1 (.slice (some ⟨g,0,none⟩) ((holdAll p (l.take k)).hn+1) cap)
   have HK6:=hideW (show(fun w':World=>w'.cell? ⟨b,off+k*2,none⟩=some (.int .i64 (fstL l k))) (w5.setCell ⟨V,1,none⟩ (.slice (some ⟨g,0,none⟩) ((holdAll p (l.take k)).hn+1) cap))from(hT6.cell (o:=off+k*2) (show b<w5.heap.size by omega) (fun h=>by omega)).trans HK5.out)
   have HP6:=hideW (append_heldIn (X:=V) (HPk.out.below hbA) hT5 hrow5 (hg5.imp id (fun h hx=>by
    rcases hx with hx | hx
    ·have:=hPl g hx; omega
    ·omega)) (fun hx=>by
    rcases hx with hx | hx
    ·have:=hPl V hx; omega
    ·omega) hgV (by unfold maxLen; omega))
   have HT6:=hideW (show Turned (fun j=>j=V∨P j∨w.heap.size≤j) w (w5.setCell ⟨V,1,none⟩ (.slice (some ⟨g,0,none⟩) ((holdAll p (l.take k)).hn+1) cap))from(HTk.out.trans ((Turned.of_below hbA).trans (hT5.mono (fun j h=>by
    rcases hkb j h with h' | h'
    ·exact Or.inr (Or.inl h')
    ·exact Or.inr (Or.inr h'.1))))).trans (hT6.mono (fun j e=>Or.inl e)))
   have HR:=hideW hr5
   have HBA:=hideW hba
   have HG:=hideW (show(0<(holdAll p (l.take k)).hn∧(Value.slice a1 (holdAll p (l.take k)).hn c1).ownBlock=some g)∨wr.heap.size≤g from hg5.imp id (fun h=>by omega))
   have Hkb:=hideW hkb
   obtain⟨x4,-⟩:=(HVk.out.below hb0).2.1
   have X5:=hideW ((hba.cell (lt_of_cell x4)).trans x4)
   obtain⟨y4,y4'⟩:=hV5.2.1
   have HV5:=hideW hV5
   clear hr5 hrow5 hT5 hg5 hV5 hba hbA hcell i1 i2 i3 i4 i5 hkb hVn hzA q0
   go_wp2_with fail
   refine wp_region_held_drew (S:=(fun w':World=>w'.cell? ⟨b,off+k*2,none⟩=some (.int .i64 (fstL l k)))) (by kernel_rfl) (HKP.out _ (Below.refl _ _)) (fun hHeld=>?_)
   generalize wr.drew=q0 at hHeld HKP HR HBA x4 X5 hb0 ⊢
   refine' join_oneH (fun hfin=>_) _
   rotate_left
   ·skip
    refine tk 0 (h:=tk 1 (h:=tk 2 (h:=tk 3 (h:=tk 4 (h:=tk 6 (h:=tk 7 (h:=tk 8 (h:=tk 9 (h:=tk 10 (h:=?_))))))))))
    refine rd [5,11] (rc (fun K hK=>?_) (rc (fun K hK=>?_) .nil))
    ·go_simp
     (try go_wp2_with fail)
     refine hK.out _ _ (HKP.out _ (Below.refl _ _)) ?_
     clear hK K
     intro hHeld
     try simp only [Act.put,s1,s2,s3]
     refine rd [11] (rc (fun K hK=>?_) .nil)
     go_simp
     (try go_wp2_with fail)
     refine hK.out _ _ (HKP.out _ HBA.out) ?_
     clear hK K
     intro hHeld
     try simp only [Act.put,s1,s2,s3]
     refine rd [12] (rc (fun K hK=>?_) .nil)
     refine step_append_run rfl (.tmp 17) (.tmp 23) 23 rfl _ _ _ rfl rfl HR.out ?_
     (try go_wp2_with fail)
     refine hK.out _ _ (HK5.out) ?_
     clear hK K
     intro hHeld
     try simp only [Act.put,s1,s2,s3]
     refine tk 13 (h:=tk 14 (h:=tk 15 (h:=?_)))
     refine rd [16] (rc (fun K hK=>?_) .nil)
     go_simp
     (try go_wp2_with fail)
     refine hK.out _ _ (HK6.out) ?_
     clear hK K
     intro hHeld
     try simp only [Act.put,s1,s2,s3]
     refine wpAnyH_done (by kernel_rfl) ?_ _
     exact hfin.out
    ·go_simp
     (try go_wp2_with fail)
     refine hK.out _ _ (HKP.out _ HBA.out) ?_
     clear hK K
     intro hHeld
     try simp only [Act.put,s1,s2,s3]
     refine rd [5] (rc (fun K hK=>?_) .nil)
     have x5a:=X5.out
     go_simp
     (try go_wp2_with fail)
     refine hK.out _ _ (HKP.out _ HBA.out) ?_
     clear hK K
     intro hHeld
     try simp only [Act.put,s1,s2,s3]
     clear x5a
     refine rd [12] (rc (fun K hK=>?_) .nil)
     refine step_append_run rfl (.tmp 17) (.tmp 23) 23 rfl _ _ _ rfl rfl HR.out ?_
     (try go_wp2_with fail)
     refine hK.out _ _ (HK5.out) ?_
     clear hK K
     intro hHeld
     try simp only [Act.put,s1,s2,s3]
     refine tk 13 (h:=tk 14 (h:=tk 15 (h:=?_)))
     refine rd [16] (rc (fun K hK=>?_) .nil)
     go_simp
     (try go_wp2_with fail)
     refine hK.out _ _ (HK6.out) ?_
     clear hK K
     intro hHeld
     try simp only [Act.put,s1,s2,s3]
     refine wpAnyH_done (by kernel_rfl) ?_ _
     exact hfin.out
   go_wp2_with fail
   go_roundw
   case rel=>
    have hV6:Box6 (w5.setCell ⟨V,1,none⟩ (.slice (some ⟨g,0,none⟩) ((holdAll p (l.take k)).hn+1) cap)) V z0 (.slice (some ⟨g,0,none⟩) ((holdAll p (l.take k)).hn+1) cap) (.int .i64 tm) (.int .i64 nx) z2 z3:=⟨HV5.out.1.other _ (Or.inr (by decide)),HV5.out.2.1.set _,HV5.out.2.2.1.other _ (Or.inr (by decide)),HV5.out.2.2.2.1.other _ (Or.inr (by decide)),HV5.out.2.2.2.2.1.other _ (Or.inr (by decide)),HV5.out.2.2.2.2.2.other _ (Or.inr (by decide))⟩
    have he:holdAll p (l.take (k+1))=holdD (holdAll p (l.take k)) (fstL l k):=by
     rw [List.take_succ_eq_append_getElem hlt,holdAll_snoc]
     congr 1
     unfold fstL
     rw [List.getD_eq_getElem?_getD,List.getElem?_eq_getElem hlt]
     rfl
    refine⟨k+1,_,by omega,by go_num,hV6,?_,HT6.out⟩
    rw [he]
    refine HP6.out.mono (fun j hj=>?_)
    have hs6:=hT6.size
    rcases hj with(h | h) | rfl
    ·exact Or.inl h
    ·exact Or.inr ⟨h.1,by omega⟩
    ·rcases HG.out with h | h
     ·rcases Hkb.out j h with h' | h'
      ·exact Or.inl h'
      ·exact Or.inr ⟨h'.1,by omega⟩
     ·exact Or.inr ⟨by omega,by omega⟩
   case measure=>simp [intOf]; omega
  ·obtain rfl:k=l.length:=by omega
   go_wp2_with fail
   rw [List.take_length] at HPk
   go_ret
   exact⟨rfl,y1,HVk.out,HPk.out,HTk.out⟩
end Go.Proofs.YtihdcanckbkgfaaGreatDoor

namespace Go.Proofs.YtihdcanckbkgfaaGreatDoor
open Go.RowKit
set_option linter.unusedVariables false
set_option maxRecDepth 20000 in
set_option maxHeartbeats 1000000 in
theorem l05Ill_any(c:Int)(w:World):Calls Tryz.prog 22 #[.int .i64 c] w fun e w'=>e = .returned (.agg #[.slice none 0 0,.slice none 0 0,.int .i64 0,.int .i64 0,.slice none 0 0,.slice none 0 0,.int .i64 0,.int .i64 0,.int .i64 c])∧Below w.heap.size w w':=by
 have ha:=below_alloc w (.cells #[.slice none 0 0,.slice none 0 0,.int .i64 0,.int .i64 0,.slice none 0 0,.slice none 0 0,.int .i64 0,.int .i64 0,.int .i64 c] 39)
 have HRz:=Box9.new w (.slice none 0 0) (.slice none 0 0) (.int .i64 0) (.int .i64 0) (.slice none 0 0) (.slice none 0 0) (.int .i64 0) (.int .i64 0) (.int .i64 c) 39
 go_enter Tryz.func22,Tryz.ntmps22
 go_wp2_with fail
 refine bodyPost_ret (v:=.agg #[.slice none 0 0,.slice none 0 0,.int .i64 0,.int .i64 0,.slice none 0 0,.slice none 0 0,.int .i64 0,.int .i64 0,.int .i64 c]) (by simp [results,Tryz.results22,go_sem,HRz.1.1,HRz.2.1.1,HRz.2.2.1.1,HRz.2.2.2.1.1,HRz.2.2.2.2.1.1,HRz.2.2.2.2.2.1.1,HRz.2.2.2.2.2.2.1.1,HRz.2.2.2.2.2.2.2.1.1,HRz.2.2.2.2.2.2.2.2.1]) rfl ?_
 exact⟨rfl,ha⟩
end Go.Proofs.YtihdcanckbkgfaaGreatDoor

namespace Go.Proofs.YtihdcanckbkgfaaGreatDoor
open Go.RowKit
set_option linter.unusedVariables false
theorem rows_next{w:World}{k:Nat}{v:Value}{kv:Nat→Value}{dn:Nat→Nat}(hk:RowB w 56 2 v (dn k))(h:∀i,i<k→RowB w 56 2 (kv i) (dn i))(a:Addr)(u:Value):∀i,i<k+1→RowB (w.setCell a u) 56 2 ((fun j=>if j=k then v else kv j) i) (dn i):=fun i hi=>by
 by_cases e:i=k
 ·subst e
  simp only [if_true]
  exact hk.set a u
 ·simp only [if_neg e]
  exact(h i (by omega)).set a u
theorem run_copy_ptrsR(w:World)(lo hi:Nat)(a:Option Addr)(n c:Nat)(f g:Nat→Int)(h:PtrsAt w lo hi (.slice a n c) n f g)(hn:n≤1048576)(ty:TypeId):∃a' c' kb w1,
  (Builtin.append_ #[59,59] ty #[.slice (some ⟨w.heap.size,0,none⟩) 0 0,.slice a n c]).run Tryz.prog (w.alloc (.cells #[] 56)) = .ok (.slice a' n c') w1∧PtrsOwn w1 kb (.slice a' n c') n f g∧(0<n→w.heap.size≤kb∧kb<w1.heap.size)∧Below w.heap.size w w1∧RowB w1 56 2 (.slice a' n c') n:=by
 obtain⟨m1,a0,c0,hv,mc,g1⟩:=h
 simp only [Value.slice.injEq,true_and] at hv
 obtain⟨rfl,rfl⟩:=hv
 obtain⟨i0,hi0,hzz⟩:=Option.map_eq_some_iff.1 infoPtrT
 simp only [Prod.mk.injEq] at hzz
 obtain⟨hz,hs,hby⟩:=hzz
 have ht:Tryz.prog.underlying 59=some (.slice 56):=by kernel_rfl
 have hown0:(w.alloc (.cells #[] 56)).ownsRow w.heap.size 56 2 (.slice (some ⟨w.heap.size,0,none⟩) 0 0) 0 []:=World.ownsRow_made w #[] 0 (Nat.le_refl _) (Nat.zero_le _) (by simp)
 have hba:=below_alloc w (.cells #[] 56)
 by_cases h0:0<n
 ·obtain⟨b,off,rfl,_,_,hc⟩:=g1 h0
  have hadd:∀j,(⟨b,off,none⟩:Addr).add j=⟨b,off+j,none⟩:=fun j=>by unfold Addr.add; split <;> simp_all
  obtain⟨v',w1,hr,r1,r2,_⟩:=run_append_own (P:=Tryz.prog) (w.alloc (.cells #[] 56)) w.heap.size 59 ty 56 i0 (.agg #[.int .i64 0,.int .i64 0]) 2 16 ht hi0 hz hs hby rfl (by decide) _ 0 [] hown0 ⟨b,off,none⟩ n c (kc f g n) (kc_len f g n) (fun j u hj=>by
    have:=kc_cells hc j u hj
    rw [hadd] at this ⊢
    exact(hba.cell (lt_of_cell this)).trans this) (kc_one f g n) (by unfold maxLen; omega) (by omega) (by simp)
  have hown2:w1.ownsRow w.heap.size 56 2 v' n (kc f g n):=by simpa using r1
  obtain⟨kb,hp,hk⟩:=ptrs_of_owns m1 hown2
  obtain⟨_,a',c',rfl,_⟩:=id hp
  have hb1:Below w.heap.size w w1:=hba.grown r2 (by simp) (fun q hq=>by have:=hown0.lt q hq; omega)
  exact⟨a',c',kb,w1,hr,hp,hk,hb1,rowB_of_owns hown2 (fun e=>by omega)⟩
 ·obtain rfl:n=0:=by omega
  have hr:=run_append_zero (P:=Tryz.prog) (w:=w.alloc (.cells #[] 56)) w.heap.size 59 ty 56 i0 2 c a ht hi0 _ 0 [] hown0
  exact⟨_,0,0,_,hr,⟨Nat.zero_le _,_,0,rfl,Nat.le_refl _,fun h=>absurd h (Nat.lt_irrefl _)⟩,fun h=>absurd h (Nat.lt_irrefl _),hba,Or.inl ⟨rfl,_,rfl⟩⟩
end Go.Proofs.YtihdcanckbkgfaaGreatDoor
