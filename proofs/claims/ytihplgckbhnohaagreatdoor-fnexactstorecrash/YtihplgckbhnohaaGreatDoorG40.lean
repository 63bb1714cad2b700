/- What is Live behind impl.crashed. -/
import Derived.Test.YtihplgckbhnohaaGreatDoorG8
import Derived.Test.YtihplgckbhnohaaGreatDoorG2
import Derived.Test.YtihplgckbhnohaaGreatDoorG10
import Derived.Test.YtihplgckbhnohaaGreatDoorG39
import Derived.Test.YtihplgckbhnohaaGreatDoorG3
import Derived.Test.YtihplgckbhnohaaGreatDoorG4
import Derived.Test.YtihplgckbhnohaaGreatDoorG5
import Derived.Deep.RegionHeld3
import Derived.Test.YtihplgckbhnohaaGreatDoorG26
import Derived.Test.YtihplgckbhnohaaGreatDoorG25
import Derived.IntWalk
namespace Go.Proofs.YtihplgckbhnohaaGreatDoor
open Go.RowKit
set_option linter.unusedVariables false
set_option maxRecDepth 20000 in
set_option maxHeartbeats 2000000 in
theorem crashedLive_any(v0 v1 v2 v3 u0 u1 u2 u3:Value)(lo hi:Nat)(S:StoreD)(w:World)(h:StoreAt w lo hi v0 v1 v2 v3 u0 u1 u2 u3 S)(hs:KeepsI S)(b1:poolN S.safe.pool≤1048576)(b2:S.safe.sn≤1048576)(b3:S.safe.pn≤1048576)(b4:DeadsN S.safe) :
  Calls Tryz.prog 198 #[.agg #[],storeV v0 v1 v2 v3 u0 u1 u2 u3 S] w (NewWorld S.safe w):=by
 obtain⟨a0,ac0,a1,ac1,a2,ac2,a3,ac3,rfl,rfl,rfl,rfl⟩:=h.live.form
 obtain⟨c0,cc0,c1,cc1,c2,cc2,c3,cc3,rfl,rfl,rfl,rfl⟩:=h.safe.form
 have Hp:=hideW h
 have Hs:=hideW hs
 have hm:S.safe.pool.n≤maxLen:=h.safe.pool.1.1
 have hm2:S.live.pool.n≤maxLen:=h.live.pool.1.1
 unfold maxLen at hm hm2
 clear h hs
 have ha:=below_alloc w (.cells #[] 68)
 have hb2:=below_alloc (w.alloc (.cells #[] 68)) (.cells #[.slice a0 S.live.pool.n ac0,.slice a1 S.live.pool.hn ac1,.int .i64 S.live.time,.int .i64 S.live.next,.slice a2 S.live.sn ac2,.slice a3 S.live.pn ac3,.slice c0 S.safe.pool.n cc0,.slice c1 S.safe.pool.hn cc1,.int .i64 S.safe.time,.int .i64 S.safe.next,.slice c2 S.safe.sn cc2,.slice c3 S.safe.pn cc3] 98)
 have hb3:=below_alloc ((w.alloc (.cells #[] 68)).alloc (.cells #[.slice a0 S.live.pool.n ac0,.slice a1 S.live.pool.hn ac1,.int .i64 S.live.time,.int .i64 S.live.next,.slice a2 S.live.sn ac2,.slice a3 S.live.pn ac3,.slice c0 S.safe.pool.n cc0,.slice c1 S.safe.pool.hn cc1,.int .i64 S.safe.time,.int .i64 S.safe.next,.slice c2 S.safe.sn cc2,.slice c3 S.safe.pn cc3] 98)) (.cells #[.slice none 0 0,.slice none 0 0,.int .i64 0,.int .i64 0,.slice none 0 0,.slice none 0 0] 39)
 have hb:=below_next (below_next ha hb2) hb3
 have HPn:=(Box12.new (w.alloc (.cells #[] 68)) (.slice a0 S.live.pool.n ac0) (.slice a1 S.live.pool.hn ac1) (.int .i64 S.live.time) (.int .i64 S.live.next) (.slice a2 S.live.sn ac2) (.slice a3 S.live.pn ac3) (.slice c0 S.safe.pool.n cc0) (.slice c1 S.safe.pool.hn cc1) (.int .i64 S.safe.time) (.int .i64 S.safe.next) (.slice c2 S.safe.sn cc2) (.slice c3 S.safe.pn cc3) 98).below hb3
 rw [World.size_alloc] at HPn
 have HP:=hideW HPn
 obtain⟨⟨y0,-⟩,⟨y1,-⟩,⟨y2,-⟩,⟨y3,-⟩,⟨y4,-⟩,⟨y5,-⟩,⟨y6,-⟩,⟨y7,-⟩,⟨y8,-⟩,⟨y9,-⟩,⟨y10,-⟩,⟨y11,-⟩⟩:=HPn
 have HR:=Box6.new ((w.alloc (.cells #[] 68)).alloc (.cells #[.slice a0 S.live.pool.n ac0,.slice a1 S.live.pool.hn ac1,.int .i64 S.live.time,.int .i64 S.live.next,.slice a2 S.live.sn ac2,.slice a3 S.live.pn ac3,.slice c0 S.safe.pool.n cc0,.slice c1 S.safe.pool.hn cc1,.int .i64 S.safe.time,.int .i64 S.safe.next,.slice c2 S.safe.sn cc2,.slice c3 S.safe.pn cc3] 98)) (.slice none 0 0) (.slice none 0 0) (.int .i64 0) (.int .i64 0) (.slice none 0 0) (.slice none 0 0) 39
 rw [World.size_alloc,World.size_alloc] at HR
 have hz:w.heap.size+3≤(((w.alloc (.cells #[] 68)).alloc (.cells #[.slice a0 S.live.pool.n ac0,.slice a1 S.live.pool.hn ac1,.int .i64 S.live.time,.int .i64 S.live.next,.slice a2 S.live.sn ac2,.slice a3 S.live.pn ac3,.slice c0 S.safe.pool.n cc0,.slice c1 S.safe.pool.hn cc1,.int .i64 S.safe.time,.int .i64 S.safe.next,.slice c2 S.safe.sn cc2,.slice c3 S.safe.pn cc3] 98)).alloc (.cells #[.slice none 0 0,.slice none 0 0,.int .i64 0,.int .i64 0,.slice none 0 0,.slice none 0 0] 39)).heap.size:=by rw [World.size_alloc,World.size_alloc,World.size_alloc]; omega
 go_enter Tryz.func198,Tryz.ntmps198
 go_wp2_with fail
 clear y0 y1 y2 y3 y4 y5 y6 y7 y8 y9 y10 y11
 generalize (((w.alloc (.cells #[] 68)).alloc (.cells #[.slice a0 S.live.pool.n ac0,.slice a1 S.live.pool.hn ac1,.int .i64 S.live.time,.int .i64 S.live.next,.slice a2 S.live.sn ac2,.slice a3 S.live.pn ac3,.slice c0 S.safe.pool.n cc0,.slice c1 S.safe.pool.hn cc1,.int .i64 S.safe.time,.int .i64 S.safe.next,.slice c2 S.safe.sn cc2,.slice c3 S.safe.pn cc3] 98)).alloc (.cells #[.slice none 0 0,.slice none 0 0,.int .i64 0,.int .i64 0,.slice none 0 0,.slice none 0 0] 39))=W2 at hb HR HP hz ⊢
 clear ha hb2 hb3
 refine(copied_any _ _ _ _ lo hi S.safe W2 (Hp.out.safe.below hb) b1 b2 b3 b4).mono ?_
 rintro e w3 ⟨q0,q1,q2,q3,rfl,ho,hb3⟩
 obtain⟨l0,lc0,l1,lc1,l2,lc2,l3,lc3,rfl,rfl,rfl,rfl⟩:=ho.form
 have hal:=below_alloc w3 (.cells #[.slice l0 S.safe.pool.n lc0,.slice l1 S.safe.pool.hn lc1,.int .i64 S.safe.time,.int .i64 S.safe.next,.slice l2 S.safe.sn lc2,.slice l3 S.safe.pn lc3] 39)
 have HV:=Box6.new w3 (.slice l0 S.safe.pool.n lc0) (.slice l1 S.safe.pool.hn lc1) (.int .i64 S.safe.time) (.int .i64 S.safe.next) (.slice l2 S.safe.sn lc2) (.slice l3 S.safe.pn lc3) 39
 have hbA:=below_next hb3 hal
 have HRa:=hideW (HR.below hbA)
 have HPa:=hideW (HP.out.below hbA)
 have Ho:=hideW (ho.below hal)
 have hz4:W2.heap.size≤w3.heap.size∧w3.heap.size<(w3.alloc (.cells #[.slice l0 S.safe.pool.n lc0,.slice l1 S.safe.pool.hn lc1,.int .i64 S.safe.time,.int .i64 S.safe.next,.slice l2 S.safe.sn lc2,.slice l3 S.safe.pn lc3] 39)).heap.size:=⟨hb3.size,by rw [World.size_alloc]; omega⟩
 have hbB:=below_next hb hbA
 have HVh:=hideW HV
 clear ho HR HP
 obtain⟨⟨x0,-⟩,⟨x1,-⟩,⟨x2,-⟩,⟨x3,-⟩,⟨x4,-⟩,⟨x5,-⟩⟩:=HV
 go_wp2_with fail
 clear x0 x1 x2 x3 x4 x5
 generalize w3.alloc (.cells #[.slice l0 S.safe.pool.n lc0,.slice l1 S.safe.pool.hn lc1,.int .i64 S.safe.time,.int .i64 S.safe.next,.slice l2 S.safe.sn lc2,.slice l3 S.safe.pn lc3] 39)=W4 at HVh HRa HPa Ho hz4 hbB ⊢
 clear hal hbA hb3
 generalize hVe:w3.heap.size=V at HVh Ho hz4 ⊢
 clear hVe
 go_loopw [16] (fun i wr=>∃(k:Nat) (P Q R:Nat→Prop),k≤S.safe.pool.n∧i = .int .i64 k∧WorldIn wr P Q R (.slice l0 S.safe.pool.n lc0) (.slice l1 S.safe.pool.hn lc1) (.slice l2 S.safe.sn lc2) (.slice l3 S.safe.pn lc3) S.safe∧(∀j,P j∨Q j∨R j→W2.heap.size≤j∧j<wr.heap.size∧j≠V)∧Box6 wr V (.slice l0 S.safe.pool.n lc0) (.slice l1 S.safe.pool.hn lc1) (.int .i64 S.safe.time) (.int .i64 S.safe.next) (.slice l2 S.safe.sn lc2) (.slice l3 S.safe.pn lc3)∧Box6 wr (w.heap.size+1+1) (.slice none 0 0) (.slice none 0 0) (.int .i64 0) (.int .i64 0) (.slice none 0 0) (.slice none 0 0)∧Box12 wr (w.heap.size+1) (.slice a0 S.live.pool.n ac0) (.slice a1 S.live.pool.hn ac1) (.int .i64 S.live.time) (.int .i64 S.live.next) (.slice a2 S.live.sn ac2) (.slice a3 S.live.pn ac3) (.slice c0 S.safe.pool.n cc0) (.slice c1 S.safe.pool.hn cc1) (.int .i64 S.safe.time) (.int .i64 S.safe.next) (.slice c2 S.safe.sn cc2) (.slice c3 S.safe.pn cc3)∧Below w.heap.size w wr∧W4.heap.size≤wr.heap.size) (fun i _=>S.safe.pool.n - (intOf i).toNat)
 case atStart=>
  obtain⟨P,Q,R,hin,hl⟩:=Ho.out
  exact⟨0,P,Q,R,Nat.zero_le _,rfl,hin,fun j hj=>by have:=hl j hj; omega,HVh.out,HRa.out,HPa.out,hbB,Nat.le_refl _⟩
 case round=>
  obtain⟨k,P,Q,R,hk,rfl,hin,hl,hV,hR,hP,hb5,hz5⟩:=hrel
  have Hin:=hideW hin
  have Hl:=hideW hl
  have HV5:=hideW hV
  have HR5:=hideW hR
  have HP5:=hideW hP
  clear hin hl hV hR hP Ho HVh HRa HPa
  by_cases hlt:k<S.safe.pool.n
  ·have hlt':(k:Int)<(S.safe.pool.n:Int):=by omega
   have hlt2:k<S.live.pool.n:=by have:=Hs.out.many; omega
   have hlt3:(k:Int)<(S.live.pool.n:Int):=by omega
   obtain⟨bs,off,ka,kc,rfl,hPb,⟨⟨q0,r0⟩,⟨q1,r1⟩,⟨q2,r2⟩⟩,hsl,hre⟩:=Hin.out.pool.reset hlt
   have Hre:=hideW hre
   have Hcl0:=hideW (And.intro (show Cell wr bs (off+k*3) _ from⟨q0,r0⟩) (And.intro (show Cell wr bs (off+k*3+1) _ from⟨q1,r1⟩) (show Cell wr bs (off+k*3+2) _ from⟨q2,r2⟩)))
   have hbs:=Hl.out bs (Or.inl hPb)
   have hbl:=lt_of_cell q0
   have ha6:=below_alloc wr (.cells #[.int .i64 (S.safe.pool.s k).birth,.slice ka (S.safe.pool.s k).kn kc,.string (S.safe.pool.s k).data] 66)
   have HS6:=hideW (Box3.new wr (.int .i64 (S.safe.pool.s k).birth) (.slice ka (S.safe.pool.s k).kn kc) (.string (S.safe.pool.s k).data) 66)
   have Hsl:=hideW (hsl.below ha6)
   have hb6:=below_next hb5 ha6
   have HV6:=hideW (HV5.out.below ha6)
   have HP6:=hideW (HP5.out.below ha6)
   clear hsl hre
   have hz6:wr.heap.size<(wr.alloc (.cells #[.int .i64 (S.safe.pool.s k).birth,.slice ka (S.safe.pool.s k).kn kc,.string (S.safe.pool.s k).data] 66)).heap.size:=by rw [World.size_alloc]; omega
   obtain⟨⟨z0,-⟩,⟨z1,-⟩,⟨z2,-⟩⟩:=HS6.out
   go_wp2_with fail
   clear q0 q1 q2 r0 r1 r2 z0 z1 z2
   have Hal:=hideW ha6
   generalize wr.alloc (.cells #[.int .i64 (S.safe.pool.s k).birth,.slice ka (S.safe.pool.s k).kn kc,.string (S.safe.pool.s k).data] 66)=W6 at Hal Hsl hb6 HV6 HP6 hz6 HS6 ⊢
   clear ha6
   refine(isFree_any _ _ _ _ _ (S.safe.pool.s k) W6 Hsl.out).mono ?_
   rintro e w7 ⟨⟨t,rfl,ht⟩,hb7⟩
   have Ht:=hideW ht
   have hB7:=below_next hb6 hb7
   have Hal7:=hideW (below_next Hal.out hb7)
   have hz7:=hb7.size
   clear ht
   cases t
   rotate_left
   ·go_wp2
    go_roundw
    case rel=>exact⟨k+1,P,Q,R,by omega,by go_num,Hin.out.below Hal7.out,fun j hj=>by have:=Hl.out j hj; have:=Hal7.out.size; omega,HV5.out.below Hal7.out,HR5.out.below Hal7.out,HP5.out.below Hal7.out,hB7,by omega⟩
    case measure=>simp [intOf]; omega
   ·have Hq:=hideW (Hs.out.slots k hlt (fun h=>absurd (Ht.out.2 h) (by simp)))
    obtain⟨b',off',pa,pc,rfl,hs'⟩:=Hp.out.live.pool.1.cells hlt2
    obtain⟨s0,s1,s2,hsl'⟩:=hs'
    have hbw':=lt_of_cell s0
    have Hsl':=hideW (hsl'.below hB7)
    have S0:=(hB7.cell (lt_of_cell s0)).trans s0
    have S1:=(hB7.cell (lt_of_cell s1)).trans s1
    have S2:=(hB7.cell (lt_of_cell s2)).trans s2
    have Hcl:=hideW (And.intro (Hcl0.out.1.below Hal7.out) (And.intro (Hcl0.out.2.1.below Hal7.out) (Hcl0.out.2.2.below Hal7.out)))
    have HV7:=hideW (HV5.out.below Hal7.out)
    have HP7:=hideW (HP5.out.below Hal7.out)
    have Hc7:=hideW (Hin.out.below Hal7.out)
    have hkn:(S.live.pool.s k).kn≤1048576:=by have h2:=slotN_le S.safe.pool.s hlt; have h3:=Hq.out.2.1.1; unfold slotN at h2; unfold poolN at b1; omega
    clear hsl' s0 s1 s2
    obtain⟨⟨x0,-⟩,-⟩:=HV7.out
    obtain⟨⟨y0,-⟩,-⟩:=HP7.out
    have e1:bs≠V:=hbs.2.2
    have e1':V≠bs:=fun h=>e1 h.symm
    have e2:bs≠w.heap.size+1:=by omega
    have e2':w.heap.size+1≠bs:=by omega
    have e3:bs≠b':=by omega
    have e3':b'≠bs:=by omega
    go_wp2_with fail
    go_region_held3 (fun w'=>w'.cell? ⟨V,0,none⟩=some (.slice (some ⟨bs,off,none⟩) S.safe.pool.n lc0)∧w'.cell? ⟨w.heap.size+1,0,none⟩=some (.slice (some ⟨b',off',none⟩) S.live.pool.n ac0)∧w'.cell? ⟨b',off'+k*3,none⟩=some (.int .i64 (S.live.pool.s k).birth)∧w'.cell? ⟨b',off'+k*3+1,none⟩=some (.slice pa (S.live.pool.s k).kn pc)∧w'.cell? ⟨b',off'+k*3+2,none⟩=some (.string (S.live.pool.s k).data)) (go_keep)
     (first | (go_at_call 170; refine(cloneSlot_any _ _ _ lo hi (S.live.pool.s k) _ ?_ hkn).mono ?_; (exact Hsl'.out.below (Below.refl _ _).drew); rintro e w8 ⟨nv,nb,rfl,hp8,hpl8,hb8⟩; have hb8':=below_undrew hb8; obtain⟨_,na,nc,rfl,_⟩:=id hp8; obtain⟨⟨x8,-⟩,-⟩:=HV7.out.below hb8'; obtain⟨⟨y8,-⟩,-⟩:=HP7.out.below hb8'; have T0:=(hb8'.cell (lt_of_cell S0)).trans S0; have T1:=(hb8'.cell (lt_of_cell S1)).trans S1; have T2:=(hb8'.cell (lt_of_cell S2)).trans S2; obtain⟨q0,q1,q2⟩:=Hcl.out; obtain⟨q0,r0⟩:=q0.below hb8'; obtain⟨q1,r1⟩:=q1.below hb8'; obtain⟨q2,r2⟩:=q2.below hb8'))
    have hbx:=below_next Hal7.out hb8'
    have hz8:=hb8'.size
    have Hp8:=hideW hp8
    have Hpl8:=hideW (show 0<(S.live.pool.s k).kn→w7.heap.size≤nb∧nb<w8.heap.size from hpl8)
    have hB8:=below_next hB7 hb8'
    clear x0 y0 S0 S1 S2 x8 y8 T0 T1 T2 q0 q1 q2 r0 r1 r2 hp8 hpl8 hb8
    go_wp2_with fail
    go_roundw
    case rel=>
     have hT:Turned (fun j=>j=bs) w8 (((w8.setCell ⟨bs,off+k*3,none⟩ (.int .i64 (S.live.pool.s k).birth)).setCell ⟨bs,off+k*3+1,none⟩ (.slice na (S.live.pool.s k).kn nc)).setCell ⟨bs,off+k*3+2,none⟩ (.string (S.live.pool.s k).data)):=((Turned.put w8 bs _ _).trans (Turned.put _ bs _ _)).trans (Turned.put _ bs _ _)
     have hnew:=Hre.out w8 nb (.slice na (S.live.pool.s k).kn nc) hbx (Hp8.out.congrE Hq.out.symm.2.1) (fun h0 hx=>by have:=Hl.out nb (Or.inl hx); have:=Hpl8.out (by have:=Hq.out.2.1.1; omega); have:=Hal7.out.size; omega)
     rw [Hq.out.1,Hq.out.2.2] at hnew
     have hin8:=Hin.out.below hbx
     have hsz:=hT.size
     refine⟨k+1,_,Q,R,by omega,by go_num,⟨hnew,hin8.sets.turned hT (fun j hj e=>Hin.out.pq bs hPb (e▸hj)),hin8.snaps.turned hT (fun j hj e=>Hin.out.pr bs hPb (e▸hj)),?_,?_,hin8.qr⟩,?_,((HV5.out.below hbx).turned hT e1'),((HR5.out.below hbx).turned hT (by omega)),((HP5.out.below hbx).turned hT e2'),hB8.trans (hT.below (B:=w.heap.size) hB8.size (fun j e=>by omega)),by omega⟩
     ·rintro j (hj | ⟨h0,rfl⟩) hq
      ·exact Hin.out.pq j hj hq
      ·have:=Hl.out _ (Or.inr (Or.inl hq)); have:=Hpl8.out (by have:=Hq.out.2.1.1; omega); have:=Hal7.out.size; omega
     ·rintro j (hj | ⟨h0,rfl⟩) hq
      ·exact Hin.out.pr j hj hq
      ·have:=Hl.out _ (Or.inr (Or.inr hq)); have:=Hpl8.out (by have:=Hq.out.2.1.1; omega); have:=Hal7.out.size; omega
     ·rintro j ((hj | ⟨h0,rfl⟩) | hj | hj)
      ·have:=Hl.out j (Or.inl hj); have:=hbx.size; omega
      ·have:=Hpl8.out (by have:=Hq.out.2.1.1; omega); have:=Hal7.out.size; omega
      ·have:=Hl.out j (Or.inr (Or.inl hj)); have:=hbx.size; omega
      ·have:=Hl.out j (Or.inr (Or.inr hj)); have:=hbx.size; omega
    case measure=>simp [intOf]; omega
  ·obtain rfl:k=S.safe.pool.n:=by omega
   have hneV:V≠w.heap.size+1+1:=by omega
   have hneR:w.heap.size+1+1≠V:=by omega
   obtain⟨⟨x0,-⟩,⟨x1,-⟩,⟨x2,-⟩,⟨x3,-⟩,⟨x4,-⟩,⟨x5,-⟩⟩:=HV5.out
   obtain⟨⟨r0,f0⟩,⟨r1,f1⟩,⟨r2,f2⟩,⟨r3,f3⟩,⟨r4,f4⟩,⟨r5,f5⟩⟩:=HR5.out
   go_wp2_with fail
   have HRz:=HR5.out.put (.slice l0 S.safe.pool.n lc0) (.slice l1 S.safe.pool.hn lc1) (.int .i64 S.safe.time) (.int .i64 S.safe.next) (.slice l2 S.safe.sn lc2) (.slice l3 S.safe.pn lc3)
   have hT:=Turned.put6 wr (w.heap.size+1+1) (.slice l0 S.safe.pool.n lc0) (.slice l1 S.safe.pool.hn lc1) (.int .i64 S.safe.time) (.int .i64 S.safe.next) (.slice l2 S.safe.sn lc2) (.slice l3 S.safe.pn lc3)
   clear r0 r1 r2 r3 r4 r5 f0 f1 f2 f3 f4 f5 x0 x1 x2 x3 x4 x5
   refine bodyPost_ret (v:=.agg #[.slice l0 S.safe.pool.n lc0,.slice l1 S.safe.pool.hn lc1,.int .i64 S.safe.time,.int .i64 S.safe.next,.slice l2 S.safe.sn lc2,.slice l3 S.safe.pn lc3]) (by simp [results,Tryz.results198,go_sem,HRz.1.1,HRz.2.1.1,HRz.2.2.1.1,HRz.2.2.2.1.1,HRz.2.2.2.2.1.1,HRz.2.2.2.2.2.1]) rfl ⟨_,_,_,_,rfl,?_,?_⟩
   ·have hsz:=hT.size
    refine⟨P,Q,R,Hin.out.turned hT (fun j hj e=>by have:=Hl.out j hj; omega),fun j hj=>?_⟩
    have:=Hl.out j hj
    exact⟨by omega,Nat.lt_of_lt_of_le this.2.1 hsz⟩
   ·exact hb5.trans (hT.below (B:=w.heap.size) hb5.size (fun k e=>by omega))
end Go.Proofs.YtihplgckbhnohaaGreatDoor

namespace Go.Proofs.YtihplgckbhnohaaGreatDoor
open Go.RowKit
set_option linter.unusedVariables false
theorem assert_crashed(v:Value)(w:World):(Instr.typeAssert (.iface 68 v) 95 62 true).run Tryz.prog w = .ok (.tuple #[.agg #[],.bool false]) w:=by kernel_rfl
set_option maxRecDepth 20000 in
set_option maxHeartbeats 1000000 in
theorem safe_crashed(v:Value)(x0 x1 x2 x3:Value)(L:WorldD)(lo' hi':Nat)(v0 v1 v2 v3 u0 u1 u2 u3:Value)(lo hi:Nat)(S:StoreD)(w:World)(hX:WorldAt w lo' hi' x0 x1 x2 x3 L)(h:StoreAt w lo hi v0 v1 v2 v3 u0 u1 u2 u3 S)(b1:poolN S.safe.pool≤1048576)(b2:S.safe.sn≤1048576)(b3:S.safe.pn≤1048576)(b4:DeadsN S.safe) :
  Calls Tryz.prog 49 #[storeV v0 v1 v2 v3 u0 u1 u2 u3 S,.iface 68 v,worldV x0 x1 x2 x3 L] w (NewWorld S.safe w):=by
 obtain⟨l0,lc0,l1,lc1,l2,lc2,l3,lc3,rfl,rfl,rfl,rfl⟩:=hX.form
 obtain⟨a0,ac0,a1,ac1,a2,ac2,a3,ac3,rfl,rfl,rfl,rfl⟩:=h.live.form
 obtain⟨c0,cc0,c1,cc1,c2,cc2,c3,cc3,rfl,rfl,rfl,rfl⟩:=h.safe.form
 have HX:=hideW hX
 have Hp:=hideW h
 clear h hX
 have ha:=below_alloc w (.cells #[.slice a0 S.live.pool.n ac0,.slice a1 S.live.pool.hn ac1,.int .i64 S.live.time,.int .i64 S.live.next,.slice a2 S.live.sn ac2,.slice a3 S.live.pn ac3,.slice c0 S.safe.pool.n cc0,.slice c1 S.safe.pool.hn cc1,.int .i64 S.safe.time,.int .i64 S.safe.next,.slice c2 S.safe.sn cc2,.slice c3 S.safe.pn cc3] 98)
 have hb2:=below_alloc (w.alloc (.cells #[.slice a0 S.live.pool.n ac0,.slice a1 S.live.pool.hn ac1,.int .i64 S.live.time,.int .i64 S.live.next,.slice a2 S.live.sn ac2,.slice a3 S.live.pn ac3,.slice c0 S.safe.pool.n cc0,.slice c1 S.safe.pool.hn cc1,.int .i64 S.safe.time,.int .i64 S.safe.next,.slice c2 S.safe.sn cc2,.slice c3 S.safe.pn cc3] 98)) (.cells #[.slice l0 L.pool.n lc0,.slice l1 L.pool.hn lc1,.int .i64 L.time,.int .i64 L.next,.slice l2 L.sn lc2,.slice l3 L.pn lc3] 39)
 have hb3:=below_alloc ((w.alloc (.cells #[.slice a0 S.live.pool.n ac0,.slice a1 S.live.pool.hn ac1,.int .i64 S.live.time,.int .i64 S.live.next,.slice a2 S.live.sn ac2,.slice a3 S.live.pn ac3,.slice c0 S.safe.pool.n cc0,.slice c1 S.safe.pool.hn cc1,.int .i64 S.safe.time,.int .i64 S.safe.next,.slice c2 S.safe.sn cc2,.slice c3 S.safe.pn cc3] 98)).alloc (.cells #[.slice l0 L.pool.n lc0,.slice l1 L.pool.hn lc1,.int .i64 L.time,.int .i64 L.next,.slice l2 L.sn lc2,.slice l3 L.pn lc3] 39)) (.cells #[.slice none 0 0,.slice none 0 0,.int .i64 0,.int .i64 0,.slice none 0 0,.slice none 0 0] 39)
 have hb:=below_next (below_next ha hb2) hb3
 obtain⟨⟨y0,-⟩,⟨y1,-⟩,⟨y2,-⟩,⟨y3,-⟩,⟨y4,-⟩,⟨y5,-⟩,⟨y6,-⟩,⟨y7,-⟩,⟨y8,-⟩,⟨y9,-⟩,⟨y10,-⟩,⟨y11,-⟩⟩:=((Box12.new w (.slice a0 S.live.pool.n ac0) (.slice a1 S.live.pool.hn ac1) (.int .i64 S.live.time) (.int .i64 S.live.next) (.slice a2 S.live.sn ac2) (.slice a3 S.live.pn ac3) (.slice c0 S.safe.pool.n cc0) (.slice c1 S.safe.pool.hn cc1) (.int .i64 S.safe.time) (.int .i64 S.safe.next) (.slice c2 S.safe.sn cc2) (.slice c3 S.safe.pn cc3) 98).below hb2).below hb3
 obtain⟨⟨m0,-⟩,⟨m1,-⟩,⟨m2,-⟩,⟨m3,-⟩,⟨m4,-⟩,⟨m5,-⟩⟩:=(Box6.new (w.alloc (.cells #[.slice a0 S.live.pool.n ac0,.slice a1 S.live.pool.hn ac1,.int .i64 S.live.time,.int .i64 S.live.next,.slice a2 S.live.sn ac2,.slice a3 S.live.pn ac3,.slice c0 S.safe.pool.n cc0,.slice c1 S.safe.pool.hn cc1,.int .i64 S.safe.time,.int .i64 S.safe.next,.slice c2 S.safe.sn cc2,.slice c3 S.safe.pn cc3] 98)) (.slice l0 L.pool.n lc0) (.slice l1 L.pool.hn lc1) (.int .i64 L.time) (.int .i64 L.next) (.slice l2 L.sn lc2) (.slice l3 L.pn lc3) 39).below hb3
 have HR:=Box6.new ((w.alloc (.cells #[.slice a0 S.live.pool.n ac0,.slice a1 S.live.pool.hn ac1,.int .i64 S.live.time,.int .i64 S.live.next,.slice a2 S.live.sn ac2,.slice a3 S.live.pn ac3,.slice c0 S.safe.pool.n cc0,.slice c1 S.safe.pool.hn cc1,.int .i64 S.safe.time,.int .i64 S.safe.next,.slice c2 S.safe.sn cc2,.slice c3 S.safe.pn cc3] 98)).alloc (.cells #[.slice l0 L.pool.n lc0,.slice l1 L.pool.hn lc1,.int .i64 L.time,.int .i64 L.next,.slice l2 L.sn lc2,.slice l3 L.pn lc3] 39)) (.slice none 0 0) (.slice none 0 0) (.int .i64 0) (.int .i64 0) (.slice none 0 0) (.slice none 0 0) 39
 rw [World.size_alloc] at m0 m1 m2 m3 m4 m5
 rw [World.size_alloc,World.size_alloc] at HR
 have hz:(((w.alloc (.cells #[.slice a0 S.live.pool.n ac0,.slice a1 S.live.pool.hn ac1,.int .i64 S.live.time,.int .i64 S.live.next,.slice a2 S.live.sn ac2,.slice a3 S.live.pn ac3,.slice c0 S.safe.pool.n cc0,.slice c1 S.safe.pool.hn cc1,.int .i64 S.safe.time,.int .i64 S.safe.next,.slice c2 S.safe.sn cc2,.slice c3 S.safe.pn cc3] 98)).alloc (.cells #[.slice l0 L.pool.n lc0,.slice l1 L.pool.hn lc1,.int .i64 L.time,.int .i64 L.next,.slice l2 L.sn lc2,.slice l3 L.pn lc3] 39)).alloc (.cells #[.slice none 0 0,.slice none 0 0,.int .i64 0,.int .i64 0,.slice none 0 0,.slice none 0 0] 39)).heap.size=w.heap.size+3:=by rw [World.size_alloc,World.size_alloc,World.size_alloc]
 have hass:=assert_crashed v
 go_enter Tryz.func49,Tryz.ntmps49
 go_wp2_with fail
 clear y0 y1 y2 y3 y4 y5 y6 y7 y8 y9 y10 y11 m0 m1 m2 m3 m4 m5
 generalize ((w.alloc (.cells #[.slice a0 S.live.pool.n ac0,.slice a1 S.live.pool.hn ac1,.int .i64 S.live.time,.int .i64 S.live.next,.slice a2 S.live.sn ac2,.slice a3 S.live.pn ac3,.slice c0 S.safe.pool.n cc0,.slice c1 S.safe.pool.hn cc1,.int .i64 S.safe.time,.int .i64 S.safe.next,.slice c2 S.safe.sn cc2,.slice c3 S.safe.pn cc3] 98)).alloc (.cells #[.slice l0 L.pool.n lc0,.slice l1 L.pool.hn lc1,.int .i64 L.time,.int .i64 L.next,.slice l2 L.sn lc2,.slice l3 L.pn lc3] 39)).alloc (.cells #[.slice none 0 0,.slice none 0 0,.int .i64 0,.int .i64 0,.slice none 0 0,.slice none 0 0] 39)=W2 at hb HR hz ⊢
 clear ha hb2 hb3
 refine(copied_any _ _ _ _ _ _ S.safe W2 (Hp.out.safe.below hb) b1 b2 b3 b4).mono ?_
 rintro e w3 ⟨q0,q1,q2,q3,rfl,ho,hb3⟩
 obtain⟨b0,d0,b1,d1,b2,d2,b3,d3,rfl,rfl,rfl,rfl⟩:=ho.form
 have HR3:=HR.below hb3
 have Ho:=hideW ho
 clear ho HR
 have HRz:=HR3.put (.slice b0 S.safe.pool.n d0) (.slice b1 S.safe.pool.hn d1) (.int .i64 S.safe.time) (.int .i64 S.safe.next) (.slice b2 S.safe.sn d2) (.slice b3 S.safe.pn d3)
 have hT:=Turned.put6 w3 (w.heap.size+1+1) (.slice b0 S.safe.pool.n d0) (.slice b1 S.safe.pool.hn d1) (.int .i64 S.safe.time) (.int .i64 S.safe.next) (.slice b2 S.safe.sn d2) (.slice b3 S.safe.pn d3)
 obtain⟨⟨r0,f0⟩,⟨r1,f1⟩,⟨r2,f2⟩,⟨r3,f3⟩,⟨r4,f4⟩,⟨r5,f5⟩⟩:=HR3
 go_wp2_with fail
 have hbz:=below_next hb hb3
 refine bodyPost_ret (v:=.agg #[.slice b0 S.safe.pool.n d0,.slice b1 S.safe.pool.hn d1,.int .i64 S.safe.time,.int .i64 S.safe.next,.slice b2 S.safe.sn d2,.slice b3 S.safe.pn d3]) (by simp [results,Tryz.results49,go_sem,HRz.1.1,HRz.2.1.1,HRz.2.2.1.1,HRz.2.2.2.1.1,HRz.2.2.2.2.1.1,HRz.2.2.2.2.2.1]) rfl ⟨_,_,_,_,rfl,?_,?_⟩
 ·have:=hT.size
  exact(Ho.out.turned hT (fun k e=>by omega)).wide (by omega) (by omega)
 ·exact hbz.trans (hT.below (B:=w.heap.size) hbz.size (fun k e=>by omega))
end Go.Proofs.YtihplgckbhnohaaGreatDoor

namespace Go.Proofs.YtihplgckbhnohaaGreatDoor
open Go.RowKit
set_option linter.unusedVariables false
theorem mRefC(v:Value)(w':World):(Go.method 364 68 v "loop.example/g00381/impl.refused").run Tryz.prog w' = .ok (199,v) w':=by kernel_rfl
theorem mLivC(v:Value)(w':World):(Go.method 364 68 v "loop.example/g00381/impl.liveThen").run Tryz.prog w' = .ok (198,v) w':=by kernel_rfl
set_option maxRecDepth 20000 in
set_option maxHeartbeats 1000000 in
theorem implStoreCrash_any(p:Nat→Addr)(v0 v1 v2 v3 u0 u1 u2 u3:Value)(lo hi:Nat)(S:StoreD)(w:World)(hE:Errs w p)(h:StoreAt w lo hi v0 v1 v2 v3 u0 u1 u2 u3 S)(hw1:PrevsWf S.live)(hw2:PrevsWf S.safe)(nx1:poolN S.safe.pool≤1048576)(nx2:S.safe.sn≤1048576)(nx3:S.safe.pn≤1048576)(nx4:DeadsN S.safe) :
  Calls Tryz.prog 16 #[storeV v0 v1 v2 v3 u0 u1 u2 u3 S] w fun e w'=>∃o:SOutD,((¬StoreI S∧o=refuseS 1)∨(StoreI S∧¬True∧o=refuseS (errC 4))∨(StoreI S∧True∧o=⟨⟨S.safe,S.safe⟩,0⟩))∧NewSOut o w e w':=by
 obtain⟨a0,ac0,a1,ac1,a2,ac2,a3,ac3,rfl,rfl,rfl,rfl⟩:=h.live.form
 obtain⟨c0,cc0,c1,cc1,c2,cc2,c3,cc3,rfl,rfl,rfl,rfl⟩:=h.safe.form
 have Hp:=hideW h
 have HE:=hideW hE
 have Hw1:=hideW hw1
 have Hw2:=hideW hw2
 clear h hE hw1 hw2
 have ha:=below_alloc w (.cells #[.slice a0 S.live.pool.n ac0,.slice a1 S.live.pool.hn ac1,.int .i64 S.live.time,.int .i64 S.live.next,.slice a2 S.live.sn ac2,.slice a3 S.live.pn ac3,.slice c0 S.safe.pool.n cc0,.slice c1 S.safe.pool.hn cc1,.int .i64 S.safe.time,.int .i64 S.safe.next,.slice c2 S.safe.sn cc2,.slice c3 S.safe.pn cc3] 41)
 have hb2:=below_alloc (w.alloc (.cells #[.slice a0 S.live.pool.n ac0,.slice a1 S.live.pool.hn ac1,.int .i64 S.live.time,.int .i64 S.live.next,.slice a2 S.live.sn ac2,.slice a3 S.live.pn ac3,.slice c0 S.safe.pool.n cc0,.slice c1 S.safe.pool.hn cc1,.int .i64 S.safe.time,.int .i64 S.safe.next,.slice c2 S.safe.sn cc2,.slice c3 S.safe.pn cc3] 41)) (.cells #[.slice none 0 0,.slice none 0 0,.int .i64 0,.int .i64 0,.slice none 0 0,.slice none 0 0,.slice none 0 0,.slice none 0 0,.int .i64 0,.int .i64 0,.slice none 0 0,.slice none 0 0,.int .i64 0] 43)
 have hb:=below_next ha hb2
 obtain⟨⟨y0,-⟩,⟨y1,-⟩,⟨y2,-⟩,⟨y3,-⟩,⟨y4,-⟩,⟨y5,-⟩,⟨y6,-⟩,⟨y7,-⟩,⟨y8,-⟩,⟨y9,-⟩,⟨y10,-⟩,⟨y11,-⟩⟩:=(Box12.new w (.slice a0 S.live.pool.n ac0) (.slice a1 S.live.pool.hn ac1) (.int .i64 S.live.time) (.int .i64 S.live.next) (.slice a2 S.live.sn ac2) (.slice a3 S.live.pn ac3) (.slice c0 S.safe.pool.n cc0) (.slice c1 S.safe.pool.hn cc1) (.int .i64 S.safe.time) (.int .i64 S.safe.next) (.slice c2 S.safe.sn cc2) (.slice c3 S.safe.pn cc3) 41).below hb2
 have HR:=Box13.new (w.alloc (.cells #[.slice a0 S.live.pool.n ac0,.slice a1 S.live.pool.hn ac1,.int .i64 S.live.time,.int .i64 S.live.next,.slice a2 S.live.sn ac2,.slice a3 S.live.pn ac3,.slice c0 S.safe.pool.n cc0,.slice c1 S.safe.pool.hn cc1,.int .i64 S.safe.time,.int .i64 S.safe.next,.slice c2 S.safe.sn cc2,.slice c3 S.safe.pn cc3] 41)) (.slice none 0 0) (.slice none 0 0) (.int .i64 0) (.int .i64 0) (.slice none 0 0) (.slice none 0 0) (.slice none 0 0) (.slice none 0 0) (.int .i64 0) (.int .i64 0) (.slice none 0 0) (.slice none 0 0) (.int .i64 0) 43
 rw [World.size_alloc] at HR
 have hz:((w.alloc (.cells #[.slice a0 S.live.pool.n ac0,.slice a1 S.live.pool.hn ac1,.int .i64 S.live.time,.int .i64 S.live.next,.slice a2 S.live.sn ac2,.slice a3 S.live.pn ac3,.slice c0 S.safe.pool.n cc0,.slice c1 S.safe.pool.hn cc1,.int .i64 S.safe.time,.int .i64 S.safe.next,.slice c2 S.safe.sn cc2,.slice c3 S.safe.pn cc3] 41)).alloc (.cells #[.slice none 0 0,.slice none 0 0,.int .i64 0,.int .i64 0,.slice none 0 0,.slice none 0 0,.slice none 0 0,.slice none 0 0,.int .i64 0,.int .i64 0,.slice none 0 0,.slice none 0 0,.int .i64 0] 43)).heap.size=w.heap.size+2:=by rw [World.size_alloc,World.size_alloc]
 go_enter Tryz.func16,Tryz.ntmps16
 go_wp2_with fail
 clear y0 y1 y2 y3 y4 y5 y6 y7 y8 y9 y10 y11
 generalize ((w.alloc (.cells #[.slice a0 S.live.pool.n ac0,.slice a1 S.live.pool.hn ac1,.int .i64 S.live.time,.int .i64 S.live.next,.slice a2 S.live.sn ac2,.slice a3 S.live.pn ac3,.slice c0 S.safe.pool.n cc0,.slice c1 S.safe.pool.hn cc1,.int .i64 S.safe.time,.int .i64 S.safe.next,.slice c2 S.safe.sn cc2,.slice c3 S.safe.pn cc3] 41)).alloc (.cells #[.slice none 0 0,.slice none 0 0,.int .i64 0,.int .i64 0,.slice none 0 0,.slice none 0 0,.slice none 0 0,.slice none 0 0,.int .i64 0,.int .i64 0,.slice none 0 0,.slice none 0 0,.int .i64 0] 43))=W2 at hb HR hz ⊢
 clear ha hb2
 refine(happenC_any p _ True 4 (by omega) S.safe S.safe _ _ _ _ _ _ _ _ lo hi S W2 (HE.out.below hb) (Hp.out.below hb) Hw1.out Hw2.out (mRefC _) (mLivC _) ?_ ?_ ?_).mono ?_
 ·intro _ w' hbw
  exact crashedRefused_any p _ _ _ _ _ _ _ _ lo hi S w' (HE.out.below (below_next hb hbw)) (Hp.out.below (below_next hb hbw))
 ·intro hs hA w' hbw
  exact crashedLive_any _ _ _ _ _ _ _ _ lo hi S w' (Hp.out.below (below_next hb hbw)) hs.keeps nx1 nx2 nx3 nx4
 ·intro _ _ w' x0 x1 x2 x3 hbw hL
  exact safe_crashed _ x0 x1 x2 x3 S.safe _ _ _ _ _ _ _ _ _ _ lo hi S w' hL (Hp.out.below (below_next hb hbw)) nx1 nx2 nx3 nx4
 rintro e w3 hcase
 obtain⟨o,ho⟩:∃o:SOutD,NewSOut o W2 e w3∧((¬StoreI S∧o=refuseS 1)∨(StoreI S∧¬True∧o=refuseS (errC 4))∨(StoreI S∧True∧o=⟨⟨S.safe,S.safe⟩,0⟩)):=by
  rcases hcase with⟨a,b⟩ | ⟨a,b,c⟩ | ⟨a,b,c⟩
  ·exact⟨_,b,Or.inl ⟨a,rfl⟩⟩
  ·exact⟨_,c,Or.inr (Or.inl ⟨a,b,rfl⟩)⟩
  ·exact⟨_,c,Or.inr (Or.inr ⟨a,b,rfl⟩)⟩
 have Hcs:=hideW ho.2
 obtain⟨z0,z1,z2,z3,z4,z5,z6,z7,rfl,hso,hb3⟩:=ho.1
 clear ho hcase
 obtain⟨l0,lc0,l1,lc1,l2,lc2,l3,lc3,rfl,rfl,rfl,rfl⟩:=hso.at.live.form
 obtain⟨f0,fc0,f1,fc1,f2,fc2,f3,fc3,rfl,rfl,rfl,rfl⟩:=hso.at.safe.form
 have HR3:=HR.below hb3
 have HR4:=hideW HR3
 have Hso:=hideW hso
 clear hso HR
 obtain⟨⟨r0,g0⟩,⟨r1,g1⟩,⟨r2,g2⟩,⟨r3,g3⟩,⟨r4,g4⟩,⟨r5,g5⟩,⟨r6,g6⟩,⟨r7,g7⟩,⟨r8,g8⟩,⟨r9,g9⟩,⟨r10,g10⟩,⟨r11,g11⟩,⟨r12,g12⟩⟩:=HR3
 go_wp2_with fail
 have HRz:Box13 (((((((((((((w3.setCell ⟨w.heap.size+1,0,none⟩ (.slice l0 o.store.live.pool.n lc0)).setCell ⟨w.heap.size+1,1,none⟩ (.slice l1 o.store.live.pool.hn lc1)).setCell ⟨w.heap.size+1,2,none⟩ (.int .i64 o.store.live.time)).setCell ⟨w.heap.size+1,3,none⟩ (.int .i64 o.store.live.next)).setCell ⟨w.heap.size+1,4,none⟩ (.slice l2 o.store.live.sn lc2)).setCell ⟨w.heap.size+1,5,none⟩ (.slice l3 o.store.live.pn lc3)).setCell ⟨w.heap.size+1,6,none⟩ (.slice f0 o.store.safe.pool.n fc0)).setCell ⟨w.heap.size+1,7,none⟩ (.slice f1 o.store.safe.pool.hn fc1)).setCell ⟨w.heap.size+1,8,none⟩ (.int .i64 o.store.safe.time)).setCell ⟨w.heap.size+1,9,none⟩ (.int .i64 o.store.safe.next)).setCell ⟨w.heap.size+1,10,none⟩ (.slice f2 o.store.safe.sn fc2)).setCell ⟨w.heap.size+1,11,none⟩ (.slice f3 o.store.safe.pn fc3)).setCell ⟨w.heap.size+1,12,none⟩ (.int .i64 o.code)) (w.heap.size+1) (.slice l0 o.store.live.pool.n lc0) (.slice l1 o.store.live.pool.hn lc1) (.int .i64 o.store.live.time) (.int .i64 o.store.live.next) (.slice l2 o.store.live.sn lc2) (.slice l3 o.store.live.pn lc3) (.slice f0 o.store.safe.pool.n fc0) (.slice f1 o.store.safe.pool.hn fc1) (.int .i64 o.store.safe.time) (.int .i64 o.store.safe.next) (.slice f2 o.store.safe.sn fc2) (.slice f3 o.store.safe.pn fc3) (.int .i64 o.code):=HR4.out.put (.slice l0 o.store.live.pool.n lc0) (.slice l1 o.store.live.pool.hn lc1) (.int .i64 o.store.live.time) (.int .i64 o.store.live.next) (.slice l2 o.store.live.sn lc2) (.slice l3 o.store.live.pn lc3) (.slice f0 o.store.safe.pool.n fc0) (.slice f1 o.store.safe.pool.hn fc1) (.int .i64 o.store.safe.time) (.int .i64 o.store.safe.next) (.slice f2 o.store.safe.sn fc2) (.slice f3 o.store.safe.pn fc3) (.int .i64 o.code)
 have hT:Turned (fun k=>k=w.heap.size+1) w3 (((((((((((((w3.setCell ⟨w.heap.size+1,0,none⟩ (.slice l0 o.store.live.pool.n lc0)).setCell ⟨w.heap.size+1,1,none⟩ (.slice l1 o.store.live.pool.hn lc1)).setCell ⟨w.heap.size+1,2,none⟩ (.int .i64 o.store.live.time)).setCell ⟨w.heap.size+1,3,none⟩ (.int .i64 o.store.live.next)).setCell ⟨w.heap.size+1,4,none⟩ (.slice l2 o.store.live.sn lc2)).setCell ⟨w.heap.size+1,5,none⟩ (.slice l3 o.store.live.pn lc3)).setCell ⟨w.heap.size+1,6,none⟩ (.slice f0 o.store.safe.pool.n fc0)).setCell ⟨w.heap.size+1,7,none⟩ (.slice f1 o.store.safe.pool.hn fc1)).setCell ⟨w.heap.size+1,8,none⟩ (.int .i64 o.store.safe.time)).setCell ⟨w.heap.size+1,9,none⟩ (.int .i64 o.store.safe.next)).setCell ⟨w.heap.size+1,10,none⟩ (.slice f2 o.store.safe.sn fc2)).setCell ⟨w.heap.size+1,11,none⟩ (.slice f3 o.store.safe.pn fc3)).setCell ⟨w.heap.size+1,12,none⟩ (.int .i64 o.code)):=Turned.put13 w3 (w.heap.size+1) (.slice l0 o.store.live.pool.n lc0) (.slice l1 o.store.live.pool.hn lc1) (.int .i64 o.store.live.time) (.int .i64 o.store.live.next) (.slice l2 o.store.live.sn lc2) (.slice l3 o.store.live.pn lc3) (.slice f0 o.store.safe.pool.n fc0) (.slice f1 o.store.safe.pool.hn fc1) (.int .i64 o.store.safe.time) (.int .i64 o.store.safe.next) (.slice f2 o.store.safe.sn fc2) (.slice f3 o.store.safe.pn fc3) (.int .i64 o.code)
 generalize (((((((((((((w3.setCell ⟨w.heap.size+1,0,none⟩ (.slice l0 o.store.live.pool.n lc0)).setCell ⟨w.heap.size+1,1,none⟩ (.slice l1 o.store.live.pool.hn lc1)).setCell ⟨w.heap.size+1,2,none⟩ (.int .i64 o.store.live.time)).setCell ⟨w.heap.size+1,3,none⟩ (.int .i64 o.store.live.next)).setCell ⟨w.heap.size+1,4,none⟩ (.slice l2 o.store.live.sn lc2)).setCell ⟨w.heap.size+1,5,none⟩ (.slice l3 o.store.live.pn lc3)).setCell ⟨w.heap.size+1,6,none⟩ (.slice f0 o.store.safe.pool.n fc0)).setCell ⟨w.heap.size+1,7,none⟩ (.slice f1 o.store.safe.pool.hn fc1)).setCell ⟨w.heap.size+1,8,none⟩ (.int .i64 o.store.safe.time)).setCell ⟨w.heap.size+1,9,none⟩ (.int .i64 o.store.safe.next)).setCell ⟨w.heap.size+1,10,none⟩ (.slice f2 o.store.safe.sn fc2)).setCell ⟨w.heap.size+1,11,none⟩ (.slice f3 o.store.safe.pn fc3)).setCell ⟨w.heap.size+1,12,none⟩ (.int .i64 o.code))=Wz at HRz hT ⊢
 have hbz:=below_next hb hb3
 have hsz:=hT.size
 refine bodyPost_ret (v:=.agg #[.slice l0 o.store.live.pool.n lc0,.slice l1 o.store.live.pool.hn lc1,.int .i64 o.store.live.time,.int .i64 o.store.live.next,.slice l2 o.store.live.sn lc2,.slice l3 o.store.live.pn lc3,.slice f0 o.store.safe.pool.n fc0,.slice f1 o.store.safe.pool.hn fc1,.int .i64 o.store.safe.time,.int .i64 o.store.safe.next,.slice f2 o.store.safe.sn fc2,.slice f3 o.store.safe.pn fc3,.int .i64 o.code]) (by simp [results,Tryz.results16,go_sem,HRz.1.1,HRz.2.1.1,HRz.2.2.1.1,HRz.2.2.2.1.1,HRz.2.2.2.2.1.1,HRz.2.2.2.2.2.1.1,HRz.2.2.2.2.2.2.1.1,HRz.2.2.2.2.2.2.2.1.1,HRz.2.2.2.2.2.2.2.2.1.1,HRz.2.2.2.2.2.2.2.2.2.1.1,HRz.2.2.2.2.2.2.2.2.2.2.1.1,HRz.2.2.2.2.2.2.2.2.2.2.2.1.1,HRz.2.2.2.2.2.2.2.2.2.2.2.2.1]) rfl ⟨o,Hcs.out,_,_,_,_,_,_,_,_,rfl,?_,hbz.trans (hT.below (B:=w.heap.size) hbz.size (fun k e=>by omega))⟩
 obtain⟨l1',h1',l2',h2',oa,ob,e1,e2,e3,e4,e5⟩:=Hso.out.turned hT (fun k e=>by omega)
 exact⟨l1',h1',l2',h2',oa,ob,by omega,by omega,by omega,by omega,e5⟩
end Go.Proofs.YtihplgckbhnohaaGreatDoor
