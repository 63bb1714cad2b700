/- What spec.l04Reach answers: the walk. -/
import Derived.Test.YtmgeglgboadfiaaGreatDoorP10
import Derived.Test.YtmgeglgboadfiaaGreatDoorP2
namespace Go.Proofs.YtmgeglgboadfiaaGreatDoor
open Go.RowKit Go.Maps
set_option linter.unusedVariables false
set_option maxRecDepth 20000 in
set_option maxHeartbeats 8000000 in
theorem l04Reach_any(v0 v1 v2 v3:Value)(lo hi:Nat)(W:WorldD)(w:World)(h:WorldAt w lo hi v0 v1 v2 v3 W)(hT:Trees W)(hs:W.sn≤8)(hp:W.pn≤20) :
  Calls Tryz.prog 73 #[worldV v0 v1 v2 v3 W] w fun e w'=>∃R f,e = .returned (.slice (some ⟨R,0,none⟩) W.pool.n W.pool.n)∧w.heap.size≤R∧BoolsC w' R W.pool.n f∧(∀s,f s=true↔InSome W s)∧Below w.heap.size w w':=by
 have Hp:=hideW h
 have HT:=hideW hT
 obtain⟨m1,a,c,rfl,mc,_⟩:=id h.snaps
 obtain⟨m2,a',c',rfl,mc',_⟩:=id h.sets
 obtain⟨m0,a0,c0,rfl,mc0,_⟩:=id h.pool.1
 unfold maxLen at m0 m1 m2
 have hpn:W.pool.n≤200:=hT.right.1
 clear h hT
 obtain⟨i0,hi0,hzz⟩:=Option.map_eq_some_iff.1 infoPtrL
 simp only [Prod.mk.injEq] at hzz
 have HI:=hideW (And.intro hi0 hzz)
 clear hi0 hzz
 have hmk:=run_make_bools W.pool.n (by omega)
 have ha:=below_alloc w (.cells #[.slice a0 W.pool.n c0,v1,.int .i64 W.time,.int .i64 W.next,.slice a' W.sn c',.slice a W.pn c] 37)
 have hz1:(w.alloc (.cells #[.slice a0 W.pool.n c0,v1,.int .i64 W.time,.int .i64 W.next,.slice a' W.sn c',.slice a W.pn c] 37)).heap.size=w.heap.size+1:=World.size_alloc _ _
 have hst:∀W1:World,W1=w.alloc (.cells #[.slice a0 W.pool.n c0,v1,.int .i64 W.time,.int .i64 W.next,.slice a' W.sn c',.slice a W.pn c] 37)→Box6 ((W1.alloc (.cells (madeCells #[.bool false] W.pool.n) 4)).alloc (.cells #[] 61)) w.heap.size (.slice a0 W.pool.n c0) v1 (.int .i64 W.time) (.int .i64 W.next) (.slice a' W.sn c') (.slice a W.pn c)∧BoolsC ((W1.alloc (.cells (madeCells #[.bool false] W.pool.n) 4)).alloc (.cells #[] 61)) (w.heap.size+1) W.pool.n (fun _=>false)∧RowL ((W1.alloc (.cells (madeCells #[.bool false] W.pool.n) 4)).alloc (.cells #[] 61)) (w.heap.size+2) (.slice (some ⟨w.heap.size+1+1,0,none⟩) 0 0) []∧Below w.heap.size w ((W1.alloc (.cells (madeCells #[.bool false] W.pool.n) 4)).alloc (.cells #[] 61)):=by
  rintro W1 rfl
  have hB:=Box6.new w (.slice a0 W.pool.n c0) v1 (.int .i64 W.time) (.int .i64 W.next) (.slice a' W.sn c') (.slice a W.pn c) 37
  have hR:=BoolsC.new (w.alloc (.cells #[.slice a0 W.pool.n c0,v1,.int .i64 W.time,.int .i64 W.next,.slice a' W.sn c',.slice a W.pn c] 37)) W.pool.n 4
  rw [hz1] at hR
  generalize w.alloc (.cells #[.slice a0 W.pool.n c0,v1,.int .i64 W.time,.int .i64 W.next,.slice a' W.sn c',.slice a W.pn c] 37)=W1 at *
  have b2:=below_alloc W1 (.cells (madeCells #[.bool false] W.pool.n) 4)
  have hz2:(W1.alloc (.cells (madeCells #[.bool false] W.pool.n) 4)).heap.size=w.heap.size+1+1:=by rw [World.size_alloc,hz1]
  have hB2:=hB.below b2
  have hb2:=below_next ha b2
  generalize W1.alloc (.cells (madeCells #[.bool false] W.pool.n) 4)=W2 at *
  have b3:=below_alloc W2 (.cells #[] 61)
  have l3:=World.ownsRow_lit (e:=61) (size:=2) (base:=w.heap.size+2) W2 #[] 0 (by rw [hz2]; omega) (by unfold maxLen; omega) rfl
  rw [hz2] at l3
  exact⟨hB2.below b3,hR.below b3,l3,below_next hb2 b3⟩
 have HST:=hideW (hst _ rfl)
 clear hst
 go_enter Tryz.func73,Tryz.ntmps73
 obtain⟨⟨x0,x1⟩,⟨x2,x3⟩,⟨x4,x5⟩,⟨x6,x7⟩,⟨x8,x9⟩,⟨x10,x11⟩⟩:=Box6.new w (.slice a0 W.pool.n c0) v1 (.int .i64 W.time) (.int .i64 W.next) (.slice a' W.sn c') (.slice a W.pn c) 37
 go_wp2
 clear x0 x1 x2 x3 x4 x5 x6 x7 x8 x9 x10 x11 ha
 go_loopw [4,5] (fun vr i wr=>∃k:Nat,k≤W.sn∧i = .int .i64 k∧RowL wr (w.heap.size+2) vr (rootsL W k)∧Box6 wr w.heap.size (.slice a0 W.pool.n c0) v1 (.int .i64 W.time) (.int .i64 W.next) (.slice a' W.sn c') (.slice a W.pn c)∧BoolsC wr (w.heap.size+1) W.pool.n (fun _=>false)∧Below w.heap.size w wr) (fun _ i _=>W.sn - (intOf i).toNat)
 case atStart=>
  obtain⟨s1,s2,s3,s4⟩:=HST.out
  exact⟨0,Nat.zero_le _,rfl,s3,s1,s2,s4⟩
 case round=>
  clear HST hz1
  obtain⟨k,hk,rfl,hrow,hX,hR,hb⟩:=hrel
  have Hrow:=hideW hrow
  have HX:=hideW hX
  have HRr:=hideW hR
  clear hrow hX hR
  obtain⟨⟨x0,x1⟩,⟨x2,x3⟩,⟨x4,x5⟩,⟨x6,x7⟩,⟨x8,x9⟩,⟨x10,x11⟩⟩:=HX.out
  by_cases hlt:k<W.sn
  ·have hlt':(k:Int)<(W.sn:Int):=by omega
   obtain⟨b,off,vd,rfl,hs2⟩:=(Hp.out.sets.below hb).cells hlt
   have q3:=hs2.c3
   have q4:=hs2.c4
   clear hs2
   have hba:=below_alloc wr (.cells #[.int .i64 (W.sets k).rs,.int .i64 (W.sets k).rb] 61)
   have Hrow7:=hideW (Hrow.out.below hba)
   have HX7:=hideW (HX.out.below hba)
   have HR7:=hideW (HRr.out.below hba)
   have hB3:=below_next hb hba
   have hz2:=lt_of_cell x10
   have hz4:=(HRr.out)
   have hz3:(wr.alloc (.cells #[.int .i64 (W.sets k).rs,.int .i64 (W.sets k).rb] 61)).heap.size=wr.heap.size+1:=World.size_alloc _ _
   have HN:=hideW (World.news_of_block (heap_alloc_last wr (.cells #[.int .i64 (W.sets k).rs,.int .i64 (W.sets k).rb] 61)))
   have hlen:=rootsL_len W k
   clear hba Hrow HX HRr hz4
   go_wp2_with (first
    | (at_builtin; refine wpList_append_lies _ rfl _ _ 62 rfl (w.heap.size+2) 61 i0 (.agg #[.int .i64 0,.int .i64 0]) 2 16 (by kernel_rfl) HI.out.1 HI.out.2.1 HI.out.2.2.1 HI.out.2.2.2 rfl (by decide) _ _ _ rfl Hrow7.out ⟨wr.heap.size,0,none⟩ 1 1 [.int .i64 (W.sets k).rs,.int .i64 (W.sets k).rb] rfl rfl HN.out (by simp [Value.oneCell']) (by decide) (by unfold maxLen; omega) (by omega) (by omega) _ rfl ?_; intro g' cap' w8 hown8 hgrow8 hat8 hlt8)
    | go_in)
   go_roundw
   case rel=>
    have hne:∀q,Value.ownBlock _=some q→w.heap.size+2≤q:=fun q hq=>(Hrow7.out.lt hq).1
    refine⟨k+1,by omega,by go_num,?_,HX7.out.grown hgrow8 (fun q hq=>by have:=hne q hq; omega),HR7.out.grown hgrow8 (fun q hq=>by have:=hne q hq; omega),hB3.grown hgrow8 hB3.size (fun q hq=>by have:=hne q hq; omega)⟩
    rw [rootsL_succ,rootA_set hlt]
    have hn8:=RowL.next hown8
    rw [hlen] at hn8
    exact hn8
   case measure=>simp [intOf]; omega
  ·obtain rfl:k=W.sn:=by omega
   go_wp2
   go_loopw [4,6] (fun vr i wr=>∃k:Nat,k≤W.pn∧i = .int .i64 k∧RowL wr (w.heap.size+2) vr (rootsL W (W.sn+k))∧Box6 wr w.heap.size (.slice a0 W.pool.n c0) v1 (.int .i64 W.time) (.int .i64 W.next) (.slice a' W.sn c') (.slice a W.pn c)∧BoolsC wr (w.heap.size+1) W.pool.n (fun _=>false)∧Below w.heap.size w wr) (fun _ i _=>W.pn - (intOf i).toNat)
   case atStart=>exact⟨0,Nat.zero_le _,rfl,Hrow.out,HX.out,HRr.out,hb⟩
   case round=>
    clear x0 x1 x2 x3 x4 x5 x6 x7 x8 x9 x10 x11 HX hb Hrow HRr
    obtain⟨k,hk,rfl,hrow,hX,hR,hb⟩:=hrel
    have Hrow:=hideW hrow
    have HX:=hideW hX
    have HRr:=hideW hR
    clear hrow hX hR
    obtain⟨⟨x0,x1⟩,⟨x2,x3⟩,⟨x4,x5⟩,⟨x6,x7⟩,⟨x8,x9⟩,⟨x10,x11⟩⟩:=HX.out
    by_cases hlt:k<W.pn
    ·have hlt':(k:Int)<(W.pn:Int):=by omega
     obtain⟨b,off,vd,rfl,hs2⟩:=(Hp.out.snaps.below hb).cells hlt
     have q3:=hs2.c5
     have q4:=hs2.c6
     clear hs2
     have hba:=below_alloc wr (.cells #[.int .i64 (W.snaps k).rs,.int .i64 (W.snaps k).rb] 61)
     have Hrow7:=hideW (Hrow.out.below hba)
     have HX7:=hideW (HX.out.below hba)
     have HR7:=hideW (HRr.out.below hba)
     have hB3:=below_next hb hba
     have hz2:=lt_of_cell x10
     have hz3:(wr.alloc (.cells #[.int .i64 (W.snaps k).rs,.int .i64 (W.snaps k).rb] 61)).heap.size=wr.heap.size+1:=World.size_alloc _ _
     have HN:=hideW (World.news_of_block (heap_alloc_last wr (.cells #[.int .i64 (W.snaps k).rs,.int .i64 (W.snaps k).rb] 61)))
     have hlen:=rootsL_len W (W.sn+k)
     clear hba Hrow HX HRr
     go_wp2_with (first
      | (at_builtin; refine wpList_append_lies _ rfl _ _ 62 rfl (w.heap.size+2) 61 i0 (.agg #[.int .i64 0,.int .i64 0]) 2 16 (by kernel_rfl) HI.out.1 HI.out.2.1 HI.out.2.2.1 HI.out.2.2.2 rfl (by decide) _ _ _ rfl Hrow7.out ⟨wr.heap.size,0,none⟩ 1 1 [.int .i64 (W.snaps k).rs,.int .i64 (W.snaps k).rb] rfl rfl HN.out (by simp [Value.oneCell']) (by decide) (by unfold maxLen; omega) (by omega) (by omega) _ rfl ?_; intro g' cap' w8 hown8 hgrow8 hat8 hlt8)
      | go_in)
     go_roundw
     case rel=>
      have hne:∀q,Value.ownBlock _=some q→w.heap.size+2≤q:=fun q hq=>(Hrow7.out.lt hq).1
      refine⟨k+1,by omega,by go_num,?_,HX7.out.grown hgrow8 (fun q hq=>by have:=hne q hq; omega),HR7.out.grown hgrow8 (fun q hq=>by have:=hne q hq; omega),hB3.grown hgrow8 hB3.size (fun q hq=>by have:=hne q hq; omega)⟩
      rw [show W.sn+(k+1)=W.sn+k+1 from rfl,rootsL_succ,rootA_snap]
      have hn8:=RowL.next hown8
      rw [hlen] at hn8
      exact hn8
     case measure=>simp [intOf]; omega
    ·obtain rfl:k=W.pn:=by omega
     go_wp2
     obtain⟨ar,cr,rfl,hcr⟩:=owns_form Hrow.out
     rw [rootsL_len] at *
     clear x0 x1 x2 x3 x4 x5 x6 x7 x8 x9 x10 x11
     go_loopw [7] (fun i wr=>∃k:Nat,∃f,k≤W.sn+W.pn∧i = .int .i64 k∧RowL wr (w.heap.size+2) (.slice ar (W.sn+W.pn) cr) (rootsL W (W.sn+W.pn))∧Box6 wr w.heap.size (.slice a0 W.pool.n c0) v1 (.int .i64 W.time) (.int .i64 W.next) (.slice a' W.sn c') (.slice a W.pn c)∧BoolsC wr (w.heap.size+1) W.pool.n f∧MarksN W k [] 0 f∧Below w.heap.size w wr) (fun i _=>W.sn+W.pn - (intOf i).toNat)
     case atStart=>exact⟨0,fun _=>false,Nat.zero_le _,rfl,Hrow.out,HX.out,HRr.out,fun s=>⟨fun h=>absurd h (by simp),fun h=>by rcases h with⟨i,hi,_⟩ | ⟨q,hq,_⟩ <;> omega⟩,hb⟩
     case round=>
      clear HX hb Hrow HRr
      obtain⟨k,f,hk,rfl,hrow,hX,hR,hm,hb⟩:=hrel
      have Hrow:=hideW hrow
      have HX:=hideW hX
      have HRr:=hideW hR
      have Hm:=hideW hm
      clear hrow hX hR hm
      by_cases hlt:k<W.sn+W.pn
      ·have hlt':(k:Int)<(W.sn+W.pn:Int):=by omega
       have hok:=rootA_ok HT.out hlt
       have hfs:=rootsL_at (W:=W) hlt
       have hcells:=(Hrow.out.atW (by rw [rootsL_len]; omega))
       rw [rootsL_len] at hcells
       obtain⟨b,off,rfl,q0,q1⟩:=hcells.cellsD hlt
       rw [hfs.1] at q0
       rw [hfs.2] at q1
       have Hok:=hideW hok
       clear hok hfs
       generalize hra:(rootA W k).1=rs at *
       generalize hrb:(rootA W k).2=rb at *
       have Hra:=hideW (And.intro hra hrb)
       clear hra hrb hcells
       obtain⟨⟨x0,x1⟩,⟨x2,x3⟩,⟨x4,x5⟩,⟨x6,x7⟩,⟨x8,x9⟩,⟨x10,x11⟩⟩:=HX.out
       clear x1 x3 x4 x5 x6 x7 x8 x9 x10 x11
       go_wp2_with fail
       go_region_held3 (fun w'=>w'.cell? ⟨w.heap.size,0,none⟩=some (.slice a0 W.pool.n c0)∧w'.cell? ⟨w.heap.size,1,none⟩=some v1∧w'.cell? ⟨b,off+k*2,none⟩=some (.int .i64 rs)∧w'.cell? ⟨b,off+k*2+1,none⟩=some (.int .i64 rb)) (go_keep)
        (first | (go_at_call 141; refine(l02Ptrs_any _ v1 lo hi W.pool rs rb _ ?_ HT.out.right Hok.out).mono ?_; (exact(Hp.out.pool.below hb).below (Below.refl _ _).drew); rintro e w6 ⟨vl,rfl,hrl,hb6⟩; obtain⟨⟨y0,_⟩,⟨y1,_⟩,_⟩:=HX.out.below (below_undrew hb6); have z0:=(hb6.cell (p:=⟨b,off+k*2,none⟩) (lt_of_cell q0)).trans q0; have z1:=(hb6.cell (p:=⟨b,off+k*2+1,none⟩) (lt_of_cell q1)).trans q1))
       have hb7:=below_call hb hb6
       have HX7:=hideW (HX.out.below (below_undrew hb6))
       have HR7:=hideW (HRr.out.below (below_undrew hb6))
       have Hrow7:=hideW (Hrow.out.below (below_undrew hb6))
       have hRlt:0<W.pool.n→w.heap.size+1<wr.heap.size:=fun h0=>(HRr.out 0 h0).lt
       have Hl:=hideW hrl
       clear hb6 hrl z0 z1 y0 y1 q0 q1 x0 x2 HX HRr Hrow
       have hwd:wr.drew.heap.size=wr.heap.size:=rfl
       rw [hwd] at Hl
       obtain⟨al,cl,rfl,hcl⟩:=owns_form Hl.out
       have hll:=treeL_len W.pool rs rb
       have Hl':=hideW (fun j (hj:j<(treeL W.pool rs rb).length)=>slot_nat HT.out.right Hok.out hj)
       have HE:=hideW (show treeL W.pool rs rb=treeL W.pool (rootA W k).1 (rootA W k).2 by rw [Hra.out.1,Hra.out.2])
       generalize treeL W.pool rs rb=l at *
       clear Hra Hok hwd
       go_wp2
       go_loopw [9] (fun i wr2=>∃j:Nat,∃f,j≤l.length∧i = .int .i64 j∧RowL wr2 wr.heap.size (.slice al l.length cl) l∧RowL wr2 (w.heap.size+2) (.slice (some ⟨b,off,none⟩) (W.sn+W.pn) cr) (rootsL W (W.sn+W.pn))∧Box6 wr2 w.heap.size (.slice a0 W.pool.n c0) v1 (.int .i64 W.time) (.int .i64 W.next) (.slice a' W.sn c') (.slice a W.pn c)∧BoolsC wr2 (w.heap.size+1) W.pool.n f∧MarksN W k l j f∧Below w.heap.size w wr2) (fun i _=>l.length - (intOf i).toNat)
       case atStart=>exact⟨0,f,Nat.zero_le _,rfl,Hl.out,Hrow7.out,HX7.out,HR7.out,marks_start Hm.out l,hb7⟩
       case round=>
        clear HX7 HR7 Hrow7 Hl hb7 Hm f
        obtain⟨j,f,hj,rfl,hl2,hrow,hX,hR,hm,hb7⟩:=hrel
        have Hl:=hideW hl2
        have Hrow:=hideW hrow
        have HX:=hideW hX
        have HRr:=hideW hR
        have Hm:=hideW hm
        clear hrow hX hR hm hl2
        by_cases hjt:j<l.length
        ·have hjt':(j:Int)<(l.length:Int):=by omega
         obtain⟨b2,off2,rfl,q0,q1⟩:=(Hl.out.atW (by omega)).cellsD hjt
         obtain⟨s,hs1,hs2⟩:=Hl'.out j hjt
         have hs3:(s:Int)<(W.pool.n:Int):=by omega
         rw [hs1] at q0
         obtain⟨y0,y1⟩:=HRr.out s hs2
         have Hs1:=hideW hs1
         clear hs1 q1
         go_wp2
         go_roundw
         case rel=>exact⟨j+1,_,by omega,by go_num,Hl.out.put (hRlt (by omega)) _,Hrow.out.put (by omega) _,HX.out.turned (Turned.put _ (w.heap.size+1) s _) (by omega),HRr.out.put true,marks_next Hm.out Hs1.out,hb7.setCell (show w.heap.size≤w.heap.size+1 by omega) _⟩
         case measure=>simp [intOf]; omega
        ·obtain rfl:j=l.length:=by omega
         go_wp2
         go_roundw
         case rel=>exact⟨k+1,f,by omega,by go_num,Hrow.out,HX.out,HRr.out,marks_tree Hm.out HE.out,hb7⟩
         case measure=>simp [intOf]; omega
      ·obtain rfl:k=W.sn+W.pn:=by omega
       go_wp2
       go_ret
       refine⟨_,f,rfl,by omega,HRr.out,fun s=>?_,hb⟩
       rw [Hm.out s,inSome_iff]
       constructor
       ·rintro(h | ⟨q,hq,_⟩)
        ·exact h
        ·omega
       ·exact Or.inl
def ApartTo(W:WorldD)(k:Nat):Prop:=∀i,i<k→∀j,j<i→∀x,x∈ownM W (memOf W i)→∀y,y∈ownM W (memOf W j)→x.1≠y.1
def ApartRow(W:WorldD)(k:Nat)(now old:List (Int×Int))(j:Nat):Prop:=∀q,q<j→(fstL now q,sndL now q)∉old→∀i,i<k→∀y,y∈ownM W (memOf W i)→fstL now q≠y.1
def SeenN(W:WorldD)(k:Nat)(now old:List (Int×Int))(j s:Nat):Prop:=(∃i,i<k∧∃b,((s:Int),b)∈ownM W (memOf W i))∨∃q,q<j∧fstL now q=(s:Int)∧(fstL now q,sndL now q)∉old
def SeensN(W:WorldD)(k:Nat)(now old:List (Int×Int))(j:Nat)(f:Nat→Bool):Prop:=∀s,f s=true↔SeenN W k now old j s
theorem apart_next{W:WorldD}{k:Nat}{now old:List (Int×Int)}(h:ApartTo W k)(hn:now=treeM W (memOf W k))(ho:old=oldM W (memOf W k))(hr:ApartRow W k now old now.length):ApartTo W (k+1):=by
 intro i hi j hj x hx y hy
 by_cases e:i=k
 ·subst e
  obtain⟨h1,h2⟩:=List.mem_filter.1 hx
  rw [←hn] at h1
  rw [←ho] at h2
  obtain⟨q,hq,e⟩:=List.getElem_of_mem h1
  have:=hr q hq
  unfold fstL sndL at this
  rw [getD_lt hq,e] at this
  exact this (by simpa using h2) j hj y hy
 ·exact h i (by omega) j hj x hx y hy
theorem seen_skip{W:WorldD}{k j:Nat}{now old:List (Int×Int)}{f:Nat→Bool}(h:SeensN W k now old j f)(hin:(fstL now j,sndL now j)∈old):SeensN W k now old (j+1) f:=by
 intro s
 rw [h s]
 constructor
 ·rintro(h | ⟨q,hq,h⟩)
  ·exact Or.inl h
  ·exact Or.inr ⟨q,by omega,h⟩
 ·rintro(h | ⟨q,hq,h1,h2⟩)
  ·exact Or.inl h
  ·by_cases e:q=j
   ·subst e; exact absurd hin h2
   ·exact Or.inr ⟨q,by omega,h1,h2⟩
theorem seen_mark{W:WorldD}{k j s:Nat}{now old:List (Int×Int)}{f:Nat→Bool}(h:SeensN W k now old j f)(hs:fstL now j=(s:Int))(hin:(fstL now j,sndL now j)∉old):SeensN W k now old (j+1) (fun i=>if i=s then true else f i):=by
 intro i
 show(if i=s then true else f i)=true↔_
 by_cases e:i=s
 ·subst e
  rw [if_pos rfl]
  exact⟨fun _=>Or.inr ⟨j,by omega,hs,hin⟩,fun _=>rfl⟩
 ·rw [if_neg e,h i]
  constructor
  ·rintro(h | ⟨q,hq,h⟩)
   ·exact Or.inl h
   ·exact Or.inr ⟨q,by omega,h⟩
  ·rintro(h | ⟨q,hq,h,h2⟩)
   ·exact Or.inl h
   ·by_cases eq:q=j
    ·subst eq; exact absurd (by omega) e
    ·exact Or.inr ⟨q,by omega,h,h2⟩
theorem row_skip{W:WorldD}{k j:Nat}{now old:List (Int×Int)}(h:ApartRow W k now old j)(hin:(fstL now j,sndL now j)∈old):ApartRow W k now old (j+1):=by
 intro q hq
 by_cases e:q=j
 ·subst e; exact fun h=>absurd hin h
 ·exact h q (by omega)
theorem row_mark{W:WorldD}{k j s:Nat}{now old:List (Int×Int)}{f:Nat→Bool}(h:ApartRow W k now old j)(hS:SeensN W k now old j f)(hs:fstL now j=(s:Int))(hf:f s=false):ApartRow W k now old (j+1):=by
 intro q hq
 by_cases e:q=j
 ·subst e
  intro _ i hi y hy ey
  have:f s=true:=(hS s).2 (Or.inl ⟨i,hi,y.2,by rw [←hs,ey]; exact hy⟩)
  rw [hf] at this
  exact absurd this (by simp)
 ·exact h q (by omega)
theorem seen_tree{W:WorldD}{k:Nat}{now old:List (Int×Int)}{f:Nat→Bool}(h:SeensN W k now old now.length f)(hn:now=treeM W (memOf W k))(ho:old=oldM W (memOf W k)):SeensN W (k+1) [] [] 0 f:=by
 intro s
 rw [h s]
 constructor
 ·rintro(⟨i,hi,h⟩ | ⟨q,hq,e,h2⟩)
  ·exact Or.inl ⟨i,by omega,h⟩
  ·refine Or.inl ⟨k,by omega,(now[q]).2,?_⟩
   unfold fstL sndL at h2
   unfold fstL at e
   rw [getD_lt hq] at e h2
   refine List.mem_filter.2 ⟨?_,?_⟩
   ·rw [←hn,←e]; exact List.getElem_mem hq
   ·rw [←ho,←e]; simpa using h2
 ·rintro(⟨i,hi,b,h2⟩ | ⟨q,hq,_⟩)
  ·by_cases e:i=k
   ·subst e
    obtain⟨h3,h4⟩:=List.mem_filter.1 h2
    rw [←hn] at h3
    rw [←ho] at h4
    obtain⟨q,hq,e⟩:=List.getElem_of_mem h3
    refine Or.inr ⟨q,hq,?_⟩
    unfold fstL sndL
    rw [getD_lt hq,e]
    exact⟨rfl,by simpa using h4⟩
   ·exact Or.inl ⟨i,by omega,b,h2⟩
  ·omega
theorem seen_start{W:WorldD}{k:Nat}{f:Nat→Bool}(h:SeensN W k [] [] 0 f)(now old:List (Int×Int)):SeensN W k now old 0 f:=by
 intro s
 rw [h s]
 constructor
 ·rintro(h | ⟨q,hq,_⟩)
  ·exact Or.inl h
  ·omega
 ·rintro(h | ⟨q,hq,_⟩)
  ·exact Or.inl h
  ·omega
theorem seen_twice{W:WorldD}{k j s:Nat}{now old:List (Int×Int)}{f:Nat→Bool}(hT:Trees W)(hk:k<memN W)(hn:now=treeM W (memOf W k))(ho:old=oldM W (memOf W k))(hS:SeensN W k now old j f)(hj:j<now.length)(hs:fstL now j=(s:Int))(hin:(fstL now j,sndL now j)∉old)(hf:f s=true):¬ApartM W:=by
 intro hA
 rcases(hS s).1 hf with⟨i,hi,b,h⟩ | ⟨q,hq,e,h2⟩
 ·refine hA k hk i hi (fstL now j,sndL now j) ?_ _ h hs
  refine List.mem_filter.2 ⟨?_,by rw [←ho]; simpa using hin⟩
  rw [←hn]
  unfold fstL sndL
  rw [getD_lt hj]
  exact List.getElem_mem hj
 ·have hok:=ptrsOk_list hT.right (l:=now) (fun x hx=>by rw [hn] at hx; exact(tree_mem hT.right (hT.tree k hk) hx).1) (by rw [hn]; exact tree_nodup' hT.right (hT.tree k hk)) (by rw [hn]; have:=treeL_len W.pool (memOf W k).rs (memOf W k).rb; unfold treeM; omega)
  exact hok.2.2 j hj q hq (by rw [e,hs])
set_option maxRecDepth 20000 in
set_option maxHeartbeats 3000000 in
theorem l04Apart_any(v0 v1 v2 v3:Value)(lo hi:Nat)(W:WorldD)(w:World)(h:WorldAt w lo hi v0 v1 v2 v3 W)(hT:Trees W)(hP:IdsPos W)(hs:W.sn≤8)(hp:W.pn≤20) :
  Calls Tryz.prog 77 #[worldV v0 v1 v2 v3 W] w fun e w'=>BoolIs (ApartM W) e∧Below w.heap.size w w':=by
 have Hp:=hideW h
 have HT:=hideW hT
 have HP:=hideW hP
 obtain⟨m1,a,c,rfl,mc,-⟩:=id h.snaps
 obtain⟨m2,a',c',rfl,mc',-⟩:=id h.sets
 obtain⟨m0,a0,c0,rfl,mc0,-⟩:=id h.pool.1
 unfold maxLen at m0 m1 m2
 have hpn:W.pool.n≤200:=hT.right.1
 clear h hT hP
 have hmk:=run_make_bools W.pool.n (by omega)
 have ha:=below_alloc w (.cells #[.slice a0 W.pool.n c0,v1,.int .i64 W.time,.int .i64 W.next,.slice a' W.sn c',.slice a W.pn c] 37)
 have hz1:(w.alloc (.cells #[.slice a0 W.pool.n c0,v1,.int .i64 W.time,.int .i64 W.next,.slice a' W.sn c',.slice a W.pn c] 37)).heap.size=w.heap.size+1:=World.size_alloc _ _
 have hst:∀W1:World,W1=w.alloc (.cells #[.slice a0 W.pool.n c0,v1,.int .i64 W.time,.int .i64 W.next,.slice a' W.sn c',.slice a W.pn c] 37)→Box6 (W1.alloc (.cells (madeCells #[.bool false] W.pool.n) 4)) w.heap.size (.slice a0 W.pool.n c0) v1 (.int .i64 W.time) (.int .i64 W.next) (.slice a' W.sn c') (.slice a W.pn c)∧BoolsC (W1.alloc (.cells (madeCells #[.bool false] W.pool.n) 4)) (w.heap.size+1) W.pool.n (fun _=>false)∧Below w.heap.size w (W1.alloc (.cells (madeCells #[.bool false] W.pool.n) 4))∧w.heap.size+2≤(W1.alloc (.cells (madeCells #[.bool false] W.pool.n) 4)).heap.size:=by
  rintro W1 rfl
  have hB:=Box6.new w (.slice a0 W.pool.n c0) v1 (.int .i64 W.time) (.int .i64 W.next) (.slice a' W.sn c') (.slice a W.pn c) 37
  have hR:=BoolsC.new (w.alloc (.cells #[.slice a0 W.pool.n c0,v1,.int .i64 W.time,.int .i64 W.next,.slice a' W.sn c',.slice a W.pn c] 37)) W.pool.n 4
  rw [hz1] at hR
  generalize w.alloc (.cells #[.slice a0 W.pool.n c0,v1,.int .i64 W.time,.int .i64 W.next,.slice a' W.sn c',.slice a W.pn c] 37)=W1 at *
  have b2:=below_alloc W1 (.cells (madeCells #[.bool false] W.pool.n) 4)
  exact⟨hB.below b2,hR,below_next ha b2,by rw [World.size_alloc,hz1]; omega⟩
 have HST:=hideW (hst _ rfl)
 clear hst
 go_enter Tryz.func77,Tryz.ntmps77
 obtain⟨⟨x0,x1⟩,⟨x2,x3⟩,⟨x4,x5⟩,⟨x6,x7⟩,⟨x8,x9⟩,⟨x10,x11⟩⟩:=Box6.new w (.slice a0 W.pool.n c0) v1 (.int .i64 W.time) (.int .i64 W.next) (.slice a' W.sn c') (.slice a W.pn c) 37
 go_wp2
 clear x0 x1 x2 x3 x4 x5 x6 x7 x8 x9 x10 x11 ha
 go_loopw [4] (fun i wr=>∃k:Nat,∃f,k≤W.pn+W.sn∧i = .int .i64 k∧Box6 wr w.heap.size (.slice a0 W.pool.n c0) v1 (.int .i64 W.time) (.int .i64 W.next) (.slice a' W.sn c') (.slice a W.pn c)∧BoolsC wr (w.heap.size+1) W.pool.n f∧SeensN W k [] [] 0 f∧ApartTo W k∧Below w.heap.size w wr∧w.heap.size+2≤wr.heap.size) (fun i _=>W.pn+W.sn - (intOf i).toNat)
 case atStart=>
  obtain⟨s1,s2,s3,s4⟩:=HST.out
  exact⟨0,fun _=>false,Nat.zero_le _,rfl,s1,s2,fun s=>⟨fun h=>absurd h (by simp),fun h=>by rcases h with⟨i,hi,_⟩ | ⟨q,hq,_⟩ <;> omega⟩,fun i hi=>absurd hi (Nat.not_lt_zero _),s3,s4⟩
 case round=>
  clear HST hz1
  obtain⟨k,f,hk,rfl,hX,hR,hS,hA,hb,hz⟩:=hrel
  have HX:=hideW hX
  have HRr:=hideW hR
  have HS:=hideW hS
  have HA:=hideW hA
  clear hX hR hS hA
  obtain⟨⟨x0,x1⟩,⟨x2,x3⟩,⟨x4,x5⟩,⟨x6,x7⟩,⟨x8,x9⟩,⟨x10,x11⟩⟩:=HX.out
  by_cases hlt:k<W.pn+W.sn
  ·have hlt':(k:Int)<(W.pn+W.sn:Int):=by omega
   by_cases hlp:k<W.pn
   ·have hlp':(k:Int)<(W.pn:Int):=by omega
    obtain⟨b,off,vd,rfl,hsc⟩:=(Hp.out.snaps.below hb).cells hlp
    have q3:=hsc.c3
    have q5:=hsc.c5
    have q6:=hsc.c6
    have Hm:=hideW (show(memOf W k).prev=(W.snaps k).prev∧(memOf W k).rs=(W.snaps k).rs∧(memOf W k).rb=(W.snaps k).rb from by rw [memOf_snap hlp]; exact⟨rfl,rfl,rfl⟩)
    clear hsc
    have hba:=below_alloc wr (.cells #[.int .i64 0,.int .i64 0] 61)
    have HX1:=hideW (HX.out.below hba)
    have HV1:=hideW (Box2.new wr (.int .i64 0) (.int .i64 0) 61)
    have HR1:=hideW (HRr.out.below hba)
    have r3:=(hba.cell (lt_of_cell q3)).trans q3
    have r5:=(hba.cell (lt_of_cell q5)).trans q5
    have r6:=(hba.cell (lt_of_cell q6)).trans q6
    have hb1:=below_next hb hba
    have hz2:(wr.alloc (.cells #[.int .i64 0,.int .i64 0] 61)).heap.size=wr.heap.size+1:=World.size_alloc _ _
    have hlb:b<wr.heap.size:=lt_of_cell q3
    have hne1:w.heap.size≠wr.heap.size:=by omega
    have hne2:b≠wr.heap.size:=by omega
    obtain⟨⟨y0,y1⟩,⟨y2,y3⟩,⟨y4,y5⟩,⟨y6,y7⟩,⟨y8,y9⟩,⟨y10,y11⟩⟩:=HX1.out
    obtain⟨⟨p0,p1⟩,⟨p2,p3⟩⟩:=HV1.out
    generalize hxe:(W.snaps k).prev=x at *
    generalize hrse:(W.snaps k).rs=rs at *
    generalize hrbe:(W.snaps k).rb=rb at *
    have Hxe:=hideW (And.intro hxe (And.intro hrse hrbe))
    clear hxe hrse hrbe
    have hbc:=below_alloc wr (.cells #[.int .i64 rs,.int .i64 rb] 61)
    have HX2:=hideW (HX.out.below hbc)
    have HV2:=hideW (Box2.new wr (.int .i64 rs) (.int .i64 rb) 61)
    have HR2:=hideW (HRr.out.below hbc)
    have hb2:=below_next hb hbc
    obtain⟨⟨z0,z1⟩,⟨z2,z3⟩,⟨z4,z5⟩,⟨z6,z7⟩,⟨z8,z9⟩,⟨z10,z11⟩⟩:=HX2.out
    go_wp2_with fail
    clear x0 x1 x2 x3 x4 x5 x6 x7 x8 x9 x10 x11 y0 y1 y2 y3 y4 y5 y6 y7 y8 y9 y10 y11 z0 z1 z2 z3 z4 z5 z6 z7 z8 z9 z10 z11 p0 p1 p2 p3 r3 r5 r6 q3 q5 q6 HX1 HV1 HR1 hb1 hba hz2 hne1 hne2 hlb hbc
    have hz3:w.heap.size+2≤(wr.alloc (.cells #[.int .i64 rs,.int .i64 rb] 61)).heap.size:=by rw [World.size_alloc]; omega
    generalize wr.alloc (.cells #[.int .i64 rs,.int .i64 rb] 61)=W3 at HX2 HV2 HR2 hb2 hz3 ⊢
    refine(l04Ahead_any _ v1 _ _ lo hi W x W3 (Hp.out.below hb2)).mono ?_
    rintro e w1 ⟨s,bb,t,rfl,hF,hb3⟩
    have hq:=ahead_of HP.out hF
    have Hto:=hideW (show TreeOk W.pool s bb by rw [hq.1,hq.2.1]; exact HT.out.old x)
    have Htn:=hideW (show TreeOk W.pool rs rb by have:=HT.out.tree k (by unfold memN; omega); rw [Hm.out.2.1,Hm.out.2.2] at this; exact this)
    have HE:=hideW (show treeL W.pool rs rb=treeM W (memOf W k)∧treeL W.pool s bb=oldM W (memOf W k)by unfold treeM oldM; rw [Hm.out.1,Hm.out.2.1,Hm.out.2.2,hq.1,hq.2.1]; exact⟨rfl,rfl⟩)
    have ha4:=below_alloc w1 (.cells #[.int .i64 s,.int .i64 bb] 61)
    have HX4:=hideW ((HX2.out.below hb3).below ha4)
    have HV4:=hideW ((HV2.out.below hb3).below ha4)
    have HR4:=hideW ((HR2.out.below hb3).below ha4)
    have HY4:=hideW (Box2.new w1 (.int .i64 s) (.int .i64 bb) 61)
    have hb5:=below_next (below_next hb2 hb3) ha4
    have hz5:w.heap.size+2≤(w1.alloc (.cells #[.int .i64 s,.int .i64 bb] 61)).heap.size:=by have h1:=hb3.size; have h2:=ha4.size; omega
    clear hq hF hb3 ha4 HX2 HV2 HR2 hb2 hz3 Hxe Hm
    obtain⟨⟨x0,x1⟩,⟨x2,x3⟩,⟨x4,x5⟩,⟨x6,x7⟩,⟨x8,x9⟩,⟨x10,x11⟩⟩:=HX4.out
    obtain⟨⟨p0,p1⟩,⟨p2,p3⟩⟩:=HY4.out
    clear x4 x5 x6 x7 x8 x9 x10 x11 x1 x3 p1 p3
    go_wp2_with fail
    clear x0 x2 p0 p2
    generalize w1.alloc (.cells #[.int .i64 s,.int .i64 bb] 61)=w4 at HX4 HV4 HR4 HY4 hb5 hz5 ⊢
    refine(l02Ptrs_any _ v1 lo hi W.pool s bb w4 (Hp.out.pool.below hb5) HT.out.right Hto.out).mono ?_
    rintro e w5 ⟨vo,rfl,hro,hb6⟩
    have HX5:=hideW (HX4.out.below hb6)
    have HV5:=hideW (HV4.out.below hb6)
    have HR5:=hideW (HR4.out.below hb6)
    have Hro:=hideW (hro.mono hz5)
    have hb7:=below_next hb5 hb6
    have hz6:w.heap.size+2≤w5.heap.size:=by have h1:=hb6.size; omega
    clear hro hb6 HX4 HV4 HR4 HY4 hb5 hz5 Hto
    obtain⟨⟨x0,x1⟩,⟨x2,x3⟩,⟨x4,x5⟩,⟨x6,x7⟩,⟨x8,x9⟩,⟨x10,x11⟩⟩:=HX5.out
    obtain⟨⟨p0,p1⟩,⟨p2,p3⟩⟩:=HV5.out
    clear x4 x5 x6 x7 x8 x9 x10 x11 x1 x3 p1 p3
    go_wp2_with fail
    clear x0 x2 p0 p2
    refine(l02Ptrs_any _ v1 lo hi W.pool rs rb w5 (Hp.out.pool.below hb7) HT.out.right Htn.out).mono ?_
    rintro e w6 ⟨vn,rfl,hrn,hb8⟩
    have HX6:=hideW (HX5.out.below hb8)
    have HR6:=hideW (HR5.out.below hb8)
    have Hro6:=hideW (Hro.out.below hb8)
    have Hrn6:=hideW (hrn.mono hz6)
    have hb9:=below_next hb7 hb8
    have hz9:w.heap.size+2≤w6.heap.size:=by have h1:=hb8.size; omega
    have Hsl:=hideW (fun j (hj:j<(treeL W.pool rs rb).length)=>slot_nat HT.out.right Htn.out hj)
    have hln:=treeL_len W.pool rs rb
    have hlo:=treeL_len W.pool s bb
    clear hrn hb8 HX5 HV5 HR5 Hro hb7 hz6 Htn
    obtain⟨an,cn,rfl,hcn⟩:=owns_form Hrn6.out
    generalize treeL W.pool rs rb=now at *
    generalize treeL W.pool s bb=old at *
    go_wp2
    go_loopw [11] (fun i wr2=>∃j:Nat,∃f,j≤now.length∧i = .int .i64 j∧RowL wr2 (w.heap.size+2) vo old∧RowL wr2 (w.heap.size+2) (.slice an now.length cn) now∧Box6 wr2 w.heap.size (.slice a0 W.pool.n c0) v1 (.int .i64 W.time) (.int .i64 W.next) (.slice a' W.sn c') (.slice (some ⟨b,off,none⟩) W.pn c)∧BoolsC wr2 (w.heap.size+1) W.pool.n f∧SeensN W k now old j f∧ApartRow W k now old j∧Below w.heap.size w wr2∧w.heap.size+2≤wr2.heap.size) (fun i _=>now.length - (intOf i).toNat)
    case atStart=>exact⟨0,f,Nat.zero_le _,rfl,Hro6.out,Hrn6.out,HX6.out,HR6.out,seen_start HS.out _ _,fun q hq=>absurd hq (Nat.not_lt_zero _),hb9,hz9⟩
    case round=>
     clear HX6 HR6 Hro6 Hrn6 hb9 hz9 HS HX HRr hb hz
     obtain⟨j,f,hj,rfl,hro,hrn,hX,hR,hS,hAr,hb,hz⟩:=hrel
     have Hro:=hideW hro
     have Hrn:=hideW hrn
     have HX:=hideW hX
     have HRr:=hideW hR
     have HS:=hideW hS
     have HAr:=hideW hAr
     clear hro hrn hX hR hS hAr
     by_cases hjt:j<now.length
     ·have hjt':(j:Int)<(now.length:Int):=by omega
      obtain⟨b2,off2,rfl,q0,q1⟩:=(Hrn.out.atW (by omega)).cellsD hjt
      obtain⟨sl,hs1,hs2⟩:=Hsl.out j hjt
      have hs3:(sl:Int)<(W.pool.n:Int):=by omega
      have Hs1:=hideW hs1
      clear hs1
      go_wp2_with fail
      refine(l03In_any _ old.length 0 _ (fstL old) (sndL old) (fstL now j) (sndL now j) _ (Hro.out.atW (by omega))).mono ?_
      rintro e w7 ⟨⟨t7,rfl,ht7⟩,hb10⟩
      have Hin:=hideW (ht7.trans pin_list)
      have z0:=(hb10.cell (p:=⟨b2,off2+j*2,none⟩) (lt_of_cell q0)).trans q0
      have Hro7:=hideW (Hro.out.below hb10)
      have Hrn7:=hideW (Hrn.out.below hb10)
      have HX7:=hideW (HX.out.below hb10)
      have HR7:=hideW (HRr.out.below hb10)
      have hb11:=below_next hb hb10
      have hz11:w.heap.size+2≤w7.heap.size:=by have h1:=hb10.size; omega
      clear ht7 hb10 q0 q1 Hro Hrn HX HRr hb hz
      cases t7
      ·have Hn:=hideW (show(fstL now j,sndL now j)∉old from fun h=>absurd (Hin.out.2 h) (by simp))
       clear Hin
       rw [Hs1.out] at z0
       obtain⟨y0,y1⟩:=HR7.out sl hs2
       cases hfs:f sl
       ·have Hfs:=hideW hfs
        rw [hfs] at y0
        clear hfs
        go_wp2
        go_roundw
        case rel=>exact⟨j+1,_,by omega,by go_num,Hro7.out.put (by omega) _,Hrn7.out.put (by omega) _,HX7.out.turned (Turned.put _ (w.heap.size+1) sl _) (by omega),HR7.out.put true,seen_mark HS.out Hs1.out Hn.out,row_mark HAr.out HS.out Hs1.out Hfs.out,hb11.setCell (show w.heap.size≤w.heap.size+1 by omega) _,by rw [World.size_setCell]; exact hz11⟩
        case measure=>simp [intOf]; omega
       ·have Hfs:=hideW hfs
        rw [hfs] at y0
        clear hfs
        go_wp2
        go_ret
        exact⟨BoolIs.no (seen_twice HT.out (by unfold memN; omega) HE.out.1 HE.out.2 HS.out hjt Hs1.out Hn.out Hfs.out),hb11⟩
      ·have Hn:=hideW (Hin.out.1 rfl)
       clear Hin
       go_wp2
       go_roundw
       case rel=>exact⟨j+1,f,by omega,by go_num,Hro7.out,Hrn7.out,HX7.out,HR7.out,seen_skip HS.out Hn.out,row_skip HAr.out Hn.out,hb11,hz11⟩
       case measure=>simp [intOf]; omega
     ·obtain rfl:j=now.length:=by omega
      go_wp2
      go_roundw
      case rel=>exact⟨k+1,f,by omega,by go_num,HX.out,HRr.out,seen_tree HS.out HE.out.1 HE.out.2,apart_next HA.out HE.out.1 HE.out.2 HAr.out,hb,hz⟩
      case measure=>simp [intOf]; omega
   ·have hlp':¬(k:Int)<(W.pn:Int):=by omega
    have hks:k - W.pn<W.sn:=by omega
    have hsub:(k:Int) - (W.pn:Int)=((k - W.pn:Nat):Int):=(Int.ofNat_sub (by omega)).symm
    have hks':((k - W.pn:Nat):Int)<(W.sn:Int):=Int.ofNat_lt.2 hks
    obtain⟨b,off,vd,rfl,hsc⟩:=(Hp.out.sets.below hb).cells hks
    have q3:=hsc.c2
    have q5:=hsc.c3
    have q6:=hsc.c4
    have Hm:=hideW (show(memOf W k).prev=(W.sets (k - W.pn)).prev∧(memOf W k).rs=(W.sets (k - W.pn)).rs∧(memOf W k).rb=(W.sets (k - W.pn)).rb from by have e:=memOf_set W (k - W.pn); rw [show W.pn+(k - W.pn)=k by omega] at e; rw [e]; exact⟨rfl,rfl,rfl⟩)
    clear hsc
    have hba:=below_alloc wr (.cells #[.int .i64 0,.int .i64 0] 61)
    have HX1:=hideW (HX.out.below hba)
    have HV1:=hideW (Box2.new wr (.int .i64 0) (.int .i64 0) 61)
    have HR1:=hideW (HRr.out.below hba)
    have r3:=(hba.cell (lt_of_cell q3)).trans q3
    have r5:=(hba.cell (lt_of_cell q5)).trans q5
    have r6:=(hba.cell (lt_of_cell q6)).trans q6
    have hb1:=below_next hb hba
    have hz2:(wr.alloc (.cells #[.int .i64 0,.int .i64 0] 61)).heap.size=wr.heap.size+1:=World.size_alloc _ _
    have hlb:b<wr.heap.size:=lt_of_cell q3
    have hne1:w.heap.size≠wr.heap.size:=by omega
    have hne2:b≠wr.heap.size:=by omega
    obtain⟨⟨y0,y1⟩,⟨y2,y3⟩,⟨y4,y5⟩,⟨y6,y7⟩,⟨y8,y9⟩,⟨y10,y11⟩⟩:=HX1.out
    obtain⟨⟨p0,p1⟩,⟨p2,p3⟩⟩:=HV1.out
    generalize hxe:(W.sets (k - W.pn)).prev=x at *
    generalize hrse:(W.sets (k - W.pn)).rs=rs at *
    generalize hrbe:(W.sets (k - W.pn)).rb=rb at *
    have Hxe:=hideW (And.intro hxe (And.intro hrse hrbe))
    clear hxe hrse hrbe
    have hbc:=below_alloc wr (.cells #[.int .i64 rs,.int .i64 rb] 61)
    have HX2:=hideW (HX.out.below hbc)
    have HV2:=hideW (Box2.new wr (.int .i64 rs) (.int .i64 rb) 61)
    have HR2:=hideW (HRr.out.below hbc)
    have hb2:=below_next hb hbc
    obtain⟨⟨z0,z1⟩,⟨z2,z3⟩,⟨z4,z5⟩,⟨z6,z7⟩,⟨z8,z9⟩,⟨z10,z11⟩⟩:=HX2.out
    go_wp2_with fail
    clear x0 x1 x2 x3 x4 x5 x6 x7 x8 x9 x10 x11 y0 y1 y2 y3 y4 y5 y6 y7 y8 y9 y10 y11 z0 z1 z2 z3 z4 z5 z6 z7 z8 z9 z10 z11 p0 p1 p2 p3 r3 r5 r6 q3 q5 q6 HX1 HV1 HR1 hb1 hba hz2 hne1 hne2 hlb hbc
    have hz3:w.heap.size+2≤(wr.alloc (.cells #[.int .i64 rs,.int .i64 rb] 61)).heap.size:=by rw [World.size_alloc]; omega
    generalize wr.alloc (.cells #[.int .i64 rs,.int .i64 rb] 61)=W3 at HX2 HV2 HR2 hb2 hz3 ⊢
    refine(l04Ahead_any _ v1 _ _ lo hi W x W3 (Hp.out.below hb2)).mono ?_
    rintro e w1 ⟨s,bb,t,rfl,hF,hb3⟩
    have hq:=ahead_of HP.out hF
    have Hto:=hideW (show TreeOk W.pool s bb by rw [hq.1,hq.2.1]; exact HT.out.old x)
    have Htn:=hideW (show TreeOk W.pool rs rb by have:=HT.out.tree k (by unfold memN; omega); rw [Hm.out.2.1,Hm.out.2.2] at this; exact this)
    have HE:=hideW (show treeL W.pool rs rb=treeM W (memOf W k)∧treeL W.pool s bb=oldM W (memOf W k)by unfold treeM oldM; rw [Hm.out.1,Hm.out.2.1,Hm.out.2.2,hq.1,hq.2.1]; exact⟨rfl,rfl⟩)
    have ha4:=below_alloc w1 (.cells #[.int .i64 s,.int .i64 bb] 61)
    have HX4:=hideW ((HX2.out.below hb3).below ha4)
    have HV4:=hideW ((HV2.out.below hb3).below ha4)
    have HR4:=hideW ((HR2.out.below hb3).below ha4)
    have HY4:=hideW (Box2.new w1 (.int .i64 s) (.int .i64 bb) 61)
    have hb5:=below_next (below_next hb2 hb3) ha4
    have hz5:w.heap.size+2≤(w1.alloc (.cells #[.int .i64 s,.int .i64 bb] 61)).heap.size:=by have h1:=hb3.size; have h2:=ha4.size; omega
    clear hq hF hb3 ha4 HX2 HV2 HR2 hb2 hz3 Hxe Hm
    obtain⟨⟨x0,x1⟩,⟨x2,x3⟩,⟨x4,x5⟩,⟨x6,x7⟩,⟨x8,x9⟩,⟨x10,x11⟩⟩:=HX4.out
    obtain⟨⟨p0,p1⟩,⟨p2,p3⟩⟩:=HY4.out
    clear x4 x5 x6 x7 x8 x9 x10 x11 x1 x3 p1 p3
    go_wp2_with fail
    clear x0 x2 p0 p2
    generalize w1.alloc (.cells #[.int .i64 s,.int .i64 bb] 61)=w4 at HX4 HV4 HR4 HY4 hb5 hz5 ⊢
    refine(l02Ptrs_any _ v1 lo hi W.pool s bb w4 (Hp.out.pool.below hb5) HT.out.right Hto.out).mono ?_
    rintro e w5 ⟨vo,rfl,hro,hb6⟩
    have HX5:=hideW (HX4.out.below hb6)
    have HV5:=hideW (HV4.out.below hb6)
    have HR5:=hideW (HR4.out.below hb6)
    have Hro:=hideW (hro.mono hz5)
    have hb7:=below_next hb5 hb6
    have hz6:w.heap.size+2≤w5.heap.size:=by have h1:=hb6.size; omega
    clear hro hb6 HX4 HV4 HR4 HY4 hb5 hz5 Hto
    obtain⟨⟨x0,x1⟩,⟨x2,x3⟩,⟨x4,x5⟩,⟨x6,x7⟩,⟨x8,x9⟩,⟨x10,x11⟩⟩:=HX5.out
    obtain⟨⟨p0,p1⟩,⟨p2,p3⟩⟩:=HV5.out
    clear x4 x5 x6 x7 x8 x9 x10 x11 x1 x3 p1 p3
    go_wp2_with fail
    clear x0 x2 p0 p2
    refine(l02Ptrs_any _ v1 lo hi W.pool rs rb w5 (Hp.out.pool.below hb7) HT.out.right Htn.out).mono ?_
    rintro e w6 ⟨vn,rfl,hrn,hb8⟩
    have HX6:=hideW (HX5.out.below hb8)
    have HR6:=hideW (HR5.out.below hb8)
    have Hro6:=hideW (Hro.out.below hb8)
    have Hrn6:=hideW (hrn.mono hz6)
    have hb9:=below_next hb7 hb8
    have hz9:w.heap.size+2≤w6.heap.size:=by have h1:=hb8.size; omega
    have Hsl:=hideW (fun j (hj:j<(treeL W.pool rs rb).length)=>slot_nat HT.out.right Htn.out hj)
    have hln:=treeL_len W.pool rs rb
    have hlo:=treeL_len W.pool s bb
    clear hrn hb8 HX5 HV5 HR5 Hro hb7 hz6 Htn
    obtain⟨an,cn,rfl,hcn⟩:=owns_form Hrn6.out
    generalize treeL W.pool rs rb=now at *
    generalize treeL W.pool s bb=old at *
    go_wp2
    go_loopw [11] (fun i wr2=>∃j:Nat,∃f,j≤now.length∧i = .int .i64 j∧RowL wr2 (w.heap.size+2) vo old∧RowL wr2 (w.heap.size+2) (.slice an now.length cn) now∧Box6 wr2 w.heap.size (.slice a0 W.pool.n c0) v1 (.int .i64 W.time) (.int .i64 W.next) (.slice (some ⟨b,off,none⟩) W.sn c') (.slice a W.pn c)∧BoolsC wr2 (w.heap.size+1) W.pool.n f∧SeensN W k now old j f∧ApartRow W k now old j∧Below w.heap.size w wr2∧w.heap.size+2≤wr2.heap.size) (fun i _=>now.length - (intOf i).toNat)
    case atStart=>exact⟨0,f,Nat.zero_le _,rfl,Hro6.out,Hrn6.out,HX6.out,HR6.out,seen_start HS.out _ _,fun q hq=>absurd hq (Nat.not_lt_zero _),hb9,hz9⟩
    case round=>
     clear HX6 HR6 Hro6 Hrn6 hb9 hz9 HS HX HRr hb hz
     obtain⟨j,f,hj,rfl,hro,hrn,hX,hR,hS,hAr,hb,hz⟩:=hrel
     have Hro:=hideW hro
     have Hrn:=hideW hrn
     have HX:=hideW hX
     have HRr:=hideW hR
     have HS:=hideW hS
     have HAr:=hideW hAr
     clear hro hrn hX hR hS hAr
     by_cases hjt:j<now.length
     ·have hjt':(j:Int)<(now.length:Int):=by omega
      obtain⟨b2,off2,rfl,q0,q1⟩:=(Hrn.out.atW (by omega)).cellsD hjt
      obtain⟨sl,hs1,hs2⟩:=Hsl.out j hjt
      have hs3:(sl:Int)<(W.pool.n:Int):=by omega
      have Hs1:=hideW hs1
      clear hs1
      go_wp2_with fail
      refine(l03In_any _ old.length 0 _ (fstL old) (sndL old) (fstL now j) (sndL now j) _ (Hro.out.atW (by omega))).mono ?_
      rintro e w7 ⟨⟨t7,rfl,ht7⟩,hb10⟩
      have Hin:=hideW (ht7.trans pin_list)
      have z0:=(hb10.cell (p:=⟨b2,off2+j*2,none⟩) (lt_of_cell q0)).trans q0
      have Hro7:=hideW (Hro.out.below hb10)
      have Hrn7:=hideW (Hrn.out.below hb10)
      have HX7:=hideW (HX.out.below hb10)
      have HR7:=hideW (HRr.out.below hb10)
      have hb11:=below_next hb hb10
      have hz11:w.heap.size+2≤w7.heap.size:=by have h1:=hb10.size; omega
      clear ht7 hb10 q0 q1 Hro Hrn HX HRr hb hz
      cases t7
      ·have Hn:=hideW (show(fstL now j,sndL now j)∉old from fun h=>absurd (Hin.out.2 h) (by simp))
       clear Hin
       rw [Hs1.out] at z0
       obtain⟨y0,y1⟩:=HR7.out sl hs2
       cases hfs:f sl
       ·have Hfs:=hideW hfs
        rw [hfs] at y0
        clear hfs
        go_wp2
        go_roundw
        case rel=>exact⟨j+1,_,by omega,by go_num,Hro7.out.put (by omega) _,Hrn7.out.put (by omega) _,HX7.out.turned (Turned.put _ (w.heap.size+1) sl _) (by omega),HR7.out.put true,seen_mark HS.out Hs1.out Hn.out,row_mark HAr.out HS.out Hs1.out Hfs.out,hb11.setCell (show w.heap.size≤w.heap.size+1 by omega) _,by rw [World.size_setCell]; exact hz11⟩
        case measure=>simp [intOf]; omega
       ·have Hfs:=hideW hfs
        rw [hfs] at y0
        clear hfs
        go_wp2
        go_ret
        exact⟨BoolIs.no (seen_twice HT.out (by unfold memN; omega) HE.out.1 HE.out.2 HS.out hjt Hs1.out Hn.out Hfs.out),hb11⟩
      ·have Hn:=hideW (Hin.out.1 rfl)
       clear Hin
       go_wp2
       go_roundw
       case rel=>exact⟨j+1,f,by omega,by go_num,Hro7.out,Hrn7.out,HX7.out,HR7.out,seen_skip HS.out Hn.out,row_skip HAr.out Hn.out,hb11,hz11⟩
       case measure=>simp [intOf]; omega
     ·obtain rfl:j=now.length:=by omega
      go_wp2
      go_roundw
      case rel=>exact⟨k+1,f,by omega,by go_num,HX.out,HRr.out,seen_tree HS.out HE.out.1 HE.out.2,apart_next HA.out HE.out.1 HE.out.2 HAr.out,hb,hz⟩
      case measure=>simp [intOf]; omega
  ·obtain rfl:k=W.pn+W.sn:=by omega
   go_wp2
   go_ret
   exact⟨BoolIs.yes HA.out,hb⟩
def HasId(W:WorldD)(x:Int):Prop:=∃k,k<W.pn∧(W.snaps k).id=x
def HasSet(W:WorldD)(x:ByteArray):Prop:=∃k,k<W.sn∧(W.sets k).name=x
def SetOk(W:WorldD)(i:Nat):Prop:=NameP (W.sets i).name∧(0<i→Rises (W.sets (i - 1)).name (W.sets i).name)∧((W.sets i).prev≠0→HasId W (W.sets i).prev)∧((W.sets i).origin≠0→HasId W (W.sets i).origin)
def SnapA(W:WorldD)(i:Nat):Prop:=1≤(W.snaps i).id∧(W.snaps i).id<W.next∧1≤(W.snaps i).time∧(W.snaps i).time<W.time∧NameP (W.snaps i).name∧HasSet W (W.snaps i).set
def SnapB(W:WorldD)(i:Nat):Prop:=(0<i→(W.snaps (i - 1)).id<(W.snaps i).id∧(W.snaps (i - 1)).time<(W.snaps i).time)∧((W.snaps i).prev≠0→(W.snaps i).prev<(W.snaps i).id∧HasId W (W.snaps i).prev)
def SnapC(W:WorldD)(i j:Nat):Prop:=∀k,k<j→¬((W.snaps k).set=(W.snaps i).set∧(W.snaps k).name=(W.snaps i).name)
def SnapOk(W:WorldD)(i:Nat):Prop:=SnapA W i∧SnapB W i∧SnapC W i i
def SpecNames(W:WorldD):Prop:=Between W.time 1 900000∧Between W.next 1 900000∧W.sn≤8∧W.pn≤20∧(∀i,i<W.sn→SetOk W i)∧∀i,i<W.pn→SnapOk W i
theorem first_snap{W:WorldD}{x r:Int}(h:FirstAt W.pn (fun k=>(W.snaps k).id=x) r):(HasId W x∧0≤r∧r<W.pn∧(W.snaps r.toNat).id=x)∨(¬HasId W x∧r = -1):=by
 rcases h with⟨k,hk,e,_,rfl⟩ | ⟨hn,rfl⟩
 ·exact Or.inl ⟨⟨k,hk,e⟩,by omega,by omega,by simpa using e⟩
 ·exact Or.inr ⟨fun ⟨k,hk,e⟩=>hn k hk e,rfl⟩
theorem first_set{W:WorldD}{x:ByteArray}{r:Int}(h:FirstAt W.sn (fun k=>(W.sets k).name=x) r):(HasSet W x∧0≤r)∨(¬HasSet W x∧r = -1):=by
 rcases h with⟨k,hk,e,_,rfl⟩ | ⟨hn,rfl⟩
 ·exact Or.inl ⟨⟨k,hk,e⟩,by omega⟩
 ·exact Or.inr ⟨fun ⟨k,hk,e⟩=>hn k hk e,rfl⟩
def Box8(w:World)(b:Nat)(v0 v1 v2 v3 v4 v5 v6 v7:Value):Prop:=(Cell w b 0 v0∧Cell w b 1 v1∧Cell w b 2 v2∧Cell w b 3 v3)∧(Cell w b 4 v4∧Cell w b 5 v5∧Cell w b 6 v6∧Cell w b 7 v7)
theorem Box8.below{w w':World}{b:Nat}{v0 v1 v2 v3 v4 v5 v6 v7:Value}(h:Box8 w b v0 v1 v2 v3 v4 v5 v6 v7)(t:Below w.heap.size w w'):Box8 w' b v0 v1 v2 v3 v4 v5 v6 v7:=
 ⟨⟨h.1.1.below t,h.1.2.1.below t,h.1.2.2.1.below t,h.1.2.2.2.below t⟩,h.2.1.below t,h.2.2.1.below t,h.2.2.2.1.below t,h.2.2.2.2.below t⟩
theorem Box8.new(w:World)(v0 v1 v2 v3 v4 v5 v6 v7:Value)(t:TypeId):Box8 (w.alloc (.cells #[v0,v1,v2,v3,v4,v5,v6,v7] t)) w.heap.size v0 v1 v2 v3 v4 v5 v6 v7:=by
 have hb:(w.alloc (.cells #[v0,v1,v2,v3,v4,v5,v6,v7] t)).heap[w.heap.size]?=some (.cells #[v0,v1,v2,v3,v4,v5,v6,v7] t):=heap_alloc_new _ _
 exact⟨⟨cell_of_block hb rfl,cell_of_block hb rfl,cell_of_block hb rfl,cell_of_block hb rfl⟩,cell_of_block hb rfl,cell_of_block hb rfl,cell_of_block hb rfl,cell_of_block hb rfl⟩
end Go.Proofs.YtmgeglgboadfiaaGreatDoor
