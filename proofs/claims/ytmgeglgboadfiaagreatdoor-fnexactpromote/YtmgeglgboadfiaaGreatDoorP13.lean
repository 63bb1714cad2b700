/- What impl.snapsById and impl.namesApart answer. -/
import Derived.Test.YtmgeglgboadfiaaGreatDoorP12
import Derived.Test.YtmgeglgboadfiaaGreatDoorP10
namespace Go.Proofs.YtmgeglgboadfiaaGreatDoor
open Go.RowKit Go.Maps
set_option linter.unusedVariables false
def IdsWf(n:Nat)(f:Nat→SnapD):Prop:=∀i,i<n→(Lit.int .i64 (f i).id).wf=true
set_option maxRecDepth 20000 in
set_option maxHeartbeats 2000000 in
theorem snapsById_any(v0 v1 v2 v3:Value)(lo hi:Nat)(W:WorldD)(w:World)(h:WorldAt w lo hi v0 v1 v2 v3 W)(hn:W.pn≤20)(hwf:IdsWf W.pn W.snaps) :
  Calls Tryz.prog 179 #[worldV v0 v1 v2 v3 W] w fun e w'=>∃vd,e = .returned (.map (some (w.heap.size+1)))∧SnapsMap w' W (w.heap.size+1) W.pn vd∧SnapDeads w lo hi W.pn W.snaps vd∧Below w.heap.size w w':=by
 have Hp:=hideW h
 have Hwf:=hideW hwf
 obtain⟨m1,a,c,rfl,mc,-⟩:=id h.snaps
 unfold maxLen at m1
 obtain⟨vd,hvd,hcs⟩:=h.snaps.vals
 have Hvd:=hideW hvd
 have Hcs:=hideW hcs
 clear h hvd hcs hwf
 have ha:=below_alloc w (.cells #[v0,v1,.int .i64 W.time,.int .i64 W.next,v2,.slice a W.pn c] 37)
 have HB:=hideW (Box6.new w v0 v1 (.int .i64 W.time) (.int .i64 W.next) v2 (.slice a W.pn c) 37)
 have hz1:(w.alloc (.cells #[v0,v1,.int .i64 W.time,.int .i64 W.next,v2,.slice a W.pn c] 37)).heap.size=w.heap.size+1:=World.size_alloc _ _
 have hm:=World.ownsMap_made (w.alloc (.cells #[v0,v1,.int .i64 W.time,.int .i64 W.next,v2,.slice a W.pn c] 37)) Tryz.prog 2 rawE
 rw [hz1] at hm
 have HM:=hideW hm
 have HB2:=hideW (HB.out.below (below_alloc _ (.map #[] 0)))
 have Hb2:=hideW (below_next ha (below_alloc _ (.map #[] 0)))
 have hmm:=@run_makeMap Tryz.prog
 obtain⟨⟨x0,-⟩,⟨x2,-⟩,⟨x4,-⟩,⟨x6,-⟩,⟨x8,-⟩,⟨x10,-⟩⟩:=HB2.out
 clear hm
 go_enter Tryz.func179,Tryz.ntmps179
 go_wp2
 clear x0 x2 x4 x6 x8 x10 ha
 go_loopw [10] (fun i wr=>∃k:Nat,k≤W.pn∧i = .int .i64 k∧SnapsMap wr W (w.heap.size+1) k vd∧Below w.heap.size w wr∧w.heap.size+2≤wr.heap.size) (fun i _=>W.pn - (intOf i).toNat)
 case atStart=>exact⟨0,Nat.zero_le _,rfl,HM.out,Hb2.out,by rw [World.size_alloc,hz1]; omega⟩
 case round=>
  clear HM HB2 Hb2 HB hz1
  obtain⟨k,hk,rfl,hown,hb,hz⟩:=hrel
  have Hown:=hideW hown
  clear hown
  by_cases hlt:k<W.pn
  ·have hlt':(k:Int)<(W.pn:Int):=by omega
   obtain⟨b,off,rfl,hs0⟩:=Hcs.out k hlt
   have hs2:=hs0.below hb
   obtain⟨-,ad,cd,hvk,-,-⟩:=id hs2.dead
   have Hvk:=hideW hvk
   rw [hvk] at hs2
   clear hvk hs0
   have hbs:=below_alloc wr (.cells #[.int .i64 (W.snaps k).id,.string (W.snaps k).name,.string (W.snaps k).set,.int .i64 (W.snaps k).prev,.int .i64 (W.snaps k).time,.int .i64 (W.snaps k).rs,.int .i64 (W.snaps k).rb,.slice ad (W.snaps k).dn cd] 99)
   have HVs:=hideW (Box8.new wr (.int .i64 (W.snaps k).id) (.string (W.snaps k).name) (.string (W.snaps k).set) (.int .i64 (W.snaps k).prev) (.int .i64 (W.snaps k).time) (.int .i64 (W.snaps k).rs) (.int .i64 (W.snaps k).rb) (.slice ad (W.snaps k).dn cd) 99)
   have hbw:=below_next hb hbs
   have q0:=hs2.c0
   have q1:=hs2.c1
   have q2:=hs2.c2
   have q3:=hs2.c3
   have q4:=hs2.c4
   have q5:=hs2.c5
   have q6:=hs2.c6
   have q7:=hs2.c7
   have Hkey:=hideW (keyN_of (Hwf.out k hlt))
   obtain⟨⟨⟨y0,-⟩,⟨y1,-⟩,⟨y2,-⟩,⟨y3,-⟩⟩,⟨y4,-⟩,⟨y5,-⟩,⟨y6,-⟩,⟨y7,-⟩⟩:=HVs.out
   have Hown2:=hideW (Hown.out.below hbs)
   have hz2:=hbs.size
   clear hs2 hbs
   go_wp2_with (first
    | (at_mapUpdate; refine wpList_mapUpdate_own _ rfl _ _ _ 218 rfl 2 99 lawI snapsT rawE (w.heap.size+1) k _ rfl Hown2.out (by unfold maxLen; omega) _ _ _ rfl rfl Hkey.out _ [] (rawE_mk _) ?_; intro w1 hown1 hgrow1)
    | go_in)
   go_roundw
   case rel=>
    refine⟨k+1,by omega,by go_num,?_,hbw.grown hgrow1 hbw.size (fun j hj=>by cases hj; omega),by have:=hgrow1.size; omega⟩
    unfold SnapsMap putD snapV
    rw [Hvk.out]
    exact hown1
   case measure=>simp [intOf]; omega
  ·obtain rfl:k=W.pn:=by omega
   go_wp2
   go_ret
   exact⟨vd,rfl,Hown.out,Hvd.out,hb⟩
def NamesApart(n:Nat)(f:Nat→SnapD):Prop:=∀i,i<n→∀k,k<i→¬((f k).set=(f i).set∧(f k).name=(f i).name)
theorem NamesApart.iff{n:Nat}{f:Nat→SnapD}{key:Nat→Lit}(hk:∀i,i<n→keyOf Tryz.prog 266 (.agg #[.string (f i).set,.string (f i).name])=some (key i)):DistL n key↔NamesApart n f:=by
 constructor
 ·intro h i hi k hk' e
  refine h i hi k hk' ?_
  have h1:=hk i hi
  have h2:=hk k (by omega)
  rw [e.1,e.2,h1] at h2
  exact(Option.some.inj h2).symm
 ·intro h i hi k hk' e
  have h1:=hk i hi
  have h2:=hk k (by omega)
  rw [e] at h2
  have:=lawT.inj h2 h1
  simp only [Value.agg.injEq,Array.mk.injEq,List.cons.injEq,Value.string.injEq,and_true] at this
  exact h i hi k hk' this
set_option maxRecDepth 20000 in
set_option maxHeartbeats 2000000 in
theorem namesApart_any(v:Value)(n lo hi:Nat)(f:Nat→SnapD)(w:World)(h:SnapsAt w lo hi v n f)(hn:n≤20) :
  Calls Tryz.prog 223 #[v] w fun e w'=>BoolIs (NamesApart n f) e∧Below w.heap.size w w':=by
 have Hp:=hideW h
 obtain⟨m1,a,c,rfl,mc,-⟩:=id h
 unfold maxLen at m1
 have hkx:∀i,∃l,WideAt.IsKeyLit l∧(i<n→keyOf Tryz.prog 266 (.agg #[.string (f i).set,.string (f i).name])=some l):=fun i=>by
  by_cases hi':i<n
  ·obtain⟨b,off,vd,_,hs⟩:=h.cells hi'
   obtain⟨l,hl⟩:=keyT_of hs.small.2 hs.small.1
   exact⟨l,lawT.key hl,fun _=>hl⟩
  ·exact⟨.string [],trivial,fun h=>absurd h hi'⟩
 obtain⟨key,hk1,hk2⟩:∃key:Nat→Lit,KeysOk key∧∀i,i<n→keyOf Tryz.prog 266 (.agg #[.string (f i).set,.string (f i).name])=some (key i):=⟨fun i=>(hkx i).choose,fun i=>(hkx i).choose_spec.1,fun i=>(hkx i).choose_spec.2⟩
 have Hkx:=hideW hk1
 have Hky:=hideW hk2
 clear h hkx hk1 hk2
 have HM:=hideW (World.ownsMap_made w Tryz.prog 266 rawE)
 have hmm:=@run_makeMap Tryz.prog
 go_enter Tryz.func223,Tryz.ntmps223
 go_wp2
 go_loopw [9] (fun i wr=>∃k:Nat,k≤n∧i = .int .i64 k∧wr.ownsMap Tryz.prog 266 rawE w.heap.size k (putD key (fun i=>.int .i64 (f i).id) k)∧Below w.heap.size w wr∧w.heap.size+1≤wr.heap.size) (fun i _=>n - (intOf i).toNat)
 case atStart=>exact⟨0,Nat.zero_le _,rfl,HM.out,below_alloc _ _,by rw [World.size_alloc]; omega⟩
 case round=>
  clear HM
  obtain⟨k,hk,rfl,hown,hb,hz⟩:=hrel
  have Hown:=hideW hown
  clear hown
  by_cases hlt:k<n
  ·have hlt':(k:Int)<(n:Int):=by omega
   obtain⟨b,off,vd,rfl,hs2⟩:=(Hp.out.below hb).cells hlt
   obtain⟨-,ad,cd,rfl,-,-⟩:=id hs2.dead
   have hbs:=below_alloc wr (.cells #[.int .i64 (f k).id,.string (f k).name,.string (f k).set,.int .i64 (f k).prev,.int .i64 (f k).time,.int .i64 (f k).rs,.int .i64 (f k).rb,.slice ad (f k).dn cd] 99)
   have HVs:=hideW (Box8.new wr (.int .i64 (f k).id) (.string (f k).name) (.string (f k).set) (.int .i64 (f k).prev) (.int .i64 (f k).time) (.int .i64 (f k).rs) (.int .i64 (f k).rb) (.slice ad (f k).dn cd) 99)
   have hbw:=below_next hb hbs
   have q0:=hs2.c0
   have q1:=hs2.c1
   have q2:=hs2.c2
   have q3:=hs2.c3
   have q4:=hs2.c4
   have q5:=hs2.c5
   have q6:=hs2.c6
   have q7:=hs2.c7
   have Hkey:=hideW (Hky.out k hlt)
   obtain⟨⟨⟨y0,-⟩,⟨y1,-⟩,⟨y2,-⟩,⟨y3,-⟩⟩,⟨y4,-⟩,⟨y5,-⟩,⟨y6,-⟩,⟨y7,-⟩⟩:=HVs.out
   have Hown2:=hideW (Hown.out.kept (grownL hbs none) (by simp))
   have hz2:=hbs.size
   clear hs2 hbs
   go_wp2_with (first
    | (at_mapUpdate; refine wpList_mapUpdate_own _ rfl _ _ _ 265 rfl 266 2 lawT apartT rawE w.heap.size k _ rfl Hown2.out (by unfold maxLen; omega) _ _ _ rfl rfl Hkey.out _ [] (rawE_mk _) ?_; intro w1 hown1 hgrow1)
    | go_in)
   go_roundw
   case rel=>exact⟨k+1,by omega,by go_num,hown1,hbw.grown hgrow1 hbw.size (fun j hj=>by cases hj; omega),by have:=hgrow1.size; omega⟩
   case measure=>simp [intOf]; omega
  ·obtain rfl:k=n:=by omega
   have Hsz:=hideW (putD_size Hkx.out (fun i=>.int .i64 (f i).id) k)
   have HN:=hideW (NamesApart.iff (f:=f) Hky.out)
   go_wp2_with (first
    | (at_len; refine wpList_len_own _ rfl _ 265 rfl 266 2 apartT rawE w.heap.size k _ rfl Hown.out ?_)
    | go_in)
   go_ret
   refine⟨⟨_,rfl,?_⟩,hb⟩
   have h1:=Hsz.out.2
   have h2:=HN.out
   simp only [beq_iff_eq,Int.natCast_inj]
   exact h1.trans h2
def lastS(f:Nat→SnapD):Nat→SnapD
 | 0=>zeroSnap
 | k+1=>f k
def SnapI(W:WorldD)(i:Nat):Prop:=HasSet W (W.snaps i).set∧NameP (W.snaps i).name∧(W.snaps i).prev<(W.snaps i).id∧Mid (lastS W.snaps i).id (W.snaps i).id W.next∧Mid (lastS W.snaps i).time (W.snaps i).time W.time
def SnapsI(W:WorldD):Prop:=W.pn≤20∧(∀i,i<W.pn→SnapI W i)∧NamesApart W.pn W.snaps
theorem zeroSetV(w:World):(zeroValue 67).run Tryz.prog w = .ok (.agg #[.string ⟨#[]⟩,.int .i64 0,.int .i64 0,.int .i64 0,.int .i64 0,.slice none 0 0]) w:=by kernel_rfl
theorem sets_look{W:WorldD}{vd:Nat→Value}(hd:∀i,i<W.sn→∃a n c,vd i = .slice a n c)(x:ByteArray):∃(s0:ByteArray) (i1 i2 i3 i4:Int) (a:Option Addr) (n c:Nat),(putD (fun i=>keyS (W.sets i).name) (fun i=>setV (vd i) (W.sets i)) W.sn).atKey (keyS x) (.held (.agg #[.string ⟨#[]⟩,.int .i64 0,.int .i64 0,.int .i64 0,.int .i64 0,.slice none 0 0])) = .held (.agg #[.string s0,.int .i64 i1,.int .i64 i2,.int .i64 i3,.int .i64 i4,.slice a n c]):=by
 have hk:KeysOk (fun i=>keyS (W.sets i).name):=fun i=>keyS_key _
 have:∀k,k≤W.sn→∃(s0:ByteArray) (i1 i2 i3 i4:Int) (a:Option Addr) (n c:Nat),(putD (fun i=>keyS (W.sets i).name) (fun i=>setV (vd i) (W.sets i)) k).atKey (keyS x) (.held (.agg #[.string ⟨#[]⟩,.int .i64 0,.int .i64 0,.int .i64 0,.int .i64 0,.slice none 0 0])) = .held (.agg #[.string s0,.int .i64 i1,.int .i64 i2,.int .i64 i3,.int .i64 i4,.slice a n c]):=by
  intro k
  induction k with
  | zero=>exact fun _=>⟨⟨#[]⟩,0,0,0,0,none,0,0,putD_none hk _ (fun i hi=>absurd hi (Nat.not_lt_zero _)) _⟩
  | succ k ih=>
   intro hk'
   by_cases e:keyS (W.sets k).name=keyS x
   ·obtain⟨a,n,c,hv⟩:=hd k (by omega)
    refine⟨(W.sets k).name,(W.sets k).origin,(W.sets k).prev,(W.sets k).rs,(W.sets k).rb,a,n,c,?_⟩
    rw [←e]
    refine(atKey_put_same (putD_tidy hk _ k).isMap (hk k) _ _).trans ?_
    show DataW.held (setV (vd k) (W.sets k))=_
    rw [hv]
    rfl
   ·obtain⟨s0,i1,i2,i3,i4,a,n,c,h⟩:=ih (by omega)
    exact⟨s0,i1,i2,i3,i4,a,n,c,(atKey_put_other (Ne.symm e) _ _).trans h⟩
 exact this W.sn (Nat.le_refl _)
theorem sets_has{W:WorldD}{vd:Nat→Value}(x:ByteArray):Maps.has (putD (fun i=>keyS (W.sets i).name) (fun i=>setV (vd i) (W.sets i)) W.sn) (keyS x)=true↔HasSet W x:=by
 rw [putD_has (fun i=>keyS_key _)]
 constructor
 ·rintro⟨i,hi,e⟩
  exact⟨i,hi,keyS_inj e⟩
 ·rintro⟨i,hi,e⟩
  exact⟨i,hi,by rw [e]⟩
abbrev put8(w:World)(b:Nat)(u0 u1 u2 u3 u4 u5 u6 u7:Value):World:=(((((((w.setCell ⟨b,0,none⟩ u0).setCell ⟨b,1,none⟩ u1).setCell ⟨b,2,none⟩ u2).setCell ⟨b,3,none⟩ u3).setCell ⟨b,4,none⟩ u4).setCell ⟨b,5,none⟩ u5).setCell ⟨b,6,none⟩ u6).setCell ⟨b,7,none⟩ u7
theorem Box8.put{w:World}{b:Nat}{v0 v1 v2 v3 v4 v5 v6 v7:Value}(h:Box8 w b v0 v1 v2 v3 v4 v5 v6 v7)(u0 u1 u2 u3 u4 u5 u6 u7:Value):Box8 (put8 w b u0 u1 u2 u3 u4 u5 u6 u7) b u0 u1 u2 u3 u4 u5 u6 u7:=by
 obtain⟨⟨h0,h1,h2,h3⟩,h4,h5,h6,h7⟩:=h
 refine⟨⟨?_,?_,?_,?_⟩,?_,?_,?_,?_⟩
 ·exact(((((((h0.set _).other _ (Or.inr (by omega))).other _ (Or.inr (by omega))).other _ (Or.inr (by omega))).other _ (Or.inr (by omega))).other _ (Or.inr (by omega))).other _ (Or.inr (by omega))).other _ (Or.inr (by omega))
 ·exact(((((((h1.other _ (Or.inr (by omega))).set _).other _ (Or.inr (by omega))).other _ (Or.inr (by omega))).other _ (Or.inr (by omega))).other _ (Or.inr (by omega))).other _ (Or.inr (by omega))).other _ (Or.inr (by omega))
 ·exact(((((((h2.other _ (Or.inr (by omega))).other _ (Or.inr (by omega))).set _).other _ (Or.inr (by omega))).other _ (Or.inr (by omega))).other _ (Or.inr (by omega))).other _ (Or.inr (by omega))).other _ (Or.inr (by omega))
 ·exact(((((((h3.other _ (Or.inr (by omega))).other _ (Or.inr (by omega))).other _ (Or.inr (by omega))).set _).other _ (Or.inr (by omega))).other _ (Or.inr (by omega))).other _ (Or.inr (by omega))).other _ (Or.inr (by omega))
 ·exact(((((((h4.other _ (Or.inr (by omega))).other _ (Or.inr (by omega))).other _ (Or.inr (by omega))).other _ (Or.inr (by omega))).set _).other _ (Or.inr (by omega))).other _ (Or.inr (by omega))).other _ (Or.inr (by omega))
 ·exact(((((((h5.other _ (Or.inr (by omega))).other _ (Or.inr (by omega))).other _ (Or.inr (by omega))).other _ (Or.inr (by omega))).other _ (Or.inr (by omega))).set _).other _ (Or.inr (by omega))).other _ (Or.inr (by omega))
 ·exact(((((((h6.other _ (Or.inr (by omega))).other _ (Or.inr (by omega))).other _ (Or.inr (by omega))).other _ (Or.inr (by omega))).other _ (Or.inr (by omega))).other _ (Or.inr (by omega))).set _).other _ (Or.inr (by omega))
 ·exact(((((((h7.other _ (Or.inr (by omega))).other _ (Or.inr (by omega))).other _ (Or.inr (by omega))).other _ (Or.inr (by omega))).other _ (Or.inr (by omega))).other _ (Or.inr (by omega))).other _ (Or.inr (by omega))).set _
theorem Turned.put8(w:World)(b:Nat)(u0 u1 u2 u3 u4 u5 u6 u7:Value):Turned (fun k=>k=b) w (put8 w b u0 u1 u2 u3 u4 u5 u6 u7):=
 (((((((Turned.put w b 0 u0).trans (Turned.put _ b 1 u1)).trans (Turned.put _ b 2 u2)).trans (Turned.put _ b 3 u3)).trans (Turned.put _ b 4 u4)).trans (Turned.put _ b 5 u5)).trans (Turned.put _ b 6 u6)).trans (Turned.put _ b 7 u7)
theorem SetsMap.put8{w:World}{W:WorldD}{M n b:Nat}{vd:Nat→Value}(h:SetsMap w W M n vd)(hb:M≠b)(u0 u1 u2 u3 u4 u5 u6 u7:Value):SetsMap (Go.Proofs.YtmgeglgboadfiaaGreatDoor.put8 w b u0 u1 u2 u3 u4 u5 u6 u7) W M n vd:=
 (((((((World.ownsMap.setCell h hb u0).setCell hb u1).setCell hb u2).setCell hb u3).setCell hb u4).setCell hb u5).setCell hb u6).setCell hb u7
theorem below_put8{B:Nat}{w w':World}(h:Below B w w'){b:Nat}(hb:B≤b)(u0 u1 u2 u3 u4 u5 u6 u7:Value):Below B w (put8 w' b u0 u1 u2 u3 u4 u5 u6 u7):=
 (((((((h.setCell hb u0).setCell hb u1).setCell hb u2).setCell hb u3).setCell hb u4).setCell hb u5).setCell hb u6).setCell hb u7
set_option maxRecDepth 20000 in
set_option maxHeartbeats 4000000 in
theorem snapsRight_any(v0 v1 v2 v3:Value)(lo hi:Nat)(W:WorldD)(w:World)(h:WorldAt w lo hi v0 v1 v2 v3 W)(hs:W.sn≤8) :
  Calls Tryz.prog 204 #[worldV v0 v1 v2 v3 W] w fun e w'=>BoolIs (SnapsI W) e∧Below w.heap.size w w':=by
 have Hp:=hideW h
 obtain⟨m1,a,c,rfl,mc,-⟩:=id h.snaps
 unfold maxLen at m1
 clear h
 have ha:=below_alloc w (.cells #[v0,v1,.int .i64 W.time,.int .i64 W.next,v2,.slice a W.pn c] 37)
 have HB:=hideW (Box6.new w v0 v1 (.int .i64 W.time) (.int .i64 W.next) v2 (.slice a W.pn c) 37)
 obtain⟨⟨x0,-⟩,⟨x2,-⟩,⟨x4,-⟩,⟨x6,-⟩,⟨x8,-⟩,⟨x10,-⟩⟩:=HB.out
 by_cases hn:W.pn≤20
 rotate_left
 ·have hn':(20:Int)<(W.pn:Int):=by omega
  go_enter Tryz.func204,Tryz.ntmps204
  go_wp2
  go_ret
  exact⟨BoolIs.no fun h=>hn h.1,ha⟩
 have hn':¬(20:Int)<(W.pn:Int):=by omega
 go_enter Tryz.func204,Tryz.ntmps204
 go_wp2_with fail
 clear x0 x2 x4 x6 x8 x10
 generalize w.alloc (.cells #[v0,v1,.int .i64 W.time,.int .i64 W.next,v2,.slice a W.pn c] 37)=W0 at ha HB ⊢
 refine(setsByName_any v0 v1 v2 _ lo hi W W0 (Hp.out.below ha) hs).mono ?_
 rintro e w1 ⟨vd,rfl,hmap,hvd,hb1⟩
 have hdv:∀i,i<W.sn→∃a n c,vd i = .slice a n c:=fun i hi'=>by
  obtain⟨_,aa,cc,hv,_⟩:=hvd i hi'
  exact⟨aa,_,cc,hv⟩
 have Hlook:=hideW (sets_look hdv)
 have Hhas:=hideW (sets_has (W:=W) (vd:=vd))
 have hal:=below_alloc w1 (.cells #[.int .i64 0,.string ⟨#[]⟩,.string ⟨#[]⟩,.int .i64 0,.int .i64 0,.int .i64 0,.int .i64 0,.slice none 0 0] 99)
 have HX1:=hideW ((HB.out.below hb1).below hal)
 have HL1:=hideW (Box8.new w1 (.int .i64 0) (.string ⟨#[]⟩) (.string ⟨#[]⟩) (.int .i64 0) (.int .i64 0) (.int .i64 0) (.int .i64 0) (.slice none 0 0) 99)
 have HM1:=hideW (hmap.below hal)
 have Hb2:=hideW (below_next (below_next ha hb1) hal)
 have hMl:W0.heap.size+1<w1.heap.size:=hmap.lt
 have Hw0:=hideW (show w.heap.size<W0.heap.size+1 by have:=HB.out.1.lt; omega)
 clear hmap hvd hdv hb1 hal ha HB
 obtain⟨⟨x0,-⟩,⟨x2,-⟩,⟨x4,-⟩,⟨x6,-⟩,⟨x8,-⟩,⟨x10,-⟩⟩:=HX1.out
 go_wp2
 clear x0 x2 x4 x6 x8 x10
 obtain⟨L,hL⟩:∃L,L=w1.heap.size:=⟨_,rfl⟩
 rw [←hL] at HL1 hMl ⊢
 obtain⟨M,hM⟩:∃M,M=W0.heap.size+1:=⟨_,rfl⟩
 rw [←hM] at HM1 hMl Hw0 ⊢
 have hwL:w.heap.size<L:=by have:=Hw0.out; omega
 go_loopw [18] (fun i wr=>∃(k:Nat) (al:Option Addr) (nl cl:Nat),k≤W.pn∧i = .int .i64 k∧(∀j,j<k→SnapI W j)∧Box8 wr L (.int .i64 (lastS W.snaps k).id) (.string (lastS W.snaps k).name) (.string (lastS W.snaps k).set) (.int .i64 (lastS W.snaps k).prev) (.int .i64 (lastS W.snaps k).time) (.int .i64 (lastS W.snaps k).rs) (.int .i64 (lastS W.snaps k).rb) (.slice al nl cl)∧Box6 wr w.heap.size v0 v1 (.int .i64 W.time) (.int .i64 W.next) v2 (.slice a W.pn c)∧SetsMap wr W M W.sn vd∧Below w.heap.size w wr) (fun i _=>W.pn - (intOf i).toNat)
 case atStart=>exact⟨0,none,0,0,Nat.zero_le _,rfl,fun j hj=>absurd hj (Nat.not_lt_zero _),HL1.out,HX1.out,HM1.out,Hb2.out⟩
 case round=>
  clear HL1 HX1 HM1 Hb2 hL hM
  obtain⟨k,al,nl,cl,hk,rfl,hall,hV,hX,hM,hb⟩:=hrel
  have Hall:=hideW hall
  have HV:=hideW hV
  have HX:=hideW hX
  have HM:=hideW hM
  clear hall hV hX hM
  obtain⟨⟨x0,-⟩,⟨x2,-⟩,⟨x4,-⟩,⟨x6,-⟩,⟨x8,-⟩,⟨x10,-⟩⟩:=HX.out
  by_cases hlt:k<W.pn
  ·have hlt':(k:Int)<(W.pn:Int):=by omega
   obtain⟨b,off,vd2,rfl,hs2⟩:=(Hp.out.snaps.below hb).cells hlt
   obtain⟨-,ad,cd,rfl,-,-⟩:=id hs2.dead
   obtain⟨s0,i1,i2,i3,i4,sa,sn,sc,hat⟩:=Hlook.out (W.snaps k).set
   have Hat:=hideW hat
   have Hkey:=hideW (keyS_of hs2.small.2)
   have hns:=hs2.small.1
   clear hat
   have hV8:wr.heap.size≠L:=by have:=HV.out.1.1.lt; omega
   have hbs:=below_alloc wr (.cells #[.int .i64 (W.snaps k).id,.string (W.snaps k).name,.string (W.snaps k).set,.int .i64 (W.snaps k).prev,.int .i64 (W.snaps k).time,.int .i64 (W.snaps k).rs,.int .i64 (W.snaps k).rb,.slice ad (W.snaps k).dn cd] 99)
   have hbt:=below_alloc (wr.alloc (.cells #[.int .i64 (W.snaps k).id,.string (W.snaps k).name,.string (W.snaps k).set,.int .i64 (W.snaps k).prev,.int .i64 (W.snaps k).time,.int .i64 (W.snaps k).rs,.int .i64 (W.snaps k).rb,.slice ad (W.snaps k).dn cd] 99)) (.cells #[.string s0,.int .i64 i1,.int .i64 i2,.int .i64 i3,.int .i64 i4,.slice sa sn sc] 67)
   have HSa:=hideW (Box8.new wr (.int .i64 (W.snaps k).id) (.string (W.snaps k).name) (.string (W.snaps k).set) (.int .i64 (W.snaps k).prev) (.int .i64 (W.snaps k).time) (.int .i64 (W.snaps k).rs) (.int .i64 (W.snaps k).rb) (.slice ad (W.snaps k).dn cd) 99)
   have HMa:=hideW (HM.out.below hbs)
   have HS2:=hideW (HSa.out.below hbt)
   have HV2:=hideW ((HV.out.below hbs).below hbt)
   have HX2:=hideW ((HX.out.below hbs).below hbt)
   have HM2:=hideW ((HM.out.below hbs).below hbt)
   have hb2:=below_next (below_next hb hbs) hbt
   have hsz2:((wr.alloc (.cells #[.int .i64 (W.snaps k).id,.string (W.snaps k).name,.string (W.snaps k).set,.int .i64 (W.snaps k).prev,.int .i64 (W.snaps k).time,.int .i64 (W.snaps k).rs,.int .i64 (W.snaps k).rb,.slice ad (W.snaps k).dn cd] 99)).alloc (.cells #[.string s0,.int .i64 i1,.int .i64 i2,.int .i64 i3,.int .i64 i4,.slice sa sn sc] 67)).heap.size=wr.heap.size+2:=by rw [World.size_alloc,World.size_alloc]
   have q0:=hs2.c0
   have q1:=hs2.c1
   have q2:=hs2.c2
   have q3:=hs2.c3
   have q4:=hs2.c4
   have q5:=hs2.c5
   have q6:=hs2.c6
   have q7:=hs2.c7
   obtain⟨⟨⟨y0,-⟩,⟨y1,-⟩,⟨y2,-⟩,⟨y3,-⟩⟩,⟨y4,-⟩,⟨y5,-⟩,⟨y6,-⟩,⟨y7,-⟩⟩:=HSa.out
   obtain⟨⟨⟨z0,-⟩,⟨z1,-⟩,⟨z2,-⟩,⟨z3,-⟩⟩,⟨z4,-⟩,⟨z5,-⟩,⟨z6,-⟩,⟨z7,-⟩⟩:=HS2.out
   clear hs2
   by_cases hset:HasSet W (W.snaps k).set
   rotate_left
   ·have Hc:=hideW (show Maps.has (putD (fun i=>keyS (W.sets i).name) (fun i=>setV (vd i) (W.sets i)) W.sn) (keyS (W.snaps k).set)=false by rw [Bool.eq_false_iff]; exact fun h=>hset ((Hhas.out _).1 h))
    have Hn:=hideW (show ¬SnapI W k from fun h=>hset h.1)
    clear hset
    go_wp2_with (first
     | (at_lookup; refine wpList_lookup_raw_ok _ rfl _ _ 177 rfl 9 67 lawS setsT (zeroSetV _) M W.sn _ rfl HMa.out _ _ rfl Hkey.out _ Hat.out false Hc.out ?_)
     | go_in)
    go_ret
    exact⟨BoolIs.no fun h=>Hn.out (h.2.1 k hlt),hb2⟩
   have Hset:=hideW hset
   have Hc:=hideW ((Hhas.out _).2 hset)
   clear hset
   go_wp2_with (first
    | (at_lookup; refine wpList_lookup_raw_ok _ rfl _ _ 177 rfl 9 67 lawS setsT (zeroSetV _) M W.sn _ rfl HMa.out _ _ rfl Hkey.out _ Hat.out true Hc.out ?_)
    | fail)
   clear x0 x2 x4 x6 x8 x10 y0 y1 y2 y3 y4 y5 y6 y7 z0 z1 z2 z3 z4 z5 z6 z7 q0 q1 q2 q3 q4 q5 q6 q7 HSa HMa HV HX HM hb hbs hbt Hkey Hat Hc
   generalize (wr.alloc (.cells #[.int .i64 (W.snaps k).id,.string (W.snaps k).name,.string (W.snaps k).set,.int .i64 (W.snaps k).prev,.int .i64 (W.snaps k).time,.int .i64 (W.snaps k).rs,.int .i64 (W.snaps k).rb,.slice ad (W.snaps k).dn cd] 99)).alloc (.cells #[.string s0,.int .i64 i1,.int .i64 i2,.int .i64 i3,.int .i64 i4,.slice sa sn sc] 67)=W2 at HS2 HV2 HX2 HM2 hb2 hsz2 ⊢
   generalize wr.heap.size=V8 at HS2 hV8 ⊢
   obtain⟨⟨x0,-⟩,⟨x2,-⟩,⟨x4,-⟩,⟨x6,-⟩,⟨x8,-⟩,⟨x10,-⟩⟩:=HX2.out
   obtain⟨⟨⟨z0,-⟩,⟨z1,-⟩,⟨z2,-⟩,⟨z3,-⟩⟩,⟨z4,-⟩,⟨z5,-⟩,⟨z6,-⟩,⟨z7,-⟩⟩:=HS2.out
   obtain⟨⟨⟨l0,m0⟩,⟨l1,n1⟩,⟨l2,n2⟩,⟨l3,n3⟩⟩,⟨l4,n4⟩,⟨l5,n5⟩,⟨l6,n6⟩,⟨l7,n7⟩⟩:=HV2.out
   refine(implName_any (W.snaps k).name _ hns).mono ?_
   rintro e wn ⟨⟨tn,rfl,htn⟩,rfl⟩
   by_cases hA:NameP (W.snaps k).name
   rotate_left
   ·have Hn:=hideW (show ¬SnapI W k from fun h=>hA h.2.1)
    obtain rfl:tn=false:=bool_no htn hA
    clear htn hA
    go_wp2
    go_ret
    exact⟨BoolIs.no fun h=>Hn.out (h.2.1 k hlt),hb2⟩
   have HA:=hideW hA
   obtain rfl:tn=true:=htn.2 hA
   clear htn hA
   by_cases hg:(W.snaps k).id≤(W.snaps k).prev
   ·have Hn:=hideW (show ¬SnapI W k from fun h=>by have:=h.2.2.1; omega)
    go_wp2
    go_ret
    exact⟨BoolIs.no fun h=>Hn.out (h.2.1 k hlt),hb2⟩
   have Hg:=hideW (show(W.snaps k).prev<(W.snaps k).id by omega)
   go_wp2_with fail
   clear hg
   refine(between_any _ _ _ _).mono ?_
   rintro e wn ⟨⟨tn,rfl,htn⟩,rfl⟩
   by_cases hB:Mid (lastS W.snaps k).id (W.snaps k).id W.next
   rotate_left
   ·have Hn:=hideW (show ¬SnapI W k from fun h=>hB h.2.2.2.1)
    obtain rfl:tn=false:=bool_no htn hB
    clear htn hB
    go_wp2
    go_ret
    exact⟨BoolIs.no fun h=>Hn.out (h.2.1 k hlt),hb2⟩
   have HB:=hideW hB
   obtain rfl:tn=true:=htn.2 hB
   clear htn hB
   go_wp2_with fail
   refine(between_any _ _ _ _).mono ?_
   rintro e wn ⟨⟨tn,rfl,htn⟩,rfl⟩
   by_cases hB:Mid (lastS W.snaps k).time (W.snaps k).time W.time
   rotate_left
   ·have Hn:=hideW (show ¬SnapI W k from fun h=>hB h.2.2.2.2)
    obtain rfl:tn=false:=bool_no htn hB
    clear htn hB
    go_wp2
    go_ret
    exact⟨BoolIs.no fun h=>Hn.out (h.2.1 k hlt),hb2⟩
   have HB2:=hideW hB
   obtain rfl:tn=true:=htn.2 hB
   clear htn hB
   go_wp2
   go_roundw
   case rel=>exact⟨k+1,_,_,_,by omega,by go_num,relNext hlt Hall.out ⟨Hset.out,HA.out,Hg.out,HB.out,HB2.out⟩,HV2.out.put _ _ _ _ _ _ _ _,HX2.out.turned (Turned.put8 _ L _ _ _ _ _ _ _ _) (by omega),HM2.out.put8 (by omega) _ _ _ _ _ _ _ _,below_put8 hb2 (by omega) _ _ _ _ _ _ _ _⟩
   case measure=>simp [intOf]; omega
  ·obtain rfl:k=W.pn:=by omega
   go_wp2_with fail
   clear x0 x2 x4 x6 x8 x10
   refine(namesApart_any _ W.pn lo hi W.snaps _ (Hp.out.snaps.below hb) hn).mono ?_
   rintro e w6 ⟨⟨t6,rfl,ht6⟩,hb6⟩
   have Ht:=hideW ht6
   clear ht6
   go_wp2
   go_ret
   exact⟨⟨t6,rfl,Ht.out.trans ⟨fun hA=>⟨hn,Hall.out,hA⟩,fun hA=>hA.2.2⟩⟩,below_next hb hb6⟩
def IdsDist(W:WorldD):Prop:=∀i,i<W.pn→∀j,j<i→(W.snaps j).id≠(W.snaps i).id
def AheadFn(w:World)(lo hi:Nat)(W:WorldD)(A:Nat):Prop:=∃M vd,Cell w A 0 (.map (some M))∧SnapsMap w W M W.pn vd∧SnapDeads w lo hi W.pn W.snaps vd
abbrev aheadV(A:Nat):Value:=.func (.func 190) #[] #[.pointer (some ⟨A,0,none⟩)]
theorem AheadFn.below{w w':World}{lo hi:Nat}{W:WorldD}{A:Nat}(h:AheadFn w lo hi W A)(t:Below w.heap.size w w'):AheadFn w' lo hi W A:=by
 obtain⟨M,vd,h1,h2,h3⟩:=h
 exact⟨M,vd,h1.below t,h2.below t,fun i hi'=>(h3 i hi').below t⟩
theorem zeroSnapV(w:World):(zeroValue 99).run Tryz.prog w = .ok (.agg #[.int .i64 0,.string ⟨#[]⟩,.string ⟨#[]⟩,.int .i64 0,.int .i64 0,.int .i64 0,.int .i64 0,.slice none 0 0]) w:=by kernel_rfl
theorem snaps_look{W:WorldD}{w:World}{lo hi:Nat}{vd:Nat→Value}(hD:IdsDist W)(hd:SnapDeads w lo hi W.pn W.snaps vd)(x:Int):∃a c,(putD (fun i=>keyN (W.snaps i).id) (fun i=>snapV (vd i) (W.snaps i)) W.pn).atKey (keyN x) (.held (.agg #[.int .i64 0,.string ⟨#[]⟩,.string ⟨#[]⟩,.int .i64 0,.int .i64 0,.int .i64 0,.int .i64 0,.slice none 0 0])) = .held (snapV (.slice a (aheadOf W x).dn c) (aheadOf W x))∧PtrsAt w lo hi (.slice a (aheadOf W x).dn c) (aheadOf W x).dn (aheadOf W x).ds (aheadOf W x).db:=by
 have hk:KeysOk (fun i=>keyN (W.snaps i).id):=fun i=>keyN_key _
 by_cases hx:∃k,SnapNo W x k
 ·obtain⟨k,hk'⟩:=hx
  rw [aheadOf_at hk']
  have hp:=hd k hk'.1
  obtain⟨_,a,c,hv,_⟩:=id hp
  refine⟨a,c,?_,by rw [←hv]; exact hp⟩
  have:=putD_at hk (fun i=>snapV (vd i) (W.snaps i)) (.held (.agg #[.int .i64 0,.string ⟨#[]⟩,.string ⟨#[]⟩,.int .i64 0,.int .i64 0,.int .i64 0,.int .i64 0,.slice none 0 0])) W.pn k hk'.1 (fun j h1 h2 e=>hD j h2 k h1 (keyN_inj e).symm)
  rw [hk'.2.1] at this
  rw [this,hv]
 ·have e:aheadOf W x=zeroSnap:=by unfold aheadOf; rw [dif_neg hx]
  rw [e]
  refine⟨none,0,?_,⟨Nat.zero_le _,none,0,rfl,Nat.le_refl _,fun h=>absurd h (by simp [zeroSnap])⟩⟩
  refine putD_none hk _ (fun i hi' e2=>?_) _
  exact hx (snapNo_of (Nat.le_refl _) ⟨i,hi',keyN_inj e2⟩)
set_option maxRecDepth 20000 in
set_option maxHeartbeats 1000000 in
theorem ahead_any(lo hi:Nat)(W:WorldD)(A:Nat)(x:Int)(w:World)(h:AheadFn w lo hi W A)(hD:IdsDist W)(hx:(Lit.int .i64 x).wf=true)(hn:W.pn≤20) :
  Calls Tryz.prog 190 #[.int .i64 x,.pointer (some ⟨A,0,none⟩)] w fun e w'=>∃a c,e = .returned (snapV (.slice a (aheadOf W x).dn c) (aheadOf W x))∧PtrsAt w lo hi (.slice a (aheadOf W x).dn c) (aheadOf W x).dn (aheadOf W x).ds (aheadOf W x).db∧Below w.heap.size w w':=by
 obtain⟨M,vd,hc,hm,hd⟩:=h
 obtain⟨a,c,hat,hp⟩:=snaps_look hD hd x
 have Hat:=hideW hat
 have Hpd:=hideW hp
 have Hkey:=hideW (keyN_of hx)
 clear hat hp hd hx
 unfold snapV at Hat ⊢
 generalize aheadOf W x=S at *
 have hal:=below_alloc w (.cells #[.int .i64 0,.string ⟨#[]⟩,.string ⟨#[]⟩,.int .i64 0,.int .i64 0,.int .i64 0,.int .i64 0,.slice none 0 0] 99)
 have HM:=hideW (hm.below hal)
 obtain⟨x0,-⟩:=hc.below hal
 have hal2:=below_alloc w (.cells #[.int .i64 S.id,.string S.name,.string S.set,.int .i64 S.prev,.int .i64 S.time,.int .i64 S.rs,.int .i64 S.rb,.slice a S.dn c] 99)
 obtain⟨⟨⟨y0,-⟩,⟨y1,-⟩,⟨y2,-⟩,⟨y3,-⟩⟩,⟨y4,-⟩,⟨y5,-⟩,⟨y6,-⟩,⟨y7,-⟩⟩:=Box8.new w (.int .i64 S.id) (.string S.name) (.string S.set) (.int .i64 S.prev) (.int .i64 S.time) (.int .i64 S.rs) (.int .i64 S.rb) (.slice a S.dn c) 99
 clear hm hc hal
 go_enter Tryz.func190,Tryz.ntmps190
 go_wp2_with (first
  | (at_lookup; refine wpList_lookup_raw _ rfl _ _ 218 rfl 2 99 lawI snapsT (zeroSnapV _) M W.pn _ rfl HM.out _ _ rfl Hkey.out _ Hat.out ?_)
  | go_in)
 refine bodyPost_ret (v:=.agg #[.int .i64 S.id,.string S.name,.string S.set,.int .i64 S.prev,.int .i64 S.time,.int .i64 S.rs,.int .i64 S.rb,.slice a S.dn c]) (by simp [results,Tryz.results190,go_sem,y0,y1,y2,y3,y4,y5,y6,y7]) rfl ⟨a,c,rfl,Hpd.out,hal2⟩
set_option maxRecDepth 20000 in
set_option maxHeartbeats 1000000 in
theorem aheadIn_any(v0 v1 v2 v3:Value)(lo hi:Nat)(W:WorldD)(w:World)(h:WorldAt w lo hi v0 v1 v2 v3 W)(hn:W.pn≤20)(hwf:IdsWf W.pn W.snaps) :
  Calls Tryz.prog 152 #[worldV v0 v1 v2 v3 W] w fun e w'=>∃A,e = .returned (aheadV A)∧AheadFn w' lo hi W A∧Below w.heap.size w w':=by
 have Hp:=hideW h
 clear h
 have hmf:∀(fn:Fn) (first cap:Array Value) (w:World),(Instr.makeFunc fn first cap).run Tryz.prog w = .ok (.func fn first cap) w:=fun _ _ _ _=>rfl
 have ha:=below_alloc w (.cells #[v0,v1,.int .i64 W.time,.int .i64 W.next,v2,v3] 37)
 obtain⟨⟨x0,-⟩,⟨x2,-⟩,⟨x4,-⟩,⟨x6,-⟩,⟨x8,-⟩,⟨x10,-⟩⟩:=Box6.new w v0 v1 (.int .i64 W.time) (.int .i64 W.next) v2 v3 37
 go_enter Tryz.func152,Tryz.ntmps152
 go_wp2_with fail
 clear x0 x2 x4 x6 x8 x10
 generalize w.alloc (.cells #[v0,v1,.int .i64 W.time,.int .i64 W.next,v2,v3] 37)=W0 at ha ⊢
 refine(snapsById_any v0 v1 v2 v3 lo hi W W0 (Hp.out.below ha) hn hwf).mono ?_
 rintro e w1 ⟨vd,rfl,hm,hd,hb1⟩
 have hal:=below_alloc w1 (.cells #[.map (some (W0.heap.size+1))] 218)
 have hc:Cell (w1.alloc (.cells #[.map (some (W0.heap.size+1))] 218)) w1.heap.size 0 (.map (some (W0.heap.size+1))):=cell_of_block (heap_alloc_new _ _) rfl
 have HA:=hideW (show AheadFn (w1.alloc (.cells #[.map (some (W0.heap.size+1))] 218)) lo hi W w1.heap.size from⟨_,vd,hc,hm.below hal,fun i hi'=>((hd i hi').below hb1).below hal⟩)
 have hb2:=below_next (below_next ha hb1) hal
 clear hm hd hb1 hal hc
 go_wp2
 go_ret
 exact⟨_,rfl,HA.out,hb2⟩
def memCs(vd:Value)(m:MemD):List Value:=[.int .i64 m.prev,.int .i64 m.time,.int .i64 m.rs,.int .i64 m.rb,vd]
def mrow(W:WorldD)(vd:Nat→Value):Nat→List Value
 | 0=>[]
 | k+1=>mrow W vd k ++ memCs (vd k) (memOf W k)
theorem mrow_len(W:WorldD)(vd:Nat→Value):∀n,(mrow W vd n).length=n*5
 | 0=>rfl
 | n+1=>by simp [mrow,mrow_len W vd n,memCs]; omega
theorem mrow_get{W:WorldD}{vd:Nat→Value}:∀{n i j:Nat},i<n→j<5→(mrow W vd n)[i*5+j]?=(memCs (vd i) (memOf W i))[j]?
 | 0,i,j,hi,_=>absurd hi (Nat.not_lt_zero _)
 | n+1,i,j,hi,hj=>by
  unfold mrow
  by_cases e:i=n
  ·subst e
   rw [List.getElem?_append_right (by rw [mrow_len]; omega),mrow_len,show i*5+j - i*5=j by omega]
  ·rw [List.getElem?_append_left (by rw [mrow_len]; omega),mrow_get (by omega) hj]
def MemDeads(w:World)(lo hi:Nat)(W:WorldD)(vd:Nat→Value):Prop:=∀i,i<memN W→PtrsAt w lo hi (vd i) (memOf W i).dn (memOf W i).ds (memOf W i).db
def RowM(w:World)(base:Nat)(v:Value)(W:WorldD)(vd:Nat→Value)(n:Nat):Prop:=w.ownsRow base 224 5 v n (mrow W vd n)
theorem RowM.below{w w1:World}{base:Nat}{v:Value}{W:WorldD}{vd:Nat→Value}{n:Nat}(h:RowM w base v W vd n)(hb:Below w.heap.size w w1):RowM w1 base v W vd n:=
 h.kept (grownL hb none) (by cases v.ownBlock <;> simp)
theorem RowM.lt{w:World}{base:Nat}{v:Value}{W:WorldD}{vd:Nat→Value}{n:Nat}(h:RowM w base v W vd n){q:Nat}(hq:v.ownBlock=some q):base≤q∧q<w.heap.size:=by
 rcases h.2 with⟨rfl,_⟩ | ⟨g,cap,cur,rfl,hb,hg,_⟩
 ·simp [Value.ownBlock] at hq
 ·simp only [Value.ownBlock,Option.some.injEq] at hq
  subst hq
  exact⟨hb,(Array.getElem?_eq_some_iff.1 hg).1⟩
theorem RowM.next{w2:World}{base g cap:Nat}{W:WorldD}{vd:Nat→Value}{n:Nat}(h:w2.ownsRow base 224 5 (.slice (some ⟨g,0,none⟩) (n+1) cap) (n+1) (mrow W vd n ++ memCs (vd n) (memOf W n))):RowM w2 base (.slice (some ⟨g,0,none⟩) (n+1) cap) W vd (n+1):=h
structure MemsAt (w:World) (lo hi:Nat) (v:Value) (W:WorldD) (vd:Nat→Value):Prop where
 form:∃a c,v = .slice a (memN W) c∧memN W≤c
 cells:∀i,i<memN W→∃g c,v = .slice (some ⟨g,0,none⟩) (memN W) c∧w.cell? ⟨g,i*5,none⟩=some (.int .i64 (memOf W i).prev)∧w.cell? ⟨g,i*5+1,none⟩=some (.int .i64 (memOf W i).time)∧w.cell? ⟨g,i*5+2,none⟩=some (.int .i64 (memOf W i).rs)∧w.cell? ⟨g,i*5+3,none⟩=some (.int .i64 (memOf W i).rb)∧w.cell? ⟨g,i*5+4,none⟩=some (vd i)
 dead:MemDeads w lo hi W vd
theorem MemsAt.below{w w1:World}{lo hi:Nat}{v:Value}{W:WorldD}{vd:Nat→Value}(h:MemsAt w lo hi v W vd)(t:Below w.heap.size w w1):MemsAt w1 lo hi v W vd where
 form:=h.form
 cells:=fun i hi'=>by
  obtain⟨g,c,e,h0,h1,h2,h3,h4⟩:=h.cells i hi'
  exact⟨g,c,e,(t.cell (lt_of_cell h0)).trans h0,(t.cell (lt_of_cell h1)).trans h1,(t.cell (lt_of_cell h2)).trans h2,(t.cell (lt_of_cell h3)).trans h3,(t.cell (lt_of_cell h4)).trans h4⟩
 dead:=fun i hi'=>(h.dead i hi').below t
theorem RowM.at{w:World}{base lo hi:Nat}{v:Value}{W:WorldD}{vd:Nat→Value}(h:RowM w base v W vd (memN W))(hd:MemDeads w lo hi W vd):MemsAt w lo hi v W vd where
 form:=owns_form h
 cells:=fun i hi'=>by
  obtain⟨g,cap,e,hcp,hb,hlt,hcell⟩:=owns_cell h (by omega)
  refine⟨g,cap,e,?_,?_,?_,?_,?_⟩
  ·exact(hcell (i*5) _ (by have:=mrow_get (W:=W) (vd:=vd) hi' (show 0<5 by omega); rw [Nat.add_zero] at this; rw [this]; rfl)).1
  ·exact(hcell (i*5+1) _ (by rw [mrow_get hi' (by omega)]; rfl)).1
  ·exact(hcell (i*5+2) _ (by rw [mrow_get hi' (by omega)]; rfl)).1
  ·exact(hcell (i*5+3) _ (by rw [mrow_get hi' (by omega)]; rfl)).1
  ·exact(hcell (i*5+4) _ (by rw [mrow_get hi' (by omega)]; rfl)).1
 dead:=hd
theorem infoMem:(Tryz.prog.info? 224).map (fun i=>(i.zero,i.size,i.bytes))=some (some (.agg #[.int .i64 0,.int .i64 0,.int .i64 0,.int .i64 0,.slice none 0 0]),5,56):=by kernel_rfl
set_option maxRecDepth 20000 in
set_option maxHeartbeats 4000000 in
theorem membersOf_any(v0 v1 v2 v3:Value)(lo hi:Nat)(W:WorldD)(w:World)(h:WorldAt w lo hi v0 v1 v2 v3 W)(hs:W.sn≤8)(hp:W.pn≤20) :
  Calls Tryz.prog 181 #[worldV v0 v1 v2 v3 W] w fun e w'=>∃v vd,e = .returned v∧MemsAt w' lo hi v W vd∧Below w.heap.size w w':=by
 have Hp:=hideW h
 obtain⟨m1,a,c,rfl,mc,-⟩:=id h.snaps
 obtain⟨m2,a',c',rfl,mc',-⟩:=id h.sets
 unfold maxLen at m1 m2
 obtain⟨vs,hvs,hcs⟩:=h.snaps.vals
 obtain⟨vt,hvt,hct⟩:=h.sets.vals
 have hvd:∃vd:Nat→Value,(∀i,i<W.pn→vd i=vs i)∧(∀i,i<W.sn→vd (W.pn+i)=vt i)∧MemDeads w lo hi W vd:=by
  refine⟨fun i=>if i<W.pn then vs i else vt (i - W.pn),fun i hi'=>if_pos hi',fun i hi'=>?_,fun i hi'=>?_⟩
  ·show(if W.pn+i<W.pn then vs (W.pn+i)else vt (W.pn+i - W.pn))=vt i
   rw [if_neg (by omega),show W.pn+i - W.pn=i by omega]
  ·show PtrsAt w lo hi (if i<W.pn then vs i else vt (i - W.pn)) _ _ _
   by_cases hi2:i<W.pn
   ·rw [if_pos hi2,memOf_snap hi2]
    exact hvs i hi2
   ·have e:=memOf_set W (i - W.pn)
    rw [show W.pn+(i - W.pn)=i by omega] at e
    rw [if_neg hi2,e]
    unfold memN at hi'
    exact hvt _ (by omega)
 obtain⟨vd,hd1,hd2,hd3⟩:=hvd
 have Hcs:=hideW hcs
 have Hct:=hideW hct
 have Hd1:=hideW hd1
 have Hd2:=hideW hd2
 have Hd3:=hideW hd3
 clear h hvs hcs hvt hct hd1 hd2 hd3
 obtain⟨i0,hi0,hzz⟩:=Option.map_eq_some_iff.1 infoMem
 simp only [Prod.mk.injEq] at hzz
 have HI:=hideW (And.intro hi0 hzz)
 clear hi0 hzz
 have ha:=below_alloc w (.cells #[v0,v1,.int .i64 W.time,.int .i64 W.next,.slice a' W.sn c',.slice a W.pn c] 37)
 have HB:=hideW (Box6.new w v0 v1 (.int .i64 W.time) (.int .i64 W.next) (.slice a' W.sn c') (.slice a W.pn c) 37)
 obtain⟨⟨x0,-⟩,⟨x2,-⟩,⟨x4,-⟩,⟨x6,-⟩,⟨x8,-⟩,⟨x10,-⟩⟩:=HB.out
 go_enter Tryz.func181,Tryz.ntmps181
 go_wp2
 clear x0 x2 x4 x6 x8 x10
 go_loopw [3,11] (fun v i wr=>∃k:Nat,k≤W.pn∧i = .int .i64 k∧RowM wr (w.heap.size+1) v W vd k∧Box6 wr w.heap.size v0 v1 (.int .i64 W.time) (.int .i64 W.next) (.slice a' W.sn c') (.slice a W.pn c)∧Below w.heap.size w wr) (fun _ i _=>W.pn - (intOf i).toNat)
 case atStart=>exact⟨0,Nat.zero_le _,rfl,World.ownsRow_nil _ _ _ _,HB.out,ha⟩
 case round=>
  clear HB ha
  obtain⟨k,hk,rfl,hrow,hX,hb⟩:=hrel
  have Hrow:=hideW hrow
  have HX:=hideW hX
  clear hrow hX
  by_cases hlt:k<W.pn
  ·have hlt':(k:Int)<(W.pn:Int):=by omega
   obtain⟨b,off,rfl,hs0⟩:=Hcs.out k hlt
   have hs2:=hs0.below hb
   rw [←Hd1.out k hlt] at hs2
   obtain⟨-,ad,cd,hvk,-,-⟩:=id hs2.dead
   have Hvk:=hideW hvk
   rw [hvk] at hs2
   clear hvk hs0
   have hbs:=below_alloc wr (.cells #[.int .i64 (W.snaps k).id,.string (W.snaps k).name,.string (W.snaps k).set,.int .i64 (W.snaps k).prev,.int .i64 (W.snaps k).time,.int .i64 (W.snaps k).rs,.int .i64 (W.snaps k).rb,.slice ad (W.snaps k).dn cd] 99)
   have HVs:=hideW (Box8.new wr (.int .i64 (W.snaps k).id) (.string (W.snaps k).name) (.string (W.snaps k).set) (.int .i64 (W.snaps k).prev) (.int .i64 (W.snaps k).time) (.int .i64 (W.snaps k).rs) (.int .i64 (W.snaps k).rb) (.slice ad (W.snaps k).dn cd) 99)
   have hbm:=below_alloc (wr.alloc (.cells #[.int .i64 (W.snaps k).id,.string (W.snaps k).name,.string (W.snaps k).set,.int .i64 (W.snaps k).prev,.int .i64 (W.snaps k).time,.int .i64 (W.snaps k).rs,.int .i64 (W.snaps k).rb,.slice ad (W.snaps k).dn cd] 99)) (.cells #[.int .i64 (W.snaps k).prev,.int .i64 (W.snaps k).time,.int .i64 (W.snaps k).rs,.int .i64 (W.snaps k).rb,.slice ad (W.snaps k).dn cd] 224)
   have HN:=hideW (World.news_of_block (heap_alloc_last (wr.alloc (.cells #[.int .i64 (W.snaps k).id,.string (W.snaps k).name,.string (W.snaps k).set,.int .i64 (W.snaps k).prev,.int .i64 (W.snaps k).time,.int .i64 (W.snaps k).rs,.int .i64 (W.snaps k).rb,.slice ad (W.snaps k).dn cd] 99)) (.cells #[.int .i64 (W.snaps k).prev,.int .i64 (W.snaps k).time,.int .i64 (W.snaps k).rs,.int .i64 (W.snaps k).rb,.slice ad (W.snaps k).dn cd] 224)))
   have Hrow7:=hideW ((Hrow.out.below hbs).below hbm)
   have HX7:=hideW ((HX.out.below hbs).below hbm)
   have hB3:=below_next (below_next hb hbs) hbm
   have hz2:=HX.out.1.lt
   have hz1:(wr.alloc (.cells #[.int .i64 (W.snaps k).id,.string (W.snaps k).name,.string (W.snaps k).set,.int .i64 (W.snaps k).prev,.int .i64 (W.snaps k).time,.int .i64 (W.snaps k).rs,.int .i64 (W.snaps k).rb,.slice ad (W.snaps k).dn cd] 99)).heap.size=wr.heap.size+1:=World.size_alloc _ _
   have hz3:=hbm.size
   rw [hz1] at HN
   have q0:=hs2.c0
   have q1:=hs2.c1
   have q2:=hs2.c2
   have q3:=hs2.c3
   have q4:=hs2.c4
   have q5:=hs2.c5
   have q6:=hs2.c6
   have q7:=hs2.c7
   obtain⟨⟨⟨y0,-⟩,⟨y1,-⟩,⟨y2,-⟩,⟨y3,-⟩⟩,⟨y4,-⟩,⟨y5,-⟩,⟨y6,-⟩,⟨y7,-⟩⟩:=HVs.out
   clear hs2 hbs hbm Hrow HX
   go_wp2_with (first
    | (at_builtin; refine wpList_append_lies _ rfl _ _ 220 rfl (w.heap.size+1) 224 i0 (.agg #[.int .i64 0,.int .i64 0,.int .i64 0,.int .i64 0,.slice none 0 0]) 5 56 (by kernel_rfl) HI.out.1 HI.out.2.1 HI.out.2.2.1 HI.out.2.2.2 rfl (by decide) _ _ _ rfl Hrow7.out ⟨wr.heap.size+1,0,none⟩ 1 1 [.int .i64 (W.snaps k).prev,.int .i64 (W.snaps k).time,.int .i64 (W.snaps k).rs,.int .i64 (W.snaps k).rb,.slice ad (W.snaps k).dn cd] rfl rfl HN.out (by simp [Value.oneCell']) (by decide) (by unfold maxLen; omega) (by omega) (by omega) _ rfl ?_; intro g' cap' w8 hown8 hgrow8 hat8 hlt8)
    | go_in)
   go_roundw
   case rel=>
    have hne:∀q,Value.ownBlock _=some q→w.heap.size+1≤q:=fun q hq=>(Hrow7.out.lt hq).1
    refine⟨k+1,by omega,by go_num,?_,HX7.out.grown hgrow8 (fun q hq=>by have:=hne q hq; omega),hB3.grown hgrow8 hB3.size (fun q hq=>by have:=hne q hq; omega)⟩
    refine RowM.next ?_
    rw [memOf_snap hlt,Hvk.out]
    exact hown8
   case measure=>simp [intOf]; omega
  ·obtain rfl:k=W.pn:=by omega
   obtain⟨⟨x0,-⟩,⟨x2,-⟩,⟨x4,-⟩,⟨x6,-⟩,⟨x8,-⟩,⟨x10,-⟩⟩:=HX.out
   go_wp2
   clear x0 x2 x4 x6 x8 x10
   go_loopw [3,31] (fun v i wr=>∃k:Nat,k≤W.sn∧i = .int .i64 k∧RowM wr (w.heap.size+1) v W vd (W.pn+k)∧Box6 wr w.heap.size v0 v1 (.int .i64 W.time) (.int .i64 W.next) (.slice a' W.sn c') (.slice a W.pn c)∧Below w.heap.size w wr) (fun _ i _=>W.sn - (intOf i).toNat)
   case atStart=>exact⟨0,Nat.zero_le _,rfl,Hrow.out,HX.out,hb⟩
   case round=>
    clear HX hb Hrow hk hlt
    obtain⟨k,hk,rfl,hrow,hX,hb⟩:=hrel
    have Hrow:=hideW hrow
    have HX:=hideW hX
    clear hrow hX
    by_cases hlt:k<W.sn
    ·have hlt':(k:Int)<(W.sn:Int):=by omega
     obtain⟨b,off,rfl,hs0⟩:=Hct.out k hlt
     have hs2:=hs0.below hb
     rw [←Hd2.out k hlt] at hs2
     obtain⟨-,ad,cd,hvk,-,-⟩:=id hs2.dead
     have Hvk:=hideW hvk
     rw [hvk] at hs2
     clear hvk hs0
     have hbs:=below_alloc wr (.cells #[.string (W.sets k).name,.int .i64 (W.sets k).origin,.int .i64 (W.sets k).prev,.int .i64 (W.sets k).rs,.int .i64 (W.sets k).rb,.slice ad (W.sets k).dn cd] 67)
     have HVs:=hideW (Box6.new wr (.string (W.sets k).name) (.int .i64 (W.sets k).origin) (.int .i64 (W.sets k).prev) (.int .i64 (W.sets k).rs) (.int .i64 (W.sets k).rb) (.slice ad (W.sets k).dn cd) 67)
     have HXs:=hideW (HX.out.below hbs)
     have hbm:=below_alloc (wr.alloc (.cells #[.string (W.sets k).name,.int .i64 (W.sets k).origin,.int .i64 (W.sets k).prev,.int .i64 (W.sets k).rs,.int .i64 (W.sets k).rb,.slice ad (W.sets k).dn cd] 67)) (.cells #[.int .i64 (W.sets k).prev,.int .i64 W.time,.int .i64 (W.sets k).rs,.int .i64 (W.sets k).rb,.slice ad (W.sets k).dn cd] 224)
     have HN:=hideW (World.news_of_block (heap_alloc_last (wr.alloc (.cells #[.string (W.sets k).name,.int .i64 (W.sets k).origin,.int .i64 (W.sets k).prev,.int .i64 (W.sets k).rs,.int .i64 (W.sets k).rb,.slice ad (W.sets k).dn cd] 67)) (.cells #[.int .i64 (W.sets k).prev,.int .i64 W.time,.int .i64 (W.sets k).rs,.int .i64 (W.sets k).rb,.slice ad (W.sets k).dn cd] 224)))
     have Hrow7:=hideW ((Hrow.out.below hbs).below hbm)
     have HX7:=hideW ((HX.out.below hbs).below hbm)
     have hB3:=below_next (below_next hb hbs) hbm
     have hz2:=HX.out.1.lt
     have hz1:(wr.alloc (.cells #[.string (W.sets k).name,.int .i64 (W.sets k).origin,.int .i64 (W.sets k).prev,.int .i64 (W.sets k).rs,.int .i64 (W.sets k).rb,.slice ad (W.sets k).dn cd] 67)).heap.size=wr.heap.size+1:=World.size_alloc _ _
     have hz3:=hbm.size
     rw [hz1] at HN
     have q0:=hs2.c0
     have q1:=hs2.c1
     have q2:=hs2.c2
     have q3:=hs2.c3
     have q4:=hs2.c4
     have q5:=hs2.c5
     obtain⟨⟨y0,-⟩,⟨y1,-⟩,⟨y2,-⟩,⟨y3,-⟩,⟨y4,-⟩,⟨y5,-⟩⟩:=HVs.out
     obtain⟨⟨z0,-⟩,⟨z2,-⟩,⟨z4,-⟩,⟨z6,-⟩,⟨z8,-⟩,⟨z10,-⟩⟩:=HXs.out
     clear hs2 hbs hbm Hrow HX
     go_wp2_with (first
      | (at_builtin; refine wpList_append_lies _ rfl _ _ 220 rfl (w.heap.size+1) 224 i0 (.agg #[.int .i64 0,.int .i64 0,.int .i64 0,.int .i64 0,.slice none 0 0]) 5 56 (by kernel_rfl) HI.out.1 HI.out.2.1 HI.out.2.2.1 HI.out.2.2.2 rfl (by decide) _ _ _ rfl Hrow7.out ⟨wr.heap.size+1,0,none⟩ 1 1 [.int .i64 (W.sets k).prev,.int .i64 W.time,.int .i64 (W.sets k).rs,.int .i64 (W.sets k).rb,.slice ad (W.sets k).dn cd] rfl rfl HN.out (by simp [Value.oneCell']) (by decide) (by unfold maxLen; omega) (by omega) (by omega) _ rfl ?_; intro g' cap' w8 hown8 hgrow8 hat8 hlt8)
      | go_in)
     go_roundw
     case rel=>
      have hne:∀q,Value.ownBlock _=some q→w.heap.size+1≤q:=fun q hq=>(Hrow7.out.lt hq).1
      refine⟨k+1,by omega,by go_num,?_,HX7.out.grown hgrow8 (fun q hq=>by have:=hne q hq; omega),hB3.grown hgrow8 hB3.size (fun q hq=>by have:=hne q hq; omega)⟩
      show RowM w8 (w.heap.size+1) _ W vd (W.pn+k+1)
      refine RowM.next ?_
      rw [memOf_set,Hvk.out]
      exact hown8
     case measure=>simp [intOf]; omega
    ·obtain rfl:k=W.sn:=by omega
     go_wp2
     go_ret
     exact⟨_,vd,rfl,RowM.at Hrow.out (fun i hi'=>(Hd3.out i hi').below hb),hb⟩
end Go.Proofs.YtmgeglgboadfiaaGreatDoor
