/- What the laws' marking of a world leaves (no law is proved here). -/
import Derived.Test.YtmgeglgboadfiaaGreatDoorP29
import Derived.Test.YtmgeglgboadfiaaGreatDoorP18
import Derived.Test.YtmgeglgboadfiaaGreatDoorP3
import Derived.Test.YtmgeglgboadfiaaGreatDoorP24
import Derived.Test.YtmgeglgboadfiaaGreatDoorP25
import Derived.Test.YtmgeglgboadfiaaGreatDoorP28
import Derived.BigQuiet
import Derived.Test.YtmgeglgboadfiaaGreatDoorP20
import Derived.Test.YtmgeglgboadfiaaGreatDoorP21
namespace Go.Proofs.YtmgeglgboadfiaaGreatDoor
open Go.RowKit
set_option linter.unusedVariables false
def markW(W:WorldD)(k0:Int):WorldD:={pool:=markP W.pool k0,time:=W.time,next:=W.next,sn:=W.sn,sets:=markSetD W.sets (endP W.pool k0),pn:=W.pn,snaps:=markSnapD W.snaps (cntSet W.sets (endP W.pool k0) W.sn)}
def endW(W:WorldD)(k0:Int):Int:=cntSnap W.snaps (cntSet W.sets (endP W.pool k0) W.sn) W.pn
theorem endP_le(p:PoolD)(k0:Int):k0≤endP p k0:=by
 unfold endP
 have:=cntSl_le p.s k0 (Nat.zero_le p.n)
 have h0:cntSl p.s k0 0=k0:=rfl
 omega
theorem endW_le(W:WorldD)(k0:Int):k0≤endP W.pool k0∧endP W.pool k0≤cntSet W.sets (endP W.pool k0) W.sn∧cntSet W.sets (endP W.pool k0) W.sn≤endW W k0:=
 ⟨endP_le _ _,cntSet_le W.sets (endP W.pool k0) (Nat.zero_le _),cntSnap_le W.snaps (cntSet W.sets (endP W.pool k0) W.sn) (Nat.zero_le _)⟩
set_option maxRecDepth 20000 in
set_option maxHeartbeats 400000 in
theorem markWorld_any(lo hi:Nat)(v0 v1 v2 v3:Value)(W:WorldD)(k0:Int)(w:World)(h:WorldOwn w lo hi v0 v1 v2 v3 W)(hk0:0≤k0)(hk1:endW W k0≤1000000000000) :
  Calls Tryz.prog 13 #[worldV v0 v1 v2 v3 W,.int .i64 k0] w fun e w'=>e = .returned (.int .i64 (endW W k0))∧WorldOwn w' lo hi v0 v1 v2 v3 (markW W k0)∧Turned (fun k=>lo≤k∧k<hi) w w':=by
 obtain⟨a0,c0,a1,c1,a2,c2,a3,c3,rfl,rfl,rfl,rfl⟩:=h.form
 obtain⟨P,Q,R,⟨⟨bs,hb,kb,kv,s1,s2,s3,s4,s5⟩,⟨bt,kt,vt,t1,t2,t3⟩,⟨bp,kp,vp,p1,p2,p3⟩,pq,pr,qr⟩,hl⟩:=h
 have S1:=hideM s1
 have S2:=hideM s2
 have S3:=hideM s3
 have S4:=hideM s4
 have S5:=hideM s5
 have T1:=hideM t1
 have T2:=hideM t2
 have T3:=hideM t3
 have P1:=hideM p1
 have P2:=hideM p2
 have P3:=hideM p3
 have HPQ:=hideM (And.intro pq (And.intro pr (And.intro qr hl)))
 have HE:=hideM (endW_le W k0)
 have HK:=hideM hk1
 have HB:=hideM (Box6.new w (.slice a0 W.pool.n c0) (.slice a1 W.pool.hn c1) (.int .i64 W.time) (.int .i64 W.next) (.slice a2 W.sn c2) (.slice a3 W.pn c3) 37)
 have ha:=below_alloc w (.cells #[.slice a0 W.pool.n c0,.slice a1 W.pool.hn c1,.int .i64 W.time,.int .i64 W.next,.slice a2 W.sn c2,.slice a3 W.pn c3] 37)
 have NA:=hideM (show ∀k,SlotsB bs kb W.pool.n W.pool.s k∨(0<W.pool.hn∧k=hb)→k<w.heap.size from fun k hk=>by
  rcases hk with hk | ⟨h0,rfl⟩
  ·exact s1.lt hk
  ·obtain⟨_,_,_,_,_,h3,_⟩:=s3
   obtain⟨o,_,h4⟩:=h3 h0
   exact(h4 0 h0).lt)
 have NB:=hideM (show ∀k,SetsB bt kt W.sn W.sets k→k<w.heap.size from fun k hk=>t1.lt hk)
 have NC:=hideM (show ∀k,SnapsB bp kp W.pn W.snaps k→k<w.heap.size from fun k hk=>p1.lt hk)
 clear s1 s2 s3 s4 s5 t1 t2 t3 p1 p2 p3 pq pr qr hl hk1
 obtain⟨⟨x0,-⟩,⟨x1,-⟩,⟨x2,-⟩,⟨x3,-⟩,⟨x4,-⟩,⟨x5,-⟩⟩:=HB.out
 go_enter Tryz.func13,Tryz.ntmps13
 go_wp2_with fail
 clear x0 x1 x2 x3 x4 x5
 have hsz:(w.alloc (.cells #[.slice a0 W.pool.n c0,.slice a1 W.pool.hn c1,.int .i64 W.time,.int .i64 W.next,.slice a2 W.sn c2,.slice a3 W.pn c3] 37)).heap.size=w.heap.size+1:=World.size_alloc _ _
 have HS0:=hideM hsz
 clear hsz
 generalize w.alloc (.cells #[.slice a0 W.pool.n c0,.slice a1 W.pool.hn c1,.int .i64 W.time,.int .i64 W.next,.slice a2 W.sn c2,.slice a3 W.pn c3] 37)=W0 at ha HB HS0 ⊢
 refine(markPool_any bs hb kb kv _ _ W.pool k0 W0 (S1.out.below ha) S2.out (S3.out.below ha) S4.out hk0 (by have h1:=HE.out; have h2:=HK.out; unfold endP at h1; omega)).mono ?_
 rintro e w1 ⟨rfl,g1,g2,ht1⟩
 have G1:=hideM g1
 have G2:=hideM g2
 have HT1:=hideM ht1
 have HB1:=hideM (HB.out.turned ht1 (fun x=>absurd (NA.out _ x) (by omega)))
 have TT1:=hideM ((T1.out.below ha).turned ht1 (fun k hk x=>HPQ.out.1 k (S5.out k x) (T3.out k hk)))
 have PP1:=hideM ((P1.out.below ha).turned ht1 (fun k hk x=>HPQ.out.2.1 k (S5.out k x) (P3.out k hk)))
 clear g1 g2 ht1 HB
 obtain⟨⟨x0,-⟩,⟨x1,-⟩,⟨x2,-⟩,⟨x3,-⟩,⟨x4,-⟩,⟨x5,-⟩⟩:=HB1.out
 go_wp2_with fail
 clear x0 x1 x2 x3 x4 x5
 refine(markSetS_any bt kt vt _ W.sn W.sets _ w1 TT1.out T2.out (by have h1:=HE.out; unfold endP at h1; omega) (by have h1:=HE.out; have h2:=HK.out; unfold endP at h1; omega)).mono ?_
 rintro e w2 ⟨rfl,g3,ht2⟩
 have G3:=hideM g3
 have HT2:=hideM ht2
 have hn1:¬SetsB bt kt W.sn W.sets w.heap.size:=fun x=>absurd (NB.out _ x) (by omega)
 have HB2:=hideM (HB1.out.turned ht2 hn1)
 have PP2:=hideM (PP1.out.turned ht2 (fun k hk x=>HPQ.out.2.2.1 k (T3.out k x) (P3.out k hk)))
 clear g3 ht2 HB1 hn1
 obtain⟨⟨x0,-⟩,⟨x1,-⟩,⟨x2,-⟩,⟨x3,-⟩,⟨x4,-⟩,⟨x5,-⟩⟩:=HB2.out
 go_wp2_with fail
 clear x0 x1 x2 x3 x4 x5
 refine(markSnapS_any bp kp vp _ W.pn W.snaps _ w2 PP2.out P2.out (by have h1:=HE.out; unfold endP at h1; omega) (by have h1:=HE.out; have h2:=HK.out; unfold endW endP at *; omega)).mono ?_
 rintro e w3 ⟨rfl,g4,ht3⟩
 have G4:=hideM g4
 have HT3:=hideM ht3
 clear g4 ht3
 go_wp2
 go_ret
 refine⟨rfl,⟨P,Q,R,⟨⟨bs,hb,kb,kv,?_,S2.out,?_,S4.out,S5.out⟩,⟨bt,kt,vt,?_,T2.out,T3.out⟩,⟨bp,kp,vp,G4.out,P2.out,P3.out⟩,HPQ.out.1,HPQ.out.2.1,HPQ.out.2.2.1⟩,HPQ.out.2.2.2⟩,?_⟩
 ·refine(G1.out.turned HT2.out (fun h0 x=>?_) (fun i hi h0 x=>?_)).turned HT3.out (fun h0 x=>?_) (fun i hi h0 x=>?_)
  ·exact HPQ.out.1 _ (S5.out _ (Or.inl (Or.inl ⟨h0,rfl⟩))) (T3.out _ x)
  ·exact HPQ.out.1 _ (S5.out _ (Or.inl (Or.inr ⟨i,hi,h0,rfl⟩))) (T3.out _ x)
  ·exact HPQ.out.2.1 _ (S5.out _ (Or.inl (Or.inl ⟨h0,rfl⟩))) (P3.out _ x)
  ·exact HPQ.out.2.1 _ (S5.out _ (Or.inl (Or.inr ⟨i,hi,h0,rfl⟩))) (P3.out _ x)
 ·refine(G2.out.turned HT2.out (fun h0 x=>?_)).turned HT3.out (fun h0 x=>?_)
  ·exact HPQ.out.1 _ (S5.out _ (Or.inr ⟨h0,rfl⟩)) (T3.out _ x)
  ·exact HPQ.out.2.1 _ (S5.out _ (Or.inr ⟨h0,rfl⟩)) (P3.out _ x)
 ·exact G3.out.turned HT3.out (fun k hk x=>HPQ.out.2.2.1 k (T3.out k hk) (P3.out k x))
 ·refine(((Turned.of_below ha).trans (HT1.out.mono ?_)).trans (HT2.out.mono ?_)).trans (HT3.out.mono ?_)
  ·exact fun k hk=>HPQ.out.2.2.2 k (Or.inl (S5.out k hk))
  ·exact fun k hk=>HPQ.out.2.2.2 k (Or.inr (Or.inl (T3.out k hk)))
  ·exact fun k hk=>HPQ.out.2.2.2 k (Or.inr (Or.inr (P3.out k hk)))
theorem cntSl_big(f:Nat→SlotD)(k0:Int):∀n,cntSl f k0 n≤k0+2*(n:Int)+2*(slotsN f n:Int)
 | 0=>by show k0≤_; omega
 | n+1=>by
  have:=cntSl_big f k0 n
  show cntSl f k0 n+2+2*((f n).kn:Int)≤k0+2*((n+1:Nat):Int)+2*((slotsN f n+((f n).kn+(f n).data.size):Nat):Int)
  omega
theorem cntSet_big(f:Nat→SetD)(k0:Int):∀n,cntSet f k0 n≤k0+5*(n:Int)+2*(setsN f n:Int)
 | 0=>by show k0≤_; omega
 | n+1=>by
  have:=cntSet_big f k0 n
  show cntSet f k0 n+5+2*((f n).dn:Int)≤k0+5*((n+1:Nat):Int)+2*((setsN f n+((f n).name.size+(f n).dn):Nat):Int)
  omega
theorem cntSnap_big(f:Nat→SnapD)(k0:Int):∀n,cntSnap f k0 n≤k0+7*(n:Int)+2*(snapsN f n:Int)
 | 0=>by show k0≤_; omega
 | n+1=>by
  have:=cntSnap_big f k0 n
  show cntSnap f k0 n+7+2*((f n).dn:Int)≤k0+7*((n+1:Nat):Int)+2*((snapsN f n+((f n).name.size+(f n).set.size+(f n).dn):Nat):Int)
  omega
theorem endW_small{W:WorldD}(h:worldN W≤4000000):endW W 1≤1000000000000∧0≤endW W 1:=by
 have h1:=cntSl_big W.pool.s 1 W.pool.n
 have h2:=endW_le W 1
 have h3:=cntSet_big W.sets (endP W.pool 1) W.sn
 have h4:=cntSnap_big W.snaps (cntSet W.sets (endP W.pool 1) W.sn) W.pn
 unfold worldN poolN at h
 have h5:endP W.pool 1=cntSl W.pool.s 1 W.pool.n+W.pool.hn:=rfl
 have h6:endW W 1=cntSnap W.snaps (cntSet W.sets (endP W.pool 1) W.sn) W.pn:=rfl
 generalize endP W.pool 1=e at *
 generalize cntSet W.sets e W.sn=s at *
 omega
theorem endW_big(W:WorldD)(k0:Int):endW W k0≤k0+8*(worldN W:Int):=by
 have h1:=cntSl_big W.pool.s k0 W.pool.n
 have h2:=endW_le W k0
 have h3:=cntSet_big W.sets (endP W.pool k0) W.sn
 have h4:=cntSnap_big W.snaps (cntSet W.sets (endP W.pool k0) W.sn) W.pn
 have h7:worldN W=W.pool.n+slotsN W.pool.s W.pool.n+W.pool.hn+(W.sn+setsN W.sets W.sn)+(W.pn+snapsN W.snaps W.pn):=rfl
 have h5:endP W.pool k0=cntSl W.pool.s k0 W.pool.n+W.pool.hn:=rfl
 have h6:endW W k0=cntSnap W.snaps (cntSet W.sets (endP W.pool k0) W.sn) W.pn:=rfl
 generalize endP W.pool k0=e at *
 generalize cntSet W.sets e W.sn=s at *
 omega
theorem endW_within{W:WorldD}{k0:Int}(h:worldN W≤4000000)(h0:0≤k0)(h1:k0≤100000000):endW W k0≤1000000000000∧0≤endW W k0:=by
 have:=endW_big W k0
 have:=endW_le W k0
 omega
theorem world_bounds{W:WorldD}(h:worldN W≤1048576):poolN W.pool≤1048576∧W.sn≤1048576∧W.pn≤1048576∧DeadsN W:=by
 refine⟨?_,?_,?_,worldN_deads h⟩
 all_goals
  unfold worldN at h
  omega
theorem setsN_edit(f:Nat→SetD)(k:Nat)(s:SetD)(hs:setN s≤setN (f k)):∀n,setsN (fun j=>if j=k then s else f j) n≤setsN f n
 | 0=>Nat.le_refl _
 | n+1=>by
  have ih:=setsN_edit f k s hs n
  show setsN _ n+setN (if n=k then s else f n)≤setsN f n+setN (f n)
  by_cases e:n=k
  ·subst e; rw [if_pos rfl]; omega
  ·rw [if_neg e]; omega
def PromoteIs(W:WorldD)(name:ByteArray)(oo:WOutD):Prop:=∃r o,RefI W (∃i,i<1∧8000<((fun (_:Nat)=>name) i).size) (∃i,i<0∧¬NameP ((fun _=>⟨#[]⟩) i)) 3 (fun i=>match i with | 0=>HasSet W name | 1=>(setAt W name).origin≠0 | _=>FreeL W name (promL W name)) (fun i=>match i with | 0=>2 | 1=>5 | _=>3) r∧(r=none→∃k k2,SetNo W name k∧SetNo W (aheadOf W (setAt W name).origin).set k2∧o=⟨promW W name k k2 (promL W name),(setAt W name).origin,0,0⟩)∧oo=outW r o
theorem PromoteIs.uniq{W:WorldD}{name:ByteArray}{o o':WOutD}(h:PromoteIs W name o)(h':PromoteIs W name o'):o=o':=by
 obtain⟨r,a,h1,h2,rfl⟩:=h
 obtain⟨r',b,g1,g2,rfl⟩:=h'
 obtain rfl:=h1.uniq g1
 cases r with
 | some i=>rfl
 | none=>
  obtain⟨k,k2,hk,hk2,rfl⟩:=h2 rfl
  obtain⟨k',k2',hk',hk2',rfl⟩:=g2 rfl
  obtain rfl:=hk.uniq hk'
  obtain rfl:=hk2.uniq hk2'
  rfl
open Classical in
noncomputable def promoteAns(W:WorldD)(name:ByteArray):WOutD:=if h:∃o,PromoteIs W name o then h.choose else refuseW 0
theorem promoteAns_of{W:WorldD}{name:ByteArray}{w w':World}{e:Ending}(h:AnsPromote W name w e w'):NewWOut (promoteAns W name) w e w':=by
 obtain⟨r,o,h1,h2,h3⟩:=h
 have hi:PromoteIs W name (outW r o):=⟨r,o,h1,h2,rfl⟩
 have hx:∃o,PromoteIs W name o:=⟨_,hi⟩
 have he:promoteAns W name=outW r o:=by
  unfold promoteAns
  rw [dif_pos hx]
  exact hx.choose_spec.uniq hi
 rw [he]
 exact h3
theorem snapsN_more(f g:Nat→SnapD)(c:Nat)(h:∀j,snapN (g j)≤snapN (f j)+c):∀n,snapsN g n≤snapsN f n+n*c
 | 0=>Nat.zero_le _
 | n+1=>by
  have ih:=snapsN_more f g c h n
  have h1:=h n
  show snapsN g n+snapN (g n)≤snapsN f n+snapN (f n)+(n+1)*c
  rw [Nat.succ_mul]
  omega
theorem worldN_prom(W:WorldD)(name:ByteArray)(k k2:Nat)(l:List SnapD):worldN (promW W name k k2 l)≤worldN W+W.pn*name.size:=by
 have h1:=setsN_edit W.sets k {W.sets k with origin:=(W.sets k2).origin} (Nat.le_refl _) W.sn
 have h2:=setsN_edit (orgTo W.sets k (W.sets k2).origin) k2 {orgTo W.sets k (W.sets k2).origin k2 with origin:=(l.getD 0 zeroSnap).id} (Nat.le_refl _) W.sn
 have h3:=snapsN_more W.snaps (promSn W name l W.pn) name.size (fun j=>by
  unfold promSn
  by_cases hq:j<W.pn∧Comes l (W.snaps j).id
  ·rw [if_pos hq]
   unfold snapN
   dsimp only
   omega
  ·rw [if_neg hq]
   omega) W.pn
 have h7:worldN (promW W name k k2 l)=poolN W.pool+(W.sn+setsN (orgTo (orgTo W.sets k (W.sets k2).origin) k2 (l.getD 0 zeroSnap).id) W.sn)+(W.pn+snapsN (promSn W name l W.pn) W.pn):=rfl
 have h8:worldN W=poolN W.pool+(W.sn+setsN W.sets W.sn)+(W.pn+snapsN W.snaps W.pn):=rfl
 have h9:setsN (orgTo (orgTo W.sets k (W.sets k2).origin) k2 (l.getD 0 zeroSnap).id) W.sn≤setsN (orgTo W.sets k (W.sets k2).origin) W.sn:=h2
 have h10:setsN (orgTo W.sets k (W.sets k2).origin) W.sn≤setsN W.sets W.sn:=h1
 omega
theorem RefI.short{W:WorldD}{a b:Prop}{m:Nat}{Q:Nat→Prop}{ei:Nat→Nat}(h:RefI W a b m Q ei none):¬a:=by
 rcases h with⟨_,e⟩ | ⟨_,_,e⟩ | ⟨_,_,_,_,_,_,_,e⟩ | ⟨h,_⟩
 ·cases e
 ·cases e
 ·cases e
 ·exact h
theorem promoteAns_small{W:WorldD}{name:ByteArray}(hN:worldN W≤1048576):endW (promoteAns W name).world 1≤1000000000000∧0≤endW (promoteAns W name).world 1:=by
 have hz:∀c,endW (refuseW c).world 1≤1000000000000∧0≤endW (refuseW c).world 1:=fun c=>endW_within (W:=noW) (by decide) (by decide) (by decide)
 unfold promoteAns
 split
 ·rename_i h
  obtain⟨r,o,h1,h2,h3⟩:=h.choose_spec
  rw [h3]
  cases r with
  | some i=>exact hz _
  | none=>
   obtain⟨k,k2,hk,hk2,rfl⟩:=h2 rfl
   have hb:=worldN_prom W name k k2 (promL W name)
   have hl:¬8000<name.size:=fun h=>h1.short (long1.2 h)
   have hp:=h1.impl.names.snaps.1
   have hm:W.pn*name.size≤20*8000:=Nat.mul_le_mul hp (by omega)
   exact endW_within (W:=promW W name k k2 (promL W name)) (by omega) (by decide) (by decide)
 ·exact hz _
set_option maxRecDepth 20000 in
set_option maxHeartbeats 1000000 in
theorem l05Named_any(v0 v1 v2 v3:Value)(lo hi:Nat)(W:WorldD)(set name:ByteArray)(w:World)(h:WorldAt w lo hi v0 v1 v2 v3 W) :
  Calls Tryz.prog 59 #[worldV v0 v1 v2 v3 W,.string set,.string name] w fun e w'=>BoolIs (∃i,i<W.pn∧(W.snaps i).set=set∧(W.snaps i).name=name) e∧Below w.heap.size w w':=by
 have Hp:=hideW h.snaps
 obtain⟨m1,a,c,rfl,mc,_⟩:=id h.snaps
 unfold maxLen at m1
 clear h
 have ha:=below_alloc w (.cells #[v0,v1,.int .i64 W.time,.int .i64 W.next,v2,.slice a W.pn c] 37)
 have HB:=hideW (Box6.new w v0 v1 (.int .i64 W.time) (.int .i64 W.next) v2 (.slice a W.pn c) 37)
 go_enter Tryz.func59,Tryz.ntmps59
 go_wp2
 go_loopw [7] (fun i wr=>∃k:Nat,k≤W.pn∧i = .int .i64 k∧(∀j,j<k→¬((W.snaps j).set=set∧(W.snaps j).name=name))∧Box6 wr w.heap.size v0 v1 (.int .i64 W.time) (.int .i64 W.next) v2 (.slice a W.pn c)∧Below w.heap.size w wr) (fun i _=>W.pn - (intOf i).toNat)
 case atStart=>exact⟨0,Nat.zero_le _,rfl,fun j hj=>absurd hj (Nat.not_lt_zero _),HB.out,ha⟩
 case round=>
  obtain⟨k,hk,rfl,hno,hX,hb⟩:=hrel
  have Hno:=hideW hno
  have HX:=hideW hX
  clear hno hX
  obtain⟨⟨x0,x1⟩,⟨x2,x3⟩,⟨x4,x5⟩,⟨x6,x7⟩,⟨x8,x9⟩,⟨x10,x11⟩⟩:=HX.out
  by_cases hlt:k<W.pn
  ·have hlt':(k:Int)<(W.pn:Int):=by omega
   obtain⟨b,off,vd,rfl,hs⟩:=(Hp.out.below hb).cells hlt
   have q1:=hs.c1
   have q2:=hs.c2
   clear hs
   by_cases he:(W.snaps k).set=set
   ·have H:=hideW he
    rw [he] at q2
    clear he
    by_cases he:(W.snaps k).name=name
    ·have H2:=hideW he
     rw [he] at q1
     clear he
     go_wp2
     go_ret
     exact⟨BoolIs.yes ⟨k,hlt,H.out,H2.out⟩,hb⟩
    ·have H2:=hideW he
     have e0:((W.snaps k).name.toList == name.toList)=false:=str_ne he
     clear he
     go_wp2
     go_roundw
     case rel=>
      refine⟨k+1,by omega,by go_num,?_,HX.out,hb⟩
      intro j hj
      by_cases e:j=k
      ·subst e; exact fun h=>H2.out h.2
      ·exact Hno.out j (by omega)
     case measure=>simp [intOf]; omega
   ·have H:=hideW he
    have e0:((W.snaps k).set.toList == set.toList)=false:=str_ne he
    clear he
    go_wp2
    go_roundw
    case rel=>
     refine⟨k+1,by omega,by go_num,?_,HX.out,hb⟩
     intro j hj
     by_cases e:j=k
     ·subst e; exact fun h=>H.out h.1
     ·exact Hno.out j (by omega)
    case measure=>simp [intOf]; omega
  ·obtain rfl:k=W.pn:=by omega
   go_wp2
   go_ret
   exact⟨BoolIs.no (fun ⟨i,hi,h⟩=>Hno.out i hi h),hb⟩
set_option maxRecDepth 20000 in
set_option maxHeartbeats 1000000 in
theorem l05Ill_any(c:Int)(w:World):Calls Tryz.prog 25 #[.int .i64 c] w fun e w'=>e = .returned (.agg #[.slice none 0 0,.slice none 0 0,.int .i64 0,.int .i64 0,.slice none 0 0,.slice none 0 0,.int .i64 0,.int .i64 0,.int .i64 c])∧Below w.heap.size w w':=by
 have ha:=below_alloc w (.cells #[.slice none 0 0,.slice none 0 0,.int .i64 0,.int .i64 0,.slice none 0 0,.slice none 0 0,.int .i64 0,.int .i64 0,.int .i64 c] 39)
 have HRz:=Box9.new w (.slice none 0 0) (.slice none 0 0) (.int .i64 0) (.int .i64 0) (.slice none 0 0) (.slice none 0 0) (.int .i64 0) (.int .i64 0) (.int .i64 c) 39
 go_enter Tryz.func25,Tryz.ntmps25
 go_wp2_with fail
 refine bodyPost_ret (v:=.agg #[.slice none 0 0,.slice none 0 0,.int .i64 0,.int .i64 0,.slice none 0 0,.slice none 0 0,.int .i64 0,.int .i64 0,.int .i64 c]) (by simp [results,Tryz.results25,go_sem,HRz.1.1,HRz.2.1.1,HRz.2.2.1.1,HRz.2.2.2.1.1,HRz.2.2.2.2.1.1,HRz.2.2.2.2.2.1.1,HRz.2.2.2.2.2.2.1.1,HRz.2.2.2.2.2.2.2.1.1,HRz.2.2.2.2.2.2.2.2.1]) rfl ?_
 exact⟨rfl,ha⟩
theorem rows_next{w:World}{k:Nat}{v:Value}{kv:Nat→Value}{dn:Nat→Nat}(hk:RowB w 61 2 v (dn k))(h:∀i,i<k→RowB w 61 2 (kv i) (dn i))(a:Addr)(u:Value):∀i,i<k+1→RowB (w.setCell a u) 61 2 ((fun j=>if j=k then v else kv j) i) (dn i):=fun i hi=>by
 by_cases e:i=k
 ·subst e
  simp only [if_true]
  exact hk.set a u
 ·simp only [if_neg e]
  exact(h i (by omega)).set a u
theorem run_copy_ptrsR(w:World)(lo hi:Nat)(a:Option Addr)(n c:Nat)(f g:Nat→Int)(h:PtrsAt w lo hi (.slice a n c) n f g)(hn:n≤1048576)(ty:TypeId):∃a' c' kb w1,
  (Builtin.append_ #[62,62] ty #[.slice (some ⟨w.heap.size,0,none⟩) 0 0,.slice a n c]).run Tryz.prog (w.alloc (.cells #[] 61)) = .ok (.slice a' n c') w1∧PtrsOwn w1 kb (.slice a' n c') n f g∧(0<n→w.heap.size≤kb∧kb<w1.heap.size)∧Below w.heap.size w w1∧RowB w1 61 2 (.slice a' n c') n:=by
 obtain⟨m1,a0,c0,hv,mc,g1⟩:=h
 simp only [Value.slice.injEq,true_and] at hv
 obtain⟨rfl,rfl⟩:=hv
 obtain⟨i0,hi0,hzz⟩:=Option.map_eq_some_iff.1 infoPtrT
 simp only [Prod.mk.injEq] at hzz
 obtain⟨hz,hs,hby⟩:=hzz
 have ht:Tryz.prog.underlying 62=some (.slice 61):=by kernel_rfl
 have hown0:(w.alloc (.cells #[] 61)).ownsRow w.heap.size 61 2 (.slice (some ⟨w.heap.size,0,none⟩) 0 0) 0 []:=World.ownsRow_made w #[] 0 (Nat.le_refl _) (Nat.zero_le _) (by simp)
 have hba:=below_alloc w (.cells #[] 61)
 by_cases h0:0<n
 ·obtain⟨b,off,rfl,_,_,hc⟩:=g1 h0
  have hadd:∀j,(⟨b,off,none⟩:Addr).add j=⟨b,off+j,none⟩:=fun j=>by unfold Addr.add; split <;> simp_all
  obtain⟨v',w1,hr,r1,r2,_⟩:=run_append_own (P:=Tryz.prog) (w.alloc (.cells #[] 61)) w.heap.size 62 ty 61 i0 (.agg #[.int .i64 0,.int .i64 0]) 2 16 ht hi0 hz hs hby rfl (by decide) _ 0 [] hown0 ⟨b,off,none⟩ n c (kc f g n) (kc_len f g n) (fun j u hj=>by
    have:=kc_cells hc j u hj
    rw [hadd] at this ⊢
    exact(hba.cell (lt_of_cell this)).trans this) (kc_one f g n) (by unfold maxLen; omega) (by omega) (by simp)
  have hown2:w1.ownsRow w.heap.size 61 2 v' n (kc f g n):=by simpa using r1
  obtain⟨kb,hp,hk⟩:=ptrs_of_owns m1 hown2
  obtain⟨_,a',c',rfl,_⟩:=id hp
  have hb1:Below w.heap.size w w1:=hba.grown r2 (by simp) (fun q hq=>by have:=hown0.lt q hq; omega)
  exact⟨a',c',kb,w1,hr,hp,hk,hb1,rowB_of_owns hown2 (fun e=>by omega)⟩
 ·obtain rfl:n=0:=by omega
  have hr:=run_append_zero (P:=Tryz.prog) (w:=w.alloc (.cells #[] 61)) w.heap.size 62 ty 61 i0 2 c a ht hi0 _ 0 [] hown0
  exact⟨_,0,0,_,hr,⟨Nat.zero_le _,_,0,rfl,Nat.le_refl _,fun h=>absurd h (Nat.lt_irrefl _)⟩,fun h=>absurd h (Nat.lt_irrefl _),hba,Or.inl ⟨rfl,_,rfl⟩⟩
end Go.Proofs.YtmgeglgboadfiaaGreatDoor
