/- Where a set of a name lies in a change. -/
import Derived.Test.YtmgeglgboadfiaaGreatDoorP27
import Derived.Test.YtmgeglgboadfiaaGreatDoorP11
import Derived.Test.YtmgeglgboadfiaaGreatDoorP3
import Derived.Deep.RegionHeld3
import Derived.Test.YtmgeglgboadfiaaGreatDoorP21
import Derived.Test.YtmgeglgboadfiaaGreatDoorP20
import Derived.Test.YtmgeglgboadfiaaGreatDoorP22
import Derived.Test.YtmgeglgboadfiaaGreatDoorP26
import Derived.Test.YtmgeglgboadfiaaGreatDoorP23
import Derived.Test.YtmgeglgboadfiaaGreatDoorP16
import Derived.BigRegion
import Derived.Test.YtmgeglgboadfiaaGreatDoorP18
namespace Go.Proofs.YtmgeglgboadfiaaGreatDoor
open Go.RowKit
set_option linter.unusedVariables false
set_option maxRecDepth 20000 in
set_option maxHeartbeats 2000000 in
theorem chSet1_any(s:SetD)(a:Option Addr)(c B:Nat)(name:ByteArray)(w:World)(h0:w.cell? ⟨B,0,none⟩=some (.string name)) :
  Calls Tryz.prog 104 #[.agg #[.string s.name,.int .i64 s.origin,.int .i64 s.prev,.int .i64 s.rs,.int .i64 s.rb,.slice a s.dn c],.pointer (some ⟨B,0,none⟩)] w fun e w'=>BoolIs (s.name=name) e∧Below w.heap.size w w':=by
 have ha:=below_alloc w (.cells #[.string s.name,.int .i64 s.origin,.int .i64 s.prev,.int .i64 s.rs,.int .i64 s.rb,.slice a s.dn c] 67)
 have k0:=(ha.cell (lt_of_cell h0)).trans h0
 clear h0
 obtain⟨⟨x0,-⟩,⟨x1,-⟩,⟨x2,-⟩,⟨x3,-⟩,⟨x4,-⟩,⟨x5,-⟩⟩:=Box6.new w (.string s.name) (.int .i64 s.origin) (.int .i64 s.prev) (.int .i64 s.rs) (.int .i64 s.rb) (.slice a s.dn c) 67
 by_cases e1:s.name=name
 ·skip
  have a1:=str_eq e1
  have H:=hideW e1
  clear e1
  go_enter Tryz.func104,Tryz.ntmps104
  go_wp2
  go_ret
  exact⟨BoolIs.yes H.out,ha⟩
 ·skip
  have a1:=str_ne e1
  have H:=hideW e1
  clear e1
  go_enter Tryz.func104,Tryz.ntmps104
  go_wp2
  go_ret
  exact⟨BoolIs.no H.out,ha⟩
theorem first_at{n k:Nat}{f:Nat→SetD}{name:ByteArray}{e:Ending}(hn:(f k).name=name)(hf:∀j,j<k→(f j).name≠name)(hk:k<n)
  (hr:(∃i:Nat,i<n∧(f i).name=name∧(∀j,j<i→¬(f j).name=name)∧e = .returned (.int .i64 (i:Int)))∨((∀j,j<n→¬(f j).name=name)∧e = .returned (.int .i64 (-1)))):e = .returned (.int .i64 (k:Int)):=by
 rcases hr with⟨i,hi,h1,h2,rfl⟩ | ⟨h1,_⟩
 ·obtain rfl:i=k:=by
   rcases Nat.lt_trichotomy i k with h | h | h
   ·exact absurd h1 (hf i h)
   ·exact h
   ·exact absurd hn (h2 k h)
  rfl
 ·exact absurd hn (h1 k hk)
set_option maxRecDepth 20000 in
set_option maxHeartbeats 2000000 in
theorem chSet_any(C lo hi n k c2:Nat)(a2:Option Addr)(f:Nat→SetD)(name:ByteArray)(w:World)(hc:w.cell? ⟨C,4,none⟩=some (.slice a2 n c2))(hS:SetsAt w lo hi (.slice a2 n c2) n f)(hn:n≤8)(hk:k<n)(hname:(f k).name=name)(hfirst:∀j,j<k→(f j).name≠name) :
  Calls Tryz.prog 37 #[.pointer (some ⟨C,0,none⟩),.string name] w fun e w'=>(∃b off,a2=some ⟨b,off,none⟩∧e = .returned (.pointer (some ⟨b,off+k*6,none⟩)))∧Below w.heap.size w w':=by
 have Hp:=hideW hS
 have Hn:=hideW hname
 have Hf:=hideW hfirst
 obtain⟨b,off,vd,rfl,-⟩:=hS.cells hk
 clear hS hname hfirst
 have ha:=below_alloc w (.cells #[.string name] 9)
 have c0:(w.alloc (.cells #[.string name] 9)).cell? ⟨w.heap.size,0,none⟩=some (.string name):=World.cell?_alloc_at _ _ _ _ rfl
 have hc1:=(ha.cell (lt_of_cell hc)).trans hc
 have C0:=hideW c0
 have hk':(k:Int)<(n:Int):=by omega
 clear c0 hc
 go_enter Tryz.func37,Tryz.ntmps37
 go_wp2_with fail
 generalize w.alloc (.cells #[.string name] 9)=W1 at ha hc1 C0 ⊢
 have IX:=hideW (show ∀w',Below W1.heap.size W1 w'→Calls Tryz.prog 103 #[.slice (some ⟨b,off,none⟩) n c2,.func (.func 104) #[] #[.pointer (some ⟨w.heap.size,0,none⟩)]] w' fun e w''=>e = .returned (.int .i64 (k:Int))∧Below w'.heap.size w' w'' from fun w' hb'=>by
  refine(indexSet_any 104 #[.pointer (some ⟨w.heap.size,0,none⟩)] (enters_of Tryz.func104 (by kernel_rfl) rfl) (fun i=>(f i).name=name) _ n lo hi f w' ((Hp.out.below ha).below hb') (by omega) (fun i hi' a c w'' hbw hp=>chSet1_any (f i) a c _ name w'' (((below_next hb' hbw).cell (lt_of_cell C0.out)).trans C0.out))).mono ?_
  rintro e w2 ⟨hr,hb2⟩
  exact⟨first_at Hn.out Hf.out hk hr,hb2⟩)
 go_region_held3 (fun w'=>w'.cell? ⟨C,4,none⟩=some (.slice (some ⟨b,off,none⟩) n c2)) (go_keep)
  (first | (go_at_call 103; refine(IX.out _ (Below.refl _ _).drew).mono ?_; rintro e w2 ⟨rfl,hb2⟩; have hb2':=below_undrew hb2; have hc2:=(hb2'.cell (lt_of_cell hc1)).trans hc1))
 go_wp2
 go_ret
 exact⟨⟨b,off,rfl,rfl⟩,below_next ha hb2'⟩
def WorldOwn2(w:World)(lo hi m top:Nat)(v0 v1 v2 v3:Value)(W:WorldD):Prop:=∃P Q R,WorldIn w P Q R v0 v1 v2 v3 W∧∀k,P k∨Q k∨R k→(lo≤k∧k<hi)∨(m≤k∧k<top)
theorem WorldOwn2.own{w:World}{lo hi m top:Nat}{v0 v1 v2 v3:Value}{W:WorldD}(h:WorldOwn2 w lo hi m top v0 v1 v2 v3 W)(h1:lo≤m)(h2:hi≤top):WorldOwn w lo top v0 v1 v2 v3 W:=by
 obtain⟨P,Q,R,h,hl⟩:=h
 exact⟨P,Q,R,h,fun k hk=>by have:=hl k hk; omega⟩
theorem WorldOwn2.turned{S:Nat→Prop}{w w':World}{lo hi m top:Nat}{v0 v1 v2 v3:Value}{W:WorldD}(h:WorldOwn2 w lo hi m top v0 v1 v2 v3 W)(t:Turned S w w')(hs:∀k,S k→k<lo∨(hi≤k∧k<m))(hm:hi≤m)(hlo:lo≤m):WorldOwn2 w' lo hi m top v0 v1 v2 v3 W:=by
 obtain⟨P,Q,R,h,hl⟩:=h
 exact⟨P,Q,R,h.turned t (fun k hk e=>by have:=hl k hk; have:=hs k e; omega),hl⟩
theorem SetsOwn.nth{w:World}{bs n:Nat}{kb:Nat→Nat}{kv:Nat→Value}{v:Value}{f:Nat→SetD}(h:SetsOwn w bs kb kv v n f){k:Nat}(hk:k<n):∃off c,v = .slice (some ⟨bs,off,none⟩) n c∧SetOwn w bs (off+k*6) (kb k) (kv k) (f k):=by
 obtain⟨_,a,c,hv,_,hx⟩:=h
 obtain⟨off,ha,h⟩:=hx (by omega)
 exact⟨off,c,by rw [hv,ha],h k hk⟩
theorem PtrsAt.text{w:World}{lo hi:Nat}{v:Value}{n:Nat}{f g:Nat→Int}(h:PtrsAt w lo hi v n f g){b o:Nat}{s:ByteArray}(hs:w.cell? ⟨b,o,none⟩=some (.string s))(u:Value):PtrsAt (w.setCell ⟨b,o,none⟩ u) lo hi v n f g:=by
 obtain⟨h0,a,cap,hv,hcc,hc⟩:=h
 refine⟨h0,a,cap,hv,hcc,fun hn=>?_⟩
 obtain⟨c,off,ha,h1,h2,h3⟩:=hc hn
 have hk:∀(o':Nat) (x:Int),w.cell? ⟨c,o',none⟩=some (.int .i64 x)→(w.setCell ⟨b,o,none⟩ u).cell? ⟨c,o',none⟩=some (.int .i64 x):=fun o' x hx=>by
  by_cases e:c=b∧o'=o
  ·obtain⟨rfl,rfl⟩:=e
   rw [hs] at hx
   cases hx
  ·rw [World.cell?_setCell_other _ _ _ _ (fun e'=>e (by cases e'; exact⟨rfl,rfl⟩))]
   exact hx
 refine⟨c,off,ha,h1,h2,fun i hi=>?_⟩
 have:=h3 i hi
 exact⟨hk _ _ this.1,hk _ _ this.2⟩
theorem DeadK.text{w:World}{hi:Nat}{l:List SnapD}{kv:Nat→Value}(h:DeadK w hi l kv){b o:Nat}{s:ByteArray}(hs:w.cell? ⟨b,o,none⟩=some (.string s))(u:Value):DeadK (w.setCell ⟨b,o,none⟩ u) hi l kv:=fun i hi'=>by
 obtain⟨a,c,h1,h2⟩:=h i hi'
 exact⟨a,c,h1,h2.text hs u⟩
theorem DeadK.below{w w':World}{hi:Nat}{l:List SnapD}{kv:Nat→Value}(h:DeadK w hi l kv)(hb:Below w.heap.size w w'):DeadK w' hi l kv:=fun i hi'=>by
 obtain⟨a,c,h1,h2⟩:=h i hi'
 exact⟨a,c,h1,h2.below hb⟩
theorem SnapsOwn.nth{w:World}{bs n:Nat}{kb:Nat→Nat}{kv:Nat→Value}{v:Value}{f:Nat→SnapD}(h:SnapsOwn w bs kb kv v n f){k:Nat}(hk:k<n):∃off c,v = .slice (some ⟨bs,off,none⟩) n c∧SnapOwn w bs (off+k*8) (kb k) (kv k) (f k):=by
 obtain⟨_,a,c,hv,_,hx⟩:=h
 obtain⟨off,rfl,hs⟩:=hx (by omega)
 exact⟨off,c,hv,hs k hk⟩
theorem RowS.turnedP{w w1:World}{base B g:Nat}{n c:Nat}{l:List SnapD}{kv:Nat→Value}(h:RowS w base (.slice (some ⟨g,0,none⟩) n c) l kv)(t:Turned (fun k=>k=B) w w1)(hB:B≠g):RowS w1 base (.slice (some ⟨g,0,none⟩) n c) l kv:=
 World.ownsRow.kept h (grown_of_turnP t) (Or.inr (by simp only [Value.ownBlock]; exact fun e=>hB (by injection e with e; exact e.symm)))
theorem promSn_dn(W:WorldD)(name:ByteArray)(l:List SnapD)(m j:Nat):(promSn W name l m j).dn=(W.snaps j).dn:=by
 unfold promSn
 by_cases hq:j<m∧Comes l (W.snaps j).id
 ·rw [if_pos hq]
 ·rw [if_neg hq]
theorem promSn_B{W:WorldD}{name:ByteArray}{l:List SnapD}{m bs:Nat}{kb:Nat→Nat}{n k:Nat}(h:SnapsB bs kb n (promSn W name l m) k):SnapsB bs kb n W.snaps k:=by
 rcases h with h | ⟨i,h1,h2,h3⟩
 ·exact Or.inl h
 ·exact Or.inr ⟨i,h1,by rw [←promSn_dn W name l m i]; exact h2,h3⟩
theorem promSn_apart{W:WorldD}{kb:Nat→Nat}{n:Nat}(h:SnapsApart kb n W.snaps)(name:ByteArray)(l:List SnapD)(m:Nat):SnapsApart kb n (promSn W name l m):=fun a b ha hb hne h1 h2=>h a b ha hb hne (by rw [←promSn_dn W name l m a]; exact h1) (by rw [←promSn_dn W name l m b]; exact h2)
set_option maxRecDepth 20000 in
set_option maxHeartbeats 2000000 in
theorem promote_any(p:Nat→Addr)(C k k2:Nat)(z0 z1 z2 z3:Value)(W:WorldD)(name:ByteArray)(L:List SnapD)(O:SnapD)(w:World)(hI:ImplW W)(hwf:PrevsWf W)(hor:(Lit.int .i64 (setAt W name).origin).wf=true)(hk:SetNo W name k)(hL:L=comeL W (aheadOf W (setAt W name).origin).set (setAt W name).origin)(hO:L.getD 0 zeroSnap=O)(h0:0<L.length)(hk2:SetNo W O.set k2)(hne:k≠k2)(hsz:name.size≤maxLen)(hlt:C<w.heap.size)
  (ho:WorldOwnR w (C+1) w.heap.size z0 z1 z2 z3 W) (hC:Box9 w C z0 z1 (.int .i64 W.time) (.int .i64 W.next) z2 z3 (.int .i64 0) (.int .i64 0) .nilIface) :
  Calls Tryz.prog 63 #[.pointer (some ⟨C,0,none⟩),.string name] w (DoneI p ⟨promW W name k k2 L,O.id,0,0⟩ C w):=by
 have h8:=hI.names.sets.1
 have h20:=hI.names.snaps.1
 have hl20:L.length≤20:=by rw [hL]; exact comeL_len hI.names _ _
 have hkn:=hk.1
 have hkn2:=hk2.1
 have hpn:0<W.pn:=by
  obtain⟨-,j,hj,-⟩:=comeL_get hI.names _ _ (show 0<(comeL W (aheadOf W (setAt W name).origin).set (setAt W name).origin).length by rw [←hL]; exact h0)
  omega
 have HC:=hideW hC
 obtain⟨P,Q,R,hinR,hltS⟩:=ho
 have hin:=hinR.isIn
 obtain⟨bs,kb,kv,hS,hSa,hSq⟩:=hin.sets
 obtain⟨off,c,rfl,hsk⟩:=hS.nth hkn
 obtain⟨off',c',e1,hsk2⟩:=hS.nth hkn2
 cases e1
 obtain⟨bn,nb,nv,hN,hNa,hNq⟩:=hin.snaps
 obtain⟨offn,cn,rfl,-⟩:=hN.nth hpn
 have hbs:=hltS bs (Or.inr (Or.inl (hSq _ (Or.inl ⟨by omega,rfl⟩))))
 have hbn:=hltS bn (Or.inr (Or.inr (hNq _ (Or.inl ⟨by omega,rfl⟩))))
 have hbb:bs≠bn:=fun e=>hin.qr bs (hSq _ (Or.inl ⟨by omega,rfl⟩)) (by rw [e]; exact hNq _ (Or.inl ⟨by omega,rfl⟩))
 have hat:WorldAt w (C+1) w.heap.size z0 z1 (.slice (some ⟨bs,off,none⟩) W.sn c) (.slice (some ⟨bn,offn,none⟩) W.pn cn) W:=WorldOwn.at ⟨P,Q,R,hin,hltS⟩
 have HSM:=hideW (show ∀i,i<L.length→(L.getD i zeroSnap).name.size≤maxLen∧(L.getD i zeroSnap).set.size≤maxLen by rw [hL]; exact comeL_small hat hI.names _ _)
 have HSET:=hideW (show ∀(nm:ByteArray) (k:Nat) (w':World),SetNo W nm k→SetsOwn w' bs kb kv (.slice (some ⟨bs,off,none⟩) W.sn c) W.sn W.sets→w'.cell? ⟨C,4,none⟩=some (.slice (some ⟨bs,off,none⟩) W.sn c)→Calls Tryz.prog 37 #[.pointer (some ⟨C,0,none⟩),.string nm] w' fun e w''=>e = .returned (.pointer (some ⟨bs,off+k*6,none⟩))∧Below w'.heap.size w' w'' from fun nm k w' hk hS' hc=>by
  refine(chSet_any C (C+1) w.heap.size W.sn k c _ W.sets nm w' hc (hS'.at (lo:=C+1) (hi:=w.heap.size) (fun j hj=>hltS j (Or.inr (Or.inl (hSq j hj))))) h8 hk.1 hk.2.1 hk.2.2).mono ?_
  rintro e w2 ⟨⟨b,off',e1,rfl⟩,hb2⟩
  simp only [Option.some.injEq,Addr.mk.injEq,and_true] at e1
  obtain⟨rfl,rfl⟩:=e1
  exact⟨rfl,hb2⟩)
 have HTP:=hideW (show ∀w',Below w.heap.size w w'→Calls Tryz.prog 131 #[worldV z0 z1 (.slice (some ⟨bs,off,none⟩) W.sn c) (.slice (some ⟨bn,offn,none⟩) W.pn cn) W,.string name] w' fun e w''=>∃a c kv base,e = .returned (.slice a L.length c)∧RowS w'' base (.slice a L.length c) L kv∧DeadK w' w.heap.size L kv∧Below w'.heap.size w' w''∧w'.heap.size≤base from fun w' hb=>toBePromoted_any z0 z1 _ _ (C+1) w.heap.size W name w' L (hat.below hb) hb.size hI.names hwf hor hsz hL)
 have HIN:=hideW hin
 have HLT:=hideW hltS
 have HSO:=hideW hS
 have HSA:=hideW hSa
 have HSQ:=hideW hSq
 have HNO:=hideW hN
 have HNA:=hideW hNa
 have HNQ:=hideW hNq
 have HSK:=hideW hsk
 have HSK2:=hideW hsk2
 have Hk:=hideW hk
 have Hk2:=hideW hk2
 have HO:=hideW hO
 have Hsz:=hideW hsz
 have HPW:=hideW (show promW W name k k2 L = {W with sets:=orgTo (orgTo W.sets k (W.sets k2).origin) k2 O.id,snaps:=promSn W name L W.pn}by unfold promW; rw [hO])
 clear hinR hin hltS hS hSa hSq hN hNa hNq hsk hsk2 hC hI hwf hor hk hk2 hL hO hsz hat
 obtain⟨⟨x0,y0⟩,⟨x1,y1⟩,⟨x2,y2⟩,⟨x3,y3⟩,⟨x4,y4⟩,⟨x5,y5⟩,⟨x6,y6⟩,⟨x7,y7⟩,⟨x8,y8⟩⟩:=HC.out
 go_enter Tryz.func63,Tryz.ntmps63
 go_wp2_with fail
 refine(HSET.out name k w Hk.out HSO.out x4).mono ?_
 rintro e w2 ⟨rfl,hb2⟩
 clear x0 x1 x2 x3 x4 x5 x6 x7 x8 y0 y1 y2 y3 y4 y5 y6 y7 y8
 obtain⟨⟨x0,y0⟩,⟨x1,y1⟩,⟨x2,y2⟩,⟨x3,y3⟩,⟨x4,y4⟩,⟨x5,y5⟩,⟨x6,y6⟩,⟨x7,y7⟩,⟨x8,y8⟩⟩:=HC.out.below hb2
 go_wp2_with fail
 clear x0 x1 x2 x3 x4 x5 x6 x7 x8 y0 y1 y2 y3 y4 y5 y6 y7 y8
 refine(HTP.out w2 hb2).mono ?_
 clear HTP
 rintro e w3 ⟨ra,rc,kw,base,rfl,hrow,hdk,hb3,hbase⟩
 have hB3:=below_next hb2 hb3
 have hz2:=hb2.size
 have hz3:=hb3.size
 have HROW:=hideW hrow
 have HDK:=hideW (hdk.below hb3)
 obtain⟨_,g,cap,e1,-,-,hg,hx⟩:True∧∃g cap,(Value.slice ra L.length rc) = .slice (some ⟨g,0,none⟩) L.length cap∧True∧True∧g<w3.heap.size∧∀r,r<8→w3.cell? ⟨g,0*8+r,none⟩=some (cellSnap (fun i=>L.getD i zeroSnap) kw 0 r):=⟨trivial,by
  obtain⟨g,cap,e,-,-,hg,hx⟩:=owns_cell hrow h0
  exact⟨g,cap,e,trivial,trivial,hg,fun r hr=>(hx _ _ (clSnap_at (fun i=>L.getD i zeroSnap) kw L.length h0 hr)).1⟩⟩
 cases e1
 obtain⟨da,dc,hkw,-⟩:=hdk 0 h0
 rw [HO.out] at hkw
 have hgb:base≤g:=(RowS.lt hrow g rfl).1
 have q0:w3.cell? ⟨g,0,none⟩=some (.int .i64 O.id):=by have:=hx 0 (by omega); unfold cellSnap at this; dsimp only at this; rw [HO.out] at this; exact this
 have q1:w3.cell? ⟨g,1,none⟩=some (.string O.name):=by have:=hx 1 (by omega); unfold cellSnap at this; dsimp only at this; rw [HO.out] at this; exact this
 have q2:w3.cell? ⟨g,2,none⟩=some (.string O.set):=by have:=hx 2 (by omega); unfold cellSnap at this; dsimp only at this; rw [HO.out] at this; exact this
 have q3:w3.cell? ⟨g,3,none⟩=some (.int .i64 O.prev):=by have:=hx 3 (by omega); unfold cellSnap at this; dsimp only at this; rw [HO.out] at this; exact this
 have q4:w3.cell? ⟨g,4,none⟩=some (.int .i64 O.time):=by have:=hx 4 (by omega); unfold cellSnap at this; dsimp only at this; rw [HO.out] at this; exact this
 have q5:w3.cell? ⟨g,5,none⟩=some (.int .i64 O.rs):=by have:=hx 5 (by omega); unfold cellSnap at this; dsimp only at this; rw [HO.out] at this; exact this
 have q6:w3.cell? ⟨g,6,none⟩=some (.int .i64 O.rb):=by have:=hx 6 (by omega); unfold cellSnap at this; dsimp only at this; rw [HO.out] at this; exact this
 have q7:w3.cell? ⟨g,7,none⟩=some (.slice da O.dn dc):=by have:=hx 7 (by omega); unfold cellSnap at this; dsimp only at this; rw [hkw] at this; exact this
 have hl0:(0:Int)<(L.length:Int):=by omega
 clear hrow hdk hx hkw
 have ha4:=below_alloc w3 (.cells #[.int .i64 O.id,.string O.name,.string O.set,.int .i64 O.prev,.int .i64 O.time,.int .i64 O.rs,.int .i64 O.rb,.slice da O.dn dc] 99)
 have HV:=hideW (Box8.new w3 (.int .i64 O.id) (.string O.name) (.string O.set) (.int .i64 O.prev) (.int .i64 O.time) (.int .i64 O.rs) (.int .i64 O.rb) (.slice da O.dn dc) 99)
 have hz4:(w3.alloc (.cells #[.int .i64 O.id,.string O.name,.string O.set,.int .i64 O.prev,.int .i64 O.time,.int .i64 O.rs,.int .i64 O.rb,.slice da O.dn dc] 99)).heap.size=w3.heap.size+1:=World.size_alloc _ _
 have HROW4:=hideW (HROW.out.below ha4)
 have HDK4:=hideW (HDK.out.below ha4)
 have hB4:=below_next hB3 ha4
 obtain⟨⟨x0,y0⟩,⟨x1,y1⟩,⟨x2,y2⟩,⟨x3,y3⟩,⟨x4,y4⟩,⟨x5,y5⟩,⟨x6,y6⟩,⟨x7,y7⟩,⟨x8,y8⟩⟩:=HC.out.below hB4
 go_wp2_with fail
 clear q0 q1 q2 q3 q4 q5 q6 q7 x0 x1 x2 x3 x4 x5 x6 x7 x8 y0 y1 y2 y3 y4 y5 y6 y7 y8 HROW HDK
 generalize w3.alloc (.cells #[.int .i64 O.id,.string O.name,.string O.set,.int .i64 O.prev,.int .i64 O.time,.int .i64 O.rs,.int .i64 O.rb,.slice da O.dn dc] 99)=w4 at ha4 HV hz4 HROW4 HDK4 hB4 ⊢
 go_loopw [28] (fun s28 wr=>∃i:Nat,i≤W.pn∧s28 = .int .i64 i∧SnapsOwn wr bn nb nv (.slice (some ⟨bn,offn,none⟩) W.pn cn) W.pn (promSn W name L i)∧DeadK wr w.heap.size L kw∧Turned (fun j=>j=bn) w4 wr) (fun i _=>W.pn - (intOf i).toNat)
 case atStart=>exact⟨0,Nat.zero_le _,rfl,by rw [promSn_zero]; exact HNO.out.below hB4,HDK4.out,Turned.refl _ _⟩
 case round=>
  obtain⟨i,hi',rfl,hNr,hDr,hTr⟩:=hrel
  have HNR:=hideW hNr
  have HDR:=hideW hDr
  have HTR:=hideW hTr
  have hzr:=hTr.size
  have HCR:=hideW ((HC.out.below hB4).turned hTr (by omega))
  have HVR:=hideW (HV.out.turnedP hTr (by omega))
  clear hNr hDr hTr
  by_cases hlt2:i<W.pn
  ·have hlt':(i:Int)<(W.pn:Int):=by omega
   obtain⟨off1,c1,e1,hsn⟩:=HNR.out.nth hlt2
   cases e1
   rw [promSn_at W name L (Nat.le_refl i)] at hsn
   obtain⟨S4,hS4⟩:∃S4,S4=W.snaps i:=⟨_,rfl⟩
   rw [←hS4] at hsn
   have HSe:=hideW hS4
   obtain⟨-,ad,cd,ekv,-,-⟩:=id hsn.dead
   have HSN:=hideW hsn
   obtain⟨q0,-⟩:=hsn.c0
   obtain⟨q1,-⟩:=hsn.c1
   obtain⟨q2,-⟩:=hsn.c2
   obtain⟨q3,-⟩:=hsn.c3
   obtain⟨q4,-⟩:=hsn.c4
   obtain⟨q5,-⟩:=hsn.c5
   obtain⟨q6,-⟩:=hsn.c6
   obtain⟨q7,-⟩:=hsn.c7
   rw [ekv] at q7
   clear hsn ekv
   have ha5:=below_alloc wr (.cells #[.int .i64 S4.id,.string S4.name,.string S4.set,.int .i64 S4.prev,.int .i64 S4.time,.int .i64 S4.rs,.int .i64 S4.rb,.slice ad S4.dn cd] 99)
   have HX:=hideW (Box8.new wr (.int .i64 S4.id) (.string S4.name) (.string S4.set) (.int .i64 S4.prev) (.int .i64 S4.time) (.int .i64 S4.rs) (.int .i64 S4.rb) (.slice ad S4.dn cd) 99)
   have hz5:(wr.alloc (.cells #[.int .i64 S4.id,.string S4.name,.string S4.set,.int .i64 S4.prev,.int .i64 S4.time,.int .i64 S4.rs,.int .i64 S4.rb,.slice ad S4.dn cd] 99)).heap.size=wr.heap.size+1:=World.size_alloc _ _
   have hmf:∀(fn:Fn) (first cap:Array Value) (w:World),(Instr.makeFunc fn first cap).run Tryz.prog w = .ok (.func fn first cap) w:=fun _ _ _ _=>rfl
   clear hS4
   go_wp2_with fail
   clear q0 q1 q2 q3 q4 q5 q6 q7
   generalize wr.alloc (.cells #[.int .i64 S4.id,.string S4.name,.string S4.set,.int .i64 S4.prev,.int .i64 S4.time,.int .i64 S4.rs,.int .i64 S4.rb,.slice ad S4.dn cd] 99)=w5 at ha5 HX hz5 ⊢
   have hrow5:RowS w5 base (.slice (some ⟨g,0,none⟩) L.length rc) L kw:=(HROW4.out.turnedP HTR.out (show bn≠g by omega)).below ha5
   have hat5:=hrow5.at (w:=w5) (HDR.out.below ha5) (by omega) (Below.refl _ _) (by omega) HSM.out
   refine(comes_any L _ wr.heap.size S4.id 0 w5.heap.size w5 hat5 (by omega) HX.out.1.1.1).mono ?_
   rintro e w6 ⟨⟨t,rfl,ht⟩,hb6⟩
   have hb56:=below_next ha5 hb6
   have hz6:=hb6.size
   clear hrow5 hat5
   by_cases hq:Comes L S4.id
   ·obtain rfl:t=true:=ht.2 hq
    have HQ:=hideW hq
    clear ht hq
    obtain⟨⟨x0,y0⟩,⟨x1,y1⟩,⟨x2,y2⟩,⟨x3,y3⟩,⟨x4,y4⟩,⟨x5,y5⟩,⟨x6,y6⟩,⟨x7,y7⟩,⟨x8,y8⟩⟩:=HCR.out.below hb56
    have hsn6:=HSN.out.below hb56
    obtain⟨m2,m2'⟩:=hsn6.c2
    go_wp2_with fail
    clear x0 x1 x2 x3 x4 x5 x6 x7 x8 y0 y1 y2 y3 y4 y5 y6 y7 y8
    have hTp:=Turned.put w6 bn (offn+i*8+2) (.string name)
    go_roundw
    case rel=>
     refine⟨i+1,by omega,by go_num,?_,(HDR.out.below hb56).text m2 _,HTR.out.trans ((Turned.of_below hb56).trans hTp)⟩
     rw [promSn_yes name (by rw [←HSe.out]; exact HQ.out)]
     exact(HNR.out.below hb56).setTo hlt2 Hsz.out
    case measure=>simp [intOf]; omega
   ·obtain rfl:t=false:=bool_no ht hq
    have HQ:=hideW hq
    clear ht hq
    go_wp2_with fail
    go_roundw
    case rel=>
     refine⟨i+1,by omega,by go_num,?_,HDR.out.below hb56,HTR.out.trans (Turned.of_below hb56)⟩
     rw [promSn_no name (by rw [←HSe.out]; exact HQ.out)]
     exact HNR.out.below hb56
    case measure=>simp [intOf]; omega
  ·obtain rfl:i=W.pn:=by omega
   obtain⟨⟨v0,-⟩,⟨v1,-⟩,⟨v2,-⟩,-⟩:=HVR.out.1
   obtain⟨⟨x0,y0⟩,⟨x1,y1⟩,⟨x2,y2⟩,⟨x3,y3⟩,⟨x4,y4⟩,⟨x5,y5⟩,⟨x6,y6⟩,⟨x7,y7⟩,⟨x8,y8⟩⟩:=HCR.out
   go_wp2_with fail
   have hSr:SetsOwn wr bs kb kv (.slice (some ⟨bs,off,none⟩) W.sn c) W.sn W.sets:=(HSO.out.below hB4).turned HTR.out (fun j hj e=>HIN.out.qr j (HSQ.out j hj) (by rw [e]; exact HNQ.out _ (Or.inl ⟨by omega,rfl⟩)))
   have HSR:=hideW hSr
   clear hSr
   refine(HSET.out O.set k2 wr Hk2.out HSR.out x4).mono ?_
   rintro e w6 ⟨rfl,hb6⟩
   clear v0 v1 v2 x0 x1 x2 x3 x4 x5 x6 x7 x8 y0 y1 y2 y3 y4 y5 y6 y7 y8
   have hz6:=hb6.size
   obtain⟨o2,ho2⟩:∃o2,o2=off+k*6:=⟨_,rfl⟩
   obtain⟨o3,ho3⟩:∃o3,o3=off+k2*6:=⟨_,rfl⟩
   have hoo:o2+1≠o3+1:=by omega
   have Ho2:=hideW ho2
   have Ho3:=hideW ho3
   have hsk6:=((HSK.out.below hB4).turned HTR.out hbb (fun h0 e=>HIN.out.qr _ (HSQ.out _ (Or.inr ⟨k,hkn,h0,rfl⟩)) (by rw [e]; exact HNQ.out _ (Or.inl ⟨by omega,rfl⟩)))).below hb6
   have hsk26:=((HSK2.out.below hB4).turned HTR.out hbb (fun h0 e=>HIN.out.qr _ (HSQ.out _ (Or.inr ⟨k2,hkn2,h0,rfl⟩)) (by rw [e]; exact HNQ.out _ (Or.inl ⟨by omega,rfl⟩)))).below hb6
   rw [←ho2] at hsk6
   rw [←ho3] at hsk26
   rw [←ho2,←ho3]
   obtain⟨t1,t1'⟩:=hsk6.c1
   obtain⟨t2,t2'⟩:=hsk26.c1
   obtain⟨⟨v0,-⟩,-⟩:=(HVR.out.below hb6).1
   have HC6:=hideW (HCR.out.below hb6)
   obtain⟨x6,x6'⟩:=HC6.out.2.2.2.2.2.2.1
   have hbC:bs≠C:=by omega
   have hbC':C≠bs:=by omega
   have hb3':w3.heap.size≠bs:=by omega
   have hb3c:w3.heap.size≠C:=by omega
   clear hsk6 hsk26 ho2 ho3
   go_wp2_with fail
   go_region
   go_wp2_with fail
   have e2:=Ho2.out
   have e3:=Ho3.out
   subst e2
   subst e3
   have hTA:=Turned.put w6 bs (off+k*6+1) (.int .i64 (W.sets k2).origin)
   have hTB:=Turned.put (w6.setCell ⟨bs,off+k*6+1,none⟩ (.int .i64 (W.sets k2).origin)) bs (off+k2*6+1) (.int .i64 O.id)
   have hTC:=Turned.put ((w6.setCell ⟨bs,off+k*6+1,none⟩ (.int .i64 (W.sets k2).origin)).setCell ⟨bs,off+k2*6+1,none⟩ (.int .i64 O.id)) C 6 (.int .i64 O.id)
   have hbD:=(Below.refl (((w6.setCell ⟨bs,off+k*6+1,none⟩ (.int .i64 (W.sets k2).origin)).setCell ⟨bs,off+k2*6+1,none⟩ (.int .i64 O.id)).setCell ⟨C,6,none⟩ (.int .i64 O.id)).heap.size (((w6.setCell ⟨bs,off+k*6+1,none⟩ (.int .i64 (W.sets k2).origin)).setCell ⟨bs,off+k2*6+1,none⟩ (.int .i64 O.id)).setCell ⟨C,6,none⟩ (.int .i64 O.id))).drew
   have HSZ:=hideW ((((HSR.out.below hb6).orgTo hkn (W.sets k2).origin).orgTo hkn2 O.id).turned hTC (fun j hj e=>by
    rw [SetsB.orgTo,SetsB.orgTo] at hj
    have:=HLT.out j (Or.inr (Or.inl (HSQ.out j hj)))
    omega))
   have HCz:=hideW (show Box9 (((w6.setCell ⟨bs,off+k*6+1,none⟩ (.int .i64 (W.sets k2).origin)).setCell ⟨bs,off+k2*6+1,none⟩ (.int .i64 O.id)).setCell ⟨C,6,none⟩ (.int .i64 O.id)) C z0 z1 (.int .i64 W.time) (.int .i64 W.next) (.slice (some ⟨bs,off,none⟩) W.sn c) (.slice (some ⟨bn,offn,none⟩) W.pn cn) (.int .i64 O.id) (.int .i64 0) .nilIface from by
    have h:=(HC6.out.turned hTA hbC').turned hTB hbC'
    exact⟨h.1.other _ (Or.inr (by decide)),h.2.1.other _ (Or.inr (by decide)),h.2.2.1.other _ (Or.inr (by decide)),h.2.2.2.1.other _ (Or.inr (by decide)),h.2.2.2.2.1.other _ (Or.inr (by decide)),h.2.2.2.2.2.1.other _ (Or.inr (by decide)),h.2.2.2.2.2.2.1.set _,h.2.2.2.2.2.2.2.1.other _ (Or.inr (by decide)),h.2.2.2.2.2.2.2.2.other _ (Or.inr (by decide))⟩)
   have hTz:Turned (fun j=>j=bs∨j=C) w6 (((w6.setCell ⟨bs,off+k*6+1,none⟩ (.int .i64 (W.sets k2).origin)).setCell ⟨bs,off+k2*6+1,none⟩ (.int .i64 O.id)).setCell ⟨C,6,none⟩ (.int .i64 O.id)).drew:=(((hTA.mono (fun j e=>Or.inl e)).trans (hTB.mono (fun j e=>Or.inl e))).trans (hTC.mono (fun j e=>Or.inr e))).trans (Turned.of_below hbD)
   have HSZ2:=hideW (HSZ.out.below hbD)
   have HCz2:=hideW (HCz.out.below hbD)
   clear hTA hTB hTC hbD HSZ HCz t1 t1' t2 t2' v0 x6 x6' hoo
   generalize (((w6.setCell ⟨bs,off+k*6+1,none⟩ (.int .i64 (W.sets k2).origin)).setCell ⟨bs,off+k2*6+1,none⟩ (.int .i64 O.id)).setCell ⟨C,6,none⟩ (.int .i64 O.id)).drew=wz at hTz HSZ2 HCz2 ⊢
   go_end0
   have hzz:=hTz.size
   have hTall:Turned (fun j=>j=bs∨j=C∨j=bn) w wz:=(((Turned.of_below hB4).trans (HTR.out.mono (fun j e=>Or.inr (Or.inr e)))).trans (Turned.of_below hb6)).trans (hTz.mono (fun j e=>e.imp id Or.inl))
   refine⟨⟨_,rfl⟩,hTall.below (B:=C) (by omega) (fun j h=>by omega),by omega,Or.inl ⟨rfl,_,_,_,_,HCz2.out,?_⟩⟩
   show WorldOwn wz (C+1) wz.heap.size _ _ _ _ (promW W name k k2 L)
   rw [HPW.out]
   have hQb:Q bs:=HSQ.out _ (Or.inl ⟨by omega,rfl⟩)
   have hRb:R bn:=HNQ.out _ (Or.inl ⟨by omega,rfl⟩)
   refine⟨P,Q,R,⟨HIN.out.pool.turned hTall (fun j hj e=>?_),⟨bs,kb,kv,HSZ2.out,(HSA.out.orgTo _ _).orgTo _ _,fun j hj=>?_⟩,⟨bn,nb,nv,((HNR.out.below hb6).turned hTz (fun j hj e=>?_)),promSn_apart HNA.out _ _ _,fun j hj=>HNQ.out j (promSn_B hj)⟩,HIN.out.pq,HIN.out.pr,HIN.out.qr⟩,fun j hj=>?_⟩
   ·rcases e with e | e | e
    ·exact HIN.out.pq j hj (by rw [e]; exact hQb)
    ·have:=HLT.out j (Or.inl hj); omega
    ·exact HIN.out.pr j hj (by rw [e]; exact hRb)
   ·rw [SetsB.orgTo,SetsB.orgTo] at hj
    exact HSQ.out j hj
   ·have hr:=HNQ.out j (promSn_B hj)
    rcases e with e | e
    ·exact HIN.out.qr bs hQb (by rw [←e]; exact hr)
    ·have:=HLT.out j (Or.inr (Or.inr hr)); omega
   ·have:=HLT.out j hj
    omega
set_option maxRecDepth 20000 in
set_option maxHeartbeats 2000000 in
theorem promoteDo_any(p:Nat→Addr)(C k k2 B0:Nat)(z0 z1 z2 z3:Value)(W:WorldD)(name:ByteArray)(L:List SnapD)(O:SnapD)(w:World)(hI:ImplW W)(hwf:PrevsWf W)(hor:(Lit.int .i64 (setAt W name).origin).wf=true)(hk:SetNo W name k)(hL:L=comeL W (aheadOf W (setAt W name).origin).set (setAt W name).origin)(hO:L.getD 0 zeroSnap=O)(h0:0<L.length)(hk2:SetNo W O.set k2)(hne:k≠k2)(hsz:name.size≤maxLen)(hlt:C<w.heap.size)(k0:w.cell? ⟨B0,0,none⟩=some (.string name))
  (ho:WorldOwnR w (C+1) w.heap.size z0 z1 z2 z3 W) (hC:Box9 w C z0 z1 (.int .i64 W.time) (.int .i64 W.next) z2 z3 (.int .i64 0) (.int .i64 0) .nilIface) :
  Calls Tryz.prog 62 #[.pointer (some ⟨C,0,none⟩),.pointer (some ⟨B0,0,none⟩)] w (DoneI p ⟨promW W name k k2 L,O.id,0,0⟩ C w):=by
 have H:=hideW (promote_any p C k k2 z0 z1 z2 z3 W name L O w hI hwf hor hk hL hO h0 hk2 hne hsz hlt ho hC)
 clear ho hC hI hwf hor hk hL hO hk2 hne
 go_enter Tryz.func62,Tryz.ntmps62
 go_wp2_with fail
 refine H.out.mono ?_
 rintro e w' ⟨⟨v,rfl⟩,hr⟩
 have Hr:=hideW hr
 clear hr
 go_wp2_with fail
 go_end0
 refine⟨⟨_,rfl⟩,?_⟩
 obtain⟨h1,h2,h3⟩:=Hr.out
 refine⟨h1,h2,?_⟩
 rcases h3 with⟨-,h⟩ | h
 ·exact Or.inl ⟨rfl,h⟩
 ·exact Or.inr h
def AnsPromote(W:WorldD)(name:ByteArray)(w:World)(e:Ending)(w':World):Prop:=∃r o,RefI W (∃i,i<1∧8000<((fun (_:Nat)=>name) i).size) (∃i,i<0∧¬NameP ((fun _=>⟨#[]⟩) i)) 3 (fun i=>match i with | 0=>HasSet W name | 1=>(setAt W name).origin≠0 | _=>FreeL W name (promL W name)) (fun i=>match i with | 0=>2 | 1=>5 | _=>3) r∧(r=none→∃k k2,SetNo W name k∧SetNo W (aheadOf W (setAt W name).origin).set k2∧o=⟨promW W name k k2 (promL W name),(setAt W name).origin,0,0⟩)∧NewWOut (outW r o) w e w'
theorem AnsPromote.ill{W:WorldD}{name:ByteArray}{w w':World}{e:Ending}{i:Nat}(hr:RefI W (∃i,i<1∧8000<((fun (_:Nat)=>name) i).size) (∃i,i<0∧¬NameP ((fun _=>⟨#[]⟩) i)) 3 (fun i=>match i with | 0=>HasSet W name | 1=>(setAt W name).origin≠0 | _=>FreeL W name (promL W name)) (fun i=>match i with | 0=>2 | 1=>5 | _=>3) (some i))(h:NewWOut (refuseW (errC i)) w e w'):AnsPromote W name w e w':=⟨some i,refuseW 0,hr,fun e=>(by cases e),h⟩
set_option maxRecDepth 20000 in
set_option maxHeartbeats 400000 in
theorem implPromote_any(p:Nat→Addr)(v0 v1 v2 v3:Value)(lo hi:Nat)(W:WorldD)(name:ByteArray)(w:World)(hE:Errs w p)(h:WorldAt w lo hi v0 v1 v2 v3 W)(hwf:PrevsWf W)(b1:poolN W.pool≤1048576)(b2:W.sn≤1048576)(b3:W.pn≤1048576)(b4:DeadsN W)(hname:name.size≤maxLen)(hhi:hi≤w.heap.size) :
  Calls Tryz.prog 21 #[worldV v0 v1 v2 v3 W,.string name] w (AnsPromote W name w):=by
 by_cases hs:ImplW W∧HasSet W name∧(setAt W name).origin≠0
 ·obtain⟨k,hk⟩:=setNo_has hs.2.1
  obtain⟨h1,h2,h3,k2,hk2⟩:=promL_first hs.1 hs.2.2
  refine(implPromote_of p v0 v1 v2 v3 lo hi W name ⟨promW W name k k2 (promL W name),(setAt W name).origin,0,0⟩ w hE h hwf b1 b2 b3 b4 hname hhi ?_).mono ?_
  ·intro B0 C w' z0 z1 z2 z3 k0 _ hI _ _ hq hlt hb ho hC
   have hd:=promoteDo_any p C k k2 B0 z0 z1 z2 z3 W name (promL W name) (aheadOf W (setAt W name).origin) w' hI hwf (org_wf hI name) hk rfl h2 h1 hk2 (promL_other hI hs.2.2 (hq 2 (by omega)) hk hk2) hname hlt k0 ho hC
   rw [h3] at hd
   exact hd
  ·rintro e w' ⟨r,g1,g2⟩
   exact⟨r,_,g1,fun _=>⟨k,k2,hk,hk2,rfl⟩,g2⟩
 ·refine(implPromote_of p v0 v1 v2 v3 lo hi W name (refuseW 0) w hE h hwf b1 b2 b3 b4 hname hhi ?_).mono ?_
  ·intro B0 C w' z0 z1 z2 z3 k0 _ hI _ _ hq hlt hb ho hC
   exact absurd ⟨hI,hq 0 (by omega),hq 1 (by omega)⟩ hs
  ·rintro e w' ⟨r,h1,h2⟩
   exact⟨r,_,h1,fun e=>absurd ⟨(e▸h1).impl,(e▸h1).all 0 (by omega),(e▸h1).all 1 (by omega)⟩ hs,h2⟩
structure RowTurned (bs o n:Nat) (w w':World):Prop where
 turned:Turned (fun b=>b=bs) w w'
 kept:∀x v,(x<o∨o+n≤x)→Cell w bs x v→Cell w' bs x v
theorem RowTurned.refl(bs o n:Nat)(w:World):RowTurned bs o n w w:=⟨Turned.refl _ _,fun _ _ _ h=>h⟩
theorem RowTurned.set{bs o n:Nat}{w w':World}(h:RowTurned bs o n w w')(x:Nat)(u:Value)(h1:o≤x)(h2:x<o+n):RowTurned bs o n w (w'.setCell ⟨bs,x,none⟩ u):=
 ⟨h.turned.setCell (p:=⟨bs,x,none⟩) rfl u,fun y v hy hc=>(h.kept y v hy hc).other u (Or.inr (by omega))⟩
theorem RowTurned.below{bs o n:Nat}{w w' w2:World}(h:RowTurned bs o n w w')(t:Below w'.heap.size w' w2):RowTurned bs o n w w2:=
 ⟨h.turned.trans (Turned.of_below t),fun y v hy hc=>(h.kept y v hy hc).below t⟩
theorem Set_step{w w1 w2:World}{bs off n k:Nat}{kb:Nat→Nat}{kv:Nat→Value}{f:Nat→SetD}{s:SetD}(h:∀j,j<n→SetOwn w bs (off+j*6) (kb j) (kv j) (f j))(hap:SetsApart kb n f)(hk:k<n)
  (r:RowTurned bs (off+k*6) 6 w w1) (t:Turned (fun b=>0<(f k).dn∧b=kb k) w1 w2) (c0:Cell w1 bs (off+k*6) (.string s.name)) (c1:Cell w1 bs ((off+k*6)+1) (.int .i64 s.origin)) (c2:Cell w1 bs ((off+k*6)+2) (.int .i64 s.prev)) (c3:Cell w1 bs ((off+k*6)+3) (.int .i64 s.rs)) (c4:Cell w1 bs ((off+k*6)+4) (.int .i64 s.rb)) (c5:Cell w1 bs (off+k*6+5) (kv k)) (hdn:s.dn=(f k).dn) (hp:PtrsOwn w2 (kb k) (kv k) s.dn s.ds s.db) (hs:s.name.size≤maxLen) :
  ∀j,j<n→SetOwn w2 bs (off+j*6) (kb j) (kv j) (if j=k then s else f j):=by
 intro j hj
 have nb:¬(0<(f k).dn∧bs=kb k):=fun hx=>(h k hk).apart hx.1 hx.2.symm
 by_cases e:j=k
 ·subst e
  rw [if_pos rfl]
  exact⟨c0.turned t nb,c1.turned t nb,c2.turned t nb,c3.turned t nb,c4.turned t nb,c5.turned t nb,hp,hs,by rw [hdn]; exact(h j hj).apart⟩
 ·rw [if_neg e]
  have hj':=h j hj
  refine⟨(r.kept _ _ (by omega) hj'.c0).turned t nb,(r.kept _ _ (by omega) hj'.c1).turned t nb,(r.kept _ _ (by omega) hj'.c2).turned t nb,(r.kept _ _ (by omega) hj'.c3).turned t nb,(r.kept _ _ (by omega) hj'.c4).turned t nb,(r.kept _ _ (by omega) hj'.c5).turned t nb,?_,hj'.small,hj'.apart⟩
  exact(hj'.dead.turned r.turned (fun h0 hx=>hj'.apart h0 hx)).turned t (fun h0 hx=>hap j k hj hk e h0 hx.1 hx.2)
theorem Snap_step{w w1 w2:World}{bs off n k:Nat}{kb:Nat→Nat}{kv:Nat→Value}{f:Nat→SnapD}{s:SnapD}(h:∀j,j<n→SnapOwn w bs (off+j*8) (kb j) (kv j) (f j))(hap:SnapsApart kb n f)(hk:k<n)
  (r:RowTurned bs (off+k*8) 8 w w1) (t:Turned (fun b=>0<(f k).dn∧b=kb k) w1 w2) (c0:Cell w1 bs (off+k*8) (.int .i64 s.id)) (c1:Cell w1 bs ((off+k*8)+1) (.string s.name)) (c2:Cell w1 bs ((off+k*8)+2) (.string s.set)) (c3:Cell w1 bs ((off+k*8)+3) (.int .i64 s.prev)) (c4:Cell w1 bs ((off+k*8)+4) (.int .i64 s.time)) (c5:Cell w1 bs ((off+k*8)+5) (.int .i64 s.rs)) (c6:Cell w1 bs ((off+k*8)+6) (.int .i64 s.rb)) (c7:Cell w1 bs (off+k*8+7) (kv k)) (hdn:s.dn=(f k).dn) (hp:PtrsOwn w2 (kb k) (kv k) s.dn s.ds s.db) (hs:s.name.size≤maxLen∧s.set.size≤maxLen) :
  ∀j,j<n→SnapOwn w2 bs (off+j*8) (kb j) (kv j) (if j=k then s else f j):=by
 intro j hj
 have nb:¬(0<(f k).dn∧bs=kb k):=fun hx=>(h k hk).apart hx.1 hx.2.symm
 by_cases e:j=k
 ·subst e
  rw [if_pos rfl]
  exact⟨c0.turned t nb,c1.turned t nb,c2.turned t nb,c3.turned t nb,c4.turned t nb,c5.turned t nb,c6.turned t nb,c7.turned t nb,hp,hs,by rw [hdn]; exact(h j hj).apart⟩
 ·rw [if_neg e]
  have hj':=h j hj
  refine⟨(r.kept _ _ (by omega) hj'.c0).turned t nb,(r.kept _ _ (by omega) hj'.c1).turned t nb,(r.kept _ _ (by omega) hj'.c2).turned t nb,(r.kept _ _ (by omega) hj'.c3).turned t nb,(r.kept _ _ (by omega) hj'.c4).turned t nb,(r.kept _ _ (by omega) hj'.c5).turned t nb,(r.kept _ _ (by omega) hj'.c6).turned t nb,(r.kept _ _ (by omega) hj'.c7).turned t nb,?_,hj'.small,hj'.apart⟩
  exact(hj'.dead.turned r.turned (fun h0 hx=>hj'.apart h0 hx)).turned t (fun h0 hx=>hap j k hj hk e h0 hx.1 hx.2)
end Go.Proofs.YtmgeglgboadfiaaGreatDoor
