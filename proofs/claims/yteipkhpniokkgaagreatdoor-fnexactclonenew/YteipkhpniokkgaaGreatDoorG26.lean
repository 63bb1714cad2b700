/- A set is put into a change: (*impl.change).addSet. -/
import Derived.Test.YteipkhpniokkgaaGreatDoorG25
import Derived.Test.YteipkhpniokkgaaGreatDoorG13
import Derived.Deep.RegionHeld3
import Derived.Test.YteipkhpniokkgaaGreatDoorG23
import Derived.Test.YteipkhpniokkgaaGreatDoorG4
import Derived.Deep.DeepCutAuto
import Derived.Test.YteipkhpniokkgaaGreatDoorG3
import Derived.BigQuiet
import Derived.Test.YteipkhpniokkgaaGreatDoorG24
import Derived.Test.YteipkhpniokkgaaGreatDoorG21
namespace Go.Proofs.YteipkhpniokkgaaGreatDoor
open Go.RowKit
set_option linter.unusedVariables false
theorem ins_end{f:Nat→SetD}{kv:Nat→Value}{n k j:Nat}{s:SetD}(hk:k≤n)(hj:j<n+1)(r:Nat):cellSet (ins (endS f n s) k (endS f n s n)) (ins (endV kv n) k (endV kv n n)) j r=cellSet (ins f k s) (ins kv k (.slice none 0 0)) j r:=by
 have e1:endS f n s n=s:=if_neg (Nat.lt_irrefl _)
 have e2:endV kv n n = .slice none 0 0:=if_neg (Nat.lt_irrefl _)
 rw [e1,e2]
 have e3:∀i,i<n→endS f n s i=f i∧endV kv n i=kv i:=fun i hi=>⟨if_pos hi,if_pos hi⟩
 rcases Nat.lt_trichotomy j k with h | h | h
 ·unfold cellSet
  rw [ins_lo h,ins_lo h,ins_lo h,ins_lo h,(e3 j (by omega)).1,(e3 j (by omega)).2]
 ·subst h
  unfold cellSet
  rw [ins_at,ins_at,ins_at,ins_at]
 ·unfold cellSet
  rw [ins_hi h,ins_hi h,ins_hi h,ins_hi h,(e3 (j - 1) (by omega)).1,(e3 (j - 1) (by omega)).2]
set_option maxRecDepth 20000 in
set_option maxHeartbeats 2000000 in
theorem addSet_any(p:Nat→Addr)(C k:Nat)(z0 z1 z2 z3:Value)(W:WorldD)(s:SetD)(w:World)(h8:W.sn<8)(hI:SetsI W.sn W.sets)(hput:PutAt W s.name k)(hs0:s.dn=0)(hsm:s.name.size≤maxLen)(hlt:C<w.heap.size)
  (ho:WorldOwnR w (C+1) w.heap.size z0 z1 z2 z3 W) (hC:Box9 w C z0 z1 (.int .i64 W.time) (.int .i64 W.next) z2 z3 (.int .i64 0) (.int .i64 0) .nilIface) :
  Calls Tryz.prog 34 #[.pointer (some ⟨C,0,none⟩),.agg #[.string s.name,.int .i64 s.origin,.int .i64 s.prev,.int .i64 s.rs,.int .i64 s.rb,.slice none 0 0]] w (DoneI p ⟨addSetW W k s,0,0,0⟩ C w):=by
 have Ho:=hideW ho
 have HC:=hideW hC
 have HI:=hideW hI
 have HPut:=hideW hput
 have Hsm:=hideW hsm
 have Hs0:=hideW hs0
 obtain⟨l0,lc0,l1,lc1,l2,lc2,l3,lc3,rfl,rfl,rfl,rfl⟩:=ho.form
 clear ho hC hI hput hsm hs0
 have hal:=below_alloc w (.cells #[.string s.name,.int .i64 s.origin,.int .i64 s.prev,.int .i64 s.rs,.int .i64 s.rb,.slice none 0 0] 65)
 have HX:=hideW (Box6.new w (.string s.name) (.int .i64 s.origin) (.int .i64 s.prev) (.int .i64 s.rs) (.int .i64 s.rb) (.slice none 0 0) 65)
 have hz1:(w.alloc (.cells #[.string s.name,.int .i64 s.origin,.int .i64 s.prev,.int .i64 s.rs,.int .i64 s.rb,.slice none 0 0] 65)).heap.size=w.heap.size+1:=World.size_alloc _ _
 go_enter Tryz.func34,Tryz.ntmps34
 go_wp2_with fail
 generalize w.alloc (.cells #[.string s.name,.int .i64 s.origin,.int .i64 s.prev,.int .i64 s.rs,.int .i64 s.rb,.slice none 0 0] 65)=w1 at hal HX hz1 ⊢
 obtain⟨P,Q,R,hin,hltS⟩:=Ho.out
 obtain⟨hP,⟨bs,kb,kv,hS,hSa,hSq,hSR,-⟩,hZ,pq,pr,qr⟩:=hin
 have hb0:Below w1.heap.size w1 w1.drew:=(Below.refl _ _).drew
 have hba:=below_alloc w1.drew (.cells #[.string s.name,.int .i64 s.origin,.int .i64 s.prev,.int .i64 s.rs,.int .i64 s.rb,.slice none 0 0] 65)
 have hbA:Below w.heap.size w (w1.drew.alloc (.cells #[.string s.name,.int .i64 s.origin,.int .i64 s.prev,.int .i64 s.rs,.int .i64 s.rb,.slice none 0 0] 65)):=below_next (below_next hal hb0) hba
 have hzA:(w1.drew.alloc (.cells #[.string s.name,.int .i64 s.origin,.int .i64 s.prev,.int .i64 s.rs,.int .i64 s.rb,.slice none 0 0] 65)).heap.size=w.heap.size+2:=by rw [World.size_alloc]; show w1.heap.size+1=_; omega
 have hbsl:0<W.sn→C+1≤bs∧bs<w.heap.size:=fun h0=>hltS bs (Or.inr (Or.inl (hSq bs (Or.inl ⟨h0,rfl⟩))))
 obtain⟨g,cap,w5,hr5,hT5,hg5,hgz5,hcap5,-,hcell5⟩:=run_addSet (B:=w1.drew.heap.size) (base:=C+1) (s:=s) (hS.below hbA) (hSR.below hbA) h8 (fun h0=>(hbsl h0).1) (fun j u hj=>by
  refine(World.cell?_alloc_at _ _ _ _ rfl).trans ?_
  rw [←hj]
  exact List.getElem?_toArray ..) (by omega) 34
 have hgC:g≠C:=by
  rcases hg5 with⟨h0,e⟩ | e
  ·have:=hbsl h0; omega
  ·omega
 have hT05:Turned (fun j=>0<W.sn∧j=bs) w w5:=(Turned.of_below hbA).trans hT5
 have hz5:w.heap.size+2≤w5.heap.size:=by have:=hT5.size; omega
 have hX1:=(HX.out.below hb0).below hba
 have hX5:=hX1.turned hT5 (fun h=>by have:=hbsl h.1; omega)
 have hC5:=(HC.out.below hbA).turned hT5 (fun h=>by have:=hbsl h.1; omega)
 have HKP:=hideW (show ∀w',Below w1.drew.heap.size w1.drew w'→(fun w':World=>w'.cell? ⟨w.heap.size,0,none⟩=some (.string s.name)∧w'.cell? ⟨w.heap.size,1,none⟩=some (.int .i64 s.origin)∧w'.cell? ⟨w.heap.size,2,none⟩=some (.int .i64 s.prev)∧w'.cell? ⟨w.heap.size,3,none⟩=some (.int .i64 s.rs)∧w'.cell? ⟨w.heap.size,4,none⟩=some (.int .i64 s.rb)∧w'.cell? ⟨w.heap.size,5,none⟩=some (.slice none 0 0)) w' from fun w' hb=>by
  have h:=(HX.out.below hb0).below hb
  exact⟨h.1.1,h.2.1.1,h.2.2.1.1,h.2.2.2.1.1,h.2.2.2.2.1.1,h.2.2.2.2.2.1⟩)
 have HK5:=hideW (show(fun w':World=>w'.cell? ⟨w.heap.size,0,none⟩=some (.string s.name)∧w'.cell? ⟨w.heap.size,1,none⟩=some (.int .i64 s.origin)∧w'.cell? ⟨w.heap.size,2,none⟩=some (.int .i64 s.prev)∧w'.cell? ⟨w.heap.size,3,none⟩=some (.int .i64 s.rs)∧w'.cell? ⟨w.heap.size,4,none⟩=some (.int .i64 s.rb)∧w'.cell? ⟨w.heap.size,5,none⟩=some (.slice none 0 0)) w5 from⟨hX5.1.1,hX5.2.1.1,hX5.2.2.1.1,hX5.2.2.2.1.1,hX5.2.2.2.2.1.1,hX5.2.2.2.2.2.1⟩)
 have hX6:=hX5.turned (Turned.put w5 C 4 (.slice (some ⟨g,0,none⟩) (W.sn+1) cap)) (fun h=>by omega)
 have HK6:=hideW (show(fun w':World=>w'.cell? ⟨w.heap.size,0,none⟩=some (.string s.name)∧w'.cell? ⟨w.heap.size,1,none⟩=some (.int .i64 s.origin)∧w'.cell? ⟨w.heap.size,2,none⟩=some (.int .i64 s.prev)∧w'.cell? ⟨w.heap.size,3,none⟩=some (.int .i64 s.rs)∧w'.cell? ⟨w.heap.size,4,none⟩=some (.int .i64 s.rb)∧w'.cell? ⟨w.heap.size,5,none⟩=some (.slice none 0 0)) (w5.setCell ⟨C,4,none⟩ (.slice (some ⟨g,0,none⟩) (W.sn+1) cap))from⟨hX6.1.1,hX6.2.1.1,hX6.2.2.1.1,hX6.2.2.2.1.1,hX6.2.2.2.2.1.1,hX6.2.2.2.2.2.1⟩)
 have HR:=hideW hr5
 have HBA:=hideW hba
 obtain⟨x4,-⟩:=((HC.out.below hal).below hb0).2.2.2.2.1
 have X5:=hideW ((hba.cell (lt_of_cell x4)).trans x4)
 obtain⟨y4,g4⟩:=hC5.2.2.2.2.1
 have HC5:=hideW hC5
 have HCell:=hideW hcell5
 have HT05:=hideW hT05
 have HG:=hideW (show(0<W.sn∧g=bs)∨w.heap.size≤g from hg5.imp id (fun e=>by omega))
 have HS:=hideW hS
 have HSa:=hideW hSa
 have HSq:=hideW hSq
 have HP:=hideW hP
 have HZ:=hideW hZ.isIn
 have HLt:=hideW hltS
 have Hbs:=hideW hbsl
 clear hr5 hT5 hcell5 hT05 hg5 hS hSa hSq hSR hP hZ hltS hbsl hC5 hX1 hX5 hX6 hba hbA hzA
 refine wp_region_held_drew (S:=(fun w':World=>w'.cell? ⟨w.heap.size,0,none⟩=some (.string s.name)∧w'.cell? ⟨w.heap.size,1,none⟩=some (.int .i64 s.origin)∧w'.cell? ⟨w.heap.size,2,none⟩=some (.int .i64 s.prev)∧w'.cell? ⟨w.heap.size,3,none⟩=some (.int .i64 s.rs)∧w'.cell? ⟨w.heap.size,4,none⟩=some (.int .i64 s.rb)∧w'.cell? ⟨w.heap.size,5,none⟩=some (.slice none 0 0))) (by kernel_rfl) (HKP.out _ (Below.refl _ _)) (fun hHeld=>?_)
 generalize w1.drew=q0 at hHeld HKP HR HBA x4 X5 hb0 ⊢
 refine' join_one (fun hfin=>_) _
 rotate_left
 ·skip
  refine tk 0 (h:=tk 1 (h:=tk 2 (h:=tk 3 (h:=tk 4 (h:=tk 6 (h:=?_))))))
  refine rd [5,7] (rc (fun K hK=>?_) (rc (fun K hK=>?_) .nil))
  ·go_simp
   (try go_wp2_with fail)
   refine hK.out _ _ (HKP.out _ (Below.refl _ _)) ?_
   clear hK K
   intro hHeld
   try simp only [Act.put,s1,s2,s3]
   refine rd [7] (rc (fun K hK=>?_) .nil)
   go_simp
   (try go_wp2_with fail)
   refine hK.out _ _ (HKP.out _ HBA.out) ?_
   clear hK K
   intro hHeld
   try simp only [Act.put,s1,s2,s3]
   refine rd [8] (rc (fun K hK=>?_) .nil)
   refine step_append_run rfl (.tmp 9) (.tmp 11) 34 rfl _ _ _ rfl rfl HR.out ?_
   (try go_wp2_with fail)
   refine hK.out _ _ (HK5.out) ?_
   clear hK K
   intro hHeld
   try simp only [Act.put,s1,s2,s3]
   refine tk 9 (h:=tk 10 (h:=tk 11 (h:=?_)))
   refine rd [12] (rc (fun K hK=>?_) .nil)
   go_simp
   (try go_wp2_with fail)
   refine hK.out _ _ (HK6.out) ?_
   clear hK K
   intro hHeld
   try simp only [Act.put,s1,s2,s3]
   refine wpAnyH_done (by kernel_rfl) ?_ _
   exact hfin.out
  ·go_simp
   (try go_wp2_with fail)
   refine hK.out _ _ (HKP.out _ HBA.out) ?_
   clear hK K
   intro hHeld
   try simp only [Act.put,s1,s2,s3]
   refine rd [5] (rc (fun K hK=>?_) .nil)
   have x5a:=X5.out
   go_simp
   (try go_wp2_with fail)
   refine hK.out _ _ (HKP.out _ HBA.out) ?_
   clear hK K
   intro hHeld
   try simp only [Act.put,s1,s2,s3]
   clear x5a
   refine rd [8] (rc (fun K hK=>?_) .nil)
   refine step_append_run rfl (.tmp 9) (.tmp 11) 34 rfl _ _ _ rfl rfl HR.out ?_
   (try go_wp2_with fail)
   refine hK.out _ _ (HK5.out) ?_
   clear hK K
   intro hHeld
   try simp only [Act.put,s1,s2,s3]
   refine tk 9 (h:=tk 10 (h:=tk 11 (h:=?_)))
   refine rd [12] (rc (fun K hK=>?_) .nil)
   go_simp
   (try go_wp2_with fail)
   refine hK.out _ _ (HK6.out) ?_
   clear hK K
   intro hHeld
   try simp only [Act.put,s1,s2,s3]
   refine wpAnyH_done (by kernel_rfl) ?_ _
   exact hfin.out
 have hT6:=Turned.put w5 C 4 (.slice (some ⟨g,0,none⟩) (W.sn+1) cap)
 have hC6:Cell (w5.setCell ⟨C,4,none⟩ (.slice (some ⟨g,0,none⟩) (W.sn+1) cap)) C 4 (.slice (some ⟨g,0,none⟩) (W.sn+1) cap):=HC5.out.2.2.2.2.1.set _
 obtain⟨z4,-⟩:=hC6
 go_wp2_with fail
 refine(sortSets_any W.sn k g cap (endS W.sets W.sn s) (endV kv W.sn) (fun i=>?_) _ (by rw [World.size_setCell]; exact hgz5) HPut.out.1 (by omega) (fun i hi r hr=>(HCell.out i hi r hr).other _ (Or.inl (fun e=>hgC e.symm))) (fun i j hij hj=>?_) (fun i hi=>?_) (fun i hi hin=>?_)).mono ?_
 ·unfold endV
  by_cases e:i<W.sn
  ·rw [if_pos e]
   obtain⟨off,c,-,h⟩:=HS.out.nth e
   obtain⟨_,a,cc,hv,_⟩:=h.dead
   exact⟨a,_,cc,hv⟩
  ·rw [if_neg e]; exact⟨none,0,0,rfl⟩
 ·unfold endS
  rw [if_pos (by omega),if_pos hj]
  exact rises_all HI.out hij hj
 ·unfold endS
  have:=HPut.out.1
  rw [if_pos (by omega),if_neg (Nat.lt_irrefl _)]
  exact HPut.out.2.1 i hi
 ·unfold endS
  rw [if_pos hin,if_neg (Nat.lt_irrefl _)]
  exact HPut.out.2.2 i hi hin
 rintro e w7 ⟨rfl,hT7,hcell7⟩
 have HT7:=hideW hT7
 have HCell7:=hideW hcell7
 clear hT7 hcell7 z4
 go_wp2_with fail
 go_end0
 have hz6:=hT6.size
 have hz7:=HT7.out.size
 have hTa:Turned (fun j=>(0<W.sn∧j=bs)∨j=C∨j=g) w w7:=((HT05.out.mono (fun j h=>Or.inl h)).trans (hT6.mono (fun j h=>Or.inr (Or.inl h)))).trans (HT7.out.mono (fun j h=>Or.inr (Or.inr h)))
 have hg':(0<W.sn∧g=bs)∨(w.heap.size≤g∧w.heap.size≤g):=by
  rcases HG.out with h | h
  ·exact Or.inl h
  ·exact Or.inr ⟨by omega,by omega⟩
 have hO:=addSet_own (s:=s) (k:=k) (m:=w.heap.size) HP.out HS.out HSa.out HSq.out HZ.out pq pr qr HLt.out HPut.out.1 Hs0.out Hsm.out hTa (fun j h=>by
  rcases h with h | h | h
  ·exact Or.inl h
  ·exact Or.inr (Or.inl (by omega))
  ·rcases hg' with h' | h'
   ·exact Or.inl ⟨h'.1,by omega⟩
   ·exact Or.inr (Or.inr (by omega))) hg' (by omega) (by unfold maxLen; omega) hcap5 (fun j hj r hr=>by
  have h:=HCell7.out j hj r hr
  rw [ins_end HPut.out.1 hj r] at h
  exact h)
 have hC6:Box9 (w5.setCell ⟨C,4,none⟩ (.slice (some ⟨g,0,none⟩) (W.sn+1) cap)) C (.slice l0 W.pool.n lc0) (.slice l1 W.pool.hn lc1) (.int .i64 W.time) (.int .i64 W.next) (.slice (some ⟨g,0,none⟩) (W.sn+1) cap) (.slice l3 W.pn lc3) (.int .i64 0) (.int .i64 0) .nilIface:=⟨HC5.out.1.other _ (Or.inr (by decide)),HC5.out.2.1.other _ (Or.inr (by decide)),HC5.out.2.2.1.other _ (Or.inr (by decide)),HC5.out.2.2.2.1.other _ (Or.inr (by decide)),HC5.out.2.2.2.2.1.set _,HC5.out.2.2.2.2.2.1.other _ (Or.inr (by decide)),HC5.out.2.2.2.2.2.2.1.other _ (Or.inr (by decide)),HC5.out.2.2.2.2.2.2.2.1.other _ (Or.inr (by decide)),HC5.out.2.2.2.2.2.2.2.2.other _ (Or.inr (by decide))⟩
 have hC7:=hC6.turned HT7.out (fun h=>hgC h.symm)
 refine⟨⟨_,rfl⟩,?_,by omega,Or.inl ⟨rfl,_,_,_,_,hC7,hO.own (by omega) (by omega)⟩⟩
 exact hTa.below (B:=C) (by omega) (fun j h=>by
  rcases h with h | h | h
  ·have:=Hbs.out h.1; omega
  ·omega
  ·rcases hg' with h' | h'
   ·have:=Hbs.out h'.1; omega
   ·omega)
end Go.Proofs.YteipkhpniokkgaaGreatDoor

namespace Go.Proofs.YteipkhpniokkgaaGreatDoor
open Go.RowKit
set_option linter.unusedVariables false
def setNew(name:ByteArray):SetD:={name:=name,origin:=0,prev:=0,rs:=0,rb:=0,dn:=0,ds:=fun _=>0,db:=fun _=>0}
theorem field_root(v:Value)(s:SnapD)(w:World):(Instr.field 92 (.agg #[.int .i64 s.id,.string s.name,.string s.set,.int .i64 s.prev,.int .i64 s.time,.int .i64 s.rs,.int .i64 s.rb,v]) 5).run Tryz.prog w = .ok (.agg #[.int .i64 s.rs,.int .i64 s.rb]) w:=by kernel_rfl
def setClone(name:ByteArray)(id:Int)(rs rb:Int):SetD:={name:=name,origin:=id,prev:=id,rs:=rs,rb:=rb,dn:=0,ds:=fun _=>0,db:=fun _=>0}
set_option maxRecDepth 20000 in
set_option maxHeartbeats 400000 in
theorem chAhead_any(C lo hi:Nat)(z0 z1 z2 z3 u6 u7 u8:Value)(W:WorldD)(x:Int)(w:World)(h:WorldAt w lo hi z0 z1 z2 z3 W)(hC:Box9 w C z0 z1 (.int .i64 W.time) (.int .i64 W.next) z2 z3 u6 u7 u8)(hn:W.pn≤20)(hwf:IdsWf W.pn W.snaps)(hD:IdsDist W)(hx:(Lit.int .i64 x).wf=true) :
  Calls Tryz.prog 53 #[.pointer (some ⟨C,0,none⟩),.int .i64 x] w fun e w'=>∃a c,e = .returned (snapV (.slice a (aheadOf W x).dn c) (aheadOf W x))∧Below w.heap.size w w':=by
 have Hp:=hideW h
 obtain⟨l0,lc0,l1,lc1,l2,lc2,l3,lc3,rfl,rfl,rfl,rfl⟩:=h.form
 have HD:=hideW hD
 have Hwf:=hideW hwf
 have Hx:=hideW hx
 have ha:=below_alloc w (.cells #[.int .i64 0,.string ⟨#[]⟩,.string ⟨#[]⟩,.int .i64 0,.int .i64 0,.int .i64 0,.int .i64 0,.slice none 0 0] 92)
 obtain⟨⟨x0,-⟩,⟨x1,-⟩,⟨x2,-⟩,⟨x3,-⟩,⟨x4,-⟩,⟨x5,-⟩,-⟩:=hC.below ha
 have HR:=hideW (Box8.new w (.int .i64 0) (.string ⟨#[]⟩) (.string ⟨#[]⟩) (.int .i64 0) (.int .i64 0) (.int .i64 0) (.int .i64 0) (.slice none 0 0) 92)
 clear h hD hwf hx hC
 obtain⟨S,hS⟩:∃S,S=aheadOf W x:=⟨_,rfl⟩
 rw [←hS]
 unfold snapV
 have HS:=hideW hS
 clear hS
 go_enter Tryz.func53,Tryz.ntmps53
 go_wp2_with fail
 clear x0 x1 x2 x3 x4 x5
 generalize w.alloc (.cells #[.int .i64 0,.string ⟨#[]⟩,.string ⟨#[]⟩,.int .i64 0,.int .i64 0,.int .i64 0,.int .i64 0,.slice none 0 0] 92)=W1 at ha HR ⊢
 refine(aheadIn_any _ _ _ _ lo hi W W1 (Hp.out.below ha) hn Hwf.out).mono ?_
 rintro e w2 ⟨A,rfl,hA,hb2⟩
 have HA:=hideW hA
 clear hA
 go_wp2_with fail
 refine(ahead_any lo hi W A x w2 HA.out HD.out Hx.out hn).mono ?_
 rw [←HS.out]
 unfold snapV
 rintro e w3 ⟨a,c,rfl,hpd,hb3⟩
 have hb:=below_next (below_next ha hb2) hb3
 have HR3:=hideW ((HR.out.below hb2).below hb3)
 clear hpd
 obtain⟨⟨⟨r0,g0⟩,⟨r1,g1⟩,⟨r2,g2⟩,⟨r3,g3⟩⟩,⟨r4,g4⟩,⟨r5,g5⟩,⟨r6,g6⟩,⟨r7,g7⟩⟩:=HR3.out
 go_wp2_with fail
 have HRz:=HR3.out.put (.int .i64 S.id) (.string S.name) (.string S.set) (.int .i64 S.prev) (.int .i64 S.time) (.int .i64 S.rs) (.int .i64 S.rb) (.slice a S.dn c)
 have hT:=Turned.put8 w3 w.heap.size (.int .i64 S.id) (.string S.name) (.string S.set) (.int .i64 S.prev) (.int .i64 S.time) (.int .i64 S.rs) (.int .i64 S.rb) (.slice a S.dn c)
 clear r0 g0 r1 g1 r2 g2 r3 g3 r4 g4 r5 g5 r6 g6 r7 g7
 refine bodyPost_ret (v:=.agg #[.int .i64 S.id,.string S.name,.string S.set,.int .i64 S.prev,.int .i64 S.time,.int .i64 S.rs,.int .i64 S.rb,.slice a S.dn c]) (by simp [results,Tryz.results53,go_sem,HRz.1.1.1,HRz.1.2.1.1,HRz.1.2.2.1.1,HRz.1.2.2.2.1,HRz.2.1.1,HRz.2.2.1.1,HRz.2.2.2.1.1,HRz.2.2.2.2.1]) rfl ⟨a,c,rfl,?_⟩
 ·exact hb.trans (hT.below (B:=w.heap.size) hb.size (fun k e=>by omega))
set_option maxRecDepth 20000 in
set_option maxHeartbeats 400000 in
theorem setNewDo_any(p:Nat→Addr)(C k B0:Nat)(z0 z1 z2 z3:Value)(W:WorldD)(name:ByteArray)(w:World)(h8:W.sn<8)(hI:SetsI W.sn W.sets)(hput:PutAt W name k)(hsm:name.size≤maxLen)(hlt:C<w.heap.size)
  (k0:w.cell? ⟨B0,0,none⟩=some (.string name)) (ho:WorldOwnR w (C+1) w.heap.size z0 z1 z2 z3 W) (hC:Box9 w C z0 z1 (.int .i64 W.time) (.int .i64 W.next) z2 z3 (.int .i64 0) (.int .i64 0) .nilIface) :
  Calls Tryz.prog 33 #[.pointer (some ⟨C,0,none⟩),.pointer (some ⟨B0,0,none⟩)] w (DoneI p ⟨addSetW W k (setNew name),0,0,0⟩ C w):=by
 have H:=hideW (addSet_any p C k z0 z1 z2 z3 W (setNew name) w h8 hI hput rfl hsm hlt ho hC)
 clear ho hC hI hput
 unfold setNew at H
 dsimp only at H
 go_enter Tryz.func33,Tryz.ntmps33
 go_wp2_with fail
 refine H.out.mono ?_
 rintro e w' ⟨⟨v,rfl⟩,hr⟩
 have Hr:=hideW hr
 clear hr
 go_wp2_with fail
 go_end0
 refine⟨⟨_,rfl⟩,?_⟩
 obtain⟨h1,h2,h3⟩:=Hr.out
 refine⟨h1,h2,?_⟩
 rcases h3 with⟨-,h⟩ | h
 ·exact Or.inl ⟨rfl,h⟩
 ·exact Or.inr h
set_option maxRecDepth 20000 in
set_option maxHeartbeats 400000 in
theorem cloneNewDo_any(p:Nat→Addr)(C k B0 B1:Nat)(z0 z1 z2 z3:Value)(W:WorldD)(id:Int)(name:ByteArray)(hn:W.pn≤20)(hwf:IdsWf W.pn W.snaps)(hD:IdsDist W)(hx:(Lit.int .i64 id).wf=true)(hB0:B0<C)(hB1:B1<C)(w:World)(h8:W.sn<8)(hI:SetsI W.sn W.sets)(hput:PutAt W name k)(hsm:name.size≤maxLen)(hlt:C<w.heap.size)
  (k0:w.cell? ⟨B0,0,none⟩=some (.string name)) (k1:w.cell? ⟨B1,0,none⟩=some (.int .i64 id)) (ho:WorldOwnR w (C+1) w.heap.size z0 z1 z2 z3 W) (hC:Box9 w C z0 z1 (.int .i64 W.time) (.int .i64 W.next) z2 z3 (.int .i64 0) (.int .i64 0) .nilIface) :
  Calls Tryz.prog 52 #[.pointer (some ⟨C,0,none⟩),.pointer (some ⟨B0,0,none⟩),.pointer (some ⟨B1,0,none⟩)] w (DoneI p ⟨addSetW W k (setClone name id (aheadOf W id).rs (aheadOf W id).rb),0,0,0⟩ C w):=by
 have IX:=hideW (show ∀w',Below w.heap.size w w'→Calls Tryz.prog 53 #[.pointer (some ⟨C,0,none⟩),.int .i64 id] w' fun e w''=>(∃a c,e = .returned (snapV (.slice a (aheadOf W id).dn c) (aheadOf W id)))∧Below w'.heap.size w' w'' from fun w' hb'=>by
  refine(chAhead_any C (C+1) w.heap.size z0 z1 z2 z3 _ _ _ W id w' (ho.own.at.below hb') (hC.below hb') hn hwf hD hx).mono ?_
  rintro e w2 ⟨a,c,rfl,hb2⟩
  exact⟨⟨a,c,rfl⟩,hb2⟩)
 have IY:=hideW (show ∀w',Below w.heap.size w w'→Calls Tryz.prog 34 #[.pointer (some ⟨C,0,none⟩),.agg #[.string name,.int .i64 id,.int .i64 id,.int .i64 (aheadOf W id).rs,.int .i64 (aheadOf W id).rb,.slice none 0 0]] w' (DoneI p ⟨addSetW W k (setClone name id (aheadOf W id).rs (aheadOf W id).rb),0,0,0⟩ C w')from fun w' hb'=>addSet_any p C k z0 z1 z2 z3 W (setClone name id (aheadOf W id).rs (aheadOf W id).rb) w' h8 hI hput rfl hsm (Nat.lt_of_lt_of_le hlt hb'.size) ((ho.below hb').wide (Nat.le_refl _) hb'.size) (hC.below hb'))
 clear ho hC hI hput hwf hD hx
 go_enter Tryz.func52,Tryz.ntmps52
 generalize aheadOf W id=S at *
 unfold snapV at IX
 have hfr:=fun (a:Option Addr) (c:Nat) w=>field_root (.slice a S.dn c) S w
 go_region_held3 (fun w'=>w'.cell? ⟨B0,0,none⟩=some (.string name)∧w'.cell? ⟨B1,0,none⟩=some (.int .i64 id)) (go_keep)
  (first
   | (go_at_call 53; refine(IX.out _ (Below.refl _ _).drew).mono ?_; rintro e w2 ⟨⟨a,c,rfl⟩,hb2⟩; have hb2':=below_undrew hb2; have k0':=(hb2'.cell (lt_of_cell k0)).trans k0; have k1':=(hb2'.cell (lt_of_cell k1)).trans k1)
   | (go_at_call 34; refine(IY.out _ hb2').mono ?_; rintro e w3 ⟨⟨v,rfl⟩,hr⟩; have k0a:=(hr.1.cell (p:=⟨B0,0,none⟩) hB0).trans k0'; have k1a:=(hr.1.cell (p:=⟨B1,0,none⟩) hB1).trans k1'; have Hr:=hideW hr; clear hr))
 go_wp2_with fail
 go_end0
 refine⟨⟨_,rfl⟩,?_⟩
 obtain⟨h1,h2,h3⟩:=Hr.out
 refine⟨(hb2'.mono (by omega)).trans h1,h2,?_⟩
 rcases h3 with⟨-,h⟩ | h
 ·exact Or.inl ⟨rfl,h⟩
 ·exact Or.inr h
end Go.Proofs.YteipkhpniokkgaaGreatDoor

namespace Go.Proofs.YteipkhpniokkgaaGreatDoor
open Go.RowKit
set_option linter.unusedVariables false
end Go.Proofs.YteipkhpniokkgaaGreatDoor

namespace Go.Proofs.YteipkhpniokkgaaGreatDoor
open Go.RowKit
set_option linter.unusedVariables false
theorem RefI.all{W:WorldD}{a b:Prop}{m:Nat}{Q:Nat→Prop}{ei:Nat→Nat}(h:RefI W a b m Q ei none):∀j,j<m→Q j:=by
 rcases h with⟨_,e⟩ | ⟨_,_,e⟩ | ⟨_,_,_,k,hk,_,_,e⟩ | ⟨_,_,_,h4,_⟩
 ·cases e
 ·cases e
 ·cases e
 ·exact h4
set_option maxRecDepth 20000 in
set_option maxHeartbeats 1000000 in
theorem l05Ill_any(c:Int)(w:World):Calls Tryz.prog 22 #[.int .i64 c] w fun e w'=>e = .returned (.agg #[.slice none 0 0,.slice none 0 0,.int .i64 0,.int .i64 0,.slice none 0 0,.slice none 0 0,.int .i64 0,.int .i64 0,.int .i64 c])∧Below w.heap.size w w':=by
 have ha:=below_alloc w (.cells #[.slice none 0 0,.slice none 0 0,.int .i64 0,.int .i64 0,.slice none 0 0,.slice none 0 0,.int .i64 0,.int .i64 0,.int .i64 c] 39)
 have HRz:=Box9.new w (.slice none 0 0) (.slice none 0 0) (.int .i64 0) (.int .i64 0) (.slice none 0 0) (.slice none 0 0) (.int .i64 0) (.int .i64 0) (.int .i64 c) 39
 go_enter Tryz.func22,Tryz.ntmps22
 go_wp2_with fail
 refine bodyPost_ret (v:=.agg #[.slice none 0 0,.slice none 0 0,.int .i64 0,.int .i64 0,.slice none 0 0,.slice none 0 0,.int .i64 0,.int .i64 0,.int .i64 c]) (by simp [results,Tryz.results22,go_sem,HRz.1.1,HRz.2.1.1,HRz.2.2.1.1,HRz.2.2.2.1.1,HRz.2.2.2.2.1.1,HRz.2.2.2.2.2.1.1,HRz.2.2.2.2.2.2.1.1,HRz.2.2.2.2.2.2.2.1.1,HRz.2.2.2.2.2.2.2.2.1]) rfl ?_
 exact⟨rfl,ha⟩
end Go.Proofs.YteipkhpniokkgaaGreatDoor

namespace Go.Proofs.YteipkhpniokkgaaGreatDoor
open Go.RowKit
set_option linter.unusedVariables false
theorem RefI.impl{W:WorldD}{a b:Prop}{m:Nat}{Q:Nat→Prop}{ei:Nat→Nat}(h:RefI W a b m Q ei none):ImplW W:=by
 rcases h with⟨_,e⟩ | ⟨_,_,e⟩ | ⟨_,_,_,k,hk,_,_,e⟩ | ⟨_,h2,_,h4,_⟩
 ·cases e
 ·cases e
 ·cases e
 ·exact h2
theorem long1{a:ByteArray}:(∃i,i<1∧8000<((fun (_:Nat)=>a) i).size)↔8000<a.size:=⟨fun ⟨_,_,h⟩=>h,fun h=>⟨0,by omega,h⟩⟩
theorem badOne{a:ByteArray}:(∃i,i<1∧¬NameP ((fun i=>match i with  | _=>a) i))↔¬NameP a:=by
 constructor
 ·rintro⟨i,hi,h⟩
  obtain rfl:i=0:=by omega
  exact h
 ·exact fun h=>⟨0,by omega,h⟩
def AnsSetNew(W:WorldD)(name:ByteArray)(w:World)(e:Ending)(w':World):Prop:=∃r o,RefI W (∃i,i<1∧8000<((fun (_:Nat)=>name) i).size) (∃i,i<1∧¬NameP ((fun i=>match i with  | _=>name) i)) 2 (fun i=>match i with | 0=>¬HasSet W name | _=>W.sn<8) (fun i=>match i with | 0=>3 | _=>4) r∧(r=none→∃k,PutAt W name k∧o=⟨addSetW W k (setNew name),0,0,0⟩)∧NewWOut (outW r o) w e w'
theorem AnsSetNew.ill{W:WorldD}{name:ByteArray}{w w':World}{e:Ending}{i:Nat}(hr:RefI W (∃i,i<1∧8000<((fun (_:Nat)=>name) i).size) (∃i,i<1∧¬NameP ((fun i=>match i with  | _=>name) i)) 2 (fun i=>match i with | 0=>¬HasSet W name | _=>W.sn<8) (fun i=>match i with | 0=>3 | _=>4) (some i))(h:NewWOut (refuseW (errC i)) w e w'):AnsSetNew W name w e w':=⟨some i,refuseW 0,hr,fun e=>(by cases e),h⟩
def AnsCloneNew(W:WorldD)(sid:Int)(name:ByteArray)(w:World)(e:Ending)(w':World):Prop:=∃r o,RefI W (∃i,i<1∧8000<((fun (_:Nat)=>name) i).size) (∃i,i<1∧¬NameP ((fun i=>match i with  | _=>name) i)) 3 (fun i=>match i with | 0=>HasId W sid | 1=>¬HasSet W name | _=>W.sn<8) (fun i=>match i with | 0=>2 | 1=>3 | _=>4) r∧(r=none→∃k,PutAt W name k∧o=⟨addSetW W k (setClone name sid (aheadOf W sid).rs (aheadOf W sid).rb),0,0,0⟩)∧NewWOut (outW r o) w e w'
theorem AnsCloneNew.ill{W:WorldD}{sid:Int}{name:ByteArray}{w w':World}{e:Ending}{i:Nat}(hr:RefI W (∃i,i<1∧8000<((fun (_:Nat)=>name) i).size) (∃i,i<1∧¬NameP ((fun i=>match i with  | _=>name) i)) 3 (fun i=>match i with | 0=>HasId W sid | 1=>¬HasSet W name | _=>W.sn<8) (fun i=>match i with | 0=>2 | 1=>3 | _=>4) (some i))(h:NewWOut (refuseW (errC i)) w e w'):AnsCloneNew W sid name w e w':=⟨some i,refuseW 0,hr,fun e=>(by cases e),h⟩
set_option maxRecDepth 20000 in
set_option maxHeartbeats 400000 in
theorem implSetNew_any(p:Nat→Addr)(v0 v1 v2 v3:Value)(lo hi:Nat)(W:WorldD)(name:ByteArray)(w:World)(hE:Errs w p)(h:WorldAt w lo hi v0 v1 v2 v3 W)(hwf:PrevsWf W)(b1:poolN W.pool≤1048576)(b2:W.sn≤1048576)(b3:W.pn≤1048576)(b4:DeadsN W)(hname:name.size≤maxLen) :
  Calls Tryz.prog 9 #[worldV v0 v1 v2 v3 W,.string name] w (AnsSetNew W name w):=by
 by_cases hs:ImplW W∧¬HasSet W name
 ·obtain⟨k,hk⟩:=PutAt.has hs.1.names.sets hs.2
  refine(implSetNew_of p v0 v1 v2 v3 lo hi W name ⟨addSetW W k (setNew name),0,0,0⟩ w hE h hwf b1 b2 b3 b4 hname ?_).mono ?_
  ·intro B0 C w' z0 z1 z2 z3 k0 j0 hI _ _ hq hlt hb ho hC
   exact setNewDo_any p C k B0 z0 z1 z2 z3 W name w' (hq 1 (by omega)) hI.names.sets hk hname hlt k0 ho hC
  ·rintro e w' ⟨r,h1,h2⟩
   exact⟨r,_,h1,fun _=>⟨k,hk,rfl⟩,h2⟩
 ·refine(implSetNew_of p v0 v1 v2 v3 lo hi W name (refuseW 0) w hE h hwf b1 b2 b3 b4 hname ?_).mono ?_
  ·intro B0 C w' z0 z1 z2 z3 k0 j0 hI _ _ hq hlt hb ho hC
   exact absurd ⟨hI,hq 0 (by omega)⟩ hs
  ·rintro e w' ⟨r,h1,h2⟩
   exact⟨r,_,h1,fun e=>absurd ⟨(e▸h1).impl,(e▸h1).all 0 (by omega)⟩ hs,h2⟩
set_option maxRecDepth 20000 in
set_option maxHeartbeats 400000 in
theorem implCloneNew_any(p:Nat→Addr)(v0 v1 v2 v3:Value)(lo hi:Nat)(W:WorldD)(sid:Int)(name:ByteArray)(w:World)(hE:Errs w p)(h:WorldAt w lo hi v0 v1 v2 v3 W)(hwf:PrevsWf W)(b1:poolN W.pool≤1048576)(b2:W.sn≤1048576)(b3:W.pn≤1048576)(b4:DeadsN W)(hsid:(Lit.int .i64 sid).wf=true)(hname:name.size≤maxLen) :
  Calls Tryz.prog 18 #[worldV v0 v1 v2 v3 W,.int .i64 sid,.string name] w (AnsCloneNew W sid name w):=by
 by_cases hs:ImplW W∧¬HasSet W name
 ·obtain⟨k,hk⟩:=PutAt.has hs.1.names.sets hs.2
  refine(implCloneNew_of p v0 v1 v2 v3 lo hi W sid name ⟨addSetW W k (setClone name sid (aheadOf W sid).rs (aheadOf W sid).rb),0,0,0⟩ w hE h hwf b1 b2 b3 b4 hsid hname ?_).mono ?_
  ·intro B0 B1 C w' z0 z1 z2 z3 k0 j0 k1 j1 hI _ _ hq hlt hb ho hC
   exact cloneNewDo_any p C k B1 B0 z0 z1 z2 z3 W sid name hI.names.snaps.1 hI.names.idsWf hI.names.dist hsid j1 j0 w' (hq 2 (by omega)) hI.names.sets hk hname hlt k1 k0 ho hC
  ·rintro e w' ⟨r,h1,h2⟩
   exact⟨r,_,h1,fun _=>⟨k,hk,rfl⟩,h2⟩
 ·refine(implCloneNew_of p v0 v1 v2 v3 lo hi W sid name (refuseW 0) w hE h hwf b1 b2 b3 b4 hsid hname ?_).mono ?_
  ·intro B0 B1 C w' z0 z1 z2 z3 k0 j0 k1 j1 hI _ _ hq hlt hb ho hC
   exact absurd ⟨hI,hq 1 (by omega)⟩ hs
  ·rintro e w' ⟨r,h1,h2⟩
   exact⟨r,_,h1,fun e=>absurd ⟨(e▸h1).impl,(e▸h1).all 1 (by omega)⟩ hs,h2⟩
end Go.Proofs.YteipkhpniokkgaaGreatDoor

namespace Go.Proofs.YteipkhpniokkgaaGreatDoor
open Go.RowKit
set_option linter.unusedVariables false
theorem rows_next{w:World}{k:Nat}{v:Value}{kv:Nat→Value}{dn:Nat→Nat}(hk:RowB w 62 2 v (dn k))(h:∀i,i<k→RowB w 62 2 (kv i) (dn i))(a:Addr)(u:Value):∀i,i<k+1→RowB (w.setCell a u) 62 2 ((fun j=>if j=k then v else kv j) i) (dn i):=fun i hi=>by
 by_cases e:i=k
 ·subst e
  simp only [if_true]
  exact hk.set a u
 ·simp only [if_neg e]
  exact(h i (by omega)).set a u
theorem run_copy_ptrsR(w:World)(lo hi:Nat)(a:Option Addr)(n c:Nat)(f g:Nat→Int)(h:PtrsAt w lo hi (.slice a n c) n f g)(hn:n≤1048576)(ty:TypeId):∃a' c' kb w1,
  (Builtin.append_ #[63,63] ty #[.slice (some ⟨w.heap.size,0,none⟩) 0 0,.slice a n c]).run Tryz.prog (w.alloc (.cells #[] 62)) = .ok (.slice a' n c') w1∧PtrsOwn w1 kb (.slice a' n c') n f g∧(0<n→w.heap.size≤kb∧kb<w1.heap.size)∧Below w.heap.size w w1∧RowB w1 62 2 (.slice a' n c') n:=by
 obtain⟨m1,a0,c0,hv,mc,g1⟩:=h
 simp only [Value.slice.injEq,true_and] at hv
 obtain⟨rfl,rfl⟩:=hv
 obtain⟨i0,hi0,hzz⟩:=Option.map_eq_some_iff.1 infoPtrT
 simp only [Prod.mk.injEq] at hzz
 obtain⟨hz,hs,hby⟩:=hzz
 have ht:Tryz.prog.underlying 63=some (.slice 62):=by kernel_rfl
 have hown0:(w.alloc (.cells #[] 62)).ownsRow w.heap.size 62 2 (.slice (some ⟨w.heap.size,0,none⟩) 0 0) 0 []:=World.ownsRow_made w #[] 0 (Nat.le_refl _) (Nat.zero_le _) (by simp)
 have hba:=below_alloc w (.cells #[] 62)
 by_cases h0:0<n
 ·obtain⟨b,off,rfl,_,_,hc⟩:=g1 h0
  have hadd:∀j,(⟨b,off,none⟩:Addr).add j=⟨b,off+j,none⟩:=fun j=>by unfold Addr.add; split <;> simp_all
  obtain⟨v',w1,hr,r1,r2,_⟩:=run_append_own (P:=Tryz.prog) (w.alloc (.cells #[] 62)) w.heap.size 63 ty 62 i0 (.agg #[.int .i64 0,.int .i64 0]) 2 16 ht hi0 hz hs hby rfl (by decide) _ 0 [] hown0 ⟨b,off,none⟩ n c (kc f g n) (kc_len f g n) (fun j u hj=>by
    have:=kc_cells hc j u hj
    rw [hadd] at this ⊢
    exact(hba.cell (lt_of_cell this)).trans this) (kc_one f g n) (by unfold maxLen; omega) (by omega) (by simp)
  have hown2:w1.ownsRow w.heap.size 62 2 v' n (kc f g n):=by simpa using r1
  obtain⟨kb,hp,hk⟩:=ptrs_of_owns m1 hown2
  obtain⟨_,a',c',rfl,_⟩:=id hp
  have hb1:Below w.heap.size w w1:=hba.grown r2 (by simp) (fun q hq=>by have:=hown0.lt q hq; omega)
  exact⟨a',c',kb,w1,hr,hp,hk,hb1,rowB_of_owns hown2 (fun e=>by omega)⟩
 ·obtain rfl:n=0:=by omega
  have hr:=run_append_zero (P:=Tryz.prog) (w:=w.alloc (.cells #[] 62)) w.heap.size 63 ty 62 i0 2 c a ht hi0 _ 0 [] hown0
  exact⟨_,0,0,_,hr,⟨Nat.zero_le _,_,0,rfl,Nat.le_refl _,fun h=>absurd h (Nat.lt_irrefl _)⟩,fun h=>absurd h (Nat.lt_irrefl _),hba,Or.inl ⟨rfl,_,rfl⟩⟩
end Go.Proofs.YteipkhpniokkgaaGreatDoor
