/- The one answer of SetNew, and of CloneNew; how great it is (no law is proved here). -/
import Derived.Test.YteipkhpniokkgaaGreatDoorG26
import Derived.Test.YteipkhpniokkgaaGreatDoorG32
import Derived.Test.YteipkhpniokkgaaGreatDoorG25
import Derived.Test.YteipkhpniokkgaaGreatDoorG3
import Derived.Test.YteipkhpniokkgaaGreatDoorG18
import Derived.BigQuiet
import Derived.Test.YteipkhpniokkgaaGreatDoorG12
import Derived.Test.YteipkhpniokkgaaGreatDoorG11
import Derived.Test.YteipkhpniokkgaaGreatDoorG31
namespace Go.Proofs.YteipkhpniokkgaaGreatDoor
open Go.RowKit
set_option linter.unusedVariables false
theorem setsN_ins(f:Nat→SetD)(k:Nat)(s:SetD):∀n,(n≤k→setsN (ins f k s) n=setsN f n)∧(k≤n→setsN (ins f k s) (n+1)=setsN f n+setN s)
 | 0=>⟨fun _=>rfl,fun h=>by
  obtain rfl:k=0:=by omega
  show setsN (ins f 0 s) 0+setN (ins f 0 s 0)=setsN f 0+setN s
  rw [ins_at]; rfl⟩
 | n+1=>by
  obtain⟨h1,h2⟩:=setsN_ins f k s n
  have a1:setsN (ins f k s) (n+1)=setsN (ins f k s) n+setN (ins f k s n):=rfl
  have a2:setsN (ins f k s) (n+2)=setsN (ins f k s) (n+1)+setN (ins f k s (n+1)):=rfl
  have a3:setsN f (n+1)=setsN f n+setN (f n):=rfl
  refine⟨fun h=>?_,fun h=>?_⟩
  ·rw [a1,h1 (by omega),ins_lo (by omega)]; exact a3.symm
  ·by_cases e:k=n+1
   ·subst e
    rw [a2,ins_at,a1,h1 (by omega),ins_lo (by omega),a3]
   ·rw [a2,h2 (by omega),ins_hi (by omega),a3,Nat.add_sub_cancel]
    omega
theorem worldN_add{W:WorldD}{k:Nat}{s:SetD}(hk:k≤W.sn):worldN (addSetW W k s)≤worldN W+1+setN s:=by
 have h1:=(setsN_ins W.sets k s W.sn).2 hk
 have h7:worldN (addSetW W k s)=poolN W.pool+(W.sn+1+setsN (ins W.sets k s) (W.sn+1))+(W.pn+snapsN W.snaps W.pn):=rfl
 have h8:worldN W=poolN W.pool+(W.sn+setsN W.sets W.sn)+(W.pn+snapsN W.snaps W.pn):=rfl
 omega
def SetNewIs(W:WorldD)(name:ByteArray)(oo:WOutD):Prop:=∃r o,RefI W (∃i,i<1∧8000<((fun (_:Nat)=>name) i).size) (∃i,i<1∧¬NameP ((fun i=>match i with  | _=>name) i)) 2 (fun i=>match i with | 0=>¬HasSet W name | _=>W.sn<8) (fun i=>match i with | 0=>3 | _=>4) r∧(r=none→∃k,PutAt W name k∧o=⟨addSetW W k (setNew name),0,0,0⟩)∧oo=outW r o
theorem SetNewIs.uniq{W:WorldD}{name:ByteArray}{o o':WOutD}(h:SetNewIs W name o)(h':SetNewIs W name o'):o=o':=by
 obtain⟨r,a,h1,h2,rfl⟩:=h
 obtain⟨r',b,g1,g2,rfl⟩:=h'
 obtain rfl:=h1.uniq g1
 cases r with
 | some i=>rfl
 | none=>
  obtain⟨k,hk,rfl⟩:=h2 rfl
  obtain⟨k',hk',rfl⟩:=g2 rfl
  obtain rfl:=hk.uniq hk'
  rfl
open Classical in
noncomputable def setNewAns(W:WorldD)(name:ByteArray):WOutD:=if h:∃o,SetNewIs W name o then h.choose else refuseW 0
theorem setNewAns_of{W:WorldD}{name:ByteArray}{w w':World}{e:Ending}(h:AnsSetNew W name w e w'):NewWOut (setNewAns W name) w e w':=by
 obtain⟨r,o,h1,h2,h3⟩:=h
 have hi:SetNewIs W name (outW r o):=⟨r,o,h1,h2,rfl⟩
 have hx:∃o,SetNewIs W name o:=⟨_,hi⟩
 have he:setNewAns W name=outW r o:=by
  unfold setNewAns
  rw [dif_pos hx]
  exact hx.choose_spec.uniq hi
 rw [he]
 exact h3
theorem setNewAns_small{W:WorldD}{name:ByteArray}(hN:worldN W≤1048576):endW (setNewAns W name).world 1≤1000000000000∧0≤endW (setNewAns W name).world 1:=by
 have hz:∀c,endW (refuseW c).world 1≤1000000000000∧0≤endW (refuseW c).world 1:=fun c=>endW_within (W:=noW) (by decide) (by decide) (by decide)
 unfold setNewAns
 split
 ·rename_i h
  obtain⟨r,o,h1,h2,h3⟩:=h.choose_spec
  rw [h3]
  cases r with
  | some i=>exact hz _
  | none=>
   obtain⟨k,hk,rfl⟩:=h2 rfl
   have hb:=worldN_add (s:=(setNew name)) hk.1
   have hn:setN (setNew name)=name.size:=rfl
   have hl:¬8000<name.size:=fun h=>by
    rcases h1 with⟨_,e⟩ | ⟨_,_,e⟩ | ⟨_,_,_,_,_,_,_,e⟩ | ⟨g,_⟩
    ·cases e
    ·cases e
    ·cases e
    ·exact g (long1.2 h)
   exact endW_within (W:=addSetW W k (setNew name)) (by omega) (by decide) (by decide)
 ·exact hz _
def CloneNewIs(W:WorldD)(sid:Int)(name:ByteArray)(oo:WOutD):Prop:=∃r o,RefI W (∃i,i<1∧8000<((fun (_:Nat)=>name) i).size) (∃i,i<1∧¬NameP ((fun i=>match i with  | _=>name) i)) 3 (fun i=>match i with | 0=>HasId W sid | 1=>¬HasSet W name | _=>W.sn<8) (fun i=>match i with | 0=>2 | 1=>3 | _=>4) r∧(r=none→∃k,PutAt W name k∧o=⟨addSetW W k (setClone name sid (aheadOf W sid).rs (aheadOf W sid).rb),0,0,0⟩)∧oo=outW r o
theorem CloneNewIs.uniq{W:WorldD}{sid:Int}{name:ByteArray}{o o':WOutD}(h:CloneNewIs W sid name o)(h':CloneNewIs W sid name o'):o=o':=by
 obtain⟨r,a,h1,h2,rfl⟩:=h
 obtain⟨r',b,g1,g2,rfl⟩:=h'
 obtain rfl:=h1.uniq g1
 cases r with
 | some i=>rfl
 | none=>
  obtain⟨k,hk,rfl⟩:=h2 rfl
  obtain⟨k',hk',rfl⟩:=g2 rfl
  obtain rfl:=hk.uniq hk'
  rfl
open Classical in
noncomputable def cloneNewAns(W:WorldD)(sid:Int)(name:ByteArray):WOutD:=if h:∃o,CloneNewIs W sid name o then h.choose else refuseW 0
theorem cloneNewAns_of{W:WorldD}{sid:Int}{name:ByteArray}{w w':World}{e:Ending}(h:AnsCloneNew W sid name w e w'):NewWOut (cloneNewAns W sid name) w e w':=by
 obtain⟨r,o,h1,h2,h3⟩:=h
 have hi:CloneNewIs W sid name (outW r o):=⟨r,o,h1,h2,rfl⟩
 have hx:∃o,CloneNewIs W sid name o:=⟨_,hi⟩
 have he:cloneNewAns W sid name=outW r o:=by
  unfold cloneNewAns
  rw [dif_pos hx]
  exact hx.choose_spec.uniq hi
 rw [he]
 exact h3
theorem cloneNewAns_small{W:WorldD}{sid:Int}{name:ByteArray}(hN:worldN W≤1048576):endW (cloneNewAns W sid name).world 1≤1000000000000∧0≤endW (cloneNewAns W sid name).world 1:=by
 have hz:∀c,endW (refuseW c).world 1≤1000000000000∧0≤endW (refuseW c).world 1:=fun c=>endW_within (W:=noW) (by decide) (by decide) (by decide)
 unfold cloneNewAns
 split
 ·rename_i h
  obtain⟨r,o,h1,h2,h3⟩:=h.choose_spec
  rw [h3]
  cases r with
  | some i=>exact hz _
  | none=>
   obtain⟨k,hk,rfl⟩:=h2 rfl
   have hb:=worldN_add (s:=(setClone name sid (aheadOf W sid).rs (aheadOf W sid).rb)) hk.1
   have hn:setN (setClone name sid (aheadOf W sid).rs (aheadOf W sid).rb)=name.size:=rfl
   have hl:¬8000<name.size:=fun h=>by
    rcases h1 with⟨_,e⟩ | ⟨_,_,e⟩ | ⟨_,_,_,_,_,_,_,e⟩ | ⟨g,_⟩
    ·cases e
    ·cases e
    ·cases e
    ·exact g (long1.2 h)
   exact endW_within (W:=addSetW W k (setClone name sid (aheadOf W sid).rs (aheadOf W sid).rb)) (by omega) (by decide) (by decide)
 ·exact hz _
end Go.Proofs.YteipkhpniokkgaaGreatDoor

namespace Go.Proofs.YteipkhpniokkgaaGreatDoor
open Go.RowKit
set_option linter.unusedVariables false
theorem run_more6(w:World)(base:Nat)(v:Value)(n:Nat)(xs:List Value)(hown:w.ownsRow base 65 6 v n xs)(hb:base≤w.heap.size)(ad:Option Addr)(b off i m c:Nat)(G:Nat→Value)(had:0<m→ad=some ⟨b,off+i,none⟩)(hG:∀j,j<m*6→w.cell? ⟨b,off+(i+j),none⟩=some (G (i+j))∧(G (i+j)).oneCell'=true)(hn:n+m≤1000)(ty:TypeId) :
  ∃v' w',(Builtin.append_ #[34,34] ty #[v,.slice ad m c]).run Tryz.prog w = .ok v' w'∧w'.ownsRow base 65 6 v' (n+m) (xs ++ rowG G i (m*6))∧w.grownBy w' v.ownBlock∧(m=0→v'=v∧w'=w):=by
 obtain⟨i0,hi0,hzz⟩:=Option.map_eq_some_iff.1 infoSetT
 simp only [Prod.mk.injEq] at hzz
 obtain⟨hz,hs,hby⟩:=hzz
 by_cases h0:0<m
 ·obtain rfl:=had h0
  have hadd:∀j,(⟨b,off+i,none⟩:Addr).add j=⟨b,off+(i+j),none⟩:=fun j=>by
   unfold Addr.add
   split
   ·simp_all
   ·simp [Nat.add_assoc]
  obtain⟨v',w1,hr,r1,r2,_⟩:=run_append_own (P:=Tryz.prog) w base 34 ty 65 i0 _ 6 72 setT hi0 hz hs hby rfl (by decide) v n xs hown ⟨b,off+i,none⟩ m c (rowG G i (m*6)) (rowG_len _ _ _) (fun j u hj=>by
    have hlt:j<m*6:=by
     have:=(List.getElem?_eq_some_iff.1 hj).1
     rwa [rowG_len] at this
    rw [rowG_at hlt] at hj
    cases hj
    rw [hadd]
    exact(hG j hlt).1) (fun u hu=>by
    unfold rowG at hu
    obtain⟨j,hj,rfl⟩:=List.mem_map.1 hu
    exact(hG j (List.mem_range.1 hj)).2) (by unfold maxLen; omega) (by omega) hb
  exact⟨v',w1,hr,r1,r2,fun h=>by omega⟩
 ·obtain rfl:m=0:=by omega
  exact⟨v,w,run_append_zero (P:=Tryz.prog) (w:=w) base 34 ty 65 i0 6 c ad setT hi0 v n xs hown,by simpa [rowG] using hown,World.grownBy.refl _ _,fun _=>⟨rfl,rfl⟩⟩
theorem run_add6(w:World)(b off n k c1 c2:Nat)(A1 A2:Option Addr)(G:Nat→Value)(hG:∀j,j<n*6→w.cell? ⟨b,off+j,none⟩=some (G j)∧(G j).oneCell'=true)(hk:k≤n)(hn:n≤100)(h1:0<k→A1=some ⟨b,off,none⟩)(h2:0<n - k→A2=some ⟨b,off+k*6,none⟩)(s:SetD) :
  ∃v1 w1 v2 w2 g cap w3,(Builtin.append_ #[34,34] 34 #[.slice (some ⟨w.heap.size,0,none⟩) 0 0,.slice A1 k c1]).run Tryz.prog (w.alloc (.cells #[] 65)) = .ok v1 w1∧(Builtin.append_ #[34,34] 34 #[v1,.slice (some ⟨w1.heap.size,0,none⟩) 1 1]).run Tryz.prog (w1.alloc (.cells #[.string s.name,.int .i64 s.origin,.int .i64 s.prev,.int .i64 s.rs,.int .i64 s.rb,.slice none 0 0] 65)) = .ok v2 w2∧(Builtin.append_ #[34,34] 34 #[v2,.slice A2 (n - k) c2]).run Tryz.prog w2 = .ok (.slice (some ⟨g,0,none⟩) (n+1) cap) w3∧
   Below w.heap.size w w1∧Below w.heap.size w w2∧Below w.heap.size w w3∧w.heap.size≤g∧g<w3.heap.size∧n+1≤cap∧(n=k→v2 = .slice (some ⟨g,0,none⟩) (n+1) cap∧w2=w3)∧∀j,j<(n+1)*6→Cell w3 g j (if j<k*6 then G j else if j<k*6+6 then cellOne s (.slice none 0 0) (j - k*6)else G (j - 6)):=by
 have hba:=below_alloc w (.cells #[] 65)
 have hown0:(w.alloc (.cells #[] 65)).ownsRow w.heap.size 65 6 (.slice (some ⟨w.heap.size,0,none⟩) 0 0) 0 []:=World.ownsRow_made w #[] 0 (Nat.le_refl _) (Nat.zero_le _) (by simp)
 obtain⟨v1,w1,hr1,ho1,hg1,-⟩:=run_more6 (w.alloc (.cells #[] 65)) w.heap.size _ 0 [] hown0 hba.size A1 b off 0 k c1 G (fun h=>by rw [h1 h]; rfl) (fun j hj=>by
  have:=hG j (by omega)
  rw [Nat.zero_add]
  exact⟨(hba.cell (lt_of_cell this.1)).trans this.1,this.2⟩) (by omega) 34
 have hb1:Below w.heap.size w w1:=hba.grown hg1 hba.size (fun q hq=>by have:=hown0.lt q hq; omega)
 have hb1a:=below_alloc w1 (.cells #[.string s.name,.int .i64 s.origin,.int .i64 s.prev,.int .i64 s.rs,.int .i64 s.rb,.slice none 0 0] 65)
 obtain⟨v2,w2,hr2,ho2,hg2,-⟩:=run_more6 (w1.alloc (.cells #[.string s.name,.int .i64 s.origin,.int .i64 s.prev,.int .i64 s.rs,.int .i64 s.rb,.slice none 0 0] 65)) w.heap.size v1 (0+k) _ (ho1.kept (grownL hb1a none) (by simp; exact Classical.em _)) (Nat.le_trans hb1.size hb1a.size) (some ⟨w1.heap.size,0,none⟩) w1.heap.size 0 0 1 1 (fun j=>cellOne s (.slice none 0 0) j) (fun _=>rfl) (fun j hj=>by
  rw [Nat.zero_add,Nat.zero_add]
  refine⟨(World.cell?_alloc_at _ _ _ _ rfl).trans ?_,?_⟩
  ·rcases(by omega:j=0∨j=1∨j=2∨j=3∨j=4∨j=5)with rfl | rfl | rfl | rfl | rfl | rfl <;> rfl
  ·rcases(by omega:j=0∨j=1∨j=2∨j=3∨j=4∨j=5)with rfl | rfl | rfl | rfl | rfl | rfl <;> rfl) (by omega) 34
 have hb1':Below w.heap.size w (w1.alloc (.cells #[.string s.name,.int .i64 s.origin,.int .i64 s.prev,.int .i64 s.rs,.int .i64 s.rb,.slice none 0 0] 65)):=hb1.trans (hb1a.mono hb1.size)
 have hb2:Below w.heap.size w w2:=hb1'.grown hg2 hb1'.size (fun q hq=>by have:=ho1.lt q hq; omega)
 obtain⟨v3,w3,hr3,ho3,hg3,hz3⟩:=run_more6 w2 w.heap.size v2 (0+k+1) _ ho2 hb2.size A2 b off (k*6) (n - k) c2 G h2 (fun j hj=>by
  have:=hG (k*6+j) (by omega)
  exact⟨(hb2.cell (lt_of_cell this.1)).trans this.1,this.2⟩) (by omega) 34
 have hb3:Below w.heap.size w w3:=hb2.grown hg3 hb2.size (fun q hq=>by have:=ho2.lt q hq; omega)
 have e:0+k+1+(n - k)=n+1:=by omega
 rw [e] at ho3
 obtain⟨g,cap,rfl,hc,hbg,hlt,hcell⟩:=owns_cell ho3 (by omega)
 refine⟨v1,w1,v2,w2,g,cap,w3,hr1,hr2,hr3,hb1,hb2,hb3,hbg,hlt,hc,fun h=>⟨(hz3 (by omega)).1.symm,(hz3 (by omega)).2.symm⟩,fun j hj=>hcell j _ ?_⟩
 rw [List.nil_append]
 by_cases hj1:j<k*6
 ·rw [if_pos hj1,List.getElem?_append_left (by rw [List.length_append,rowG_len,rowG_len]; omega),List.getElem?_append_left (by rw [rowG_len]; exact hj1),rowG_at hj1,Nat.zero_add]
 ·rw [if_neg hj1]
  by_cases hj2:j<k*6+6
  ·rw [if_pos hj2,List.getElem?_append_left (by rw [List.length_append,rowG_len,rowG_len]; omega),List.getElem?_append_right (by rw [rowG_len]; omega),rowG_len,rowG_at (by omega),Nat.zero_add]
  ·rw [if_neg hj2,List.getElem?_append_right (by rw [List.length_append,rowG_len,rowG_len]; omega),List.length_append,rowG_len,rowG_len,rowG_at (by omega),show k*6+(j - (k*6+1*6))=j - 6 by omega]
end Go.Proofs.YteipkhpniokkgaaGreatDoor

namespace Go.Proofs.YteipkhpniokkgaaGreatDoor
open Go.RowKit
set_option linter.unusedVariables false
set_option maxRecDepth 20000 in
set_option maxHeartbeats 2000000 in
theorem l05New_any(v0 v1 v2 v3:Value)(lo hi:Nat)(W:WorldD)(name:ByteArray)(w:World)(h:WorldAt w lo hi v0 v1 v2 v3 W) :
  Calls Tryz.prog 25 #[worldV v0 v1 v2 v3 W,.string name] w fun e w'=>(∃c,e = .returned (.int .i64 c)∧((HasSet W name∧c=5)∨(¬HasSet W name∧¬W.sn<8∧c=6)∨(¬HasSet W name∧W.sn<8∧c=0)))∧Below w.heap.size w w':=by
 have Hp:=hideW h
 obtain⟨l0,lc0,l1,lc1,l2,lc2,l3,lc3,rfl,rfl,rfl,rfl⟩:=h.form
 have m1:=h.sets.1
 unfold maxLen at m1
 clear h
 have ha:=below_alloc w (.cells #[.slice l0 W.pool.n lc0,.slice l1 W.pool.hn lc1,.int .i64 W.time,.int .i64 W.next,.slice l2 W.sn lc2,.slice l3 W.pn lc3] 37)
 have HX:=hideW (Box6.new w (.slice l0 W.pool.n lc0) (.slice l1 W.pool.hn lc1) (.int .i64 W.time) (.int .i64 W.next) (.slice l2 W.sn lc2) (.slice l3 W.pn lc3) 37)
 obtain⟨⟨x0,-⟩,⟨x1,-⟩,⟨x2,-⟩,⟨x3,-⟩,⟨x4,-⟩,⟨x5,-⟩⟩:=HX.out
 go_enter Tryz.func25,Tryz.ntmps25
 go_wp2_with fail
 clear x0 x1 x2 x3 x4 x5
 generalize w.alloc (.cells #[.slice l0 W.pool.n lc0,.slice l1 W.pool.hn lc1,.int .i64 W.time,.int .i64 W.next,.slice l2 W.sn lc2,.slice l3 W.pn lc3] 37)=W1 at ha HX ⊢
 refine(l04Set_any _ _ _ _ lo hi W name _ (Hp.out.below ha)).mono ?_
 rintro e w3 ⟨r,rfl,hF,hb3⟩
 have hB3:=below_next ha hb3
 obtain⟨-,-,-,-,⟨x4,-⟩,-⟩:=HX.out.below hb3
 rcases hF with⟨k,hk,hPk,hnok,rfl⟩ | ⟨hno,rfl⟩
 ·have k0:(0:Int)≤(k:Int):=by omega
  have HN:=hideW (show HasSet W name from⟨k,hk,hPk⟩)
  clear hPk hnok
  go_wp2
  go_ret
  exact⟨⟨_,rfl,Or.inl ⟨HN.out,rfl⟩⟩,hB3⟩
 ·have HN:=hideW (show ¬HasSet W name from fun ⟨j,hj,h⟩=>hno j hj h)
  clear hno
  by_cases e1:W.sn<8
  ·have a1:¬(8:Int)≤(W.sn:Int):=by omega
   go_wp2
   go_ret
   exact⟨⟨_,rfl,Or.inr (Or.inr ⟨HN.out,e1,rfl⟩)⟩,hB3⟩
  ·have a1:(8:Int)≤(W.sn:Int):=by omega
   go_wp2
   go_ret
   exact⟨⟨_,rfl,Or.inr (Or.inl ⟨HN.out,e1,rfl⟩)⟩,hB3⟩
theorem cell_one{w:World}{bs o nb:Nat}{f:Nat→SetD}{kv:Nat→Value}{i:Nat}(h:SetOwn w bs o nb (kv i) (f i))(r:Nat):(cellSet f kv i r).oneCell'=true:=by
 have h1:=ptrs_one h.dead
 unfold cellSet
 split <;> first | rfl | exact h1
theorem l05_fin{V k lo hi bs g cap:Nat}{z0 z1 z2 z3:Value}{kb:Nat→Nat}{kv:Nat→Value}{W:WorldD}{s:SetD}{w wr w3:World}{P Q R:Nat→Prop}(hk:k≤W.sn)(h8:W.sn<8)(hs0:s.dn=0)(hsm:s.name.size≤maxLen)(hin:WorldIn w P Q R z0 z1 z2 z3 W∧∀j,P j∨Q j∨R j→lo≤j∧j<hi)
  (hVo:V<lo∨hi≤V) (hVw:V<w.heap.size) (hhi:hi≤w.heap.size) (hlo:lo≤w.heap.size) (hS:SetsOwn w bs kb kv z2 W.sn W.sets∧SetsApart kb W.sn W.sets∧∀j,SetsB bs kb W.sn W.sets j→Q j) (hcell:∀j,j<(W.sn+1)*6→Cell w3 g j (if j<k*6 then(fun j=>cellSet W.sets kv (j / 6) (j % 6)) j else if j<k*6+6 then cellOne s (.slice none 0 0) (j - k*6)else(fun j=>cellSet W.sets kv (j / 6) (j % 6)) (j - 6)))
  (hb:Below w.heap.size w w3) (hbw:w.heap.size≤wr.heap.size) (hgl:wr.heap.size≤g) (hgz:g<w3.heap.size) (hcap:W.sn+1≤cap) (hV:Box6 w3 V z0 z1 (.int .i64 W.time) (.int .i64 W.next) z2 z3) :
  Ending.returned (.tuple #[])=Ending.returned (.tuple #[])∧Turned (fun j=>j=V) w (w3.setCell ⟨V,4,none⟩ (.slice (some ⟨g,0,none⟩) (W.sn+1) cap))∧∃g' cap',Box6 (w3.setCell ⟨V,4,none⟩ (.slice (some ⟨g,0,none⟩) (W.sn+1) cap)) V z0 z1 (.int .i64 W.time) (.int .i64 W.next) (.slice (some ⟨g',0,none⟩) (W.sn+1) cap') z3∧WorldOwn2 (w3.setCell ⟨V,4,none⟩ (.slice (some ⟨g,0,none⟩) (W.sn+1) cap)) lo hi w.heap.size (w3.setCell ⟨V,4,none⟩ (.slice (some ⟨g,0,none⟩) (W.sn+1) cap)).heap.size z0 z1 (.slice (some ⟨g',0,none⟩) (W.sn+1) cap') z3 (addSetW W k s):=by
 obtain⟨hin,hlt⟩:=hin
 obtain⟨hS1,hS2,hS3⟩:=hS
 have hVl:=hV.1.lt
 have hT:Turned (fun j=>j=V) w (w3.setCell ⟨V,4,none⟩ (.slice (some ⟨g,0,none⟩) (W.sn+1) cap)):=(Turned.of_below hb).trans (Turned.put w3 V 4 _)
 have hVg:V≠g:=fun e=>by omega
 refine⟨rfl,hT,g,cap,⟨hV.1.other _ (Or.inr (by decide)),hV.2.1.other _ (Or.inr (by decide)),hV.2.2.1.other _ (Or.inr (by decide)),hV.2.2.2.1.other _ (Or.inr (by decide)),hV.2.2.2.2.1.set _,hV.2.2.2.2.2.other _ (Or.inr (by decide))⟩,?_⟩
 refine addSet_own (s:=s) (k:=k) (m:=w.heap.size) hin.pool hS1 hS2 hS3 hin.snaps hin.pq hin.pr hin.qr hlt hk hs0 hsm hT (fun j e=>by omega) (Or.inr ⟨by omega,by omega⟩) (by rw [World.size_setCell]; exact hgz) (by unfold maxLen; omega) hcap (fun j hj r hr=>?_)
 have h:=(hcell (j*6+r) (by omega)).other (b':=V) (o':=4) (.slice (some ⟨g,0,none⟩) (W.sn+1) cap) (Or.inl hVg)
 rcases Nat.lt_trichotomy j k with e | e | e
 ·dsimp only at h
  rw [if_pos (by omega),show(j*6+r) / 6=j by omega,show(j*6+r) % 6=r by omega] at h
  rw [cell_lo _ _ _ _ r e]; exact h
 ·subst e
  rw [if_neg (by omega),if_pos (by omega),show j*6+r - j*6=r by omega] at h
  rw [cell_at]; exact h
 ·dsimp only at h
  rw [if_neg (by omega),if_neg (by omega),show(j*6+r - 6) / 6=j - 1 by omega,show(j*6+r - 6) % 6=r by omega] at h
  rw [cell_hi _ _ _ _ r e]; exact h
set_option maxRecDepth 20000 in
set_option maxHeartbeats 2000000 in
theorem l05Add_any(V k lo hi:Nat)(z0 z1 z2 z3:Value)(W:WorldD)(s:SetD)(w:World)(h8:W.sn<8)(hput:PutAt W s.name k)(hs0:s.dn=0)(hsm:s.name.size≤maxLen)
  (ho:WorldOwnR w lo hi z0 z1 z2 z3 W) (hV:Box6 w V z0 z1 (.int .i64 W.time) (.int .i64 W.next) z2 z3) (hVo:V<lo∨hi≤V) (hhi:hi≤w.heap.size) (hlo:lo≤w.heap.size) :
  Calls Tryz.prog 27 #[.pointer (some ⟨V,0,none⟩),.agg #[.string s.name,.int .i64 s.origin,.int .i64 s.prev,.int .i64 s.rs,.int .i64 s.rb,.slice none 0 0]] w fun e w'=>e = .returned (.tuple #[])∧Turned (fun j=>j=V) w w'∧∃g cap,Box6 w' V z0 z1 (.int .i64 W.time) (.int .i64 W.next) (.slice (some ⟨g,0,none⟩) (W.sn+1) cap) z3∧WorldOwn2 w' lo hi w.heap.size w'.heap.size z0 z1 (.slice (some ⟨g,0,none⟩) (W.sn+1) cap) z3 (addSetW W k s):=by
 obtain⟨l0,lc0,l1,lc1,l2,lc2,l3,lc3,rfl,rfl,rfl,rfl⟩:=ho.form
 have HPut:=hideW hput
 have Hs0:=hideW hs0
 have Hsm:=hideW hsm
 obtain⟨P,Q,R,hin,hltS⟩:=ho
 obtain⟨bs,kb,kv,hS1,hS2,hS3,hSR,-⟩:=id hin.sets
 have Hin:=hideW (And.intro hin.isIn hltS)
 have hS:=And.intro hS1 (And.intro hS2 hS3)
 have hVw:=hV.1.lt
 clear hput hs0 hsm hin hltS hS2 hS3
 by_cases hn0:W.sn=0
 ·obtain⟨a,ea⟩:∃a,Value.slice l2 W.sn lc2 = .slice a 0 0:=by
   rcases hSR with⟨_,h⟩ | ⟨h,_⟩
   ·exact h
   ·omega
  obtain⟨rfl,_,rfl⟩:l2=a∧W.sn=0∧lc2=0:=by injection ea with e1 e2 e3; exact⟨e1,e2,e3⟩
  clear ea
  have hk0:k=0:=by have:=HPut.out.1; omega
  subst hk0
  cases l2 with
  | none=>
   have hal:=below_alloc w (.cells #[.string s.name,.int .i64 s.origin,.int .i64 s.prev,.int .i64 s.rs,.int .i64 s.rb,.slice none 0 0] 65)
   have HX:=hideW (Box6.new w (.string s.name) (.int .i64 s.origin) (.int .i64 s.prev) (.int .i64 s.rs) (.int .i64 s.rb) (.slice none 0 0) 65)
   have HV:=hideW (hV.below hal)
   go_enter Tryz.func27,Tryz.ntmps27
   go_wp2_with fail
   generalize w.alloc (.cells #[.string s.name,.int .i64 s.origin,.int .i64 s.prev,.int .i64 s.rs,.int .i64 s.rb,.slice none 0 0] 65)=w1 at hal HX HV ⊢
   go_loopw [4] (fun i wr=>∃j:Nat,j≤0∧i = .int .i64 j∧Below w1.heap.size w1 wr) (fun i _=>0 - (intOf i).toNat)
   case atStart=>exact⟨0,Nat.zero_le _,rfl,Below.refl _ _⟩
   case round=>
    obtain⟨j,hj,rfl,hbr⟩:=hrel
    have hk1:=HPut.out.1
    have hbw:Below w.heap.size w wr:=below_next hal hbr
    have HXr:=hideW (HX.out.below hbr)
    have HVr:=hideW (HV.out.below hbr)
    obtain⟨⟨x0,-⟩,⟨x1,-⟩,⟨x2,-⟩,⟨x3,-⟩,⟨x4,-⟩,⟨x5,-⟩⟩:=HXr.out
    obtain⟨-,-,-,-,⟨y4,-⟩,-⟩:=HVr.out
    obtain rfl:j=0:=by omega
    have hkn':¬((0:Nat):Int)<(W.sn:Int):=by omega
    go_wp2
    go_quiet (fail)
    go_upto_region 4 with fail
    have hbq:=below_drewN hbr nq
    have hbw:=below_next hal hbq
    have HXr:=hideW (HX.out.below hbq)
    have HVr:=hideW (HV.out.below hbq)
    clear hbr x0 x1 x2 x3 x4 x5 y4
    generalize wr.drewN nq=wq at hbq hbw HXr HVr ⊢
    obtain⟨v1,w1',v2,w2,g,cap,w3,hr1,hr2,hr3,hb1,hb2,hb3,hgl,hgz,hcap,hnk,hcell⟩:=run_add6 wq 0 0 W.sn 0 0 0 (none) (none) (fun i=>cellSet W.sets kv (i / 6) (i % 6)) (fun i hi=>by omega) HPut.out.1 (by omega) (fun h=>by omega) (fun h=>by omega) s
    obtain⟨rfl,rfl⟩:=hnk (by omega)
    skip
    have HR1:=hideW hr1
    have HR2:=hideW hr2
    have HR3:=hideW hr3
    have HCell:=hideW hcell
    have HB:=hideW (And.intro hb1 (And.intro hb2 hb3))
    have hX2:=HXr.out.below hb1
    have hV0:=HVr.out.below (below_alloc wq (.cells #[] 65))
    have hV2:=HVr.out.below hb2
    have hV3:=HVr.out.below hb3
    obtain⟨⟨q0,-⟩,⟨q1,-⟩,⟨q2,-⟩,⟨q3,-⟩,⟨q4,-⟩,⟨q5,-⟩⟩:=hX2
    obtain⟨-,-,-,-,⟨p4,-⟩,-⟩:=hV0
    obtain⟨-,-,-,-,⟨o4,-⟩,-⟩:=hV2
    obtain⟨-,-,-,-,⟨m4,m4'⟩,-⟩:=hV3
    clear hr1 hr2 hr3 hcell
    go_upto_region 5 with(at_builtin; refine wpList_append_run rfl _ _ 34 rfl _ _ _ rfl rfl HR1.out ?_)
    go_upto_region 6 with(at_builtin; refine wpList_append_run rfl _ _ 34 rfl _ _ _ rfl rfl HR2.out ?_)
    go_wp2
    go_end0
    have hfin:=l05_fin HPut.out.1 h8 Hs0.out Hsm.out Hin.out hVo hVw hhi hlo hS (HCell.out) (hbw.trans (hb3.mono hbw.size)) hbw.size hgl hgz hcap (HVr.out.below hb3)
    simp only [hn0,Nat.zero_add] at hfin
    exact⟨rfl,hfin.2⟩
  | some ad=>
   have hal:=below_alloc w (.cells #[.string s.name,.int .i64 s.origin,.int .i64 s.prev,.int .i64 s.rs,.int .i64 s.rb,.slice none 0 0] 65)
   have HX:=hideW (Box6.new w (.string s.name) (.int .i64 s.origin) (.int .i64 s.prev) (.int .i64 s.rs) (.int .i64 s.rb) (.slice none 0 0) 65)
   have HV:=hideW (hV.below hal)
   go_enter Tryz.func27,Tryz.ntmps27
   go_wp2_with fail
   generalize w.alloc (.cells #[.string s.name,.int .i64 s.origin,.int .i64 s.prev,.int .i64 s.rs,.int .i64 s.rb,.slice none 0 0] 65)=w1 at hal HX HV ⊢
   go_loopw [4] (fun i wr=>∃j:Nat,j≤0∧i = .int .i64 j∧Below w1.heap.size w1 wr) (fun i _=>0 - (intOf i).toNat)
   case atStart=>exact⟨0,Nat.zero_le _,rfl,Below.refl _ _⟩
   case round=>
    obtain⟨j,hj,rfl,hbr⟩:=hrel
    have hk1:=HPut.out.1
    have hbw:Below w.heap.size w wr:=below_next hal hbr
    have HXr:=hideW (HX.out.below hbr)
    have HVr:=hideW (HV.out.below hbr)
    obtain⟨⟨x0,-⟩,⟨x1,-⟩,⟨x2,-⟩,⟨x3,-⟩,⟨x4,-⟩,⟨x5,-⟩⟩:=HXr.out
    obtain⟨-,-,-,-,⟨y4,-⟩,-⟩:=HVr.out
    obtain rfl:j=0:=by omega
    have hkn':¬((0:Nat):Int)<(W.sn:Int):=by omega
    go_wp2
    go_quiet (fail)
    go_upto_region 4 with fail
    have hbq:=below_drewN hbr nq
    have hbw:=below_next hal hbq
    have HXr:=hideW (HX.out.below hbq)
    have HVr:=hideW (HV.out.below hbq)
    clear hbr x0 x1 x2 x3 x4 x5 y4
    generalize wr.drewN nq=wq at hbq hbw HXr HVr ⊢
    obtain⟨v1,w1',v2,w2,g,cap,w3,hr1,hr2,hr3,hb1,hb2,hb3,hgl,hgz,hcap,hnk,hcell⟩:=run_add6 wq 0 0 W.sn 0 0 0 (some ad) (some ad) (fun i=>cellSet W.sets kv (i / 6) (i % 6)) (fun i hi=>by omega) HPut.out.1 (by omega) (fun h=>by omega) (fun h=>by omega) s
    obtain⟨rfl,rfl⟩:=hnk (by omega)
    skip
    have HR1:=hideW hr1
    have HR2:=hideW hr2
    have HR3:=hideW hr3
    have HCell:=hideW hcell
    have HB:=hideW (And.intro hb1 (And.intro hb2 hb3))
    have hX2:=HXr.out.below hb1
    have hV0:=HVr.out.below (below_alloc wq (.cells #[] 65))
    have hV2:=HVr.out.below hb2
    have hV3:=HVr.out.below hb3
    obtain⟨⟨q0,-⟩,⟨q1,-⟩,⟨q2,-⟩,⟨q3,-⟩,⟨q4,-⟩,⟨q5,-⟩⟩:=hX2
    obtain⟨-,-,-,-,⟨p4,-⟩,-⟩:=hV0
    obtain⟨-,-,-,-,⟨o4,-⟩,-⟩:=hV2
    obtain⟨-,-,-,-,⟨m4,m4'⟩,-⟩:=hV3
    clear hr1 hr2 hr3 hcell
    go_upto_region 5 with(at_builtin; refine wpList_append_run rfl _ _ 34 rfl _ _ _ rfl rfl HR1.out ?_)
    go_upto_region 6 with(at_builtin; refine wpList_append_run rfl _ _ 34 rfl _ _ _ rfl rfl HR2.out ?_)
    go_wp2
    go_end0
    have hfin:=l05_fin HPut.out.1 h8 Hs0.out Hsm.out Hin.out hVo hVw hhi hlo hS (HCell.out) (hbw.trans (hb3.mono hbw.size)) hbw.size hgl hgz hcap (HVr.out.below hb3)
    simp only [hn0,Nat.zero_add] at hfin
    exact⟨rfl,hfin.2⟩
 ·obtain⟨off,c,ev,-⟩:=hS1.nth (k:=0) (by omega)
  have HS0:=hideW (show ∀i,i<W.sn→SetOwn w bs (off+i*6) (kb i) (kv i) (W.sets i)from fun i hi=>by
   obtain⟨off',c',ev',h⟩:=hS1.nth hi
   rw [ev] at ev'
   simp only [Value.slice.injEq,Option.some.injEq,Addr.mk.injEq,and_true,true_and] at ev'
   obtain⟨rfl,rfl⟩:=ev'
   exact h)
  have hlc:W.sn≤lc2:=by obtain⟨_,a,c',e,h,_⟩:=hS1; injection e with e1 e2 e3; omega
  obtain rfl:l2=some ⟨bs,off,none⟩:=by injection ev
  clear ev hS1 hSR
  have hal:=below_alloc w (.cells #[.string s.name,.int .i64 s.origin,.int .i64 s.prev,.int .i64 s.rs,.int .i64 s.rb,.slice none 0 0] 65)
  have HX:=hideW (Box6.new w (.string s.name) (.int .i64 s.origin) (.int .i64 s.prev) (.int .i64 s.rs) (.int .i64 s.rb) (.slice none 0 0) 65)
  have HV:=hideW (hV.below hal)
  go_enter Tryz.func27,Tryz.ntmps27
  go_wp2_with fail
  generalize w.alloc (.cells #[.string s.name,.int .i64 s.origin,.int .i64 s.prev,.int .i64 s.rs,.int .i64 s.rb,.slice none 0 0] 65)=w1 at hal HX HV ⊢
  go_loopw [4] (fun i wr=>∃j:Nat,j≤k∧i = .int .i64 j∧Below w1.heap.size w1 wr) (fun i _=>k - (intOf i).toNat)
  case atStart=>exact⟨0,Nat.zero_le _,rfl,Below.refl _ _⟩
  case round=>
   obtain⟨j,hj,rfl,hbr⟩:=hrel
   have hk1:=HPut.out.1
   have hbw:Below w.heap.size w wr:=below_next hal hbr
   have HXr:=hideW (HX.out.below hbr)
   have HVr:=hideW (HV.out.below hbr)
   obtain⟨⟨x0,-⟩,⟨x1,-⟩,⟨x2,-⟩,⟨x3,-⟩,⟨x4,-⟩,⟨x5,-⟩⟩:=HXr.out
   obtain⟨-,-,-,-,⟨y4,-⟩,-⟩:=HVr.out
   by_cases hlt:j<k
   ·have hlt':(j:Int)<(W.sn:Int):=by omega
    have e0:Op.bytesLess (W.sets j).name.toList s.name.toList=true:=HPut.out.2.1 j hlt
    have hc0:=(HS0.out j (by omega)).c0.below hbw
    obtain⟨c0,-⟩:=hc0
    go_wp2
    go_quiet (fail)
    go_wp2
    go_roundw
    case rel=>exact⟨j+1,by omega,by go_num,below_drewN hbr _⟩
    case measure=>simp [intOf]; omega
   ·obtain rfl:j=k:=by omega
    have h01:(0:Int)≤(j:Int):=by omega
    have h02:(j:Int)≤(W.sn:Int):=by omega
    have h03:(j:Int)≤(lc2:Int):=by omega
    have h04:j≤lc2:=by omega
    have h05:j≤W.sn:=by omega
    have hGr:∀w',Below w.heap.size w w'→∀i,i<W.sn*6→w'.cell? ⟨bs,off+i,none⟩=some ((fun i=>cellSet W.sets kv (i / 6) (i % 6)) i)∧((fun i=>cellSet W.sets kv (i / 6) (i % 6)) i).oneCell'=true:=fun w' hbw i hi=>by
     have h:=HS0.out (i / 6) (by omega)
     have h1:=setOwn_cell h (i % 6) (by omega)
     rw [show off+i / 6*6+i % 6=off+i by omega] at h1
     exact⟨(hbw.cell (p:=⟨bs,off+i,none⟩) (lt_of_cell h1)).trans h1,cell_one h (i % 6)⟩
    have HGr:=hideW hGr
    clear hGr hlt
    by_cases hkn:j<W.sn
    ·have hkn':(j:Int)<(W.sn:Int):=by omega
     have e0:Op.bytesLess (W.sets j).name.toList s.name.toList=false:=by
      rw [←Bool.not_eq_true]; exact rises_not (HPut.out.2.2 j (Nat.le_refl _) hkn)
     have hc0:=(HS0.out j hkn).c0.below hbw
     obtain⟨c0,-⟩:=hc0
     go_wp2
     go_quiet (fail)
     go_upto_region 4 with fail
     clear c0 e0
     have hbq:=below_drewN hbr nq
     have hbw:=below_next hal hbq
     have HXr:=hideW (HX.out.below hbq)
     have HVr:=hideW (HV.out.below hbq)
     clear hbr x0 x1 x2 x3 x4 x5 y4
     generalize wr.drewN nq=wq at hbq hbw HXr HVr ⊢
     obtain⟨v1,w1',v2,w2,g,cap,w3,hr1,hr2,hr3,hb1,hb2,hb3,hgl,hgz,hcap,hnk,hcell⟩:=run_add6 wq bs off W.sn j lc2 (lc2 - j) (some ⟨bs,off,none⟩) (some ⟨bs,off+j*6,none⟩) (fun i=>cellSet W.sets kv (i / 6) (i % 6)) (HGr.out _ hbw) HPut.out.1 (by omega) (fun _=>rfl) (fun _=>rfl) s
     clear hnk
     skip
     have HR1:=hideW hr1
     have HR2:=hideW hr2
     have HR3:=hideW hr3
     have HCell:=hideW hcell
     have HB:=hideW (And.intro hb1 (And.intro hb2 hb3))
     have hX2:=HXr.out.below hb1
     have hV0:=HVr.out.below (below_alloc wq (.cells #[] 65))
     have hV2:=HVr.out.below hb2
     have hV3:=HVr.out.below hb3
     obtain⟨⟨q0,-⟩,⟨q1,-⟩,⟨q2,-⟩,⟨q3,-⟩,⟨q4,-⟩,⟨q5,-⟩⟩:=hX2
     obtain⟨-,-,-,-,⟨p4,-⟩,-⟩:=hV0
     obtain⟨-,-,-,-,⟨o4,-⟩,-⟩:=hV2
     obtain⟨-,-,-,-,⟨m4,m4'⟩,-⟩:=hV3
     clear hr1 hr2 hr3 hcell
     go_upto_region 5 with(at_builtin; refine wpList_append_run rfl _ _ 34 rfl _ _ _ rfl rfl HR1.out ?_)
     go_upto_region 6 with(at_builtin; refine wpList_append_run rfl _ _ 34 rfl _ _ _ rfl rfl HR2.out ?_)
     go_wp2_with (at_builtin; refine wpList_append_run rfl _ _ 34 rfl _ _ _ rfl rfl HR3.out ?_)
     go_end0
     have hfin:=l05_fin HPut.out.1 h8 Hs0.out Hsm.out Hin.out hVo hVw hhi hlo hS (HCell.out) (hbw.trans (hb3.mono hbw.size)) hbw.size hgl hgz hcap (HVr.out.below hb3)
     skip
     exact hfin
    ·obtain rfl:j=W.sn:=by omega
     obtain⟨A2,hA2⟩:∃A2,(if lc2=W.sn then some (⟨bs,off,none⟩:Addr)else some ⟨bs,off+W.sn*6,none⟩)=A2:=⟨_,rfl⟩
     have hkn':¬(W.sn:Int)<(W.sn:Int):=by omega
     go_wp2
     go_quiet (fail)
     go_upto_region 4 with fail
     have hbq:=below_drewN hbr nq
     have hbw:=below_next hal hbq
     have HXr:=hideW (HX.out.below hbq)
     have HVr:=hideW (HV.out.below hbq)
     clear hbr x0 x1 x2 x3 x4 x5 y4
     generalize wr.drewN nq=wq at hbq hbw HXr HVr ⊢
     obtain⟨v1,w1',v2,w2,g,cap,w3,hr1,hr2,hr3,hb1,hb2,hb3,hgl,hgz,hcap,hnk,hcell⟩:=run_add6 wq bs off W.sn W.sn lc2 (lc2 - W.sn) (some ⟨bs,off,none⟩) (A2) (fun i=>cellSet W.sets kv (i / 6) (i % 6)) (HGr.out _ hbw) HPut.out.1 (by omega) (fun _=>rfl) (fun h=>by omega) s
     clear hnk
     rw [Nat.sub_self] at hr3
     have HR1:=hideW hr1
     have HR2:=hideW hr2
     have HR3:=hideW hr3
     have HCell:=hideW hcell
     have HB:=hideW (And.intro hb1 (And.intro hb2 hb3))
     have hX2:=HXr.out.below hb1
     have hV0:=HVr.out.below (below_alloc wq (.cells #[] 65))
     have hV2:=HVr.out.below hb2
     have hV3:=HVr.out.below hb3
     obtain⟨⟨q0,-⟩,⟨q1,-⟩,⟨q2,-⟩,⟨q3,-⟩,⟨q4,-⟩,⟨q5,-⟩⟩:=hX2
     obtain⟨-,-,-,-,⟨p4,-⟩,-⟩:=hV0
     obtain⟨-,-,-,-,⟨o4,-⟩,-⟩:=hV2
     obtain⟨-,-,-,-,⟨m4,m4'⟩,-⟩:=hV3
     clear hr1 hr2 hr3 hcell
     go_upto_region 5 with(at_builtin; refine wpList_append_run rfl _ _ 34 rfl _ _ _ rfl rfl HR1.out ?_)
     go_upto_region 6 with(at_builtin; refine wpList_append_run rfl _ _ 34 rfl _ _ _ rfl rfl HR2.out ?_)
     go_wp2_with (at_builtin; refine wpList_append_run rfl _ _ 34 rfl _ _ _ rfl rfl HR3.out ?_)
     go_end0
     have hfin:=l05_fin HPut.out.1 h8 Hs0.out Hsm.out Hin.out hVo hVw hhi hlo hS (HCell.out) (hbw.trans (hb3.mono hbw.size)) hbw.size hgl hgz hcap (HVr.out.below hb3)
     skip
     exact hfin
end Go.Proofs.YteipkhpniokkgaaGreatDoor

namespace Go.Proofs.YteipkhpniokkgaaGreatDoor
open Go.RowKit Go.Maps
set_option linter.unusedVariables false
set_option maxRecDepth 20000 in
set_option maxHeartbeats 400000 in
theorem eqSet_same(v u:Value)(lo hi lo' hi':Nat)(s:SetD)(w:World)(h1:PtrsAt w lo hi v s.dn s.ds s.db)(h2:PtrsAt w lo' hi' u s.dn s.ds s.db) :
  Calls Tryz.prog 84 #[setV v s,setV u s] w fun e w'=>e = .returned (.bool true)∧Below w.heap.size w w':=by
 unfold setV
 have H1:=hideW h1
 have H2:=hideW h2
 obtain⟨-,a1,c1,rfl,-⟩:=id h1
 obtain⟨-,a2,c2,rfl,-⟩:=id h2
 clear h1 h2
 have ha:=below_alloc w (.cells #[.string s.name,.int .i64 s.origin,.int .i64 s.prev,.int .i64 s.rs,.int .i64 s.rb,.slice a1 s.dn c1] 65)
 have ha2:=below_alloc (w.alloc (.cells #[.string s.name,.int .i64 s.origin,.int .i64 s.prev,.int .i64 s.rs,.int .i64 s.rb,.slice a1 s.dn c1] 65)) (.cells #[.string s.name,.int .i64 s.origin,.int .i64 s.prev,.int .i64 s.rs,.int .i64 s.rb,.slice a2 s.dn c2] 65)
 have hA:=below_next ha ha2
 have HX:=hideW ((Box6.new w (.string s.name) (.int .i64 s.origin) (.int .i64 s.prev) (.int .i64 s.rs) (.int .i64 s.rb) (.slice a1 s.dn c1) 65).below ha2)
 have hy:=Box6.new (w.alloc (.cells #[.string s.name,.int .i64 s.origin,.int .i64 s.prev,.int .i64 s.rs,.int .i64 s.rb,.slice a1 s.dn c1] 65)) (.string s.name) (.int .i64 s.origin) (.int .i64 s.prev) (.int .i64 s.rs) (.int .i64 s.rb) (.slice a2 s.dn c2) 65
 rw [World.size_alloc] at hy
 have HY:=hideW hy
 clear ha ha2 hy
 go_enter Tryz.func84,Tryz.ntmps84
 go_wp2_with fail
 generalize (w.alloc (.cells #[.string s.name,.int .i64 s.origin,.int .i64 s.prev,.int .i64 s.rs,.int .i64 s.rb,.slice a1 s.dn c1] 65)).alloc (.cells #[.string s.name,.int .i64 s.origin,.int .i64 s.prev,.int .i64 s.rs,.int .i64 s.rb,.slice a2 s.dn c2] 65)=W at HX HY hA ⊢
 refine(eqPtr_any s.rs s.rb s.rs s.rb W).mono ?_
 rintro e w1 ⟨⟨t,rfl,ht⟩,hb1⟩
 obtain rfl:t=true:=ht.2 ⟨rfl,rfl⟩
 have HX1:=hideW (HX.out.below hb1)
 have HY1:=hideW (HY.out.below hb1)
 have hB1:=below_next hA hb1
 clear ht hb1 hA HX HY
 obtain⟨⟨x0,-⟩,⟨x1,-⟩,⟨x2,-⟩,⟨x3,-⟩,⟨x4,-⟩,⟨x5,-⟩⟩:=HX1.out
 obtain⟨⟨y0,-⟩,⟨y1,-⟩,⟨y2,-⟩,⟨y3,-⟩,⟨y4,-⟩,⟨y5,-⟩⟩:=HY1.out
 go_wp2_with fail
 refine(eqPtrS_any _ _ s.dn s.dn lo hi lo' hi' s.ds s.db s.ds s.db _ (H1.out.below hB1) (H2.out.below hB1)).mono ?_
 rintro e w2 ⟨⟨t,rfl,ht⟩,hb2⟩
 obtain rfl:t=true:=ht.2 ⟨rfl,fun _ _=>⟨rfl,rfl⟩⟩
 have hB2:=below_next hB1 hb2
 clear ht hb2
 go_wp2
 go_ret
 exact⟨rfl,hB2⟩
set_option maxRecDepth 20000 in
set_option maxHeartbeats 400000 in
theorem eqSnap_same(v u:Value)(lo hi lo' hi':Nat)(s:SnapD)(w:World)(h1:PtrsAt w lo hi v s.dn s.ds s.db)(h2:PtrsAt w lo' hi' u s.dn s.ds s.db) :
  Calls Tryz.prog 85 #[snapV v s,snapV u s] w fun e w'=>e = .returned (.bool true)∧Below w.heap.size w w':=by
 unfold snapV
 have H1:=hideW h1
 have H2:=hideW h2
 obtain⟨-,a1,c1,rfl,-⟩:=id h1
 obtain⟨-,a2,c2,rfl,-⟩:=id h2
 clear h1 h2
 have ha:=below_alloc w (.cells #[.int .i64 s.id,.string s.name,.string s.set,.int .i64 s.prev,.int .i64 s.time,.int .i64 s.rs,.int .i64 s.rb,.slice a1 s.dn c1] 92)
 have ha2:=below_alloc (w.alloc (.cells #[.int .i64 s.id,.string s.name,.string s.set,.int .i64 s.prev,.int .i64 s.time,.int .i64 s.rs,.int .i64 s.rb,.slice a1 s.dn c1] 92)) (.cells #[.int .i64 s.id,.string s.name,.string s.set,.int .i64 s.prev,.int .i64 s.time,.int .i64 s.rs,.int .i64 s.rb,.slice a2 s.dn c2] 92)
 have hA:=below_next ha ha2
 have HX:=hideW ((Box8.new w (.int .i64 s.id) (.string s.name) (.string s.set) (.int .i64 s.prev) (.int .i64 s.time) (.int .i64 s.rs) (.int .i64 s.rb) (.slice a1 s.dn c1) 92).below ha2)
 have hy:=Box8.new (w.alloc (.cells #[.int .i64 s.id,.string s.name,.string s.set,.int .i64 s.prev,.int .i64 s.time,.int .i64 s.rs,.int .i64 s.rb,.slice a1 s.dn c1] 92)) (.int .i64 s.id) (.string s.name) (.string s.set) (.int .i64 s.prev) (.int .i64 s.time) (.int .i64 s.rs) (.int .i64 s.rb) (.slice a2 s.dn c2) 92
 rw [World.size_alloc] at hy
 have HY:=hideW hy
 clear ha ha2 hy
 go_enter Tryz.func85,Tryz.ntmps85
 go_wp2_with fail
 generalize (w.alloc (.cells #[.int .i64 s.id,.string s.name,.string s.set,.int .i64 s.prev,.int .i64 s.time,.int .i64 s.rs,.int .i64 s.rb,.slice a1 s.dn c1] 92)).alloc (.cells #[.int .i64 s.id,.string s.name,.string s.set,.int .i64 s.prev,.int .i64 s.time,.int .i64 s.rs,.int .i64 s.rb,.slice a2 s.dn c2] 92)=W at HX HY hA ⊢
 refine(eqPtr_any s.rs s.rb s.rs s.rb W).mono ?_
 rintro e w1 ⟨⟨t,rfl,ht⟩,hb1⟩
 obtain rfl:t=true:=ht.2 ⟨rfl,rfl⟩
 have HX1:=hideW (HX.out.below hb1)
 have HY1:=hideW (HY.out.below hb1)
 have hB1:=below_next hA hb1
 clear ht hb1 hA HX HY
 obtain⟨⟨⟨x0,-⟩,⟨x1,-⟩,⟨x2,-⟩,⟨x3,-⟩⟩,⟨x4,-⟩,⟨x5,-⟩,⟨x6,-⟩,⟨x7,-⟩⟩:=HX1.out
 obtain⟨⟨⟨y0,-⟩,⟨y1,-⟩,⟨y2,-⟩,⟨y3,-⟩⟩,⟨y4,-⟩,⟨y5,-⟩,⟨y6,-⟩,⟨y7,-⟩⟩:=HY1.out
 go_wp2_with fail
 refine(eqPtrS_any _ _ s.dn s.dn lo hi lo' hi' s.ds s.db s.ds s.db _ (H1.out.below hB1) (H2.out.below hB1)).mono ?_
 rintro e w2 ⟨⟨t,rfl,ht⟩,hb2⟩
 obtain rfl:t=true:=ht.2 ⟨rfl,fun _ _=>⟨rfl,rfl⟩⟩
 have hB2:=below_next hB1 hb2
 clear ht hb2
 go_wp2
 go_ret
 exact⟨rfl,hB2⟩
set_option maxRecDepth 20000 in
set_option maxHeartbeats 1000000 in
theorem eqSetS_same(v u:Value)(n lo hi lo' hi':Nat)(f:Nat→SetD)(w:World)(h1:SetsAt w lo hi v n f)(h2:SetsAt w lo' hi' u n f) :
  Calls Tryz.prog 37 #[v,u] w fun e w'=>e = .returned (.bool true)∧Below w.heap.size w w':=by
 have H1:=hideW h1
 have H2:=hideW h2
 obtain⟨m1,a,c,rfl,mc,-⟩:=id h1
 obtain⟨-,a',c',rfl,mc',-⟩:=id h2
 unfold maxLen at m1
 clear h1 h2
 have hne:((n:Int) != (n:Int))=false:=by simp
 go_enter Tryz.func37,Tryz.ntmps37
 go_wp2
 go_loopw [5] (fun i wr=>∃k:Nat,k≤n∧i = .int .i64 k∧Below w.heap.size w wr) (fun i _=>n - (intOf i).toNat)
 case atStart=>exact⟨0,Nat.zero_le _,rfl,Below.refl _ _⟩
 case round=>
  obtain⟨k,hk,rfl,hb⟩:=hrel
  by_cases hlt:k<n
  ·have hlt':(k:Int)<(n:Int):=by omega
   obtain⟨b,off,vd,rfl,hs'⟩:=(H1.out.below hb).cells hlt
   obtain⟨b',off',ve,rfl,ht'⟩:=(H2.out.below hb).cells hlt
   obtain⟨-,da,dc,rfl,-,-⟩:=id hs'.dead
   obtain⟨-,ea,ec,rfl,-,-⟩:=id ht'.dead
   have q0:=hs'.c0
   have r0:=ht'.c0
   have q1:=hs'.c1
   have r1:=ht'.c1
   have q2:=hs'.c2
   have r2:=ht'.c2
   have q3:=hs'.c3
   have r3:=ht'.c3
   have q4:=hs'.c4
   have r4:=ht'.c4
   have q5:=hs'.c5
   have r5:=ht'.c5
   have Hs:=hideW hs'
   have Ht:=hideW ht'
   clear hs' ht'
   go_wp2_with fail
   go_region_held3 (fun w'=>w'.cell? ⟨b,off+k*6,none⟩=some (.string (f k).name)∧w'.cell? ⟨b,off+k*6+1,none⟩=some (.int .i64 (f k).origin)∧w'.cell? ⟨b,off+k*6+2,none⟩=some (.int .i64 (f k).prev)∧w'.cell? ⟨b,off+k*6+3,none⟩=some (.int .i64 (f k).rs)∧w'.cell? ⟨b,off+k*6+4,none⟩=some (.int .i64 (f k).rb)∧w'.cell? ⟨b,off+k*6+5,none⟩=some (.slice da (f k).dn dc)∧w'.cell? ⟨b',off'+k*6,none⟩=some (.string (f k).name)∧w'.cell? ⟨b',off'+k*6+1,none⟩=some (.int .i64 (f k).origin)∧w'.cell? ⟨b',off'+k*6+2,none⟩=some (.int .i64 (f k).prev)∧w'.cell? ⟨b',off'+k*6+3,none⟩=some (.int .i64 (f k).rs)∧w'.cell? ⟨b',off'+k*6+4,none⟩=some (.int .i64 (f k).rb)∧w'.cell? ⟨b',off'+k*6+5,none⟩=some (.slice ea (f k).dn ec)) (go_keep)
    (first
     | (go_at_call 84; refine(eqSet_same _ _ lo hi lo' hi' (f k) _ (Hs.out.dead.below (Below.refl _ _).drew) (Ht.out.dead.below (Below.refl _ _).drew)).mono ?_; rintro e w1 ⟨rfl,hb1⟩; have hb1':=below_undrew hb1; have hs':=Hs.out; have ht':=Ht.out; have z0:=(hs'.below hb1').c0; have zz0:=(ht'.below hb1').c0; have z1:=(hs'.below hb1').c1; have zz1:=(ht'.below hb1').c1; have z2:=(hs'.below hb1').c2; have zz2:=(ht'.below hb1').c2; have z3:=(hs'.below hb1').c3; have zz3:=(ht'.below hb1').c3; have z4:=(hs'.below hb1').c4; have zz4:=(ht'.below hb1').c4; have z5:=(hs'.below hb1').c5; have zz5:=(ht'.below hb1').c5))
   have hb2:=below_next hb hb1'
   clear z0 zz0 q0 r0 z1 zz1 q1 r1 z2 zz2 q2 r2 z3 zz3 q3 r3 z4 zz4 q4 r4 z5 zz5 q5 r5 hs' ht' hb1 hb1'
   go_wp2
   go_roundw
   case rel=>exact⟨k+1,by omega,by go_num,hb2⟩
   case measure=>simp [intOf]; omega
  ·go_wp2
   go_ret
   exact⟨rfl,hb⟩
set_option maxRecDepth 20000 in
set_option maxHeartbeats 1000000 in
theorem eqSnapS_same(v u:Value)(n lo hi lo' hi':Nat)(f:Nat→SnapD)(w:World)(h1:SnapsAt w lo hi v n f)(h2:SnapsAt w lo' hi' u n f) :
  Calls Tryz.prog 38 #[v,u] w fun e w'=>e = .returned (.bool true)∧Below w.heap.size w w':=by
 have H1:=hideW h1
 have H2:=hideW h2
 obtain⟨m1,a,c,rfl,mc,-⟩:=id h1
 obtain⟨-,a',c',rfl,mc',-⟩:=id h2
 unfold maxLen at m1
 clear h1 h2
 have hne:((n:Int) != (n:Int))=false:=by simp
 go_enter Tryz.func38,Tryz.ntmps38
 go_wp2
 go_loopw [5] (fun i wr=>∃k:Nat,k≤n∧i = .int .i64 k∧Below w.heap.size w wr) (fun i _=>n - (intOf i).toNat)
 case atStart=>exact⟨0,Nat.zero_le _,rfl,Below.refl _ _⟩
 case round=>
  obtain⟨k,hk,rfl,hb⟩:=hrel
  by_cases hlt:k<n
  ·have hlt':(k:Int)<(n:Int):=by omega
   obtain⟨b,off,vd,rfl,hs'⟩:=(H1.out.below hb).cells hlt
   obtain⟨b',off',ve,rfl,ht'⟩:=(H2.out.below hb).cells hlt
   obtain⟨-,da,dc,rfl,-,-⟩:=id hs'.dead
   obtain⟨-,ea,ec,rfl,-,-⟩:=id ht'.dead
   have q0:=hs'.c0
   have r0:=ht'.c0
   have q1:=hs'.c1
   have r1:=ht'.c1
   have q2:=hs'.c2
   have r2:=ht'.c2
   have q3:=hs'.c3
   have r3:=ht'.c3
   have q4:=hs'.c4
   have r4:=ht'.c4
   have q5:=hs'.c5
   have r5:=ht'.c5
   have q6:=hs'.c6
   have r6:=ht'.c6
   have q7:=hs'.c7
   have r7:=ht'.c7
   have Hs:=hideW hs'
   have Ht:=hideW ht'
   clear hs' ht'
   go_wp2_with fail
   go_region_held3 (fun w'=>w'.cell? ⟨b,off+k*8,none⟩=some (.int .i64 (f k).id)∧w'.cell? ⟨b,off+k*8+1,none⟩=some (.string (f k).name)∧w'.cell? ⟨b,off+k*8+2,none⟩=some (.string (f k).set)∧w'.cell? ⟨b,off+k*8+3,none⟩=some (.int .i64 (f k).prev)∧w'.cell? ⟨b,off+k*8+4,none⟩=some (.int .i64 (f k).time)∧w'.cell? ⟨b,off+k*8+5,none⟩=some (.int .i64 (f k).rs)∧w'.cell? ⟨b,off+k*8+6,none⟩=some (.int .i64 (f k).rb)∧w'.cell? ⟨b,off+k*8+7,none⟩=some (.slice da (f k).dn dc)∧w'.cell? ⟨b',off'+k*8,none⟩=some (.int .i64 (f k).id)∧w'.cell? ⟨b',off'+k*8+1,none⟩=some (.string (f k).name)∧w'.cell? ⟨b',off'+k*8+2,none⟩=some (.string (f k).set)∧w'.cell? ⟨b',off'+k*8+3,none⟩=some (.int .i64 (f k).prev)∧w'.cell? ⟨b',off'+k*8+4,none⟩=some (.int .i64 (f k).time)∧w'.cell? ⟨b',off'+k*8+5,none⟩=some (.int .i64 (f k).rs)∧w'.cell? ⟨b',off'+k*8+6,none⟩=some (.int .i64 (f k).rb)∧w'.cell? ⟨b',off'+k*8+7,none⟩=some (.slice ea (f k).dn ec)) (go_keep)
    (first
     | (go_at_call 85; refine(eqSnap_same _ _ lo hi lo' hi' (f k) _ (Hs.out.dead.below (Below.refl _ _).drew) (Ht.out.dead.below (Below.refl _ _).drew)).mono ?_; rintro e w1 ⟨rfl,hb1⟩; have hb1':=below_undrew hb1; have hs':=Hs.out; have ht':=Ht.out; have z0:=(hs'.below hb1').c0; have zz0:=(ht'.below hb1').c0; have z1:=(hs'.below hb1').c1; have zz1:=(ht'.below hb1').c1; have z2:=(hs'.below hb1').c2; have zz2:=(ht'.below hb1').c2; have z3:=(hs'.below hb1').c3; have zz3:=(ht'.below hb1').c3; have z4:=(hs'.below hb1').c4; have zz4:=(ht'.below hb1').c4; have z5:=(hs'.below hb1').c5; have zz5:=(ht'.below hb1').c5; have z6:=(hs'.below hb1').c6; have zz6:=(ht'.below hb1').c6; have z7:=(hs'.below hb1').c7; have zz7:=(ht'.below hb1').c7))
   have hb2:=below_next hb hb1'
   clear z0 zz0 q0 r0 z1 zz1 q1 r1 z2 zz2 q2 r2 z3 zz3 q3 r3 z4 zz4 q4 r4 z5 zz5 q5 r5 z6 zz6 q6 r6 z7 zz7 q7 r7 hs' ht' hb1 hb1'
   go_wp2
   go_roundw
   case rel=>exact⟨k+1,by omega,by go_num,hb2⟩
   case measure=>simp [intOf]; omega
  ·go_wp2
   go_ret
   exact⟨rfl,hb⟩
end Go.Proofs.YteipkhpniokkgaaGreatDoor
