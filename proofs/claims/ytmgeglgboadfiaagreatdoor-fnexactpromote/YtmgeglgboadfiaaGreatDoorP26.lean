/- What is asked of a set of a name: whether there is one. -/
import Derived.Test.YtmgeglgboadfiaaGreatDoorP13
import Derived.Test.YtmgeglgboadfiaaGreatDoorP1
import Derived.Test.YtmgeglgboadfiaaGreatDoorP17
import Derived.Test.YtmgeglgboadfiaaGreatDoorP23
import Derived.Test.YtmgeglgboadfiaaGreatDoorP25
import Derived.Test.YtmgeglgboadfiaaGreatDoorP16
import Derived.Test.YtmgeglgboadfiaaGreatDoorP14
import Derived.Test.YtmgeglgboadfiaaGreatDoorP18
import Derived.Test.YtmgeglgboadfiaaGreatDoorP9
import Derived.Deep.RegionLaw
import Derived.Test.YtmgeglgboadfiaaGreatDoorP20
namespace Go.Proofs.YtmgeglgboadfiaaGreatDoor
open Go.RowKit
set_option linter.unusedVariables false
set_option maxRecDepth 20000 in
set_option maxHeartbeats 2000000 in
theorem hasSet_any(v0 v1 v2 v3:Value)(lo hi:Nat)(W:WorldD)(name:ByteArray)(w:World)(h:WorldAt w lo hi v0 v1 v2 v3 W)(hn8:W.sn≤8)(hsz:name.size≤maxLen) :
  Calls Tryz.prog 92 #[worldV v0 v1 v2 v3 W,.string name] w fun e w'=>BoolIs (HasSet W name) e∧Below w.heap.size w w':=by
 have Hp:=hideW h
 clear h
 have ha:=below_alloc w (.cells #[v0,v1,.int .i64 W.time,.int .i64 W.next,v2,v3] 37)
 obtain⟨⟨x0,-⟩,⟨x1,-⟩,⟨x2,-⟩,⟨x3,-⟩,⟨x4,-⟩,⟨x5,-⟩⟩:=Box6.new w (v0) (v1) (.int .i64 W.time) (.int .i64 W.next) (v2) (v3) 37
 go_enter Tryz.func92,Tryz.ntmps92
 go_wp2_with fail
 clear x0 x1 x2 x3 x4 x5
 generalize w.alloc (.cells #[v0,v1,.int .i64 W.time,.int .i64 W.next,v2,v3] 37)=W0 at ha ⊢
 refine(setsByName_any v0 v1 v2 v3 lo hi W W0 (Hp.out.below ha) hn8).mono ?_
 rintro e w1 ⟨vd,rfl,hmap,hvd,hb1⟩
 have hdv:∀i,i<W.sn→∃a n c,vd i = .slice a n c:=fun i hi'=>by
  obtain⟨_,aa,cc,hv,_⟩:=hvd i hi'
  exact⟨aa,_,cc,hv⟩
 obtain⟨s0,i1,i2,i3,i4,sa,sn,sc,hat⟩:=sets_look hdv name
 have Hat:=hideW hat
 have Hhas:=hideW (sets_has (W:=W) (vd:=vd))
 have HM1:=hideW hmap
 have Hkey:=hideW (keyS_of hsz)
 have hB1:=below_next ha hb1
 clear hmap hvd hdv hb1 ha hat
 obtain⟨M,hM⟩:∃M,M=W0.heap.size+1:=⟨_,rfl⟩
 rw [←hM] at HM1 ⊢
 clear hM
 by_cases hset:HasSet W name
 ·skip
  have Hc:=hideW (show Maps.has (putD (fun i=>keyS (W.sets i).name) (fun i=>setV (vd i) (W.sets i)) W.sn) (keyS name)=true from(Hhas.out name).2 hset)
  have Hn:=hideW hset
  clear hset
  go_wp2_with (first
   | (at_lookup; refine wpList_lookup_raw_ok _ rfl _ _ 177 rfl 9 67 lawS setsT (zeroSetV _) M W.sn _ rfl HM1.out _ _ rfl Hkey.out _ Hat.out true Hc.out ?_)
   | go_in)
  go_ret
  exact⟨BoolIs.yes Hn.out,below_next hB1 (below_alloc w1 (.cells #[.string s0,.int .i64 i1,.int .i64 i2,.int .i64 i3,.int .i64 i4,.slice sa sn sc] 67))⟩
 ·skip
  have Hc:=hideW (show Maps.has (putD (fun i=>keyS (W.sets i).name) (fun i=>setV (vd i) (W.sets i)) W.sn) (keyS name)=false from by rw [Bool.eq_false_iff]; exact fun h=>hset ((Hhas.out name).1 h))
  have Hn:=hideW hset
  clear hset
  go_wp2_with (first
   | (at_lookup; refine wpList_lookup_raw_ok _ rfl _ _ 177 rfl 9 67 lawS setsT (zeroSetV _) M W.sn _ rfl HM1.out _ _ rfl Hkey.out _ Hat.out false Hc.out ?_)
   | go_in)
  go_ret
  exact⟨BoolIs.no Hn.out,below_next hB1 (below_alloc w1 (.cells #[.string s0,.int .i64 i1,.int .i64 i2,.int .i64 i3,.int .i64 i4,.slice sa sn sc] 67))⟩
set_option maxRecDepth 20000 in
set_option maxHeartbeats 2000000 in
theorem setThereQ_any(v0 v1 v2 v3:Value)(lo hi:Nat)(W:WorldD)(B:Nat)(name:ByteArray)(w:World)(h:WorldAt w lo hi v0 v1 v2 v3 W)(hn8:W.sn≤8)(hsz:name.size≤maxLen)(hc:w.cell? ⟨B,0,none⟩=some (.string name)) :
  Calls Tryz.prog 91 #[worldV v0 v1 v2 v3 W,.pointer (some ⟨B,0,none⟩)] w fun e w'=>BoolIs (HasSet W name) e∧Below w.heap.size w w':=by
 have Hp:=hideW h
 clear h
 have ha:=below_alloc w (.cells #[v0,v1,.int .i64 W.time,.int .i64 W.next,v2,v3] 37)
 have hc1:=(ha.cell (lt_of_cell hc)).trans hc
 obtain⟨⟨x0,-⟩,⟨x1,-⟩,⟨x2,-⟩,⟨x3,-⟩,⟨x4,-⟩,⟨x5,-⟩⟩:=Box6.new w (v0) (v1) (.int .i64 W.time) (.int .i64 W.next) (v2) (v3) 37
 go_enter Tryz.func91,Tryz.ntmps91
 go_wp2_with fail
 clear x0 x1 x2 x3 x4 x5 hc hc1
 generalize w.alloc (.cells #[v0,v1,.int .i64 W.time,.int .i64 W.next,v2,v3] 37)=W0 at ha ⊢
 refine(hasSet_any v0 v1 v2 v3 lo hi W name W0 (Hp.out.below ha) hn8 hsz).mono ?_
 rintro e w1 ⟨⟨t,rfl,ht⟩,hb1⟩
 have hB1:=below_next ha hb1
 by_cases hf:HasSet W name
 ·obtain rfl:t=true:=ht.2 hf
  have HF:=hideW hf
  clear ht hf
  go_wp2
  go_ret
  exact⟨BoolIs.yes HF.out,hB1⟩
 ·obtain rfl:t=false:=bool_no ht hf
  have HF:=hideW hf
  clear ht hf
  go_wp2
  go_ret
  exact⟨BoolIs.no HF.out,hB1⟩
set_option maxRecDepth 20000 in
set_option maxHeartbeats 2000000 in
theorem setThere_any(p:Nat→Addr)(s0:ByteArray)(w:World)(hE:Errs w p) :
  Calls Tryz.prog 33 #[.string s0] w fun e w'=>∃B0:Nat,e = .returned (.agg #[.func (.func 91) #[] #[.pointer (some ⟨B0,0,none⟩)],errV (p 2)])∧w'.cell? ⟨B0,0,none⟩=some (.string s0)∧Below w.heap.size w w':=by
 have hk0:=below_alloc w (.cells #[.string s0] 9)
 have hk1:=below_alloc (w.alloc (.cells #[.string s0] 9)) (.cells #[.nilFunc,.nilIface] 75)
 have hb:=below_next (hk0) hk1
 have c0:(w.alloc (.cells #[.string s0] 9)).cell? ⟨w.heap.size,0,none⟩=some (.string s0):=World.cell?_alloc_at _ _ _ _ rfl
 have hg:((w.alloc (.cells #[.string s0] 9)).alloc (.cells #[.nilFunc,.nilIface] 75)).cell? ⟨0,0,none⟩=some (errV (p 2)):=(hE.below hb).cell 2 (by omega)
 have hkf:=below_alloc (w.alloc (.cells #[.string s0] 9)) (.cells #[.func (.func 91) #[] #[.pointer (some ⟨w.heap.size,0,none⟩)],errV (p 2)] 75)
 have hbf:=below_next (hk0) hkf
 have Hc0:=hideW ((hkf.cell (lt_of_cell c0)).trans c0)
 clear c0
 go_enter Tryz.func33,Tryz.ntmps33
 have hst:=fun (ww:World) (a:Addr)=>run_store Tryz.prog ww a (.func (.func 91) #[] #[.pointer (some ⟨w.heap.size,0,none⟩)]) .plain rfl
 go_wp2_with fail
 have HRf:=Box2.new (w.alloc (.cells #[.string s0] 9)) (.func (.func 91) #[] #[.pointer (some ⟨w.heap.size,0,none⟩)]) (errV (p 2)) 75
 rw [World.size_alloc] at HRf
 refine bodyPost_ret (v:=.agg #[.func (.func 91) #[] #[.pointer (some ⟨w.heap.size,0,none⟩)],errV (p 2)]) (by simp [results,Tryz.results33,go_sem,HRf.1.1,HRf.2.1]) rfl ⟨_,rfl,Hc0.out,hbf⟩
theorem ImplN.setsDist{W:WorldD}(h:ImplN W):NamesDist W:=fun i hi j hj e=>by
 have hr:∀{a b:Nat},a<b→b<W.sn→Rises (W.sets a).name (W.sets b).name:=by
  intro a b hab hb
  induction b with
  | zero=>omega
  | succ b ih=>
   have h1:=(h.sets.2 (b+1) hb).2
   have h2:lastN W.sets (b+1)=(W.sets b).name:=by unfold lastN; simp
   rw [h2] at h1
   by_cases e:a=b
   ·subst e; exact h1
   ·exact rises_trans (ih (by omega) (by omega)) h1
 exact rises_ne (hr hj hi) e
theorem step_append_run{P:Program}{w w1:World}{ops:Array Oper}{o:Oper}{a:Act}{K:Act→World→Prop}{Q:Exit→Act→World→Prop}{E:Prop}(hgd:o.guard=none)(s x:Operand)(t:TypeId)
  (ho:o.op = .call {callee:=.builtin .append,args:=#[s,x],argTypes:=#[t,t]}) (vs vx v':Value) (hs:a.eval s=vs) (hx:a.eval x=vx) (hrun:(Builtin.append_ #[t,t] o.type #[vs,vx]).run P w = .ok v' w1)
  (h:K (a.put o.dst v') w1):if Region.wanted o (yielded ops a.tmps)=true then Oper.wp P o a w K Q else E:=by
 have hw:Region.wanted o (yielded ops a.tmps)=true:=by simp [Region.wanted,hgd]
 rw [if_pos hw]
 unfold Oper.wp
 simp [execOp,ho,resolve,invoke,builtin,hs,hx,hrun,Result.andThen]
 exact h
def rowG(G:Nat→Value)(i n:Nat):List Value:=(List.range n).map (fun j=>G (i+j))
theorem rowG_len(G:Nat→Value)(i n:Nat):(rowG G i n).length=n:=by simp [rowG]
theorem rowG_at{G:Nat→Value}{i n j:Nat}(h:j<n):(rowG G i n)[j]?=some (G (i+j)):=by simp [rowG,h]
theorem snapT:Tryz.prog.underlying 35=some (.slice 99):=by kernel_rfl
theorem run_more8(w:World)(base:Nat)(v:Value)(n:Nat)(xs:List Value)(hown:w.ownsRow base 99 8 v n xs)(hb:base≤w.heap.size)(ad:Option Addr)(b off i m c:Nat)(G:Nat→Value)(had:0<m→ad=some ⟨b,off+i,none⟩)(hG:∀j,j<m*8→w.cell? ⟨b,off+(i+j),none⟩=some (G (i+j))∧(G (i+j)).oneCell'=true)(hn:n+m≤1000)(ty:TypeId) :
  ∃v' w',(Builtin.append_ #[35,35] ty #[v,.slice ad m c]).run Tryz.prog w = .ok v' w'∧w'.ownsRow base 99 8 v' (n+m) (xs ++ rowG G i (m*8))∧w.grownBy w' v.ownBlock:=by
 obtain⟨i0,hi0,hzz⟩:=Option.map_eq_some_iff.1 infoSnapT
 simp only [Prod.mk.injEq] at hzz
 obtain⟨hz,hs,hby⟩:=hzz
 by_cases h0:0<m
 ·obtain rfl:=had h0
  have hadd:∀j,(⟨b,off+i,none⟩:Addr).add j=⟨b,off+(i+j),none⟩:=fun j=>by
   unfold Addr.add
   split
   ·simp_all
   ·simp [Nat.add_assoc]
  obtain⟨v',w1,hr,r1,r2,_⟩:=run_append_own (P:=Tryz.prog) w base 35 ty 99 i0 _ 8 96 snapT hi0 hz hs hby rfl (by decide) v n xs hown ⟨b,off+i,none⟩ m c (rowG G i (m*8)) (rowG_len _ _ _) (fun j u hj=>by
    have hlt:j<m*8:=by
     have:=(List.getElem?_eq_some_iff.1 hj).1
     rwa [rowG_len] at this
    rw [rowG_at hlt] at hj
    cases hj
    rw [hadd]
    exact(hG j hlt).1) (fun u hu=>by
    unfold rowG at hu
    obtain⟨j,hj,rfl⟩:=List.mem_map.1 hu
    exact(hG j (List.mem_range.1 hj)).2) (by unfold maxLen; omega) (by omega) hb
  exact⟨v',w1,hr,r1,r2⟩
 ·obtain rfl:m=0:=by omega
  exact⟨v,w,run_append_zero (P:=Tryz.prog) (w:=w) base 35 ty 99 i0 8 c ad snapT hi0 v n xs hown,by simpa [rowG] using hown,World.grownBy.refl _ _⟩
theorem fieldOrigin(v:Value)(s:SetD)(w:World):(Instr.field 67 (setV v s) 1).run Tryz.prog w = .ok (.int .i64 s.origin) w:=by kernel_rfl
def RowS(w:World)(base:Nat)(v:Value)(l:List SnapD)(kv:Nat→Value):Prop:=w.ownsRow base 99 8 v l.length (clSnap (fun i=>l.getD i zeroSnap) kv l.length)
def DeadK(w:World)(hi:Nat)(l:List SnapD)(kv:Nat→Value):Prop:=∀i,i<l.length→∃a c,kv i = .slice a (l.getD i zeroSnap).dn c∧PtrsAt w 0 hi (kv i) (l.getD i zeroSnap).dn (l.getD i zeroSnap).ds (l.getD i zeroSnap).db
theorem snoc_cells(l:List SnapD)(A:SnapD)(kv:Nat→Value)(dv:Value):clSnap (fun i=>(l ++ [A]).getD i zeroSnap) (fun i=>if i=l.length then dv else kv i) (l.length+1)=clSnap (fun i=>l.getD i zeroSnap) kv l.length ++ rowG (fun j=>cellSnap (fun _=>A) (fun _=>dv) 0 j) 0 (1*8):=by
 apply List.ext_getElem?
 intro j
 by_cases hj:j<l.length*8
 ·have hd:j / 8<l.length:=by omega
  have e1:=clSnap_at (fun i=>(l ++ [A]).getD i zeroSnap) (fun i=>if i=l.length then dv else kv i) (l.length+1) (i:=j / 8) (r:=j % 8) (by omega) (by omega)
  have e2:=clSnap_at (fun i=>l.getD i zeroSnap) kv l.length hd (show j % 8<8 by omega)
  rw [show j / 8*8+j % 8=j by omega] at e1 e2
  rw [List.getElem?_append_left (by rw [clSnap_len]; exact hj),e1,e2]
  have e3:(l ++ [A]).getD (j / 8) zeroSnap=l.getD (j / 8) zeroSnap:=by
   rw [List.getD_eq_getElem?_getD,List.getD_eq_getElem?_getD,List.getElem?_append_left hd]
  have e4:(if j / 8=l.length then dv else kv (j / 8))=kv (j / 8):=if_neg (by omega)
  unfold cellSnap
  dsimp only
  rw [e3,e4]
 ·by_cases hj2:j<(l.length+1)*8
  ·have e1:=clSnap_at (fun i=>(l ++ [A]).getD i zeroSnap) (fun i=>if i=l.length then dv else kv i) (l.length+1) (i:=l.length) (r:=j - l.length*8) (by omega) (by omega)
   rw [show l.length*8+(j - l.length*8)=j by omega] at e1
   rw [List.getElem?_append_right (by rw [clSnap_len]; omega),clSnap_len,e1,rowG_at (by omega),Nat.zero_add]
   have e3:(l ++ [A]).getD l.length zeroSnap=A:=by
    rw [List.getD_eq_getElem?_getD,List.getElem?_append_right (Nat.le_refl _),Nat.sub_self]
    rfl
   unfold cellSnap
   dsimp only
   rw [e3,if_pos rfl]
  ·rw [List.getElem?_eq_none (by rw [clSnap_len]; omega),List.getElem?_eq_none (by rw [List.length_append,clSnap_len,rowG_len]; omega)]
theorem RowS.next{w:World}{base B:Nat}{v dv:Value}{l:List SnapD}{kv:Nat→Value}{A:SnapD}(h:RowS w base v l kv)(hb:base≤w.heap.size)(hl:l.length≤100)(hd:dv.oneCell'=true)(hB:Box8 w B (.int .i64 A.id) (.string A.name) (.string A.set) (.int .i64 A.prev) (.int .i64 A.time) (.int .i64 A.rs) (.int .i64 A.rb) (dv))(ty:TypeId) :
  ∃a c w',(Builtin.append_ #[35,35] ty #[v,.slice (some ⟨B,0,none⟩) 1 1]).run Tryz.prog w = .ok (.slice a (l.length+1) c) w'∧RowS w' base (.slice a (l.length+1) c) (l ++ [A]) (fun i=>if i=l.length then dv else kv i)∧w.grownBy w' v.ownBlock:=by
 obtain⟨v',w',hr,ho,hg⟩:=run_more8 w base v l.length _ h hb (some ⟨B,0,none⟩) B 0 0 1 1 (fun j=>cellSnap (fun _=>A) (fun _=>dv) 0 j) (fun _=>rfl) (fun j hj=>by
  rw [Nat.zero_add,Nat.zero_add]
  obtain⟨⟨b0,b1,b2,b3⟩,b4,b5,b6,b7⟩:=hB
  rcases(by omega:j=0∨j=1∨j=2∨j=3∨j=4∨j=5∨j=6∨j=7)with rfl | rfl | rfl | rfl | rfl | rfl | rfl | rfl
  ·exact⟨b0.1,rfl⟩
  ·exact⟨b1.1,rfl⟩
  ·exact⟨b2.1,rfl⟩
  ·exact⟨b3.1,rfl⟩
  ·exact⟨b4.1,rfl⟩
  ·exact⟨b5.1,rfl⟩
  ·exact⟨b6.1,rfl⟩
  ·exact⟨b7.1,hd⟩) (by omega) ty
 rw [←snoc_cells] at ho
 obtain⟨a,c,rfl,-⟩:=owns_form ho
 refine⟨a,c,w',hr,?_,hg⟩
 unfold RowS
 rw [List.length_append]
 exact ho
theorem prev_wfP{W:WorldD}(h:PrevsWf W)(x:Int):(Lit.int .i64 (aheadOf W x).prev).wf=true:=by
 by_cases hx:∃k,SnapNo W x k
 ·obtain⟨k,hk⟩:=hx
  rw [aheadOf_at hk]
  have:=h k (by unfold memN; have:=hk.1; omega)
  rw [memOf_snap hk.1] at this
  exact this
 ·have e:aheadOf W x=zeroSnap:=by unfold aheadOf; rw [dif_neg hx]
  rw [e]
  rfl
theorem RowS.at{w wr:World}{base hi:Nat}{a:Option Addr}{c:Nat}{l:List SnapD}{kv:Nat→Value}(h:RowS wr base (.slice a l.length c) l kv)(hd:DeadK w hi l kv)(hh:hi≤w.heap.size)(hb:Below w.heap.size w wr)(hl:l.length≤1000)(hs:∀i,i<l.length→(l.getD i zeroSnap).name.size≤maxLen∧(l.getD i zeroSnap).set.size≤maxLen):SnapsAt wr 0 wr.heap.size (.slice a l.length c) l.length (fun i=>l.getD i zeroSnap):=by
 have hz:=hb.size
 obtain⟨a',c',e,hc⟩:=owns_form h
 cases e
 refine⟨by unfold maxLen; omega,a,c,rfl,hc,fun h0=>?_⟩
 obtain⟨g,cap,e,-,-,hg,hx⟩:=owns_cell h h0
 cases e
 refine⟨g,0,rfl,Nat.zero_le _,hg,fun i hi'=>?_⟩
 have hcell:∀r,r<8→wr.cell? ⟨g,0+i*8+r,none⟩=some (cellSnap (fun i=>l.getD i zeroSnap) kv i r):=fun r hr=>by
  rw [show 0+i*8+r=i*8+r by omega]
  exact(hx _ _ (clSnap_at (fun i=>l.getD i zeroSnap) kv l.length hi' hr)).1
 obtain⟨da,dc,-,hp⟩:=hd i hi'
 have hp2:=hp.below hb
 obtain⟨q0,qa,qc,qv,qcc,qx⟩:=hp2
 refine⟨kv i,hcell 0 (by omega),hcell 1 (by omega),hcell 2 (by omega),hcell 3 (by omega),hcell 4 (by omega),hcell 5 (by omega),hcell 6 (by omega),hcell 7 (by omega),⟨q0,qa,qc,qv,qcc,fun hn=>?_⟩,hs i hi'⟩
 obtain⟨b,off,e1,e2,e3,e4⟩:=qx hn
 exact⟨b,off,e1,e2,by omega,e4⟩
theorem RowS.below{w w1:World}{base:Nat}{v:Value}{l:List SnapD}{kv:Nat→Value}(h:RowS w base v l kv)(t:Below w.heap.size w w1):RowS w1 base v l kv:=
 World.ownsRow.kept h (grown_of_below t none) (by cases hv:v.ownBlock <;> simp)
theorem RowS.lt{w:World}{base:Nat}{v:Value}{l:List SnapD}{kv:Nat→Value}(h:RowS w base v l kv)(q:Nat)(e:v.ownBlock=some q):base≤q∧q<w.heap.size:=World.ownsRow.lt h q e
theorem Box8.turnedP{S:Nat→Prop}{w w':World}{b:Nat}{v0 v1 v2 v3 v4 v5 v6 v7:Value}(h:Box8 w b v0 v1 v2 v3 v4 v5 v6 v7)(t:Turned S w w')(hs:¬S b):Box8 w' b v0 v1 v2 v3 v4 v5 v6 v7:=
 ⟨⟨h.1.1.turned t hs,h.1.2.1.turned t hs,h.1.2.2.1.turned t hs,h.1.2.2.2.turned t hs⟩,h.2.1.turned t hs,h.2.2.1.turned t hs,h.2.2.2.1.turned t hs,h.2.2.2.2.turned t hs⟩
theorem PtrsAt.wideP{w:World}{lo hi:Nat}{v:Value}{n:Nat}{f g:Nat→Int}(h:PtrsAt w lo hi v n f g):PtrsAt w 0 hi v n f g:=by
 obtain⟨h0,a,cap,hv,hcc,hc⟩:=h
 refine⟨h0,a,cap,hv,hcc,fun hn=>?_⟩
 obtain⟨b,off,ha,h1,h2,h3⟩:=hc hn
 exact⟨b,off,ha,Nat.zero_le _,h2,h3⟩
theorem grown_of_turnP{w w1:World}{B:Nat}(h:Turned (fun k=>k=B) w w1):w.grownBy w1 (some B):=⟨h.os,h.tape,h.output,h.size,fun k hk hs=>h.block k hk (fun e=>hs (by rw [e]))⟩
theorem DeadK.snoc{w:World}{lo hi:Nat}{l:List SnapD}{kv:Nat→Value}{A:SnapD}{a:Option Addr}{c:Nat}(h:DeadK w hi l kv)(hp:PtrsAt w lo hi (.slice a A.dn c) A.dn A.ds A.db):DeadK w hi (l ++ [A]) (fun i=>if i=l.length then .slice a A.dn c else kv i):=by
 intro i hi'
 rw [List.length_append,List.length_singleton] at hi'
 by_cases e:i=l.length
 ·have e3:(l ++ [A]).getD i zeroSnap=A:=by
   rw [e,List.getD_eq_getElem?_getD,List.getElem?_append_right (Nat.le_refl _),Nat.sub_self]
   rfl
  dsimp only
  rw [e3,if_pos e]
  exact⟨a,c,rfl,hp.wideP⟩
 ·have e3:(l ++ [A]).getD i zeroSnap=l.getD i zeroSnap:=by
   rw [List.getD_eq_getElem?_getD,List.getD_eq_getElem?_getD,List.getElem?_append_left (by omega)]
  dsimp only
  rw [e3,if_neg e]
  exact h i (by omega)
def lenS:Value→Nat
 | .slice _ n _=>n
 | _=>0
set_option maxRecDepth 20000 in
set_option maxHeartbeats 2000000 in
theorem toBePromoted_any(v0 v1 v2 v3:Value)(lo hi:Nat)(W:WorldD)(name:ByteArray)(w:World)(L:List SnapD)(h:WorldAt w lo hi v0 v1 v2 v3 W)(hh:hi≤w.heap.size)(hI:ImplN W)(hwf:PrevsWf W)(hor:(Lit.int .i64 (setAt W name).origin).wf=true)(hsz:name.size≤maxLen)(hL:L=comeL W (aheadOf W (setAt W name).origin).set (setAt W name).origin) :
  Calls Tryz.prog 131 #[worldV v0 v1 v2 v3 W,.string name] w fun e w'=>∃a c kv base,e = .returned (.slice a L.length c)∧RowS w' base (.slice a L.length c) L kv∧DeadK w hi L kv∧Below w.heap.size w w'∧w.heap.size≤base:=by
 have Hp:=hideW h
 have HI:=hideW hI
 have Hx:=hideW hor
 have Hz:=hideW hsz
 have Hwf:=hideW hwf
 have h8:=hI.sets.1
 have h20:=hI.snaps.1
 have hlen:L.length≤20:=by rw [hL]; exact comeL_len hI _ _
 clear h hI hwf hsz hor
 obtain⟨S1,hS1⟩:∃S1,S1=setAt W name:=⟨_,rfl⟩
 have HLK:=hideW (show ∀(w2 w':World) (vd:Nat→Value),SetsMap w' W (w2.heap.size+1) W.sn vd→SetDeads w2 lo hi W.sn W.sets vd→∃a c,(Instr.lookup 177 (.map (some (w2.heap.size+1))) (.string name) false).run Tryz.prog w' = .ok (setV (.slice a S1.dn c) S1) w' from fun w2 w' vd hm hd=>by
  obtain⟨a,c,hat,-⟩:=setNames_look HI.out.setsDist hd name
  rw [hS1]
  exact⟨a,c,sets_run hm Hz.out hat⟩)
 rw [←hS1] at Hx hL
 clear hS1
 obtain⟨O1,hO1⟩:∃O1,O1=aheadOf W S1.origin:=⟨_,rfl⟩
 rw [←hO1] at hL
 have HL:=hideW hL
 have HO1:=hideW hO1
 clear hL hO1
 have HAC:=hideW (show ∀(A:Nat) (y:Int) (w':World),(Lit.int .i64 y).wf=true→Below w.heap.size w w'→AheadFn w' lo hi W A→Calls Tryz.prog 190 #[.int .i64 y,.pointer (some ⟨A,0,none⟩)] w' fun e w''=>(∃a c,e = .returned (snapV (.slice a (aheadOf W y).dn c) (aheadOf W y))∧PtrsAt w lo hi (.slice a (aheadOf W y).dn c) (aheadOf W y).dn (aheadOf W y).ds (aheadOf W y).db)∧Below w'.heap.size w' w'' from fun A y w' hy hb hA=>by
  refine(ahead_any lo hi W A y w' hA HI.out.dist hy h20).mono ?_
  rintro e w2 ⟨a,c,rfl,hp,hb2⟩
  exact⟨⟨a,c,rfl,hp.same (fun k h1 h2=>(hb.block k (by omega)).symm)⟩,hb2⟩)
 have ha:=below_alloc w (.cells #[v0,v1,.int .i64 W.time,.int .i64 W.next,v2,v3] 37)
 have HB:=hideW (Box6.new w (v0) (v1) (.int .i64 W.time) (.int .i64 W.next) (v2) (v3) 37)
 obtain⟨⟨x0,-⟩,⟨x1,-⟩,⟨x2,-⟩,⟨x3,-⟩,⟨x4,-⟩,⟨x5,-⟩⟩:=HB.out
 go_enter Tryz.func131,Tryz.ntmps131
 go_wp2_with fail
 go_step3
 go_wp2_with fail
 clear x0 x1 x2 x3 x4 x5
 generalize w.alloc (.cells #[v0,v1,.int .i64 W.time,.int .i64 W.next,v2,v3] 37)=W0 at ha HB ⊢
 refine(aheadIn_any v0 v1 v2 v3 lo hi W W0 (Hp.out.below ha) h20 HI.out.idsWf).mono ?_
 rintro e w2 ⟨Af,rfl,hA,hb2⟩
 have HA:=hideW hA
 have hB2:=below_next ha hb2
 obtain⟨⟨x0,-⟩,⟨x1,-⟩,⟨x2,-⟩,⟨x3,-⟩,⟨x4,-⟩,⟨x5,-⟩⟩:=HB.out.below hb2
 clear hA
 go_wp2_with fail
 clear x0 x1 x2 x3 x4 x5
 refine(setsByName_any v0 v1 v2 v3 lo hi W w2 (Hp.out.below hB2) h8).mono ?_
 rintro e w3 ⟨vd,rfl,hm,hd,hb3⟩
 have hB3:=below_next hB2 hb3
 obtain⟨a3,c3,hlk⟩:=HLK.out w2 w3 vd hm hd
 have hfp:=fun w=>fieldOrigin (.slice a3 S1.dn c3) S1 w
 clear hm hd HLK
 go_wp2_with fail
 clear hlk hfp
 refine(HAC.out Af S1.origin w3 Hx.out hB3 (HA.out.below hb3)).mono ?_
 rw [←HO1.out]
 rintro e w4 ⟨⟨a4,c4,rfl,hp4⟩,hb4⟩
 have hB4:=below_next hB3 hb4
 unfold snapV
 have HP4:=hideW hp4
 have ha5:=below_alloc w4 (.cells #[.int .i64 O1.id,.string O1.name,.string O1.set,.int .i64 O1.prev,.int .i64 O1.time,.int .i64 O1.rs,.int .i64 O1.rb,.slice a4 O1.dn c4] 99)
 have HO5:=hideW (Box8.new w4 (.int .i64 O1.id) (.string O1.name) (.string O1.set) (.int .i64 O1.prev) (.int .i64 O1.time) (.int .i64 O1.rs) (.int .i64 O1.rb) (.slice a4 O1.dn c4) 99)
 have hz5:(w4.alloc (.cells #[.int .i64 O1.id,.string O1.name,.string O1.set,.int .i64 O1.prev,.int .i64 O1.time,.int .i64 O1.rs,.int .i64 O1.rb,.slice a4 O1.dn c4] 99)).heap.size=w4.heap.size+1:=World.size_alloc _ _
 have HA5:=hideW (((HA.out.below hb3).below hb4).below ha5)
 have hB5:=below_next hB4 ha5
 obtain⟨⟨⟨x0,-⟩,⟨x1,-⟩,⟨x2,-⟩,⟨x3,-⟩⟩,⟨x4,-⟩,⟨x5,-⟩,⟨x6,-⟩,⟨x7,-⟩⟩:=HO5.out
 clear hp4
 go_wp2_with fail
 go_step3
 go_upto_region 4 with fail
 generalize w4.alloc (.cells #[.int .i64 O1.id,.string O1.name,.string O1.set,.int .i64 O1.prev,.int .i64 O1.time,.int .i64 O1.rs,.int .i64 O1.rb,.slice a4 O1.dn c4] 99)=w5 at ha5 HO5 hz5 HA5 hB5 x0 x1 x2 x3 x4 x5 x6 x7 ⊢
 have hzw:=hB5.size
 have ha6:=below_alloc w5 (.cells #[.int .i64 O1.id,.string O1.name,.string O1.set,.int .i64 O1.prev,.int .i64 O1.time,.int .i64 O1.rs,.int .i64 O1.rb,.slice a4 O1.dn c4] 99)
 have HX6:=hideW (Box8.new w5 (.int .i64 O1.id) (.string O1.name) (.string O1.set) (.int .i64 O1.prev) (.int .i64 O1.time) (.int .i64 O1.rs) (.int .i64 O1.rb) (.slice a4 O1.dn c4) 99)
 go_wp2_with fail
 clear x0 x1 x2 x3 x4 x5 x6 x7
 generalize w5.alloc (.cells #[.int .i64 O1.id,.string O1.name,.string O1.set,.int .i64 O1.prev,.int .i64 O1.time,.int .i64 O1.rs,.int .i64 O1.rb,.slice a4 O1.dn c4] 99)=w6 at ha6 HX6 ⊢
 go_loopw [7,8] (fun s7 s8 wr=>∃(y:Int) (l:List SnapD) (ra:Option Addr) (rc X:Nat) (kv:Nat→Value) (a:Option Addr) (c:Nat) (A:SnapD),A=aheadOf W y∧(Lit.int .i64 y).wf=true∧l ++ comeL W O1.set y=L∧s7 = .slice ra l.length rc∧s8 = .pointer (some ⟨X,0,none⟩)∧Below w5.heap.size w5 wr∧RowS wr w5.heap.size (.slice ra l.length rc) l kv∧(Value.slice ra l.length rc).ownBlock≠some X∧w5.heap.size≤X∧Box8 wr X (.int .i64 A.id) (.string A.name) (.string A.set) (.int .i64 A.prev) (.int .i64 A.time) (.int .i64 A.rs) (.int .i64 A.rb) (.slice a A.dn c)∧DeadK w hi l kv∧PtrsAt w lo hi (.slice a A.dn c) A.dn A.ds A.db) (fun s7 _ _=>L.length - lenS s7)
 case atStart=>
  refine⟨S1.origin,[],none,0,w5.heap.size,fun _=>.slice none 0 0,a4,c4,O1,HO1.out,Hx.out,HL.out.symm,rfl,by rw [hz5],ha6,?_,by simp only [Value.ownBlock]; exact fun h=>(nomatch h),Nat.le_refl _,HX6.out,fun i hi=>absurd hi (Nat.not_lt_zero _),HP4.out⟩
  exact World.ownsRow_nil _ _ _ _
 case round=>
  clear HX6 ha6 ha5 hb2 hb3 hb4 ha HP4
  obtain⟨y,l,ra,rc,X,kv,a,c,A,hA,hy,hl,rfl,rfl,hb,hrow,hown,hX5,hbox,hdk,hpt⟩:=hrel
  have hll:l.length≤20:=by
   have e:=congrArg List.length hl
   rw [List.length_append] at e
   omega
  have HLl:=hideW hl
  have Hrow:=hideW hrow
  have Hown:=hideW hown
  have Hbox:=hideW hbox
  have HDK:=hideW hdk
  have HPT:=hideW hpt
  have HAe:=hideW hA
  have HOw:=hideW (HO5.out.below hb)
  clear hy hl hrow hown hbox hdk hpt hA
  by_cases h0:A.id=0
  ·obtain⟨⟨⟨x0,-⟩,⟨x1,-⟩,⟨x2,-⟩,⟨x3,-⟩⟩,⟨x4,-⟩,⟨x5,-⟩,⟨x6,-⟩,⟨x7,-⟩⟩:=Hbox.out
   rw [h0] at x0
   go_wp2
   rw [Exit.noGoto_ret]
   go_ret
   have hn:=comeL_stop (W:=W) (st:=O1.set) (x:=y) (Or.inl (by rw [←HAe.out]; exact h0))
   have e:=HLl.out
   rw [hn,List.append_nil] at e
   subst e
   exact⟨ra,rc,kv,w5.heap.size,rfl,Hrow.out,HDK.out,below_next hB5 hb,hzw⟩
  obtain⟨⟨⟨x0,-⟩,⟨x1,-⟩,⟨x2,-⟩,⟨x3,-⟩⟩,⟨x4,-⟩,⟨x5,-⟩,⟨x6,-⟩,⟨x7,-⟩⟩:=Hbox.out
  obtain⟨⟨-,-,⟨y2,-⟩,-⟩,-⟩:=HOw.out
  by_cases hq:A.set=O1.set
  rotate_left
  ·have e0:(A.set.toList == O1.set.toList)=false:=str_ne hq
   go_wp2
   rw [Exit.noGoto_ret]
   go_ret
   have hn:=comeL_stop (W:=W) (st:=O1.set) (x:=y) (Or.inr (by rw [←HAe.out]; exact hq))
   have e:=HLl.out
   rw [hn,List.append_nil] at e
   subst e
   exact⟨ra,rc,kv,w5.heap.size,rfl,Hrow.out,HDK.out,below_next hB5 hb,hzw⟩
  have e0:(A.set.toList == O1.set.toList)=true:=str_eq hq
  have hwp:=prev_wfP Hwf.out y
  rw [←HAe.out] at hwp
  have HWP:=hideW hwp
  have hnx:=comeL_next HI.out (st:=O1.set) (x:=y) (by rw [←HAe.out]; rintro(e | e); exact h0 e; exact e hq)
  rw [←HAe.out] at hnx
  have hl2:(l ++ [A]) ++ comeL W O1.set A.prev=L:=by rw [List.append_assoc,List.singleton_append,←hnx]; exact HLl.out
  have HL2:=hideW hl2
  have hlt:l.length<L.length:=by
   have e:=congrArg List.length hl2
   rw [List.length_append,List.length_append,List.length_singleton] at e
   omega
  clear hwp hnx hl2 hq
  have ha7:=below_alloc wr (.cells #[.int .i64 A.id,.string A.name,.string A.set,.int .i64 A.prev,.int .i64 A.time,.int .i64 A.rs,.int .i64 A.rb,.slice a A.dn c] 99)
  have hb7:Below w5.heap.size w5 (wr.alloc (.cells #[.int .i64 A.id,.string A.name,.string A.set,.int .i64 A.prev,.int .i64 A.time,.int .i64 A.rs,.int .i64 A.rb,.slice a A.dn c] 99)):=below_next hb ha7
  have hz7:(wr.alloc (.cells #[.int .i64 A.id,.string A.name,.string A.set,.int .i64 A.prev,.int .i64 A.time,.int .i64 A.rs,.int .i64 A.rb,.slice a A.dn c] 99)).heap.size=wr.heap.size+1:=World.size_alloc _ _
  have hzr:=hb.size
  have HN7:=hideW (Box8.new wr (.int .i64 A.id) (.string A.name) (.string A.set) (.int .i64 A.prev) (.int .i64 A.time) (.int .i64 A.rs) (.int .i64 A.rb) (.slice a A.dn c) 99)
  obtain⟨a8,c8,w8,hr8,hrow8,hg8⟩:=RowS.next (Hrow.out.below ha7) (B:=wr.heap.size) (A:=A) (dv:=.slice a A.dn c) (by omega) (by omega) rfl HN7.out 35
  have HR8:=hideW hr8
  have HX8:=hideW ((Hbox.out.below ha7).turnedP (turned_of_grown hg8) Hown.out)
  have hb8:Below w5.heap.size w5 w8:=hb7.grown hg8 hb7.size (fun q hq=>((Hrow.out.below ha7).lt q hq).1)
  have HW8:=hideW hrow8
  have HA8:=hideW (HA5.out.below hb8)
  clear hr8 hrow8
  have ha9:=below_alloc w8 (.cells #[.int .i64 A.id,.string A.name,.string A.set,.int .i64 A.prev,.int .i64 A.time,.int .i64 A.rs,.int .i64 A.rb,.slice a A.dn c] 99)
  have HX9:=hideW (Box8.new w8 (.int .i64 A.id) (.string A.name) (.string A.set) (.int .i64 A.prev) (.int .i64 A.time) (.int .i64 A.rs) (.int .i64 A.rb) (.slice a A.dn c) 99)
  obtain⟨⟨⟨z0,-⟩,⟨z1,-⟩,⟨z2,-⟩,⟨z3,-⟩⟩,⟨z4,-⟩,⟨z5,-⟩,⟨z6,-⟩,⟨z7,-⟩⟩:=HX8.out
  obtain⟨⟨⟨q0,-⟩,⟨q1,-⟩,⟨q2,-⟩,⟨q3,-⟩⟩,⟨q4,-⟩,⟨q5,-⟩,⟨q6,-⟩,⟨q7,-⟩⟩:=HX9.out
  go_wp2_with (at_builtin; go_must (refine wpList_append_run rfl _ _ 35 rfl _ _ _ rfl rfl HR8.out ?_))
  clear x0 x1 x2 x3 x4 x5 x6 x7 z0 z1 z2 z3 z4 z5 z6 z7 q0 q1 q2 q3 q4 q5 q6 q7 y2 ha7 hb7 hz7 HN7 HR8 HX8 e0
  have hb9:=below_next hb8 ha9
  have HA9:=hideW (HA8.out.below ha9)
  have HW9:=hideW (HW8.out.below ha9)
  have hz8:=hb8.size
  generalize w8.alloc (.cells #[.int .i64 A.id,.string A.name,.string A.set,.int .i64 A.prev,.int .i64 A.time,.int .i64 A.rs,.int .i64 A.rb,.slice a A.dn c] 99)=w9 at ha9 HX9 hb9 HA9 HW9 ⊢
  refine(HAC.out Af A.prev w9 HWP.out (below_next hB5 hb9) HA9.out).mono ?_
  obtain⟨A2,hA2⟩:∃A2,A2=aheadOf W A.prev:=⟨_,rfl⟩
  rw [←hA2]
  unfold snapV
  rintro e w10 ⟨⟨a2,c2,rfl,hp2⟩,hb10⟩
  have HP2:=hideW hp2
  have HAe2:=hideW hA2
  have HX10:=hideW (HX9.out.below hb10)
  have HW10:=hideW (HW9.out.below hb10)
  have hbA:=below_next hb9 hb10
  clear hp2 hA2
  obtain⟨⟨⟨r0,g0⟩,⟨r1,g1⟩,⟨r2,g2⟩,⟨r3,g3⟩⟩,⟨r4,g4⟩,⟨r5,g5⟩,⟨r6,g6⟩,⟨r7,g7⟩⟩:=HX10.out
  go_wp2_with fail
  clear r0 r1 r2 r3 r4 r5 r6 r7 g0 g1 g2 g3 g4 g5 g6 g7
  go_roundw
  case rel=>
   refine⟨A.prev,l ++ [A],a8,c8,w8.heap.size,fun i=>if i=l.length then .slice a A.dn c else kv i,a2,c2,A2,HAe2.out,HWP.out,HL2.out,by rw [List.length_append]; rfl,rfl,below_put8 hbA hz8 (.int .i64 A2.id) (.string A2.name) (.string A2.set) (.int .i64 A2.prev) (.int .i64 A2.time) (.int .i64 A2.rs) (.int .i64 A2.rb) (.slice a2 A2.dn c2),?_,?_,hz8,HX10.out.put (.int .i64 A2.id) (.string A2.name) (.string A2.set) (.int .i64 A2.prev) (.int .i64 A2.time) (.int .i64 A2.rs) (.int .i64 A2.rb) (.slice a2 A2.dn c2),?_,HP2.out⟩
   ·have h:=World.ownsRow.kept HW10.out (grown_of_turnP (Turned.put8 w10 w8.heap.size (.int .i64 A2.id) (.string A2.name) (.string A2.set) (.int .i64 A2.prev) (.int .i64 A2.time) (.int .i64 A2.rs) (.int .i64 A2.rb) (.slice a2 A2.dn c2))) (Or.inr fun e=>by have:=HW8.out.lt _ e; omega)
    unfold RowS
    rw [List.length_append] at h ⊢
    exact h
   ·rw [List.length_append]
    exact fun e=>by have:=HW8.out.lt _ e; omega
   ·exact HDK.out.snoc HPT.out
  case measure=>
   simp only [lenS]
   omega
theorem comeN_mem{W:WorldD}(h:ImplN W)(st:ByteArray):∀(n:Nat) (x:Int) (A:SnapD),A∈comeN W st n x→A.set=st∧∃k,k<W.pn∧A=W.snaps k:=by
 intro n
 induction n with
 | zero=>
  intro x A hA
  unfold comeN at hA
  cases hA
 | succ n ih=>
  intro x A hA
  unfold comeN at hA
  by_cases hq:(aheadOf W x).id=0∨(aheadOf W x).set≠st
  ·rw [if_pos hq] at hA
   cases hA
  ·rw [if_neg hq] at hA
   obtain⟨-,-,-,k,hk⟩:=ahead_falls h (fun e=>hq (Or.inl e))
   rcases List.mem_cons.1 hA with rfl | hA
   ·exact⟨Classical.byContradiction fun e=>hq (Or.inr e),k,hk.1,aheadOf_at hk⟩
   ·exact ih _ _ hA
theorem comeL_get{W:WorldD}(h:ImplN W)(st:ByteArray)(x:Int){i:Nat}(hi:i<(comeL W st x).length):((comeL W st x).getD i zeroSnap).set=st∧∃k,k<W.pn∧(comeL W st x).getD i zeroSnap=W.snaps k:=by
 have e:(comeL W st x).getD i zeroSnap=(comeL W st x)[i]:=by
  rw [List.getD_eq_getElem?_getD,List.getElem?_eq_getElem hi]
  rfl
 rw [e]
 exact comeN_mem h st _ _ _ (List.getElem_mem hi)
theorem comeL_small{w:World}{lo hi:Nat}{v0 v1 v2 v3:Value}{W:WorldD}(hw:WorldAt w lo hi v0 v1 v2 v3 W)(h:ImplN W)(st:ByteArray)(x:Int)(i:Nat)(hi:i<(comeL W st x).length):((comeL W st x).getD i zeroSnap).name.size≤maxLen∧((comeL W st x).getD i zeroSnap).set.size≤maxLen:=by
 obtain⟨-,k,hk,e⟩:=comeL_get h st x hi
 rw [e]
 obtain⟨_,a,c,rfl,_,_⟩:=id hw.snaps
 obtain⟨b,off,vd,_,hs⟩:=hw.snaps.cells hk
 exact hs.small
def FreeL(W:WorldD)(name:ByteArray)(l:List SnapD):Prop:=∀i,i<l.length→∀k,k<W.pn→¬((W.snaps k).set=name∧(W.snaps k).name=(l.getD i zeroSnap).name)
set_option maxRecDepth 20000 in
set_option maxHeartbeats 2000000 in
theorem namesNotThereQ_any(v0 v1 v2 v3:Value)(lo hi:Nat)(W:WorldD)(B:Nat)(name:ByteArray)(w:World)(L:List SnapD)(h:WorldAt w lo hi v0 v1 v2 v3 W)(hh:hi≤w.heap.size)(hI:ImplN W)(hwf:PrevsWf W)(hor:(Lit.int .i64 (setAt W name).origin).wf=true)(hsz:name.size≤maxLen)(hL:L=comeL W (aheadOf W (setAt W name).origin).set (setAt W name).origin)(hc:w.cell? ⟨B,0,none⟩=some (.string name)) :
  Calls Tryz.prog 130 #[worldV v0 v1 v2 v3 W,.pointer (some ⟨B,0,none⟩)] w fun e w'=>BoolIs (FreeL W name L) e∧Below w.heap.size w w':=by
 have h20:=hI.snaps.1
 have hlen:L.length≤20:=by rw [hL]; exact comeL_len hI _ _
 have Hsm:=hideW (show ∀i,i<L.length→(L.getD i zeroSnap).name.size≤maxLen∧(L.getD i zeroSnap).set.size≤maxLen from by rw [hL]; exact comeL_small h hI _ _)
 obtain⟨_,aZ,cZ,rfl,hcZ,_⟩:=id h.snaps
 have Hp:=hideW h
 have ha:=below_alloc w (.cells #[v0,v1,.int .i64 W.time,.int .i64 W.next,v2,.slice aZ W.pn cZ] 37)
 have HCC:=hideW (show ∀w':World,Below w.heap.size w w'→Calls Tryz.prog 131 #[worldV v0 v1 v2 (.slice aZ W.pn cZ) W,.string name] w' fun e w''=>∃a c,e = .returned (.slice a L.length c)∧SnapsAt w'' 0 w''.heap.size (.slice a L.length c) L.length (fun i=>L.getD i zeroSnap)∧Below w'.heap.size w' w'' from fun w' hb=>by
  have hz:=hb.size
  refine(toBePromoted_any v0 v1 v2 (.slice aZ W.pn cZ) lo hi W name w' L (h.below hb) (by omega) hI hwf hor hsz hL).mono ?_
  rintro e w'' ⟨a,c,kv,base,rfl,hr,hd,hb2,-⟩
  exact⟨a,c,rfl,hr.at hd (by omega) hb2 (by omega) Hsm.out,hb2⟩)
 clear h hI hwf hor hsz hL Hsm
 have hc1:=(ha.cell (lt_of_cell hc)).trans hc
 have HB:=hideW (Box6.new w (v0) (v1) (.int .i64 W.time) (.int .i64 W.next) (v2) (.slice aZ W.pn cZ) 37)
 have HCc:=hideW hc1
 obtain⟨⟨x0,-⟩,⟨x1,-⟩,⟨x2,-⟩,⟨x3,-⟩,⟨x4,-⟩,⟨x5,-⟩⟩:=HB.out
 clear hc
 go_enter Tryz.func130,Tryz.ntmps130
 go_wp2_with fail
 go_step3
 go_wp2_with fail
 go_step3
 go_wp2_with fail
 clear x0 x1 x2 x3 x4 x5
 generalize w.alloc (.cells #[v0,v1,.int .i64 W.time,.int .i64 W.next,v2,.slice aZ W.pn cZ] 37)=W0 at ha hc1 HB HCc ⊢
 refine(HCC.out W0 ha).mono ?_
 rintro e w2 ⟨a2,c2,rfl,hs2,hb2⟩
 have HS2:=hideW hs2
 have hB2:=below_next ha hb2
 have HX2:=hideW (HB.out.below hb2)
 have HC2:=hideW ((hb2.cell (lt_of_cell HCc.out)).trans HCc.out)
 clear hs2 HCC hc1 HB HCc
 go_wp2_with fail
 go_loopw [4,13] (fun s4 s13 wr=>∃i:Nat,i≤L.length∧s4 = .bool true∧s13 = .int .i64 i∧(∀j,j<i→∀k,k<W.pn→¬((W.snaps k).set=name∧(W.snaps k).name=(L.getD j zeroSnap).name))∧Below w2.heap.size w2 wr) (fun _ i _=>L.length - (intOf i).toNat)
 case atStart=>exact⟨0,Nat.zero_le _,rfl,rfl,fun j hj=>absurd hj (Nat.not_lt_zero _),Below.refl _ _⟩
 case round=>
  obtain⟨i,hi',rfl,rfl,hno,hb⟩:=hrel
  have HNo:=hideW hno
  clear hno
  by_cases hlt:i<L.length
  rotate_left
  ·obtain rfl:i=L.length:=by omega
   go_wp2
   rw [Exit.noGoto_ret]
   go_ret
   exact⟨BoolIs.yes HNo.out,below_next hB2 hb⟩
  have hlt':(i:Int)<(L.length:Int):=by omega
  obtain⟨b,off,vd,rfl,hsc⟩:=(HS2.out.below hb).cells hlt
  obtain⟨-,ad,cd,rfl,-,-⟩:=id hsc.dead
  obtain⟨A,hA⟩:∃A,A=L.getD i zeroSnap:=⟨_,rfl⟩
  rw [←hA] at hsc
  have HAe:=hideW hA
  have q0:=hsc.c0
  have q1:=hsc.c1
  have q2:=hsc.c2
  have q3:=hsc.c3
  have q4:=hsc.c4
  have q5:=hsc.c5
  have q6:=hsc.c6
  have q7:=hsc.c7
  clear hsc
  have hbs:=below_alloc wr (.cells #[.int .i64 A.id,.string A.name,.string A.set,.int .i64 A.prev,.int .i64 A.time,.int .i64 A.rs,.int .i64 A.rb,.slice ad A.dn cd] 99)
  have HV:=hideW (Box8.new wr (.int .i64 A.id) (.string A.name) (.string A.set) (.int .i64 A.prev) (.int .i64 A.time) (.int .i64 A.rs) (.int .i64 A.rb) (.slice ad A.dn cd) 99)
  have HX3:=hideW ((HX2.out.below hb).below hbs)
  have HC3:=hideW ((below_next hb hbs).cell (lt_of_cell HC2.out) |>.trans HC2.out)
  have hB3:=below_next (below_next hB2 hb) hbs
  have hb3:=below_next hb hbs
  obtain⟨⟨x0,-⟩,⟨x1,-⟩,⟨x2,-⟩,⟨x3,-⟩,⟨x4,-⟩,⟨x5,-⟩⟩:=HX3.out
  clear hA
  go_wp2_with fail
  clear x0 x1 x2 x3 x4 x5 q0 q1 q2 q3 q4 q5 q6 q7
  generalize wr.alloc (.cells #[.int .i64 A.id,.string A.name,.string A.set,.int .i64 A.prev,.int .i64 A.time,.int .i64 A.rs,.int .i64 A.rb,.slice ad A.dn cd] 99)=w3 at hbs HV HX3 HC3 hB3 hb3 ⊢
  go_loopw [4,20] (fun s4 s20 wq=>∃k:Nat,k≤W.pn∧s4 = .bool true∧s20 = .int .i64 k∧(∀j,j<k→¬((W.snaps j).set=name∧(W.snaps j).name=A.name))∧Below w3.heap.size w3 wq) (fun _ k _=>W.pn - (intOf k).toNat)
  case atStart=>exact⟨0,Nat.zero_le _,rfl,rfl,fun j hj=>absurd hj (Nat.not_lt_zero _),Below.refl _ _⟩
  case round=>
   obtain⟨k,hk',rfl,rfl,hnk,hbq⟩:=hrel
   have HNk:=hideW hnk
   clear hnk
   by_cases hkt:k<W.pn
   rotate_left
   ·obtain rfl:k=W.pn:=by omega
    go_wp2
    go_roundw
    case rel=>
     refine⟨i+1,by omega,rfl,by go_num,fun j hj k hk=>?_,below_next hb3 hbq⟩
     by_cases e:j=i
     ·rw [e,←HAe.out]
      exact HNk.out k hk
     ·exact HNo.out j (by omega) k hk
    case measure=>simp [intOf]; omega
   have hkt':(k:Int)<(W.pn:Int):=by omega
   obtain⟨b4,off4,vd4,rfl,hsc⟩:=(Hp.out.snaps.below (below_next hB3 hbq)).cells hkt
   obtain⟨-,ad4,cd4,rfl,-,-⟩:=id hsc.dead
   obtain⟨S4,hS4⟩:∃S4,S4=W.snaps k:=⟨_,rfl⟩
   rw [←hS4] at hsc
   have HSe:=hideW hS4
   have q0:=hsc.c0
   have q1:=hsc.c1
   have q2:=hsc.c2
   have q3:=hsc.c3
   have q4:=hsc.c4
   have q5:=hsc.c5
   have q6:=hsc.c6
   have q7:=hsc.c7
   clear hsc hS4
   have hb4:=below_alloc wr (.cells #[.int .i64 S4.id,.string S4.name,.string S4.set,.int .i64 S4.prev,.int .i64 S4.time,.int .i64 S4.rs,.int .i64 S4.rb,.slice ad4 S4.dn cd4] 99)
   have HV4:=hideW (Box8.new wr (.int .i64 S4.id) (.string S4.name) (.string S4.set) (.int .i64 S4.prev) (.int .i64 S4.time) (.int .i64 S4.rs) (.int .i64 S4.rb) (.slice ad4 S4.dn cd4) 99)
   have hbq4:=below_next hbq hb4
   obtain⟨⟨-,⟨m1,-⟩,-,-⟩,-⟩:=HV.out.below hbq4
   obtain⟨⟨-,⟨n1,-⟩,⟨n2,-⟩,-⟩,-⟩:=HV4.out
   have hc4:=(hbq4.cell (lt_of_cell HC3.out)).trans HC3.out
   by_cases hq1:S4.set=name
   ·have e1:=str_eq hq1
    have HQ1:=hideW hq1
    clear hq1
    by_cases hq2:S4.name=A.name
    ·have e2:=str_eq hq2
     have HQ2:=hideW hq2
     clear hq2
     go_wp2
     rw [Exit.noGoto_ret]
     go_ret
     exact⟨BoolIs.no (fun h=>h i hlt k hkt (by rw [←HSe.out,←HAe.out]; exact⟨HQ1.out,HQ2.out⟩)),below_next hB3 hbq4⟩
    ·have e2:=str_ne hq2
     have HQ2:=hideW hq2
     clear hq2
     go_wp2
     go_roundw
     case rel=>
      refine⟨k+1,by omega,rfl,by go_num,fun j hj=>?_,hbq4⟩
      by_cases e:j=k
      ·rw [e,←HSe.out]
       exact fun h=>HQ2.out h.2
      ·exact HNk.out j (by omega)
     case measure=>simp [intOf]; omega
   ·have e1:=str_ne hq1
    have HQ1:=hideW hq1
    clear hq1
    go_wp2
    go_roundw
    case rel=>
     refine⟨k+1,by omega,rfl,by go_num,fun j hj=>?_,hbq4⟩
     by_cases e:j=k
     ·rw [e,←HSe.out]
      exact fun h=>HQ1.out h.1
     ·exact HNk.out j (by omega)
    case measure=>simp [intOf]; omega
set_option maxRecDepth 20000 in
set_option maxHeartbeats 2000000 in
theorem namesNotThere_any(p:Nat→Addr)(s0:ByteArray)(w:World)(hE:Errs w p) :
  Calls Tryz.prog 61 #[.string s0] w fun e w'=>∃B0:Nat,e = .returned (.agg #[.func (.func 130) #[] #[.pointer (some ⟨B0,0,none⟩)],errV (p 3)])∧w'.cell? ⟨B0,0,none⟩=some (.string s0)∧Below w.heap.size w w':=by
 have hk0:=below_alloc w (.cells #[.string s0] 9)
 have hk1:=below_alloc (w.alloc (.cells #[.string s0] 9)) (.cells #[.nilFunc,.nilIface] 75)
 have hb:=below_next (hk0) hk1
 have c0:(w.alloc (.cells #[.string s0] 9)).cell? ⟨w.heap.size,0,none⟩=some (.string s0):=World.cell?_alloc_at _ _ _ _ rfl
 have hg:((w.alloc (.cells #[.string s0] 9)).alloc (.cells #[.nilFunc,.nilIface] 75)).cell? ⟨2,0,none⟩=some (errV (p 3)):=(hE.below hb).cell 3 (by omega)
 have hkf:=below_alloc (w.alloc (.cells #[.string s0] 9)) (.cells #[.func (.func 130) #[] #[.pointer (some ⟨w.heap.size,0,none⟩)],errV (p 3)] 75)
 have hbf:=below_next (hk0) hkf
 have Hc0:=hideW ((hkf.cell (lt_of_cell c0)).trans c0)
 clear c0
 go_enter Tryz.func61,Tryz.ntmps61
 have hst:=fun (ww:World) (a:Addr)=>run_store Tryz.prog ww a (.func (.func 130) #[] #[.pointer (some ⟨w.heap.size,0,none⟩)]) .plain rfl
 go_wp2_with fail
 have HRf:=Box2.new (w.alloc (.cells #[.string s0] 9)) (.func (.func 130) #[] #[.pointer (some ⟨w.heap.size,0,none⟩)]) (errV (p 3)) 75
 rw [World.size_alloc] at HRf
 refine bodyPost_ret (v:=.agg #[.func (.func 130) #[] #[.pointer (some ⟨w.heap.size,0,none⟩)],errV (p 3)]) (by simp [results,Tryz.results61,go_sem,HRf.1.1,HRf.2.1]) rfl ⟨_,rfl,Hc0.out,hbf⟩
end Go.Proofs.YtmgeglgboadfiaaGreatDoor
