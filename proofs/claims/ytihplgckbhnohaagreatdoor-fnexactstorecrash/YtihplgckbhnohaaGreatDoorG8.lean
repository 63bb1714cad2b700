/- (impl.World).copied. -/
import Derived.Test.YtihplgckbhnohaaGreatDoorG7
import Derived.Test.YtihplgckbhnohaaGreatDoorG3
import Derived.Test.YtihplgckbhnohaaGreatDoorG4
import Derived.Laws.CopyOwn
import Derived.Deep.RegionLaw
import Derived.Deep.WholeRow
namespace Go.Proofs.YtihplgckbhnohaaGreatDoor
open Go.RowKit
set_option linter.unusedVariables false
set_option maxRecDepth 20000 in
set_option maxHeartbeats 1000000 in
theorem copied_any(v0 v1 v2 v3:Value)(lo hi:Nat)(W:WorldD)(w:World)(h:WorldAt w lo hi v0 v1 v2 v3 W)(hpn:poolN W.pool≤1048576)(hSn:W.sn≤1048576)(hZn:W.pn≤1048576)(hDn:DeadsN W):Calls Tryz.prog 81 #[worldV v0 v1 v2 v3 W] w (NewWorld W w):=by
 obtain⟨a0,ac0,a1,ac1,a2,ac2,a3,ac3,rfl,rfl,rfl,rfl⟩:=h.form
 have Hp:=hide h
 clear h
 have ha:=below_alloc w (.cells #[.slice a0 W.pool.n ac0,.slice a1 W.pool.hn ac1,.int .i64 W.time,.int .i64 W.next,.slice a2 W.sn ac2,.slice a3 W.pn ac3] 39)
 have hb:=below_next ha (below_alloc _ (.cells #[.slice none 0 0,.slice none 0 0,.int .i64 0,.int .i64 0,.slice none 0 0,.slice none 0 0] 39))
 obtain⟨⟨x0,-⟩,⟨x1,-⟩,⟨x2,-⟩,⟨x3,-⟩,⟨x4,-⟩,⟨x5,-⟩⟩:=Box6.new w (.slice a0 W.pool.n ac0) (.slice a1 W.pool.hn ac1) (.int .i64 W.time) (.int .i64 W.next) (.slice a2 W.sn ac2) (.slice a3 W.pn ac3) 39
 have HR:=Box6.new (w.alloc (.cells #[.slice a0 W.pool.n ac0,.slice a1 W.pool.hn ac1,.int .i64 W.time,.int .i64 W.next,.slice a2 W.sn ac2,.slice a3 W.pn ac3] 39)) (.slice none 0 0) (.slice none 0 0) (.int .i64 0) (.int .i64 0) (.slice none 0 0) (.slice none 0 0) 39
 rw [World.size_alloc] at HR
 have hz:((w.alloc (.cells #[.slice a0 W.pool.n ac0,.slice a1 W.pool.hn ac1,.int .i64 W.time,.int .i64 W.next,.slice a2 W.sn ac2,.slice a3 W.pn ac3] 39)).alloc (.cells #[.slice none 0 0,.slice none 0 0,.int .i64 0,.int .i64 0,.slice none 0 0,.slice none 0 0] 39)).heap.size=w.heap.size+2:=by rw [World.size_alloc,World.size_alloc]
 go_enter Tryz.func81,Tryz.ntmps81
 go_wp2_with fail
 clear x0 x1 x2 x3 x4 x5
 generalize (w.alloc (.cells #[.slice a0 W.pool.n ac0,.slice a1 W.pool.hn ac1,.int .i64 W.time,.int .i64 W.next,.slice a2 W.sn ac2,.slice a3 W.pn ac3] 39)).alloc (.cells #[.slice none 0 0,.slice none 0 0,.int .i64 0,.int .i64 0,.slice none 0 0,.slice none 0 0] 39)=W2 at hb HR hz ⊢
 clear ha
 refine(cloneWorld_any _ _ _ _ lo hi W W2 (Hp.out.below hb) hpn hSn hZn hDn).mono ?_
 rintro e w3 ⟨z0,z1,z2,z3,rfl,ho,hb3⟩
 obtain⟨b0,d0,b1,d1,b2,d2,b3,d3,rfl,rfl,rfl,rfl⟩:=ho.form
 have HR3:=HR.below hb3
 have Ho:=hide ho
 clear ho HR
 have HRz:=HR3.put (.slice b0 W.pool.n d0) (.slice b1 W.pool.hn d1) (.int .i64 W.time) (.int .i64 W.next) (.slice b2 W.sn d2) (.slice b3 W.pn d3)
 have hT:=Turned.put6 w3 (w.heap.size+1) (.slice b0 W.pool.n d0) (.slice b1 W.pool.hn d1) (.int .i64 W.time) (.int .i64 W.next) (.slice b2 W.sn d2) (.slice b3 W.pn d3)
 obtain⟨⟨y0,f0⟩,⟨y1,f1⟩,⟨y2,f2⟩,⟨y3,f3⟩,⟨y4,f4⟩,⟨y5,f5⟩⟩:=HR3
 go_wp2_with fail
 have hbz:=below_next hb hb3
 refine bodyPost_ret (v:=.agg #[.slice b0 W.pool.n d0,.slice b1 W.pool.hn d1,.int .i64 W.time,.int .i64 W.next,.slice b2 W.sn d2,.slice b3 W.pn d3]) (by simp [results,Tryz.results81,go_sem,HRz.1.1,HRz.2.1.1,HRz.2.2.1.1,HRz.2.2.2.1.1,HRz.2.2.2.2.1.1,HRz.2.2.2.2.2.1]) rfl ⟨_,_,_,_,rfl,?_,?_⟩
 ·have:=hT.size
  exact(Ho.out.turned hT (fun k e=>by omega)).wide (by omega) (by omega)
 ·exact hbz.trans (hT.below (B:=w.heap.size) hbz.size (fun k e=>by omega))
end Go.Proofs.YtihplgckbhnohaaGreatDoor

namespace Go.Proofs.YtihplgckbhnohaaGreatDoor
open Go.RowKit
set_option linter.unusedVariables false
theorem run_copy_sized{P:Program}(w:World)(dT sT ty elem:TypeId)(size g o dLen dCap:Nat)(a:Addr)(sLen sCap:Nat)(cur:Array Value)(t:TypeId)(cs:List Value)
  (hu:P.underlying dT=some (.slice elem)) (hs:(P.info? elem).map (·.size)=some size)
  (hg:w.heap[g]?=some (.cells cur t (0,0))) (hn:cs.length=Nat.min sLen dLen*size)
  (hsrc:∀j v,cs[j]?=some v→w.cell? (a.add j)=some v) (hfit:o+cs.length≤cur.size) (h1:∀v∈cs,v.oneCell'=true) :
  (Builtin.copy_ #[dT,sT] ty #[.slice (some ⟨g,o,none⟩) dLen dCap,.slice (some a) sLen sCap]).run P w =
   .ok (goInt (Nat.min sLen dLen)) (w.setRow g (cur.toList.take o ++ cs ++ cur.toList.drop (o+cs.length)).toArray):=by
 have hl:=run_loadCells_list (P:=P) w a cs hsrc
 have hst:=run_storeCells_at P g o t cs 0 cur w hg (by simpa using hfit) h1
 cases hq:P.info? elem with
 | none=>simp [hq] at hs
 | some i=>
  have hi:i.size=size:=by simpa [hq] using hs
  have e:Nat.min sLen dLen*i.size=cs.length:=by rw [hi,hn]
  simp [Builtin.copy_,run_underlying hu,Builtin.lenOf,Builtin.firstCells,sizeOf,typeInfo,hq,e,hl,hst]
theorem run_copy_zero{P:Program}(w:World)(dT sT ty elem:TypeId)(size:Nat)(d a:Option Addr)(dLen dCap sCap:Nat)
  (hu:P.underlying dT=some (.slice elem)) (hs:(P.info? elem).map (·.size)=some size) :
  (Builtin.copy_ #[dT,sT] ty #[.slice d dLen dCap,.slice a 0 sCap]).run P w = .ok (goInt 0) w:=by
 cases hq:P.info? elem with
 | none=>simp [hq] at hs
 | some i=>
  cases a with
  | none=>cases d <;> simp [Builtin.copy_,run_underlying hu,Builtin.lenOf,Builtin.firstCells,sizeOf,typeInfo,hq,storeCells]
  | some a=>cases d <;> simp [Builtin.copy_,run_underlying hu,Builtin.lenOf,Builtin.firstCells,sizeOf,typeInfo,hq,storeCells,loadCells,loadCellsFrom]
def kidCell(s:SlotD)(j:Nat):Int:=if j / 2<s.kn then(if j % 2=0 then s.ks (j / 2)else s.kb (j / 2))else 0
def arr16(f:Nat→Int):Array Value:=((List.range 16).map fun j=>Value.int .i64 (f j)).toArray
def kidsA(s:SlotD):Array Value:=arr16 (kidCell s)
theorem arr16_size(f:Nat→Int):(arr16 f).size=16:=by simp [arr16]
theorem arr16_at(f:Nat→Int){j:Nat}(h:j<16):(arr16 f)[j]?=some (.int .i64 (f j)):=by simp [arr16,h]
theorem arr16_one(f:Nat→Int):(arr16 f).all (·.oneCell')=true:=by
 unfold arr16
 rw [Array.all_eq_true_iff_forall_mem]
 intro v hv
 simp at hv
 obtain⟨j,_,rfl⟩:=hv
 rfl
theorem arr16_ext{f g:Nat→Int}(h:∀j,j<16→f j=g j):arr16 f=arr16 g:=by
 unfold arr16
 congr 1
 apply List.map_congr_left
 intro j hj
 rw [h j (by simpa using hj)]
theorem infoArr:(Tryz.prog.info? 218).map (·.size)=some 16:=by kernel_rfl
theorem infoPtrSize:(Tryz.prog.info? 88).map (·.size)=some 2:=by kernel_rfl
theorem arrU:Tryz.prog.underlying 218=some (.array 8 88):=by kernel_rfl
theorem three_alloc(w:World)(o1 o2 o3:Obj):(((w.alloc o1).alloc o2).alloc o3).heap[w.heap.size+1]?=some o2∧(((w.alloc o1).alloc o2).alloc o3).heap[w.heap.size+1+1]?=some o3∧w.heap.size+1+1<(((w.alloc o1).alloc o2).alloc o3).heap.size:=by
 refine⟨?_,?_,by simp⟩
 ·rw [Below.heap_alloc _ _ _ (by simp)]
  have:=heap_alloc_last (w.alloc o1) o2
  rw [World.size_alloc] at this
  exact this
 ·have:=heap_alloc_last ((w.alloc o1).alloc o2) o3
  rw [World.size_alloc,World.size_alloc] at this
  exact this
theorem Turned.setRow(w:World)(g:Nat)(cs:Array Value):Turned (fun k=>k=g) w (w.setRow g cs):=
 ⟨rfl,rfl,rfl,by simp [World.setRow],fun k _ hs=>setRow_other w g k cs hs⟩
theorem step_copy_kids{ops:Array Oper}{o:Oper}{a:Act}{w:World}{K:Act→World→Prop}{Q:Exit→Act→World→Prop}{E:Prop}(hgd:o.guard=none)(d s:Operand)
  (ho:o.op = .call {callee:=.builtin .copy,args:=#[d,s],argTypes:=#[64,64]})
  (g:Nat) (ka:Option Addr) (kc:Nat) (sl:SlotD) (hd:a.eval d = .slice (some ⟨g,0,none⟩) 8 8) (hs:a.eval s = .slice ka sl.kn kc)
  (hg:w.heap[g]?=some (.cells (arr16 fun _=>0) 218 (0,0))) (hk:sl.kn=0∨(sl.kn=8∧∃b off,ka=some ⟨b,off,none⟩∧∀i,i<sl.kn→w.cell? ⟨b,off+i*2,none⟩=some (.int .i64 (sl.ks i))∧w.cell? ⟨b,off+i*2+1,none⟩=some (.int .i64 (sl.kb i))))
  (h:∀w' v,Hid (w'.heap[g]?=some (.cells (kidsA sl) 218 (0,0)))→Turned (fun k=>k=g) w w'→K (a.put o.dst v) w') :
  if Region.wanted o (yielded ops a.tmps)=true then Oper.wp Tryz.prog o a w K Q else E:=by
 have hw:Region.wanted o (yielded ops a.tmps)=true:=by simp [Region.wanted,hgd]
 rw [if_pos hw]
 have hu:Tryz.prog.underlying 64=some (.slice 88):=by kernel_rfl
 rcases hk with hk | ⟨hk,b,off,rfl,hc⟩
 ·rw [hk] at hs
  have hrun:=run_copy_zero (P:=Tryz.prog) w 64 64 o.type 88 2 (some ⟨g,0,none⟩) ka 8 8 kc hu infoPtrSize
  unfold Oper.wp
  simp [execOp,ho,resolve,invoke,builtin,hd,hs,hrun,Result.andThen]
  refine h _ _ ?_ (Turned.refl _ _)
  show _=_
  rw [hg]
  have:kidsA sl=arr16 (fun _=>0):=arr16_ext fun j _=>by unfold kidCell; rw [if_neg (by omega)]
  rw [this]
 ·rw [hk] at hs
  have hrun:=run_copy_sized (P:=Tryz.prog) w 64 64 o.type 88 2 g 0 8 8 ⟨b,off,none⟩ 8 kc (arr16 fun _=>0) 218 (kidsA sl).toList hu infoPtrSize hg (by simp [kidsA,arr16]) (fun j v hj=>by
    have hj16:j<16:=by
     have:=(List.getElem?_eq_some_iff.1 hj).1
     simpa [kidsA,arr16_size] using this
    have e:(kidsA sl).toList[j]?=some (.int .i64 (kidCell sl j)):=by rw [Array.getElem?_toList]; exact arr16_at (kidCell sl) hj16
    rw [e] at hj
    simp only [Option.some.injEq] at hj
    subst hj
    have hadd:(⟨b,off,none⟩:Addr).add j=⟨b,off+j,none⟩:=by unfold Addr.add; split <;> simp_all
    rw [hadd]
    unfold kidCell
    rw [if_pos (by omega)]
    have hcj:=hc (j / 2) (by omega)
    split
    ·rw [show off+j=off+j / 2*2 by omega]; exact hcj.1
    ·rw [show off+j=off+j / 2*2+1 by omega]; exact hcj.2) (by simp [kidsA,arr16]) (fun v hv=>(Array.all_eq_true_iff_forall_mem.1 (arr16_one _)) v (by simpa [kidsA] using hv))
  unfold Oper.wp
  simp [execOp,ho,resolve,invoke,builtin,hd,hs,hrun,Result.andThen]
  refine h _ _ ?_ (Turned.setRow _ _ _)
  show _=_
  rw [setRow_heap w g _ _ 218 (0,0) hg]
  have e0:((arr16 fun _=>0).toList.drop 16) = []:=List.drop_eq_nil_of_le (by simp [arr16])
  simp [kidsA,arr16_size,e0]
set_option maxRecDepth 20000 in
set_option maxHeartbeats 400000 in
theorem kidsOf_any(v0 v1 v2:Value)(lo hi:Nat)(s:SlotD)(w:World)(h1:SlotAt w lo hi v0 v1 v2 s)(hk:s.kn=0∨s.kn=8) :
  Calls Tryz.prog 172 #[.agg #[v0,v1,v2]] w fun e w'=>e = .returned (.agg (kidsA s))∧Below w.heap.size w w':=by
 obtain⟨rfl,⟨m1,a,c,rfl,mc,g1⟩,rfl,m2⟩:=h1
 unfold maxLen at m1 m2
 have G1:Hid (0<s.kn→∃b off,a=some ⟨b,off,none⟩∧lo≤b∧b<hi∧∀i,i<s.kn→w.cell? ⟨b,off+i*2,none⟩=some (.int .i64 (s.ks i))∧w.cell? ⟨b,off+i*2+1,none⟩=some (.int .i64 (s.kb i))):=g1
 have Hk:Hid (s.kn=0∨s.kn=8):=hk
 clear g1 hk
 go_enter Tryz.func172,Tryz.ntmps172
 go_wp2_with fail
 obtain⟨W,hW⟩:∃W:World,W=((w.alloc (.cells #[.int .i64 s.birth,.slice a s.kn c,.string s.data] 66)).alloc (.cells #[Value.int .i64 0,Value.int .i64 0,Value.int .i64 0,Value.int .i64 0,Value.int .i64 0,Value.int .i64 0,Value.int .i64 0,Value.int .i64 0,Value.int .i64 0,Value.int .i64 0,Value.int .i64 0,Value.int .i64 0,Value.int .i64 0,Value.int .i64 0,Value.int .i64 0,Value.int .i64 0] 218)).alloc (.cells #[Value.int .i64 0,Value.int .i64 0,Value.int .i64 0,Value.int .i64 0,Value.int .i64 0,Value.int .i64 0,Value.int .i64 0,Value.int .i64 0,Value.int .i64 0,Value.int .i64 0,Value.int .i64 0,Value.int .i64 0,Value.int .i64 0,Value.int .i64 0,Value.int .i64 0,Value.int .i64 0] 218):=⟨_,rfl⟩
 have z16:(#[Value.int .i64 0,Value.int .i64 0,Value.int .i64 0,Value.int .i64 0,Value.int .i64 0,Value.int .i64 0,Value.int .i64 0,Value.int .i64 0,Value.int .i64 0,Value.int .i64 0,Value.int .i64 0,Value.int .i64 0,Value.int .i64 0,Value.int .i64 0,Value.int .i64 0,Value.int .i64 0]:Array Value)=arr16 (fun _=>0):=rfl
 have hb:Below w.heap.size w W:=by rw [hW]; exact below_next (below_next (below_alloc _ _) (below_alloc _ _)) (below_alloc _ _)
 have Hx:Hid (Box3 W w.heap.size (.int .i64 s.birth) (.slice a s.kn c) (.string s.data)):=by rw [hW]; exact((Box3.new w _ _ _ _).below (below_alloc _ _)).below (below_alloc _ _)
 have HRG:=three_alloc w (.cells #[.int .i64 s.birth,.slice a s.kn c,.string s.data] 66) (.cells #[Value.int .i64 0,Value.int .i64 0,Value.int .i64 0,Value.int .i64 0,Value.int .i64 0,Value.int .i64 0,Value.int .i64 0,Value.int .i64 0,Value.int .i64 0,Value.int .i64 0,Value.int .i64 0,Value.int .i64 0,Value.int .i64 0,Value.int .i64 0,Value.int .i64 0,Value.int .i64 0] 218) (.cells #[Value.int .i64 0,Value.int .i64 0,Value.int .i64 0,Value.int .i64 0,Value.int .i64 0,Value.int .i64 0,Value.int .i64 0,Value.int .i64 0,Value.int .i64 0,Value.int .i64 0,Value.int .i64 0,Value.int .i64 0,Value.int .i64 0,Value.int .i64 0,Value.int .i64 0,Value.int .i64 0] 218)
 rw [←hW] at HRG
 have HR:Hid (W.heap[w.heap.size+1]?=some (.cells (arr16 fun _=>0) 218 (0,0))):=HRG.1
 have HG:Hid (W.heap[w.heap.size+1+1]?=some (.cells (arr16 fun _=>0) 218 (0,0))):=HRG.2.1
 have hsz:w.heap.size+1+1<W.heap.size:=HRG.2.2
 clear HRG
 have HC:Hid (s.kn=0∨(s.kn=8∧∃b off,a=some ⟨b,off,none⟩∧∀i,i<s.kn→W.cell? ⟨b,off+i*2,none⟩=some (.int .i64 (s.ks i))∧W.cell? ⟨b,off+i*2+1,none⟩=some (.int .i64 (s.kb i)))):=by
  rcases Hk.out with h | h
  ·exact Or.inl h
  ·obtain⟨b,off,ha,_,_,k1⟩:=G1.out (by omega)
   exact Or.inr ⟨h,b,off,ha,fun i hi=>⟨(hb.cell (lt_of_cell (k1 i hi).1)).trans (k1 i hi).1,(hb.cell (lt_of_cell (k1 i hi).2)).trans (k1 i hi).2⟩⟩
 rw [←hW]
 clear hW z16
 obtain⟨⟨x0,x1⟩,⟨x2,x3⟩,⟨x4,x5⟩⟩:=Hx.out
 go_region_law (refine step_copy_kids rfl (.tmp 4) (.tmp 6) rfl (w.heap.size+1+1) a c s (by simp [Act.eval]) (by simp [Act.eval]) HG.out HC.out ?_; intro w1 cv HG1 ht1)
 have hR1:w1.heap[w.heap.size+1]?=some (.cells (arr16 fun _=>0) 218 (0,0)):=(ht1.block _ (by show _<W.heap.size; omega) (by omega)).trans HR.out
 have HR1:Hid (w1.heap[w.heap.size+1]?=some (.cells (arr16 fun _=>0) 218 (0,0))):=hR1
 have hb1:Below w.heap.size w w1:=hb.drew.trans (ht1.below (by show _≤W.heap.size; omega) (by intro k hk; omega))
 clear hR1 ht1 x0 x1 x2 x3 x4 x5
 have hi16:(Tryz.prog.info? 218).map (·.size)=some (kidsA s).size:=by rw [kidsA,arr16_size]; exact infoArr
 have Hi16:Hid ((Tryz.prog.info? 218).map (·.size)=some (kidsA s).size):=hi16
 clear hi16
 go_wp2_with (first
  | (refine wpList_load_row rfl 218 (.tmp 3) rfl (w.heap.size+1+1) rfl 218 (kidsA s) (0,0) _ HG1.out arrU rfl Hi16.out ?_)
  | (refine wpList_store_row rfl 218 (.tmp 2) (.tmp 8) rfl (w.heap.size+1) (kidsA s) rfl rfl 218 (arr16 fun _=>0) HR1.out Hi16.out (by rw [kidsA,arr16_size,arr16_size]) (arr16_one _) ?_))
 refine bodyPost_ret (v:=.agg (kidsA s)) (results_cell_row (P:=Tryz.prog) (ty:=218) Tryz.results172 _ _ (w.heap.size+1) 218 (kidsA s) (0,0) _ rfl (setRow_heap _ _ _ _ _ _ HR1.out) arrU rfl Hi16.out) rfl ⟨rfl,?_⟩
 exact below_setRow hb1 (by omega) _
def KidFound(n:Nat)(f:Nat→SlotD)(b ks kb rs rb:Int):Prop:=
 ∃ps pb,PtrOf n f ks ps pb∧(((PtrEq ks kb 0 0∨b<pb)∧rs=0∧rb=0)∨(¬(PtrEq ks kb 0 0∨b<pb)∧rs=ps∧rb=pb))
set_option maxRecDepth 20000 in
set_option maxHeartbeats 400000 in
theorem kidFound_any(v:Value)(n lo hi:Nat)(f:Nat→SlotD)(ks kb b:Int)(w:World)(h1:SlotsAt w lo hi v n f) :
  Calls Tryz.prog 173 #[v,.agg #[.int .i64 ks,.int .i64 kb],.int .i64 b] w fun e w'=>(∃rs rb,e = .returned (.agg #[.int .i64 rs,.int .i64 rb])∧KidFound n f b ks kb rs rb)∧Below w.heap.size w w':=by
 have Hi:Hid (SlotsAt w lo hi v n f):=h1
 obtain⟨m1,a,c,rfl,mc,g1⟩:=h1
 clear g1
 have Hbw:Hid (Below w.heap.size w ((w.alloc (.cells #[.int .i64 ks,.int .i64 kb] 88)).alloc (.cells #[.int .i64 0,.int .i64 0] 88))):=below_next (below_alloc _ _) (below_alloc _ _)
 go_enter Tryz.func173,Tryz.ntmps173
 go_wp2_with fail
 refine(ptrOf_any _ n lo hi f _ _ (Hi.out.below Hbw.out)).mono ?_
 rintro e w1 ⟨⟨ps,pb,rfl,hp⟩,hb1⟩
 have Hp:Hid (PtrOf n f ks ps pb):=hp
 have HX:Hid (Box2 w1 w.heap.size (.int .i64 ks) (.int .i64 kb)):=((Box2.new w _ _ _).below (below_alloc _ _)).below hb1
 have HR:Hid (Box2 w1 (w.heap.size+1) (.int .i64 0) (.int .i64 0)):=by
  have:=(Box2.new (w.alloc (.cells #[.int .i64 ks,.int .i64 kb] 88)) (.int .i64 0) (.int .i64 0) 88).below hb1
  rw [World.size_alloc] at this
  exact this
 have hbn:=below_next Hbw.out hb1
 have hz:w.heap.size<w1.heap.size:=HX.out.1.lt
 have hz1:w.heap.size+1<w1.heap.size:=HR.out.1.lt
 clear hp hb1
 obtain⟨⟨x0,x1⟩,⟨x2,x3⟩⟩:=HX.out
 obtain⟨⟨y0,y1⟩,⟨y2,y3⟩⟩:=HR.out
 have HY:=fun u0 u1=>(HR.out.put u0 u1).below (below_alloc _ (.cells #[.int .i64 ps,.int .i64 pb] 88))
 have HYh:Hid (∀u0 u1,Box2 (((w1.setCell ⟨w.heap.size+1,0,none⟩ u0).setCell ⟨w.heap.size+1,1,none⟩ u1).alloc (.cells #[.int .i64 ps,.int .i64 pb] 88)) (w.heap.size+1) u0 u1):=HY
 clear HY
 have HBh:Hid (∀u0 u1,Below w.heap.size w (((w1.setCell ⟨w.heap.size+1,0,none⟩ u0).setCell ⟨w.heap.size+1,1,none⟩ u1).alloc (.cells #[.int .i64 ps,.int .i64 pb] 88))):=fun u0 u1=>((hbn.setCell (by show _≤w.heap.size+1; omega) _).setCell (by show _≤w.heap.size+1; omega) _).alloc (by simp; omega) _
 by_cases hnone:PtrEq ks kb 0 0
 ·obtain⟨rfl,rfl⟩:=hnone
  have HK:Hid (KidFound n f b 0 0 0 0):=⟨ps,pb,Hp.out,Or.inl ⟨Or.inl ⟨rfl,rfl⟩,rfl,rfl⟩⟩
  go_wp2
  have hy:=HYh.out (.int .i64 0) (.int .i64 0)
  refine bodyPost_ret (v:=.agg #[.int .i64 0,.int .i64 0]) (by simp [results,Tryz.results173,go_sem,hy.1.1,hy.2.1]) rfl ⟨⟨_,_,rfl,HK.out⟩,HBh.out _ _⟩
 ·have HN:Hid (¬PtrEq ks kb 0 0):=hnone
  have e0:(ks == 0)=false∨(ks == 0)=true∧(kb == 0)=false:=by
   by_cases h:ks=0
   ·right
    refine⟨by simp [h],?_⟩
    have:kb≠0:=fun h'=>hnone ⟨h,h'⟩
    simp [this]
   ·left; simp [h]
  clear hnone
  by_cases hlt:b<pb
  ·have HK:Hid (KidFound n f b ks kb 0 0):=⟨ps,pb,Hp.out,Or.inl ⟨Or.inr hlt,rfl,rfl⟩⟩
   have hy:=HYh.out (.int .i64 0) (.int .i64 0)
   have Hy:Hid (Box2 (((w1.setCell ⟨w.heap.size+1,0,none⟩ (.int .i64 0)).setCell ⟨w.heap.size+1,1,none⟩ (.int .i64 0)).alloc (.cells #[.int .i64 ps,.int .i64 pb] 88)) (w.heap.size+1) (.int .i64 0) (.int .i64 0)):=hy
   clear hy
   rcases e0 with e0 | ⟨e0,e1⟩
   all_goals
    go_wp2
    have hy:=Hy.out
    refine bodyPost_ret (v:=.agg #[.int .i64 0,.int .i64 0]) (by simp [results,Tryz.results173,go_sem,hy.1.1,hy.2.1]) rfl ⟨⟨_,_,rfl,HK.out⟩,HBh.out _ _⟩
  ·have HK:Hid (KidFound n f b ks kb ps pb):=⟨ps,pb,Hp.out,Or.inr ⟨fun h=>by rcases h with h | h; exact HN.out h; exact hlt h,rfl,rfl⟩⟩
   rcases e0 with e0 | ⟨e0,e1⟩
   all_goals
    go_wp2
    have hy:=HYh.out (.int .i64 ps) (.int .i64 pb)
    refine bodyPost_ret (v:=.agg #[.int .i64 ps,.int .i64 pb]) (by simp [results,Tryz.results173,go_sem,hy.1.1,hy.2.1]) rfl ⟨⟨_,_,rfl,HK.out⟩,HBh.out _ _⟩
end Go.Proofs.YtihplgckbhnohaaGreatDoor

namespace Go.Proofs.YtihplgckbhnohaaGreatDoor
open Go.RowKit
set_option linter.unusedVariables false
def KidsThere(n:Nat)(f:Nat→SlotD)(s:SlotD):Prop:=∀i,i<8→KidFound n f s.birth (s.ks i) (s.kb i) (s.ks i) (s.kb i)
theorem PtrOf.uniq{n:Nat}{f:Nat→SlotD}{x ps pb ps' pb':Int}(h:PtrOf n f x ps pb)(h':PtrOf n f x ps' pb'):ps=ps'∧pb=pb':=by
 rcases h with⟨a,b,c,rfl,rfl⟩ | ⟨a,rfl,rfl⟩ <;> rcases h' with⟨a',b',c',rfl,rfl⟩ | ⟨a',rfl,rfl⟩
 ·exact⟨rfl,rfl⟩
 ·exact absurd ⟨a,b,c⟩ a'
 ·exact absurd ⟨a',b',c'⟩ a
 ·exact⟨rfl,rfl⟩
theorem KidFound.uniq{n:Nat}{f:Nat→SlotD}{b ks kb rs rb rs' rb':Int}(h:KidFound n f b ks kb rs rb)(h':KidFound n f b ks kb rs' rb'):rs=rs'∧rb=rb':=by
 obtain⟨ps,pb,hp,h⟩:=h
 obtain⟨ps',pb',hp',h'⟩:=h'
 obtain⟨rfl,rfl⟩:=hp.uniq hp'
 rcases h with⟨a,rfl,rfl⟩ | ⟨a,rfl,rfl⟩ <;> rcases h' with⟨a',rfl,rfl⟩ | ⟨a',rfl,rfl⟩
 ·exact⟨rfl,rfl⟩
 ·exact absurd a a'
 ·exact absurd a' a
 ·exact⟨rfl,rfl⟩
theorem arr16_set(g:Nat→Int)(k:Nat)(hk:k<8)(x y:Int):((arr16 g).setIfInBounds (k*2) (.int .i64 x)).setIfInBounds (k*2+1) (.int .i64 y)=arr16 (fun j=>if j=k*2 then x else if j=k*2+1 then y else g j):=by
 apply Array.ext_getElem?
 intro i
 rw [Array.getElem?_setIfInBounds,Array.getElem?_setIfInBounds]
 simp only [Array.size_setIfInBounds,arr16_size]
 by_cases h16:i<16
 ·rw [arr16_at _ h16,arr16_at _ h16]
  by_cases e1:k*2+1=i
  ·subst e1
   rw [if_pos rfl,if_pos (by omega),if_neg (by omega),if_pos rfl]
  ·rw [if_neg e1]
   by_cases e0:k*2=i
   ·subst e0
    rw [if_pos rfl,if_pos (by omega),if_pos rfl]
   ·rw [if_neg e0,if_neg (by omega),if_neg (by omega)]
 ·have n1:(arr16 g)[i]?=none:=Array.getElem?_eq_none (by rw [arr16_size]; omega)
  have n2:(arr16 (fun j=>if j=k*2 then x else if j=k*2+1 then y else g j))[i]?=none:=Array.getElem?_eq_none (by rw [arr16_size]; omega)
  rw [n1,n2,if_neg (by omega),if_neg (by omega)]
theorem index_arr(g:Nat→Int)(k:Nat)(hk:k<8)(w:World):(Instr.index 218 (.agg (arr16 g)) (.int .i64 (k:Int))).run Tryz.prog w = .ok (.agg #[.int .i64 (g (k*2)),.int .i64 (g (k*2+1))]) w:=by
 rcases(by omega:k=0∨k=1∨k=2∨k=3∨k=4∨k=5∨k=6∨k=7)with rfl | rfl | rfl | rfl | rfl | rfl | rfl | rfl
 all_goals kernel_rfl
theorem part_arr(g:Nat→Int)(k:Nat)(hk:k<8)(w:World):(part 88 (arr16 g) (k*2)).run Tryz.prog w = .ok (.agg #[.int .i64 (g (k*2)),.int .i64 (g (k*2+1))]) w:=by
 rcases(by omega:k=0∨k=1∨k=2∨k=3∨k=4∨k=5∨k=6∨k=7)with rfl | rfl | rfl | rfl | rfl | rfl | rfl | rfl
 all_goals kernel_rfl
theorem eqPtrIn(d:Nat)(a b c e:Int)(w:World):(Op.equalIn (d+2) 88 (.agg #[.int .i64 a,.int .i64 b]) (.agg #[.int .i64 c,.int .i64 e])).run Tryz.prog w = .ok (a == c && b == e) w:=by
 by_cases h1:a=c <;> by_cases h2:b=e
 all_goals simp [go_sem,h1,h2]
theorem sizePtr(w:World):(sizeOf 88).run Tryz.prog w = .ok 2 w:=by kernel_rfl
theorem forIn_all{P:Program}(b:Nat→Bool)(F:Nat→Option Bool×Unit→Sem (ForInStep (Option Bool×Unit))):∀(L:List Nat) (w:World),(∀i∈L,∀s w,(F i s).run P w = .ok (if b i then .yield (none,())else .done (some false,())) w)→
  (forIn L (none,()) F).run P w = .ok (if L.all b then(none,())else(some false,())) w
 | [],w,_=>by simp [Sem.run_pure]
 | i :: L,w,hF=>by
  simp only [List.forIn_cons,Sem.run_bind,hF i (by simp),Result.andThen_ok,List.all_cons]
  by_cases hb:b i=true
  ·simp only [hb,if_true,Bool.true_and]
   exact forIn_all b F L w (fun j hj=>hF j (by simp [hj]))
  ·simp [hb,Sem.run_pure]
def eq16(g h:Nat→Int):Bool:=(List.range 8).all fun i=>g (i*2) == h (i*2) && g (i*2+1) == h (i*2+1)
theorem eq16_iff(g h:Nat→Int):eq16 g h=true↔∀i,i<8→g (i*2)=h (i*2)∧g (i*2+1)=h (i*2+1):=by
 simp [eq16,List.all_eq_true]
theorem eqlIn_arr(g h:Nat→Int)(d:Nat)(w:World):(Op.equalIn (d+3) 218 (.agg (arr16 g)) (.agg (arr16 h))).run Tryz.prog w = .ok (eq16 g h) w:=by
 rw [Op.equalIn]
 simp only [Sem.run_bind,run_underlying arrU,Result.andThen_ok,sizePtr]
 rw [Std.Legacy.Range.forIn_eq_forIn_range']
 have e:=forIn_all (P:=Tryz.prog) (fun i=>g (i*2) == h (i*2) && g (i*2+1) == h (i*2+1)) (fun i (__s:Option Bool×Unit)=>do
      let __do_lift ←part 88 (arr16 g) (i*2)
      let __do_lift_1 ←part 88 (arr16 h) (i*2)
      let __do_lift ←Op.equalIn (d+2) 88 __do_lift __do_lift_1
      if (!__do_lift)=true then pure (ForInStep.done (some false,()))else pure (ForInStep.yield (none,()))) (List.range 8) w (fun i hi s w=>by
   have hi8:i<8:=by simpa using hi
   simp only [Sem.run_bind,part_arr _ i hi8,Result.andThen_ok,eqPtrIn]
   cases (g (i*2) == h (i*2) && g (i*2+1) == h (i*2+1)) <;> simp [Sem.run_pure])
 have e2:List.range' 0 (([:8]:Std.Legacy.Range).size) ([:8]:Std.Legacy.Range).step=List.range 8:=by rfl
 rw [e2,e]
 simp only [Result.andThen_ok]
 unfold eq16
 cases ((List.range 8).all fun i=>g (i*2) == h (i*2) && g (i*2+1) == h (i*2+1)) <;> simp [Sem.run_pure]
theorem eql_arr(g h:Nat→Int)(w:World):(binOp .eql 218 (.agg (arr16 g)) (.agg (arr16 h))).run Tryz.prog w = .ok (.bool (eq16 g h)) w:=by
 rw [run_eql_struct,eqlIn_arr g h 9997]
 rfl
theorem neq_arr(g h:Nat→Int)(w:World):(binOp .neq 218 (.agg (arr16 g)) (.agg (arr16 h))).run Tryz.prog w = .ok (.bool (!eq16 g h)) w:=by
 rw [run_neq_struct,eqlIn_arr g h 9997]
 rfl
set_option maxRecDepth 20000 in
set_option maxHeartbeats 1000000 in
theorem kidsThere_any(v v0 v1 v2:Value)(n lo hi lo' hi':Nat)(f:Nat→SlotD)(s:SlotD)(w:World)(h1:SlotsAt w lo hi v n f)(h2:SlotAt w lo' hi' v0 v1 v2 s)(hk:s.kn=8) :
  Calls Tryz.prog 152 #[v,.agg #[v0,v1,v2]] w fun e w'=>BoolIs (KidsThere n f s) e∧Below w.heap.size w w':=by
 have Hv:Hid (SlotsAt w lo hi v n f):=h1
 obtain⟨m1,a,c,rfl,mc,g1⟩:=h1
 have Hs:Hid (SlotAt w lo' hi' v0 v1 v2 s):=h2
 obtain⟨rfl,⟨m2,ka,kc,rfl,mc2,g2⟩,rfl,m3⟩:=h2
 have Hk:Hid (s.kn=8):=hk
 clear g1 g2 hk
 go_enter Tryz.func152,Tryz.ntmps152
 go_wp2_with fail
 have ha1:=below_alloc w (.cells #[.int .i64 s.birth,.slice ka s.kn kc,.string s.data] 66)
 refine(kidsOf_any _ _ _ lo' hi' s _ (Hs.out.below ha1) (Or.inr Hk.out)).mono ?_
 rintro e w1 ⟨rfl,hb1⟩
 have Hx:Hid (Box3 w1 w.heap.size (.int .i64 s.birth) (.slice ka s.kn kc) (.string s.data)):=(Box3.new w _ _ _ _).below hb1
 have hb2:=below_next ha1 hb1
 have Hi16:Hid ((Tryz.prog.info? 218).map (·.size)=some (kidsA s).size):=by
  show _=_
  rw [kidsA,arr16_size]; exact infoArr
 clear ha1 hb1
 have z16:(#[Value.int .i64 0,Value.int .i64 0,Value.int .i64 0,Value.int .i64 0,Value.int .i64 0,Value.int .i64 0,Value.int .i64 0,Value.int .i64 0,Value.int .i64 0,Value.int .i64 0,Value.int .i64 0,Value.int .i64 0,Value.int .i64 0,Value.int .i64 0,Value.int .i64 0,Value.int .i64 0]:Array Value)=arr16 (fun _=>0):=rfl
 have Hz16:Hid ((#[Value.int .i64 0,Value.int .i64 0,Value.int .i64 0,Value.int .i64 0,Value.int .i64 0,Value.int .i64 0,Value.int .i64 0,Value.int .i64 0,Value.int .i64 0,Value.int .i64 0,Value.int .i64 0,Value.int .i64 0,Value.int .i64 0,Value.int .i64 0,Value.int .i64 0,Value.int .i64 0]:Array Value)=arr16 (fun _=>0)):=z16
 clear z16
 go_wp2_with (first
  | (refine wpList_store_row rfl 218 (.tmp 5) (.tmp 10) rfl w1.heap.size (kidsA s) rfl rfl 218 #[Value.int .i64 0,Value.int .i64 0,Value.int .i64 0,Value.int .i64 0,Value.int .i64 0,Value.int .i64 0,Value.int .i64 0,Value.int .i64 0,Value.int .i64 0,Value.int .i64 0,Value.int .i64 0,Value.int .i64 0,Value.int .i64 0,Value.int .i64 0,Value.int .i64 0,Value.int .i64 0] (heap_alloc_last _ _) Hi16.out (by rw [kidsA,arr16_size]; rfl) (arr16_one _) ?_; rw [World.setRow_alloc_new])
  | (refine wpList_load_row rfl 218 (.tmp 5) rfl w1.heap.size rfl 218 (kidsA s) (0,0) _ ?hh arrU rfl Hi16.out ?_; (exact(Below.heap_alloc _ _ _ (by simp)).trans (heap_alloc_last _ _))))
 have hsz1:w.heap.size<w1.heap.size:=Hx.out.1.lt
 go_loopw [12] (fun i wr=>∃(k:Nat) (g:Nat→Int),k≤8∧i = .int .i64 k∧(∀j,j<k→KidFound n f s.birth (s.ks j) (s.kb j) (g (j*2)) (g (j*2+1)))∧Box3 wr w.heap.size (.int .i64 s.birth) (.slice ka s.kn kc) (.string s.data)∧
   wr.heap[w1.heap.size]?=some (.cells (kidsA s) 218 (0,0))∧wr.heap[w1.heap.size+1]?=some (.cells (arr16 g) 218 (0,0))∧Below w.heap.size w wr) (fun i _=>8 - (intOf i).toNat)
 case atStart=>
  refine⟨0,fun _=>0,Nat.zero_le _,rfl,fun j hj=>absurd hj (Nat.not_lt_zero _),(Hx.out.below (below_alloc _ _)).below (below_alloc _ _),?_,?_,below_next (below_next hb2 (below_alloc _ _)) (below_alloc _ _)⟩
  ·exact(Below.heap_alloc _ _ _ (by simp)).trans (heap_alloc_last _ _)
  ·have:=heap_alloc_last (w1.alloc (.cells (kidsA s) 218)) (.cells #[Value.int .i64 0,Value.int .i64 0,Value.int .i64 0,Value.int .i64 0,Value.int .i64 0,Value.int .i64 0,Value.int .i64 0,Value.int .i64 0,Value.int .i64 0,Value.int .i64 0,Value.int .i64 0,Value.int .i64 0,Value.int .i64 0,Value.int .i64 0,Value.int .i64 0,Value.int .i64 0] 218)
   rw [World.size_alloc] at this
   rw [this,Hz16.out]
 case round=>
  obtain⟨k,g,hk,rfl,hall,hx,hK,hF,hb⟩:=hrel
  have Hall:Hid (∀j,j<k→KidFound n f s.birth (s.ks j) (s.kb j) (g (j*2)) (g (j*2+1))):=hall
  have HX:Hid (Box3 wr w.heap.size (.int .i64 s.birth) (.slice ka s.kn kc) (.string s.data)):=hx
  have HK:Hid (wr.heap[w1.heap.size]?=some (.cells (kidsA s) 218 (0,0))):=hK
  have HF:Hid (wr.heap[w1.heap.size+1]?=some (.cells (arr16 g) 218 (0,0))):=hF
  clear hall hx hK hF
  have hszF:w1.heap.size+1<wr.heap.size:=(Array.getElem?_eq_some_iff.1 HF.out).1
  by_cases hlt:k<8
  ·have hlt':(k:Int)<8:=by omega
   have hidx:∀w,(Instr.index 218 (.agg (kidsA s)) (.int .i64 (k:Int))).run Tryz.prog w = .ok (.agg #[.int .i64 (s.ks k),.int .i64 (s.kb k)]) w:=fun w=>by
    have e:=index_arr (kidCell s) k hlt w
    have e0:kidCell s (k*2)=s.ks k:=by unfold kidCell; rw [if_pos (by have:=Hk.out; omega),if_pos (by omega),show k*2 / 2=k by omega]
    have e1:kidCell s (k*2+1)=s.kb k:=by unfold kidCell; rw [if_pos (by have:=Hk.out; omega),if_neg (by omega),show(k*2+1) / 2=k by omega]
    rw [e0,e1] at e
    exact e
   obtain⟨⟨x0,x1⟩,⟨x2,x3⟩,⟨x4,x5⟩⟩:=HX.out
   have hszB:w.heap.size<wr.heap.size:=by omega
   go_wp2_with fail
   have hal:=below_alloc wr (.cells #[.int .i64 (s.ks k),.int .i64 (s.kb k)] 88)
   refine(kidFound_any _ n lo hi f _ _ _ _ (Hv.out.below (below_next hb hal))).mono ?_
   rintro e w2 ⟨⟨rs,rb,rfl,hkf⟩,hb3⟩
   have Hkf:Hid (KidFound n f s.birth (s.ks k) (s.kb k) rs rb):=hkf
   have hbb:=below_next hal hb3
   have HF2:Hid (w2.heap[w1.heap.size+1]?=some (.cells (arr16 g) 218 (0,0))):=(hbb.block _ hszF).trans HF.out
   have HK2:Hid (w2.heap[w1.heap.size]?=some (.cells (kidsA s) 218 (0,0))):=(hbb.block _ (by omega)).trans HK.out
   have HX2:Hid (Box3 w2 w.heap.size (.int .i64 s.birth) (.slice ka s.kn kc) (.string s.data)):=HX.out.below hbb
   have hbn:=below_next hb hbb
   clear hkf hb3 hal hbb x0 x1 x2 x3 x4 x5 hidx HF HK HX hb
   obtain⟨y0,y1⟩:=cell_of_block (i:=k*2) HF2.out (arr16_at g (by omega))
   obtain⟨y2,y3⟩:=cell_of_block (i:=k*2+1) HF2.out (arr16_at g (by omega))
   go_wp2
   go_roundw
   case rel=>
    refine⟨k+1,fun j=>if j=k*2 then rs else if j=k*2+1 then rb else g j,by omega,by go_num,fun j hj=>?_,(HX2.out.other _ (by omega)).other _ (by omega),?_,?_,(hbn.setCell (by show _≤w1.heap.size+1; omega) _).setCell (by show _≤w1.heap.size+1; omega) _⟩
    ·by_cases e:j=k
     ·subst e
      simp only [if_true]
      rw [if_neg (by omega)]
      exact Hkf.out
     ·simp only
      rw [if_neg (by omega),if_neg (by omega),if_neg (by omega),if_neg (by omega)]
      exact Hall.out j (by omega)
    ·rw [Below.heap_setCell _ _ _ _ (by show w1.heap.size≠w1.heap.size+1; omega),Below.heap_setCell _ _ _ _ (by show w1.heap.size≠w1.heap.size+1; omega)]
     exact HK2.out
    ·have:=heap_setCell_at (o:=k*2+1) (.int .i64 rb) (heap_setCell_at (o:=k*2) (.int .i64 rs) HF2.out)
     rw [arr16_set g k hlt] at this
     exact this
   case measure=>simp [intOf]; omega
  ·obtain rfl:k=8:=by omega
   have heql:∀w,(binOp .eql 218 (.agg (arr16 g)) (.agg (kidsA s))).run Tryz.prog w = .ok (.bool (eq16 g (kidCell s))) w:=fun w=>eql_arr g (kidCell s) w
   have Hg16:Hid ((Tryz.prog.info? 218).map (·.size)=some (arr16 g).size):=by
    show _=_
    rw [arr16_size]; exact infoArr
   go_wp2_with (first
    | (refine wpList_load_row rfl 218 (.tmp 6) rfl (w1.heap.size+1) rfl 218 (arr16 g) (0,0) _ HF.out arrU rfl Hg16.out ?_)
    | (refine wpList_load_row rfl 218 (.tmp 5) rfl w1.heap.size rfl 218 (kidsA s) (0,0) _ HK.out arrU rfl Hi16.out ?_))
   go_ret
   refine⟨⟨_,rfl,?_⟩,hb⟩
   rw [eq16_iff]
   have e0:∀i,i<8→kidCell s (i*2)=s.ks i∧kidCell s (i*2+1)=s.kb i:=fun i hi=>by
    have:=Hk.out
    refine⟨?_,?_⟩
    ·unfold kidCell; rw [if_pos (by omega),if_pos (by omega),show i*2 / 2=i by omega]
    ·unfold kidCell; rw [if_pos (by omega),if_neg (by omega),show(i*2+1) / 2=i by omega]
   constructor
   ·intro h i hi
    have:=Hall.out i hi
    rw [(h i hi).1,(h i hi).2,(e0 i hi).1,(e0 i hi).2] at this
    exact this
   ·intro h i hi
    rw [(e0 i hi).1,(e0 i hi).2]
    exact(Hall.out i hi).uniq (h i hi)
end Go.Proofs.YtihplgckbhnohaaGreatDoor

namespace Go.Proofs.YtihplgckbhnohaaGreatDoor
open Go.RowKit
set_option linter.unusedVariables false
def SlotRightI(n:Nat)(f:Nat→SlotD)(s:SlotD):Prop:=Free s∨Page s∨(Node s∧KidsThere n f s)
def HeldOkI(p:PoolD)(i:Nat):Prop:=¬PtrOf p.n p.s (p.h i) 0 0∧¬Has i p.h (p.h i)
def RightI(p:PoolD):Prop:=p.n≤200∧p.hn≤p.n∧(∀i,i<p.n→SlotRightI p.n p.s (p.s i))∧∀i,i<p.hn→HeldOkI p i
set_option maxRecDepth 20000 in
set_option maxHeartbeats 1000000 in
theorem slotRight_any(v v0 v1 v2:Value)(n lo hi lo' hi':Nat)(f:Nat→SlotD)(s:SlotD)(w:World)(h1:SlotsAt w lo hi v n f)(h2:SlotAt w lo' hi' v0 v1 v2 s) :
  Calls Tryz.prog 135 #[v,.agg #[v0,v1,v2]] w fun e w'=>BoolIs (SlotRightI n f s) e∧Below w.heap.size w w':=by
 have Hv:Hid (SlotsAt w lo hi v n f):=h1
 obtain⟨m1,a,c,rfl,mc,g1⟩:=h1
 have Hs:Hid (SlotAt w lo' hi' v0 v1 v2 s):=h2
 obtain⟨rfl,⟨m2,ka,kc,rfl,mc2,g2⟩,rfl,m3⟩:=h2
 clear g1 g2
 go_enter Tryz.func135,Tryz.ntmps135
 go_wp2_with fail
 have ha1:=below_alloc w (.cells #[.int .i64 s.birth,.slice ka s.kn kc,.string s.data] 66)
 refine(isFree_any _ _ _ lo' hi' s _ (Hs.out.below ha1)).mono ?_
 rintro e w1 ⟨⟨t,rfl,ht⟩,hb1⟩
 have Hx:Hid (Box3 w1 w.heap.size (.int .i64 s.birth) (.slice ka s.kn kc) (.string s.data)):=(Box3.new w _ _ _ _).below hb1
 have hb2:=below_next ha1 hb1
 clear ha1 hb1
 by_cases hf:Free s
 ·obtain rfl:t=true:=ht.2 hf
  have HF:Hid (Free s):=hf
  clear ht hf
  go_wp2
  go_ret
  exact⟨BoolIs.yes (Or.inl HF.out),hb2⟩
 ·obtain rfl:t=false:=bool_no ht hf
  have HF:Hid (¬Free s):=hf
  clear ht hf
  obtain⟨⟨x0,x1⟩,⟨x2,x3⟩,⟨x4,x5⟩⟩:=Hx.out
  go_wp2_with fail
  refine(isPage_any _ _ _ lo' hi' s _ (Hs.out.below hb2)).mono ?_
  rintro e w2 ⟨⟨t,rfl,ht⟩,hb3⟩
  have Hx2:Hid (Box3 w2 w.heap.size (.int .i64 s.birth) (.slice ka s.kn kc) (.string s.data)):=Hx.out.below hb3
  have hb4:=below_next hb2 hb3
  clear hb3 hb2 x0 x1 x2 x3 x4 x5 Hx
  by_cases hf:Page s
  ·obtain rfl:t=true:=ht.2 hf
   have HP:Hid (Page s):=hf
   clear ht hf
   go_wp2
   go_ret
   exact⟨BoolIs.yes (Or.inr (Or.inl HP.out)),hb4⟩
  ·obtain rfl:t=false:=bool_no ht hf
   have HP:Hid (¬Page s):=hf
   clear ht hf
   obtain⟨⟨x0,x1⟩,⟨x2,x3⟩,⟨x4,x5⟩⟩:=Hx2.out
   go_wp2_with fail
   refine(isNode_any _ _ _ lo' hi' s _ (Hs.out.below hb4)).mono ?_
   rintro e w3 ⟨⟨t,rfl,ht⟩,hb5⟩
   have Hx3:Hid (Box3 w3 w.heap.size (.int .i64 s.birth) (.slice ka s.kn kc) (.string s.data)):=Hx2.out.below hb5
   have hb6:=below_next hb4 hb5
   clear hb5 hb4 x0 x1 x2 x3 x4 x5 Hx2
   by_cases hf:Node s
   ·obtain rfl:t=true:=ht.2 hf
    have HN:Hid (Node s):=hf
    clear ht hf
    obtain⟨⟨x0,x1⟩,⟨x2,x3⟩,⟨x4,x5⟩⟩:=Hx3.out
    go_wp2_with fail
    refine(kidsThere_any _ _ _ _ n lo hi lo' hi' f s _ (Hv.out.below hb6) (Hs.out.below hb6) HN.out.2.1).mono ?_
    rintro e w4 ⟨⟨t,rfl,ht⟩,hb7⟩
    have Ht:Hid (t=true↔KidsThere n f s):=ht
    have hb8:=below_next hb6 hb7
    clear hb7 hb6 x0 x1 x2 x3 x4 x5 Hx3 ht
    go_wp2
    go_ret
    refine⟨⟨t,rfl,Ht.out.trans ⟨fun h=>Or.inr (Or.inr ⟨HN.out,h⟩),fun h=>?_⟩⟩,hb8⟩
    rcases h with h | h | h
    ·exact absurd h HF.out
    ·exact absurd h HP.out
    ·exact h.2
   ·obtain rfl:t=false:=bool_no ht hf
    have HN:Hid (¬Node s):=hf
    clear ht hf
    go_wp2
    go_ret
    refine⟨BoolIs.no fun h=>?_,hb6⟩
    rcases h with h | h | h
    ·exact HF.out h
    ·exact HP.out h
    ·exact HN.out h.1
set_option maxRecDepth 20000 in
set_option maxHeartbeats 1000000 in
theorem heldRight_any(v0 v1:Value)(lo hi:Nat)(p:PoolD)(w:World)(h1:PoolAt w lo hi v0 v1 p) :
  Calls Tryz.prog 136 #[.agg #[v0,v1]] w fun e w'=>BoolIs (∀i,i<p.hn→HeldOkI p i) e∧Below w.heap.size w w':=by
 have Hp:Hid (PoolAt w lo hi v0 v1 p):=h1
 obtain⟨⟨m1,a,c,rfl,mc,g1⟩,⟨m2,a',c',rfl,mc',g2⟩⟩:=h1
 unfold maxLen at m1 m2
 clear g1 g2
 go_enter Tryz.func136,Tryz.ntmps136
 go_wp2
 go_loopw [8] (fun i wr=>∃k:Nat,k≤p.hn∧i = .int .i64 k∧(∀j,j<k→HeldOkI p j)∧Box2 wr w.heap.size (.slice a p.n c) (.slice a' p.hn c')∧Below w.heap.size w wr) (fun i _=>p.hn - (intOf i).toNat)
 case atStart=>exact⟨0,Nat.zero_le _,rfl,fun j hj=>absurd hj (Nat.not_lt_zero _),Box2.new _ _ _ _,below_alloc _ _⟩
 case round=>
  obtain⟨k,hk,rfl,hall,hx,hb⟩:=hrel
  have Hall:Hid (∀j,j<k→HeldOkI p j):=hall
  have Hx:Hid (Box2 wr w.heap.size (.slice a p.n c) (.slice a' p.hn c')):=hx
  clear hall hx
  obtain⟨⟨y0,y1⟩,⟨y2,y3⟩⟩:=Hx.out
  by_cases hlt:k<p.hn
  ·have hlt':(k:Int)<(p.hn:Int):=by omega
   have hint:=Hp.out.2.below hb
   have Hint:Hid (IntsAt wr lo hi (.slice a' p.hn c') p.hn p.h):=hint
   obtain⟨_,a2,cap2,hv2,_,hx2⟩:=hint
   simp only [Value.slice.injEq,true_and] at hv2
   obtain⟨rfl,rfl⟩:=hv2
   obtain⟨b,off,rfl,_,_,k1⟩:=hx2 (by omega)
   have hc1:=k1 k hlt
   clear k1 hx2
   go_wp2_with fail
   refine(ptrOf_any _ p.n lo hi p.s _ _ (Hp.out.1.below hb)).mono ?_
   rintro e w1 ⟨⟨ps,pb,rfl,hpo⟩,hb1⟩
   have Hpo:Hid (PtrOf p.n p.s (p.h k) ps pb):=hpo
   have HX:Hid (Box2 w1 w.heap.size (.slice a p.n c) (.slice (some ⟨b,off,none⟩) p.hn c')):=Hx.out.below hb1
   have HI:Hid (IntsAt w1 lo hi (.slice (some ⟨b,off,none⟩) k k) k p.h):=(Hint.out.below hb1).take (by omega) (by omega)
   have hbn:=below_next hb hb1
   clear hpo hb1 y0 y1 y2 y3 Hx
   by_cases hz:ps=0∧pb=0
   ·obtain⟨rfl,rfl⟩:=hz
    go_wp2
    go_ret
    exact⟨BoolIs.no fun h=>(h k hlt).1 Hpo.out,hbn⟩
   ·have HZ:Hid (¬PtrOf p.n p.s (p.h k) 0 0):=fun h=>by
     obtain⟨e0,e1⟩:=Hpo.out.uniq h
     exact hz ⟨e0,e1⟩
    have e0:(ps == 0)=false∨(ps == 0)=true∧(pb == 0)=false:=by
     by_cases h:ps=0
     ·right
      refine⟨by simp [h],?_⟩
      have:pb≠0:=fun h'=>hz ⟨h,h'⟩
      simp [this]
     ·left; simp [h]
    clear hz
    obtain⟨⟨y0,y1⟩,⟨y2,y3⟩⟩:=HX.out
    have hkc:k≤c':=by omega
    by_cases hh:Has k p.h (p.h k)
    ·have HH:Hid (Has k p.h (p.h k)):=hh
     clear hh
     rcases e0 with e0 | ⟨e0,e1⟩
     all_goals
      go_wp2_with fail
      refine(contains_any _ k lo hi p.h _ _ HI.out).mono ?_
      rintro e w2 ⟨⟨t,rfl,ht⟩,rfl⟩
      obtain rfl:t=true:=ht.2 HH.out
      clear ht
      go_wp2
      go_ret
      exact⟨BoolIs.no fun h=>(h k hlt).2 HH.out,hbn⟩
    ·have HH:Hid (¬Has k p.h (p.h k)):=hh
     clear hh
     rcases e0 with e0 | ⟨e0,e1⟩
     all_goals
      go_wp2_with fail
      refine(contains_any _ k lo hi p.h _ _ HI.out).mono ?_
      rintro e w2 ⟨⟨t,rfl,ht⟩,rfl⟩
      obtain rfl:t=false:=bool_no ht HH.out
      clear ht y0 y1 y2 y3
      go_wp2
      go_roundw
      case rel=>exact⟨k+1,by omega,by go_num,relNext hlt Hall.out ⟨HZ.out,HH.out⟩,HX.out,hbn⟩
      case measure=>simp [intOf]; omega
  ·obtain rfl:k=p.hn:=by omega
   go_wp2
   go_ret
   exact⟨BoolIs.yes Hall.out,hb⟩
end Go.Proofs.YtihplgckbhnohaaGreatDoor
