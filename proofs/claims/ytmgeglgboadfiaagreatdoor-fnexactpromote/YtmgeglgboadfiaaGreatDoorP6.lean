/- What impl.shapeRight answers, of a page, a node and a root. -/
import Derived.Test.YtmgeglgboadfiaaGreatDoorP5
import Derived.Test.YtmgeglgboadfiaaGreatDoorP2
import Derived.Laws.OwnMore
import Derived.Lib.SliceRun
import Derived.Test.YtmgeglgboadfiaaGreatDoorP1
import Derived.Deep.AppendLies
import Derived.Deep.RegionHeld3
import Derived.Deep.RegionLaw
import Derived.Deep.WholeRow
namespace Go.Proofs.YtmgeglgboadfiaaGreatDoor
open Go.RowKit
set_option linter.unusedVariables false
def StepShape(p:PoolD)(Low:SlotD→Prop)(s:SlotD):Prop:=(∃i,i<8∧¬Nil (kidS s i) (kidB s i))∧∀i,i<8→Nil (kidS s i) (kidB s i)∨Low (p.s (kidS s i).toNat)
def ShapeAt(p:PoolD)(L:Int)(Low:SlotD→Prop):Prop:=∀(v:Value) (lo hi:Nat) (xs xb:Int) (w:World),SlotsAt w lo hi v p.n p.s→Points p xs xb→
 Calls Tryz.prog 195 #[v,.agg #[.int .i64 xs,.int .i64 xb],.int .i64 L] w fun e w'=>BoolIs (Low (p.s xs.toNat)) e∧Below w.heap.size w w'
theorem zero_kids(s:SlotD):eq16 (kidCell s) (fun _=>0)=true↔¬∃i,i<8∧¬Nil (kidS s i) (kidB s i):=by
 rw [eq16_iff]
 constructor
 ·rintro h ⟨i,hi,hn⟩
  exact hn (h i hi)
 ·intro h i hi
  by_cases hn:Nil (kidS s i) (kidB s i)
  ·exact hn
  ·exact absurd ⟨i,hi,hn⟩ h
set_option maxRecDepth 20000 in
set_option maxHeartbeats 1000000 in
theorem shape2_any(p:PoolD):ShapeAt p 2 Page:=by
 intro v lo hi xs xb w hs hP
 have Hs:=hideT hs
 obtain⟨_,a,c,rfl,_⟩:=id hs
 obtain⟨k,rfl⟩:=Int.eq_ofNat_of_zero_le hP.2.1
 have hk:k<p.n:=by have:=hP.2.2.1; omega
 have hk':(k:Int)<(p.n:Int):=by omega
 have ha:=below_alloc w (.cells #[.int .i64 (k:Int),.int .i64 xb] 61)
 obtain⟨⟨x0,x1⟩,⟨x2,x3⟩⟩:=Box2.new w (.int .i64 (k:Int)) (.int .i64 xb) 61
 obtain⟨b,off,ka,kc,rfl,hsc⟩:=(Hs.out.below ha).cells hk
 have HC:=hideT hsc
 obtain⟨q0,q1,q2,_⟩:=hsc
 clear hs hP
 go_enter Tryz.func195,Tryz.ntmps195
 go_wp2_with fail
 have ha2:=below_alloc (w.alloc (.cells #[.int .i64 (k:Int),.int .i64 xb] 61)) (.cells #[.int .i64 (p.s k).birth,.slice ka (p.s k).kn kc,.string (p.s k).data] 127)
 refine(isPage_any _ _ _ lo hi (p.s k) _ (HC.out.slot.below ha2)).mono ?_
 rintro e w1 ⟨⟨t,rfl,ht⟩,hb1⟩
 have hB:=below_next (below_next ha ha2) hb1
 have HT:=hideT ht
 clear ht hb1
 go_wp2
 go_ret
 refine⟨⟨t,rfl,?_⟩,hB⟩
 rw [Int.toNat_natCast]
 exact HT.out
set_option maxRecDepth 20000 in
set_option maxHeartbeats 2000000 in
theorem shape_step(p:PoolD)(L:Int)(Low:SlotD→Prop)(hR:Right p)(hL:0≤L∧L<2)(hlow:ShapeAt p (L+1) Low):ShapeAt p L (StepShape p Low):=by
 intro v lo hi xs xb w hs hP
 have Hlow:=hideT hlow
 have HR:=hideT hR
 have Hs:=hideT hs
 have HP:=hideT hP
 have Hf:=hideT (points_fits hR hP)
 obtain⟨_,a,c,rfl,_⟩:=id hs
 obtain⟨k,rfl⟩:=Int.eq_ofNat_of_zero_le hP.2.1
 rw [Int.toNat_natCast] at Hf
 have hk:k<p.n:=by have:=hP.2.2.1; omega
 have hk':(k:Int)<(p.n:Int):=by omega
 have hL2:(L == 2)=false:=by simp; omega
 have ha:=below_alloc w (.cells #[.int .i64 (k:Int),.int .i64 xb] 61)
 obtain⟨⟨x0,x1⟩,⟨x2,x3⟩⟩:=Box2.new w (.int .i64 (k:Int)) (.int .i64 xb) 61
 obtain⟨b,off,ka,kc,rfl,hsc⟩:=(Hs.out.below ha).cells hk
 have HC:=hideT hsc
 obtain⟨q0,q1,q2,_⟩:=hsc
 clear hs hP hlow hR
 go_enter Tryz.func195,Tryz.ntmps195
 go_wp2_with fail
 have ha2:=below_alloc (w.alloc (.cells #[.int .i64 (k:Int),.int .i64 xb] 61)) (.cells #[.int .i64 (p.s k).birth,.slice ka (p.s k).kn kc,.string (p.s k).data] 127)
 refine(kidsOf_any _ _ _ lo hi (p.s k) _ (HC.out.slot.below ha2) (fits_kn Hf.out)).mono ?_
 rintro e w1 ⟨rfl,hb1⟩
 have hB:=below_next (below_next ha ha2) hb1
 clear hb1 ha ha2 x0 x1 x2 x3 q0 q1 q2 HC
 have Hi16:Hid ((Tryz.prog.info? 155).map (·.size)=some (kidsA (p.s k)).size):=by
  show _=_
  rw [kidsA,arr16_size]; exact infoArr
 have Hz16:Hid ((#[Value.int .i64 0,Value.int .i64 0,Value.int .i64 0,Value.int .i64 0,Value.int .i64 0,Value.int .i64 0,Value.int .i64 0,Value.int .i64 0,Value.int .i64 0,Value.int .i64 0,Value.int .i64 0,Value.int .i64 0,Value.int .i64 0,Value.int .i64 0,Value.int .i64 0,Value.int .i64 0]:Array Value)=arr16 (fun _=>0)):=rfl
 have heql:∀w,(binOp .eql 155 (.agg (kidsA (p.s k))) (.agg #[Value.int .i64 0,Value.int .i64 0,Value.int .i64 0,Value.int .i64 0,Value.int .i64 0,Value.int .i64 0,Value.int .i64 0,Value.int .i64 0,Value.int .i64 0,Value.int .i64 0,Value.int .i64 0,Value.int .i64 0,Value.int .i64 0,Value.int .i64 0,Value.int .i64 0,Value.int .i64 0])).run Tryz.prog w = .ok (.bool (eq16 (kidCell (p.s k)) (fun _=>0))) w:=fun w=>eql_arr (kidCell (p.s k)) (fun _=>0) w
 have hblk:(w1.alloc (.cells (kidsA (p.s k)) 155)).heap[w1.heap.size]?=some (.cells (kidsA (p.s k)) 155 (0,0)):=heap_alloc_last _ _
 have HK:=hideT hblk
 have hB2:=below_next hB (below_alloc w1 (.cells (kidsA (p.s k)) 155))
 clear hblk hB
 by_cases hz:eq16 (kidCell (p.s k)) (fun _=>0)=true
 ·have HZ:=hideT ((zero_kids _).1 hz)
  go_wp2_with (first
   | (refine wpList_store_row rfl 155 (.tmp 8) (.tmp 20) rfl w1.heap.size (kidsA (p.s k)) rfl rfl 155 #[Value.int .i64 0,Value.int .i64 0,Value.int .i64 0,Value.int .i64 0,Value.int .i64 0,Value.int .i64 0,Value.int .i64 0,Value.int .i64 0,Value.int .i64 0,Value.int .i64 0,Value.int .i64 0,Value.int .i64 0,Value.int .i64 0,Value.int .i64 0,Value.int .i64 0,Value.int .i64 0] (heap_alloc_last _ _) Hi16.out (by rw [kidsA,arr16_size]; rfl) (arr16_one _) ?_; rw [World.setRow_alloc_new])
   | (refine wpList_load_row rfl 155 (.tmp 8) rfl w1.heap.size rfl 155 (kidsA (p.s k)) (0,0) _ HK.out arrU rfl Hi16.out ?_))
  go_ret
  exact⟨BoolIs.no fun h=>HZ.out (by rw [Int.toNat_natCast] at h; exact h.1),hB2⟩
 ·have HZ:Hid (∃i,i<8∧¬Nil (kidS (p.s k) i) (kidB (p.s k) i)):=by
   by_cases h:∃i,i<8∧¬Nil (kidS (p.s k) i) (kidB (p.s k) i)
   ·exact h
   ·exact absurd ((zero_kids _).2 h) hz
  have hz':eq16 (kidCell (p.s k)) (fun _=>0)=false:=by simpa using hz
  clear hz
  go_wp2_with (first
   | (refine wpList_store_row rfl 155 (.tmp 8) (.tmp 20) rfl w1.heap.size (kidsA (p.s k)) rfl rfl 155 #[Value.int .i64 0,Value.int .i64 0,Value.int .i64 0,Value.int .i64 0,Value.int .i64 0,Value.int .i64 0,Value.int .i64 0,Value.int .i64 0,Value.int .i64 0,Value.int .i64 0,Value.int .i64 0,Value.int .i64 0,Value.int .i64 0,Value.int .i64 0,Value.int .i64 0,Value.int .i64 0] (heap_alloc_last _ _) Hi16.out (by rw [kidsA,arr16_size]; rfl) (arr16_one _) ?_; rw [World.setRow_alloc_new])
   | (refine wpList_load_row rfl 155 (.tmp 8) rfl w1.heap.size rfl 155 (kidsA (p.s k)) (0,0) _ HK.out arrU rfl Hi16.out ?_))
  have hz1:w1.heap.size<(w1.alloc (.cells (kidsA (p.s k)) 155)).heap.size:=by rw [World.size_alloc]; exact Nat.lt_succ_self _
  go_loopw [24] (fun i wr=>∃j:Nat,j≤8∧i = .int .i64 j∧(∀m,m<j→Nil (kidS (p.s k) m) (kidB (p.s k) m)∨Low (p.s (kidS (p.s k) m).toNat))∧wr.heap[w1.heap.size]?=some (.cells (kidsA (p.s k)) 155 (0,0))∧Below w.heap.size w wr) (fun i _=>8 - (intOf i).toNat)
  case atStart=>exact⟨0,Nat.zero_le _,rfl,fun m hm=>absurd hm (Nat.not_lt_zero _),HK.out,hB2⟩
  case round=>
   obtain⟨j,hj,rfl,hall,hK,hb⟩:=hrel
   have Hall:=hideT hall
   have HKr:=hideT hK
   have hszK:w1.heap.size<wr.heap.size:=(Array.getElem?_eq_some_iff.1 hK).1
   clear hall hK
   by_cases hlt:j<8
   ·have hlt':(j:Int)<8:=by omega
    obtain⟨y0,y1⟩:=cell_of_block (i:=j*2) HKr.out (arr16_at (kidCell (p.s k)) (by omega))
    obtain⟨y2,y3⟩:=cell_of_block (i:=j*2+1) HKr.out (arr16_at (kidCell (p.s k)) (by omega))
    by_cases hn:Nil (kidS (p.s k) j) (kidB (p.s k) j)
    ·have HN:=hideT hn
     rw [show kidCell (p.s k) (j*2)=0 from hn.1] at y0
     rw [show kidCell (p.s k) (j*2+1)=0 from hn.2] at y2
     clear hn
     go_wp2
     go_roundw
     case rel=>exact⟨j+1,by omega,by go_num,relNext (n:=8) hlt Hall.out (Or.inl HN.out),HKr.out,hb⟩
     case measure=>simp [intOf]; omega
    ·have HN:=hideT hn
     have hkp:=hideT (kid_points Hf.out hlt hn).1
     have e0:(kidCell (p.s k) (j*2) == 0)=false∨(kidCell (p.s k) (j*2) == 0)=true∧(kidCell (p.s k) (j*2+1) == 0)=false:=by
      by_cases h:kidCell (p.s k) (j*2)=0
      ·right
       refine⟨by simp [h],?_⟩
       have:kidCell (p.s k) (j*2+1)≠0:=fun h'=>hn ⟨h,h'⟩
       simp [this]
      ·left; simp [h]
     clear hn
     rcases e0 with e0 | ⟨e0,e1⟩
     all_goals
      go_wp2_with fail
      refine(Hlow.out _ lo hi (kidCell (p.s k) (j*2)) (kidCell (p.s k) (j*2+1)) _ (Hs.out.below hb) hkp.out).mono ?_
      rintro e w2 ⟨⟨t,rfl,ht⟩,hb2⟩
      have HT:=hideT ht
      have HK2:=hideT ((hb2.block _ hszK).trans HKr.out)
      have hbn:=below_next hb hb2
      clear ht hb2 y0 y1 y2 y3
      cases t
      ·go_wp2
       go_ret
       refine⟨BoolIs.no fun h=>?_,hbn⟩
       rw [Int.toNat_natCast] at h
       rcases h.2 j hlt with h1 | h1
       ·exact HN.out h1
       ·exact absurd (HT.out.2 h1) (by simp)
      ·go_wp2
       go_roundw
       case rel=>exact⟨j+1,by omega,by go_num,relNext (n:=8) hlt Hall.out (Or.inr (HT.out.1 trivial)),HK2.out,hbn⟩
       case measure=>simp [intOf]; omega
   ·obtain rfl:j=8:=by omega
    go_wp2
    go_ret
    exact⟨BoolIs.yes (by rw [Int.toNat_natCast]; exact⟨HZ.out,Hall.out⟩),hb⟩
theorem shape1_any(p:PoolD)(hR:Right p):ShapeAt p 1 (Shape1 p):=shape_step p 1 Page hR (by omega) (shape2_any p)
theorem shape0_any(p:PoolD)(hR:Right p):ShapeAt p 0 (Shape0 p):=shape_step p 0 (Shape1 p) hR (by omega) (shape1_any p hR)
def NewSlot(s:SlotD)(w:World)(e:Ending)(w':World):Prop:=
 ∃kv kb,e = .returned (.agg #[.int .i64 s.birth,kv,.string s.data])∧PtrsOwn w' kb kv s.kn s.ks s.kb∧(0<s.kn→w.heap.size≤kb∧kb<w'.heap.size)∧Below w.heap.size w w'
def kc(f g:Nat→Int):Nat→List Value
 | 0=>[]
 | k+1=>kc f g k ++ [.int .i64 (f k),.int .i64 (g k)]
theorem kc_len(f g:Nat→Int)(k:Nat):(kc f g k).length=k*2:=by
 induction k with
 | zero=>rfl
 | succ k ih=>simp [kc,ih]; omega
theorem kc_at(f g:Nat→Int)(k i r:Nat)(hi:i<k)(hr:r<2):(kc f g k)[i*2+r]? = [Value.int .i64 (f i),.int .i64 (g i)][r]?:=by
 induction k with
 | zero=>omega
 | succ k ih=>
  unfold kc
  by_cases e:i<k
  ·rw [List.getElem?_append_left (by rw [kc_len]; omega)]; exact ih e
  ·obtain rfl:i=k:=by omega
   rw [List.getElem?_append_right (by rw [kc_len]; omega),kc_len]
   congr 1; omega
theorem kc_one(f g:Nat→Int)(k:Nat):∀u∈kc f g k,u.oneCell'=true:=by
 induction k with
 | zero=>intro u hu; simp [kc] at hu
 | succ k ih=>
  intro u hu
  simp only [kc,List.mem_append,List.mem_cons,List.not_mem_nil,or_false] at hu
  rcases hu with hu | rfl | rfl
  ·exact ih u hu
  ·rfl
  ·rfl
theorem kc_cells{w:World}{b off:Nat}{f g:Nat→Int}{n:Nat}(h:∀i,i<n→w.cell? ⟨b,off+i*2,none⟩=some (.int .i64 (f i))∧w.cell? ⟨b,off+i*2+1,none⟩=some (.int .i64 (g i))) :
  ∀j u,(kc f g n)[j]?=some u→w.cell? ((⟨b,off,none⟩:Addr).add j)=some u:=by
 intro j u hj
 have hlt:j<n*2:=by
  have:=(List.getElem?_eq_some_iff.1 hj).1
  rwa [kc_len] at this
 have hadd:(⟨b,off,none⟩:Addr).add j=⟨b,off+j,none⟩:=by unfold Addr.add; split <;> simp_all
 rw [hadd]
 obtain⟨c0,c1⟩:=h (j / 2) (by omega)
 have e:=kc_at f g n (j / 2) (j % 2) (by omega) (by omega)
 rw [show j / 2*2+j % 2=j by omega,hj] at e
 rcases(by omega:j % 2=0∨j % 2=1)with hm | hm
 ·rw [hm] at e
  simp at e
  subst e
  rw [show off+j=off+j / 2*2 by omega]
  exact c0
 ·rw [hm] at e
  simp at e
  subst e
  rw [show off+j=off+j / 2*2+1 by omega]
  exact c1
theorem ptrs_of_owns{w:World}{base e n:Nat}{v:Value}{f g:Nat→Int}(hm:n≤maxLen)(h:w.ownsRow base e 2 v n (kc f g n)):∃kb,PtrsOwn w kb v n f g∧(0<n→base≤kb∧kb<w.heap.size):=by
 by_cases h0:0<n
 ·obtain⟨gb,cap,rfl,hcp,hb,hlt,hcell⟩:=owns_cell h h0
  refine⟨gb,⟨hm,_,cap,rfl,hcp,fun _=>⟨0,rfl,fun i hi=>⟨?_,?_⟩⟩⟩,fun _=>⟨hb,hlt⟩⟩
  ·have:=hcell (i*2+0) _ (kc_at f g n i 0 hi (by omega))
   simpa using this
  ·have:=hcell (i*2+1) _ (kc_at f g n i 1 hi (by omega))
   simpa using this
 ·obtain⟨a,cap,rfl,hcp⟩:=owns_form h
  exact⟨0,⟨hm,a,cap,rfl,hcp,fun h=>absurd h h0⟩,fun h=>absurd h h0⟩
theorem run_append_nil{P:Program}{w:World}(base:Nat)(t ty e:TypeId)(i:TypeInfo)(size c:Nat)(ht:P.underlying t=some (.slice e))(hi:P.info? e=some i)
  (v:Value) (n:Nat) (xs:List Value) (hown:w.ownsRow base e size v n xs) :
  (Builtin.append_ #[t,t] ty #[v,.slice none 0 c]).run P w = .ok v w:=by
 rcases hown.2 with⟨rfl,rfl⟩ | ⟨g,cap,cur,rfl,_,_,hnc,_⟩
 ·simp [Builtin.append_,run_underlying ht,sizeOf,typeInfo,hi,Builtin.lenOf,Builtin.firstCells]
 ·simp [Builtin.append_,run_underlying ht,sizeOf,typeInfo,hi,Builtin.lenOf,Builtin.firstCells,hnc,storeCells]
theorem wpList_append_nil{P:Program}{w:World}{ops:Array Oper}{rest:List Oper}{o:Oper}{a:Act}{Q:Exit→Act→World→Prop}(hgd:o.guard=none)(s x:Operand)(t:TypeId)
  (ho:o.op = .call {callee:=.builtin .append,args:=#[s,x],argTypes:=#[t,t]})
  (base:Nat) (e:TypeId) (i:TypeInfo) (size c m:Nat) (ht:P.underlying t=some (.slice e)) (hi:P.info? e=some i)
  (v:Value) (n:Nat) (xs:List Value) (hs:a.eval s=v) (hown:w.ownsRow base e size v n xs) (hm:m=0) (hx:a.eval x = .slice none m c)
  (h:wpList P ops Q rest (a.put o.dst v) w):wpList P ops Q (o :: rest) a w:=by
 subst hm
 refine wpList_plain hgd fun K hK=>?_
 have hrun:=run_append_nil (P:=P) (w:=w) base t o.type e i size c ht hi v n xs hown
 unfold Oper.wp
 simp [execOp,ho,resolve,invoke,builtin,hs,hx,hrun,Result.andThen]
 exact hK _ _ h
theorem run_append_zero{P:Program}{w:World}(base:Nat)(t ty e:TypeId)(i:TypeInfo)(size c:Nat)(ao:Option Addr)(ht:P.underlying t=some (.slice e))(hi:P.info? e=some i)
  (v:Value) (n:Nat) (xs:List Value) (hown:w.ownsRow base e size v n xs) :
  (Builtin.append_ #[t,t] ty #[v,.slice ao 0 c]).run P w = .ok v w:=by
 rcases hown.2 with⟨rfl,rfl⟩ | ⟨g,cap,cur,rfl,_,_,hnc,_⟩
 ·cases ao <;> simp [Builtin.append_,run_underlying ht,sizeOf,typeInfo,hi,Builtin.lenOf,Builtin.firstCells,loadCells,loadCellsFrom]
 ·cases ao <;> simp [Builtin.append_,run_underlying ht,sizeOf,typeInfo,hi,Builtin.lenOf,Builtin.firstCells,hnc,storeCells,loadCells,loadCellsFrom]
theorem wpList_append_zero{P:Program}{w:World}{ops:Array Oper}{rest:List Oper}{o:Oper}{a:Act}{Q:Exit→Act→World→Prop}(hgd:o.guard=none)(s x:Operand)(t:TypeId)
  (ho:o.op = .call {callee:=.builtin .append,args:=#[s,x],argTypes:=#[t,t]})
  (base:Nat) (e:TypeId) (i:TypeInfo) (size c m:Nat) (ao:Option Addr) (ht:P.underlying t=some (.slice e)) (hi:P.info? e=some i)
  (v:Value) (n:Nat) (xs:List Value) (hs:a.eval s=v) (hown:w.ownsRow base e size v n xs) (hm:m=0) (hx:a.eval x = .slice ao m c)
  (h:wpList P ops Q rest (a.put o.dst v) w):wpList P ops Q (o :: rest) a w:=by
 subst hm
 refine wpList_plain hgd fun K hK=>?_
 have hrun:=run_append_zero (P:=P) (w:=w) base t o.type e i size c ao ht hi v n xs hown
 unfold Oper.wp
 simp [execOp,ho,resolve,invoke,builtin,hs,hx,hrun,Result.andThen]
 exact hK _ _ h
theorem infoPtrT:(Tryz.prog.info? 61).map (fun i=>(i.zero,i.size,i.bytes))=some (some (.agg #[.int .i64 0,.int .i64 0]),2,16):=by kernel_rfl
def sc(f:Nat→SlotD)(kv:Nat→Value):Nat→List Value
 | 0=>[]
 | k+1=>sc f kv k ++ [.int .i64 (f k).birth,kv k,.string (f k).data]
theorem sc_len(f:Nat→SlotD)(kv:Nat→Value)(k:Nat):(sc f kv k).length=k*3:=by
 induction k with
 | zero=>rfl
 | succ k ih=>simp [sc,ih]; omega
theorem sc_at(f:Nat→SlotD)(kv:Nat→Value)(k i r:Nat)(hi:i<k)(hr:r<3):(sc f kv k)[i*3+r]? = [Value.int .i64 (f i).birth,kv i,.string (f i).data][r]?:=by
 induction k with
 | zero=>omega
 | succ k ih=>
  unfold sc
  by_cases e:i<k
  ·rw [List.getElem?_append_left (by rw [sc_len]; omega)]; exact ih e
  ·obtain rfl:i=k:=by omega
   rw [List.getElem?_append_right (by rw [sc_len]; omega),sc_len]
   congr 1; omega
theorem sc_congr(f:Nat→SlotD){kv kv':Nat→Value}{k:Nat}(h:∀i,i<k→kv i=kv' i):sc f kv k=sc f kv' k:=by
 induction k with
 | zero=>rfl
 | succ k ih=>
  unfold sc
  rw [ih (fun i hi=>h i (by omega)),h k (by omega)]
theorem sc_one(f:Nat→SlotD)(kv:Nat→Value)(k:Nat)(h:∀i,i<k→(kv i).oneCell'=true):∀u∈sc f kv k,u.oneCell'=true:=by
 induction k with
 | zero=>intro u hu; simp [sc] at hu
 | succ k ih=>
  intro u hu
  simp only [sc,List.mem_append,List.mem_cons,List.not_mem_nil,or_false] at hu
  rcases hu with hu | rfl | rfl | rfl
  ·exact ih (fun i hi=>h i (by omega)) u hu
  ·rfl
  ·exact h k (by omega)
  ·rfl
theorem turned_of_grown{w w1:World}{row:Option Nat}(h:w.grownBy w1 row):Turned (fun b=>row=some b) w w1:=⟨h.os,h.tape,h.output,h.size,fun k hk hs=>h.block k hk (fun e=>hs e.symm)⟩
theorem grown_of_below{w w1:World}(h:Below w.heap.size w w1)(row:Option Nat):w.grownBy w1 row:=⟨h.os,h.tape,h.output,h.size,fun k hk _=>h.block k hk⟩
structure Laid (w:World) (lo k:Nat) (f:Nat→SlotD) (kb:Nat→Nat) (kv:Nat→Value) (v:Value):Prop where
 row:w.ownsRow lo 127 3 v k (sc f kv k)
 kids:∀j,j<k→PtrsOwn w (kb j) (kv j) (f j).kn (f j).ks (f j).kb
 place:∀j,j<k→0<(f j).kn→lo≤kb j∧kb j<w.heap.size∧v.ownBlock≠some (kb j)
 apart:KidsApart kb k f
 small:∀j,j<k→(f j).data.size≤maxLen
theorem Laid.nil(w:World)(lo:Nat)(f:Nat→SlotD):Laid w lo 0 f (fun _=>0) (fun _=>.slice none 0 0) (.slice none 0 0):=
 ⟨World.ownsRow_nil _ _ _ _,fun j hj=>absurd hj (Nat.not_lt_zero _),fun j hj=>absurd hj (Nat.not_lt_zero _),fun i j hi=>absurd hi (Nat.not_lt_zero _),fun j hj=>absurd hj (Nat.not_lt_zero _)⟩
theorem Laid.below{w w':World}{lo k:Nat}{f:Nat→SlotD}{kb:Nat→Nat}{kv:Nat→Value}{v:Value}(h:Laid w lo k f kb kv v)(t:Below w.heap.size w w'):Laid w' lo k f kb kv v:=
 ⟨h.row.kept (grown_of_below t none) (by cases hv:v.ownBlock <;> simp),fun j hj=>(h.kids j hj).below t,fun j hj h0=>by have h1:=h.place j hj h0; have:=t.size; exact⟨h1.1,by omega,h1.2.2⟩,h.apart,h.small⟩
theorem Laid.next{w w1:World}{lo k:Nat}{f:Nat→SlotD}{kb:Nat→Nat}{kv:Nat→Value}{v:Value}(h:Laid w lo k f kb kv v){nb g cap:Nat}{nv:Value}(hp:PtrsOwn w nb nv (f k).kn (f k).ks (f k).kb)
  (hnb:0<(f k).kn→lo≤nb∧nb<w.heap.size∧v.ownBlock≠some nb∧∀j,j<k→0<(f j).kn→kb j≠nb) (hs:(f k).data.size≤maxLen)
  (hown:w1.ownsRow lo 127 3 (.slice (some ⟨g,0,none⟩) (k+1) cap) (k+1) (sc f kv k ++ [.int .i64 (f k).birth,nv,.string (f k).data])) (hg:w.grownBy w1 v.ownBlock) (hat:v.ownBlock=some g∨g=w.heap.size) :
  Laid w1 lo (k+1) f (fun j=>if j=k then nb else kb j) (fun j=>if j=k then nv else kv j) (.slice (some ⟨g,0,none⟩) (k+1) cap):=by
 have t:=turned_of_grown hg
 have hsz:=t.size
 have far:∀b,b<w.heap.size→v.ownBlock≠some b→(Value.slice (some ⟨g,0,none⟩) (k+1) cap).ownBlock≠some b:=fun b hb hne e=>by
  have hgb:g=b:=by simpa [Value.ownBlock] using e
  rcases hat with hx | hx
  ·exact hne (by rw [hx,hgb])
  ·omega
 refine⟨?_,fun j hj=>?_,fun j hj h0=>?_,fun i j hi hj hij h1 h2=>?_,fun j hj=>?_⟩
 ·have e:sc f (fun j=>if j=k then nv else kv j) (k+1)=sc f kv k ++ [.int .i64 (f k).birth,nv,.string (f k).data]:=by
   show sc f _ k ++ [.int .i64 (f k).birth,(if k=k then nv else kv k),.string (f k).data]=_
   rw [if_pos rfl,sc_congr f (fun i hi=>if_neg (by omega))]
  rw [e]; exact hown
 ·by_cases e:j=k
  ·subst e
   simp only [if_true]
   exact hp.turned t (fun h0=>(hnb h0).2.2.1)
  ·simp only [if_neg e]
   exact(h.kids j (by omega)).turned t (fun h0=>(h.place j (by omega) h0).2.2)
 ·by_cases e:j=k
  ·subst e
   simp only [if_true]
   obtain⟨h1,h2,h3,_⟩:=hnb h0
   exact⟨h1,by omega,far _ h2 h3⟩
  ·simp only [if_neg e]
   obtain⟨h1,h2,h3⟩:=h.place j (by omega) h0
   exact⟨h1,by omega,far _ h2 h3⟩
 ·show(if i=k then nb else kb i)≠(if j=k then nb else kb j)
  by_cases e1:i=k
  ·by_cases e2:j=k
   ·omega
   ·rw [if_pos e1,if_neg e2]
    subst e1
    exact fun e=>(hnb h1).2.2.2 j (by omega) h2 e.symm
  ·by_cases e2:j=k
   ·rw [if_neg e1,if_pos e2]
    subst e2
    exact(hnb h2).2.2.2 i (by omega) h1
   ·rw [if_neg e1,if_neg e2]
    exact h.apart i j (by omega) (by omega) hij h1 h2
 ·by_cases e:j=k
  ·subst e; exact hs
  ·exact h.small j (by omega)
theorem Laid.put{w:World}{lo k:Nat}{f:Nat→SlotD}{kb:Nat→Nat}{kv:Nat→Value}{v:Value}(h:Laid w lo k f kb kv v){b o:Nat}(hb:b<lo)(u:Value):Laid (w.setCell ⟨b,o,none⟩ u) lo k f kb kv v:=
 ⟨ownsRow_setCell_below h.row hb u,fun j hj=>(h.kids j hj).turned (Turned.put _ _ _ _) (fun h0 e=>by have:=h.place j hj h0; omega),fun j hj h0=>by rw [World.size_setCell]; exact h.place j hj h0,h.apart,h.small⟩
theorem Laid.own{w:World}{lo n:Nat}{f:Nat→SlotD}{kb:Nat→Nat}{kv:Nat→Value}{v:Value}(h:Laid w lo n f kb kv v)(hn:n≤maxLen) :
  ∃bs,SlotsOwn w bs kb kv v n f∧∀k,SlotsB bs kb n f k→lo≤k∧k<w.heap.size:=by
 by_cases h0:0<n
 ·obtain⟨g,cap,rfl,hcp,hb,hlt,hcell⟩:=owns_cell h.row h0
  refine⟨g,⟨hn,_,cap,rfl,hcp,fun _=>⟨0,rfl,fun i hi=>⟨?_,?_,?_,h.kids i hi,h.small i hi,fun hk e=>(h.place i hi hk).2.2 (by rw [e]; rfl)⟩⟩⟩,fun k hk=>?_⟩
  ·have:=hcell (i*3+0) _ (sc_at f kv n i 0 hi (by omega)); simpa using this
  ·have:=hcell (i*3+1) _ (sc_at f kv n i 1 hi (by omega)); simpa using this
  ·have:=hcell (i*3+2) _ (sc_at f kv n i 2 hi (by omega)); simpa using this
  ·rcases hk with⟨_,rfl⟩ | ⟨i,hi,hk0,rfl⟩
   ·exact⟨hb,hlt⟩
   ·exact⟨(h.place i hi hk0).1,(h.place i hi hk0).2.1⟩
 ·obtain⟨a,cap,rfl,hcp⟩:=owns_form h.row
  refine⟨0,⟨hn,a,cap,rfl,hcp,fun hx=>absurd hx h0⟩,fun k hk=>?_⟩
  rcases hk with⟨hx,_⟩ | ⟨i,hi,_⟩
  ·exact absurd hx h0
  ·omega
def ic(f:Nat→Int):Nat→List Value
 | 0=>[]
 | k+1=>ic f k ++ [.int .i64 (f k)]
theorem ic_len(f:Nat→Int)(k:Nat):(ic f k).length=k*1:=by
 induction k with
 | zero=>rfl
 | succ k ih=>simp [ic,ih]
theorem ic_at(f:Nat→Int)(k i:Nat)(hi:i<k):(ic f k)[i]?=some (Value.int .i64 (f i)):=by
 induction k with
 | zero=>omega
 | succ k ih=>
  unfold ic
  by_cases e:i<k
  ·rw [List.getElem?_append_left (by rw [ic_len]; omega)]; exact ih e
  ·obtain rfl:i=k:=by omega
   rw [List.getElem?_append_right (by rw [ic_len]; omega),ic_len]
   simp
theorem ic_one(f:Nat→Int)(k:Nat):∀u∈ic f k,u.oneCell'=true:=by
 induction k with
 | zero=>intro u hu; simp [ic] at hu
 | succ k ih=>
  intro u hu
  simp only [ic,List.mem_append,List.mem_cons,List.not_mem_nil,or_false] at hu
  rcases hu with hu | rfl
  ·exact ih u hu
  ·rfl
theorem add_lit(b off j:Nat):(⟨b,off,none⟩:Addr).add j=⟨b,off+j,none⟩:=by unfold Addr.add; split <;> simp_all
theorem ic_cells{w:World}{b off:Nat}{f:Nat→Int}{n:Nat}(h:∀i,i<n→w.cell? ⟨b,off+i,none⟩=some (.int .i64 (f i))) :
  ∀j u,(ic f n)[j]?=some u→w.cell? ((⟨b,off,none⟩:Addr).add j)=some u:=by
 intro j u hj
 have hlt:j<n:=by
  have:=(List.getElem?_eq_some_iff.1 hj).1
  rw [ic_len] at this
  omega
 rw [ic_at f n j hlt] at hj
 rw [add_lit,h j hlt]
 exact hj
theorem row_room{w:World}{base e g n cap:Nat}{xs:List Value}(h:w.ownsRow base e 1 (.slice (some ⟨g,0,none⟩) n cap) n xs)(h0:0<n):0<n∧(some ⟨g,0,none⟩:Option Addr)=some ⟨g,0,none⟩∧cap≤maxLen∧∃cur,w.heap[g]?=some (.cells cur e (0,0))∧cur.size=cap:=by
 obtain⟨_,⟨h,rfl⟩ | ⟨g',cap',cur,hv,_,hg,_,h2,h3,_⟩⟩:=h
 ·omega
 ·simp only [Value.slice.injEq,Option.some.injEq,Addr.mk.injEq,and_true,true_and] at hv
  obtain⟨rfl,rfl⟩:=hv
  exact⟨h0,rfl,h2,cur,hg,by simpa using h3⟩
theorem ints_of_owns{w:World}{base n:Nat}{v:Value}{f:Nat→Int}(hm:n≤maxLen)(h:w.ownsRow base 2 1 v n (ic f n))(hz:n=0→∃a,v = .slice a 0 0):∃hb,IntsOwn w hb v n f∧(0<n→base≤hb∧hb<w.heap.size):=by
 by_cases h0:0<n
 ·obtain⟨gb,cap,rfl,hcp,hb,hlt,hcell⟩:=owns_cell h h0
  refine⟨gb,⟨hm,_,cap,rfl,hcp,fun _=>⟨0,rfl,fun i hi=>?_⟩,fun _=>?_⟩,fun _=>⟨hb,hlt⟩⟩
  ·have:=hcell i _ (ic_at f n i hi)
   simpa using this
  ·exact row_room h h0
 ·obtain⟨a,cap,rfl,hcp⟩:=owns_form h
  exact⟨0,⟨hm,a,cap,rfl,hcp,fun h=>absurd h h0,fun hlt=>by obtain⟨a2,e2⟩:=hz (by omega); simp only [Value.slice.injEq] at e2; omega⟩,fun h=>absurd h h0⟩
theorem hide{P:Prop}(h:P):Hid P:=h
theorem wpList_append_opt{P:Program}{w:World}{ops:Array Oper}{rest:List Oper}{o:Oper}{a:Act}{Q:Exit→Act→World→Prop}(hgd:o.guard=none)(s x:Operand)(t:TypeId)
  (ho:o.op = .call {callee:=.builtin .append,args:=#[s,x],argTypes:=#[t,t]})
  (base:Nat) (e:TypeId) (i:TypeInfo) (z:Value) (size bytes:Nat) (ht:P.underlying t=some (.slice e)) (hi:P.info? e=some i) (hz:i.zero=some z)
  (hsize:i.size=size) (hby:i.bytes=bytes) (hzs:z.cells.size=size) (hsz:0<size)
  (v:Value) (n:Nat) (xs:List Value) (hs:a.eval s=v) (hown:w.ownsRow base e size v n xs)
  (ao:Option Addr) (m c:Nat) (news:List Value) (hx:a.eval x = .slice ao m c) (hl:news.length=m*size) (h1:∀u∈news,u.oneCell'=true)
  (hnews:0<m→∃b off,ao=some ⟨b,off,none⟩∧∀j u,news[j]?=some u→w.cell? ⟨b,off+j,none⟩=some u)
  (h63:n+m≤maxLen) (hbytes:(n+m)*bytes≤140737488355328) (hbase:base≤w.heap.size)
  (h:∀v' w',w'.ownsRow base e size v' (n+m) (xs ++ news)→w.grownBy w' v.ownBlock→(m=0→v'=v)→wpList P ops Q rest (a.put o.dst v') w'):wpList P ops Q (o :: rest) a w:=by
 by_cases hm0:m=0
 ·have hn0:news = []:=List.eq_nil_of_length_eq_zero (by rw [hl,hm0,Nat.zero_mul])
  exact wpList_append_zero hgd s x t ho base e i size c m ao ht hi v n xs hs hown hm0 hx (h v w (by subst hm0; subst hn0; simpa using hown) ⟨rfl,rfl,rfl,Nat.le_refl _,fun _ _ _=>rfl⟩ (fun _=>rfl))
 cases ao with
 | none=>
  obtain⟨b,off,ha,_⟩:=hnews (by omega)
  simp at ha
 | some ad=>
  refine wpList_append_own w hgd s x t ho base e i z size bytes ht hi hz hsize hby hzs hsz v n xs hs hown ad m c news hx hl (fun j u hj=>?_) h1 h63 hbytes hbase (fun v' w' g1 g2 _=>h v' w' g1 g2 (fun e=>absurd e hm0))
  have h0:0<m:=by
   have:=(List.getElem?_eq_some_iff.1 hj).1
   rw [hl] at this
   rcases Nat.eq_zero_or_pos m with hm | hm
   ·rw [hm,Nat.zero_mul] at this; omega
   ·exact hm
  obtain⟨b,off,ha,hc⟩:=hnews h0
  simp only [Option.some.injEq] at ha
  subst ha
  rw [add_lit]
  exact hc j u hj
theorem news_at{w:World}{lo hi:Nat}{f:Nat→Int}{n:Nat}{v:Value}(h:IntsAt w lo hi v n f){a:Option Addr}{c:Nat}(hv:v = .slice a n c){w':World}(hb:Below w.heap.size w w') :
  0<n→∃b off,a=some ⟨b,off,none⟩∧∀j u,(ic f n)[j]?=some u→w'.cell? ⟨b,off+j,none⟩=some u:=by
 obtain⟨_,a0,c0,h0,_,g⟩:=h
 subst hv
 simp only [Value.slice.injEq,true_and] at h0
 obtain⟨rfl,rfl⟩:=h0
 intro hn
 obtain⟨b,off,ha,_,_,hc⟩:=g hn
 refine⟨b,off,ha,fun j u hj=>?_⟩
 have:=ic_cells hc j u hj
 rw [add_lit] at this
 exact(hb.cell (lt_of_cell this)).trans this
theorem Box2.grown{w w1:World}{v:Value}{b base e size n:Nat}{xs:List Value}{x y:Value}(h:Box2 w b x y)(hg:w.grownBy w1 v.ownBlock)(hown:w.ownsRow base e size v n xs)(hb:b<base):Box2 w1 b x y:=
 h.turned (turned_of_grown hg) (fun e=>by have:=hown.lt b e; omega)
theorem news3(w:World)(x y z:Value)(t:TypeId):∀j u,[x,y,z][j]?=some u→(w.alloc (.cells #[x,y,z] t)).cell? ((⟨w.heap.size,0,none⟩:Addr).add j)=some u:=by
 intro j u hj
 match j,hj with
 | 0,hj=>simp at hj; subst hj; simp [Addr.add]
 | 1,hj=>simp at hj; subst hj; simp [Addr.add]
 | 2,hj=>simp at hj; subst hj; simp [Addr.add]
 | (j+3),hj=>simp at hj
theorem one3(x:Int)(a:Option Addr)(n c:Nat)(s:ByteArray):∀u∈[Value.int .i64 x,.slice a n c,.string s],u.oneCell'=true:=by
 intro u hu
 simp only [List.mem_cons,List.not_mem_nil,or_false] at hu
 rcases hu with rfl | rfl | rfl <;> rfl
theorem laid_fresh{wr W:World}{lo k nb m:Nat}{f:Nat→SlotD}{kb:Nat→Nat}{kv:Nat→Value}{v:Value}(h:Laid wr lo k f kb kv v)(hlo:lo≤wr.heap.size)(h2:0<m→wr.heap.size≤nb∧nb<W.heap.size) :
  0<m→lo≤nb∧nb<W.heap.size∧v.ownBlock≠some nb∧∀j,j<k→0<(f j).kn→kb j≠nb:=fun h0=>by
 obtain⟨h3,h4⟩:=h2 h0
 exact⟨by omega,h4,fun e=>by have:=h.row.lt nb e; omega,fun j hj hk e=>by have:=h.place j hj hk; omega⟩
def NewParts(p:PoolD)(w:World)(e:Ending)(w':World):Prop:=
 ∃v0 v1 M bs kb kv,e = .returned (.agg #[v0,v1])∧SlotsOwn w' bs kb kv v0 p.n p.s∧KidsApart kb p.n p.s∧(∀k,SlotsB bs kb p.n p.s k→M≤k∧k<w'.heap.size)∧
  w'.ownsRow w.heap.size 2 1 v1 p.hn (ic p.h p.hn)∧(∀k,v1.ownBlock=some k→w.heap.size≤k∧k<M)∧w.heap.size≤M∧M≤w'.heap.size∧Below w.heap.size w w'∧(p.hn=0→∃a,v1 = .slice a 0 0)
theorem ints_of_owns2{w:World}{base n:Nat}{v:Value}{f:Nat→Int}(hm:n≤maxLen)(h:w.ownsRow base 2 1 v n (ic f n))(hz:n=0→∃a,v = .slice a 0 0):∃hb,IntsOwn w hb v n f∧(0<n→v.ownBlock=some hb):=by
 by_cases h0:0<n
 ·obtain⟨gb,cap,rfl,hcp,hb,hlt,hcell⟩:=owns_cell h h0
  refine⟨gb,⟨hm,_,cap,rfl,hcp,fun _=>⟨0,rfl,fun i hi=>?_⟩,fun _=>?_⟩,fun _=>rfl⟩
  ·have:=hcell i _ (ic_at f n i hi)
   simpa using this
  ·exact row_room h h0
 ·obtain⟨a,cap,rfl,hcp⟩:=owns_form h
  exact⟨0,⟨hm,a,cap,rfl,hcp,fun h=>absurd h h0,fun hlt=>by obtain⟨a2,e2⟩:=hz (by omega); simp only [Value.slice.injEq] at e2; omega⟩,fun h=>absurd h h0⟩
theorem parts_own{w':World}{p:PoolD}{v0 v1:Value}{B M bs base:Nat}{kb:Nat→Nat}{kv:Nat→Value}(h1:SlotsOwn w' bs kb kv v0 p.n p.s)(h2:KidsApart kb p.n p.s)(h3:∀k,SlotsB bs kb p.n p.s k→M≤k∧k<w'.heap.size)(hm:p.hn≤maxLen)
  (h4:w'.ownsRow base 2 1 v1 p.hn (ic p.h p.hn)) (h5:∀k,v1.ownBlock=some k→B≤k∧(k<M∨w'.heap.size≤k∨(k<w'.heap.size∧¬SlotsB bs kb p.n p.s k))) (h6:B≤M) (hz:p.hn=0→∃a,v1 = .slice a 0 0):PoolOwn w' B w'.heap.size v0 v1 p:=by
 obtain⟨hb,hi,hbk⟩:=ints_of_owns2 hm h4 hz
 refine⟨bs,hb,kb,kv,h1,h2,hi,fun h0 hx=>?_,fun k hk=>?_⟩
 ·have a:=h3 _ hx
  have b:=h5 _ (hbk h0)
  rcases b.2 with b2 | b2 | b2
  ·omega
  ·omega
  ·exact b2.2 hx
 ·rcases hk with hk | ⟨h0,rfl⟩
  ·have:=h3 _ hk; omega
  ·have b:=h5 _ (hbk h0)
   have c:=h4.lt _ (hbk h0)
   exact⟨b.1,c.2⟩
theorem own_base{w:World}{B B' e size n:Nat}{v:Value}{xs:List Value}(h:w.ownsRow B' e size v n xs)(hB:B≤B'):w.ownsRow B e size v n xs:=
 ⟨h.1,h.2.imp id (fun ⟨g,cap,cur,a,b,c⟩=>⟨g,cap,cur,a,Nat.le_trans hB b,c⟩)⟩
def pcl:List (Int×Int)→List Value
 | []=>[]
 | x :: l=>.int .i64 x.1 :: .int .i64 x.2 :: pcl l
theorem pcl_len:∀l,(pcl l).length=l.length*2
 | []=>rfl
 | x :: l=>by simp [pcl,pcl_len l]; omega
theorem pcl_append:∀l m,pcl (l ++ m)=pcl l ++ pcl m
 | [],m=>rfl
 | x :: l,m=>by simp [pcl,pcl_append l m]
theorem pcl_one:∀l,∀u∈pcl l,u.oneCell'=true
 | [],u,hu=>by simp [pcl] at hu
 | x :: l,u,hu=>by
  simp only [pcl,List.mem_cons] at hu
  rcases hu with rfl | rfl | hu
  ·rfl
  ·rfl
  ·exact pcl_one l u hu
theorem pcl_get:∀(l:List (Int×Int)) i,i<l.length→(pcl l)[i*2]?=some (.int .i64 (l.getD i (0,0)).1)∧(pcl l)[i*2+1]?=some (.int .i64 (l.getD i (0,0)).2):=by
 intro l
 induction l with
 | nil=>intro i hi; simp at hi
 | cons x l ih=>
  intro i hi
  cases i with
  | zero=>exact⟨rfl,rfl⟩
  | succ i=>
   have:=ih i (by simpa using hi)
   rw [show(i+1)*2=i*2+1+1 by omega]
   simpa [pcl] using this
def fstL(l:List (Int×Int))(i:Nat):Int:=(l.getD i (0,0)).1
def sndL(l:List (Int×Int))(i:Nat):Int:=(l.getD i (0,0)).2
theorem infoPtrL:(Tryz.prog.info? 61).map (fun i=>(i.zero,i.size,i.bytes))=some (some (.agg #[.int .i64 0,.int .i64 0]),2,16):=by kernel_rfl
theorem grownL{w w1:World}(h:Below w.heap.size w w1)(row:Option Nat):w.grownBy w1 row:=⟨h.os,h.tape,h.output,h.size,fun k hk _=>h.block k hk⟩
def RowL(w:World)(base:Nat)(v:Value)(l:List (Int×Int)):Prop:=w.ownsRow base 61 2 v l.length (pcl l)
theorem RowL.below{w w1:World}{base:Nat}{v:Value}{l:List (Int×Int)}(h:RowL w base v l)(hb:Below w.heap.size w w1):RowL w1 base v l:=
 h.kept (grownL hb none) (by cases v.ownBlock <;> simp)
theorem RowL.turned{w w1:World}{base:Nat}{v:Value}{l:List (Int×Int)}{row:Option Nat}(h:RowL w base v l)(hg:w.grownBy w1 row)(hne:∀q,v.ownBlock=some q→row≠some q):RowL w1 base v l:=
 h.kept hg (by
  cases hv:v.ownBlock with
  | none=>simp
  | some q=>exact Or.inr (fun e=>hne q hv e.symm))
theorem RowL.nil(w:World)(base:Nat):RowL w base (.slice none 0 0) []:=World.ownsRow_nil _ _ _ _
theorem RowL.mono{w:World}{base base':Nat}{v:Value}{l:List (Int×Int)}(h:RowL w base v l)(hb:base'≤base):RowL w base' v l:=by
 refine⟨h.1,h.2.imp id ?_⟩
 rintro⟨g,cap,cur,e,h1,h2⟩
 exact⟨g,cap,cur,e,Nat.le_trans hb h1,h2⟩
theorem RowL.put{w:World}{base b o:Nat}{v:Value}{l:List (Int×Int)}(h:RowL w base v l)(hb:b<base)(u:Value):RowL (w.setCell ⟨b,o,none⟩ u) base v l:=by
 refine⟨h.1,h.2.imp id ?_⟩
 rintro⟨g,cap,cur,e,h1,h2,h3⟩
 exact⟨g,cap,cur,e,h1,(Below.heap_setCell _ _ _ _ (fun e=>by have:g=b:=e; omega)).trans h2,h3⟩
theorem RowL.lt{w:World}{base:Nat}{v:Value}{l:List (Int×Int)}(h:RowL w base v l){q:Nat}(hq:v.ownBlock=some q):base≤q∧q<w.heap.size:=by
 rcases h.2 with⟨rfl,_⟩ | ⟨g,cap,cur,rfl,hb,hg,_⟩
 ·simp [Value.ownBlock] at hq
 ·simp only [Value.ownBlock,Option.some.injEq] at hq
  subst hq
  exact⟨hb,(Array.getElem?_eq_some_iff.1 hg).1⟩
theorem RowL.own{w:World}{base:Nat}{v:Value}{l:List (Int×Int)}(h:RowL w base v l)(hm:l.length≤maxLen):∃b,PtrsOwn w b v l.length (fstL l) (sndL l)∧(0<l.length→v.ownBlock=some b∧base≤b∧b<w.heap.size):=by
 by_cases h0:0<l.length
 ·obtain⟨g,cap,rfl,hcp,hb,hlt,hcell⟩:=owns_cell h h0
  refine⟨g,⟨hm,_,cap,rfl,hcp,fun _=>⟨0,rfl,fun i hi=>?_⟩⟩,fun _=>⟨rfl,hb,hlt⟩⟩
  rw [Nat.zero_add]
  exact⟨hcell _ _ (pcl_get l i hi).1,hcell _ _ (pcl_get l i hi).2⟩
 ·obtain⟨a,cap,rfl,hcp⟩:=owns_form h
  exact⟨0,⟨hm,a,cap,rfl,hcp,fun h=>absurd h h0⟩,fun h=>absurd h h0⟩
structure Two (w:World) (lo hi:Nat) (v v':Value) (l l':List (Int×Int)) (b b':Nat):Prop where
 one:PtrsOwn w b v l.length (fstL l) (sndL l)
 two:PtrsOwn w b' v' l'.length (fstL l') (sndL l')
 in1:0<l.length→lo≤b∧b<hi
 in2:0<l'.length→lo≤b'∧b'<hi
 apart:0<l.length→0<l'.length→b≠b'
theorem Two.of{w:World}{lo:Nat}{v v':Value}{l l':List (Int×Int)}(h:RowL w lo v l)(h':RowL w lo v' l')(hm:l.length≤maxLen)(hm':l'.length≤maxLen)(ha:∀q,v.ownBlock=some q→v'.ownBlock≠some q):∃b b',Two w lo w.heap.size v v' l l' b b':=by
 obtain⟨b,h1,h2⟩:=h.own hm
 obtain⟨b',h3,h4⟩:=h'.own hm'
 refine⟨b,b',h1,h3,fun h0=>(h2 h0).2,fun h0=>(h4 h0).2,fun h0 h0' e=>?_⟩
 subst e
 exact ha _ (h2 h0).1 (h4 h0').1
theorem Two.below{w w':World}{lo hi:Nat}{v v':Value}{l l':List (Int×Int)}{b b':Nat}(h:Two w lo hi v v' l l' b b')(t:Below w.heap.size w w'):Two w' lo hi v v' l l' b b':=⟨h.one.below t,h.two.below t,h.in1,h.in2,h.apart⟩
theorem Two.turned{S:Nat→Prop}{w w':World}{lo hi:Nat}{v v':Value}{l l':List (Int×Int)}{b b':Nat}(h:Two w lo hi v v' l l' b b')(t:Turned S w w')(hs:∀k,S k→k<lo∨hi≤k):Two w' lo hi v v' l l' b b':=
 ⟨h.one.turned t (fun h0 hx=>by have:=h.in1 h0; have:=hs _ hx; omega),h.two.turned t (fun h0 hx=>by have:=h.in2 h0; have:=hs _ hx; omega),h.in1,h.in2,h.apart⟩
end Go.Proofs.YtmgeglgboadfiaaGreatDoor
