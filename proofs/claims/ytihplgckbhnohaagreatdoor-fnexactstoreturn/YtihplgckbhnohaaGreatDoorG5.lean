/- Cells of lists of pointers; a list that is appended to nothing (no law is proved here). -/
import Derived.Test.YtihplgckbhnohaaGreatDoorG4
import Derived.Laws.OwnMore
import Derived.Lib.SliceRun
import Derived.Test.YtihplgckbhnohaaGreatDoorG1
import Derived.Deep.AppendLies
import Derived.Deep.RegionHeld3
import Derived.Deep.RegionLaw
namespace Go.Proofs.YtihplgckbhnohaaGreatDoor
open Go.RowKit
set_option linter.unusedVariables false
def NewSlot(s:SlotD)(w:World)(e:Ending)(w':World):Prop:=
 ∃kv kb,e = .returned (.agg #[.int .i64 s.birth,kv,.string s.data])∧PtrsOwn w' kb kv s.kn s.ks s.kb∧(0<s.kn→w.heap.size≤kb∧kb<w'.heap.size)∧Below w.heap.size w w'
def kc(f g:Nat→Int):Nat→List Value
 | 0=>[]
 | k+1=>kc f g k ++ [.int .i64 (f k),.int .i64 (g k)]
theorem kc_len(f g:Nat→Int)(k:Nat):(kc f g k).length=k*2:=by
 induction k with
 | zero=>rfl
 | succ k ih=>simp [kc,ih]; omega
theorem kc_at(f g:Nat→Int)(k i r:Nat)(hi:i<k)(hr:r<2):(kc f g k)[i*2+r]? = [Value.int .i64 (f i),.int .i64 (g i)][r]?:=by
 induction k with
 | zero=>omega
 | succ k ih=>
  unfold kc
  by_cases e:i<k
  ·rw [List.getElem?_append_left (by rw [kc_len]; omega)]; exact ih e
  ·obtain rfl:i=k:=by omega
   rw [List.getElem?_append_right (by rw [kc_len]; omega),kc_len]
   congr 1; omega
theorem kc_one(f g:Nat→Int)(k:Nat):∀u∈kc f g k,u.oneCell'=true:=by
 induction k with
 | zero=>intro u hu; simp [kc] at hu
 | succ k ih=>
  intro u hu
  simp only [kc,List.mem_append,List.mem_cons,List.not_mem_nil,or_false] at hu
  rcases hu with hu | rfl | rfl
  ·exact ih u hu
  ·rfl
  ·rfl
theorem kc_cells{w:World}{b off:Nat}{f g:Nat→Int}{n:Nat}(h:∀i,i<n→w.cell? ⟨b,off+i*2,none⟩=some (.int .i64 (f i))∧w.cell? ⟨b,off+i*2+1,none⟩=some (.int .i64 (g i))) :
  ∀j u,(kc f g n)[j]?=some u→w.cell? ((⟨b,off,none⟩:Addr).add j)=some u:=by
 intro j u hj
 have hlt:j<n*2:=by
  have:=(List.getElem?_eq_some_iff.1 hj).1
  rwa [kc_len] at this
 have hadd:(⟨b,off,none⟩:Addr).add j=⟨b,off+j,none⟩:=by unfold Addr.add; split <;> simp_all
 rw [hadd]
 obtain⟨c0,c1⟩:=h (j / 2) (by omega)
 have e:=kc_at f g n (j / 2) (j % 2) (by omega) (by omega)
 rw [show j / 2*2+j % 2=j by omega,hj] at e
 rcases(by omega:j % 2=0∨j % 2=1)with hm | hm
 ·rw [hm] at e
  simp at e
  subst e
  rw [show off+j=off+j / 2*2 by omega]
  exact c0
 ·rw [hm] at e
  simp at e
  subst e
  rw [show off+j=off+j / 2*2+1 by omega]
  exact c1
theorem ptrs_of_owns{w:World}{base e n:Nat}{v:Value}{f g:Nat→Int}(hm:n≤maxLen)(h:w.ownsRow base e 2 v n (kc f g n)):∃kb,PtrsOwn w kb v n f g∧(0<n→base≤kb∧kb<w.heap.size):=by
 by_cases h0:0<n
 ·obtain⟨gb,cap,rfl,hcp,hb,hlt,hcell⟩:=owns_cell h h0
  refine⟨gb,⟨hm,_,cap,rfl,hcp,fun _=>⟨0,rfl,fun i hi=>⟨?_,?_⟩⟩⟩,fun _=>⟨hb,hlt⟩⟩
  ·have:=hcell (i*2+0) _ (kc_at f g n i 0 hi (by omega))
   simpa using this
  ·have:=hcell (i*2+1) _ (kc_at f g n i 1 hi (by omega))
   simpa using this
 ·obtain⟨a,cap,rfl,hcp⟩:=owns_form h
  exact⟨0,⟨hm,a,cap,rfl,hcp,fun h=>absurd h h0⟩,fun h=>absurd h h0⟩
theorem run_append_nil{P:Program}{w:World}(base:Nat)(t ty e:TypeId)(i:TypeInfo)(size c:Nat)(ht:P.underlying t=some (.slice e))(hi:P.info? e=some i)
  (v:Value) (n:Nat) (xs:List Value) (hown:w.ownsRow base e size v n xs) :
  (Builtin.append_ #[t,t] ty #[v,.slice none 0 c]).run P w = .ok v w:=by
 rcases hown.2 with⟨rfl,rfl⟩ | ⟨g,cap,cur,rfl,_,_,hnc,_⟩
 ·simp [Builtin.append_,run_underlying ht,sizeOf,typeInfo,hi,Builtin.lenOf,Builtin.firstCells]
 ·simp [Builtin.append_,run_underlying ht,sizeOf,typeInfo,hi,Builtin.lenOf,Builtin.firstCells,hnc,storeCells]
theorem wpList_append_nil{P:Program}{w:World}{ops:Array Oper}{rest:List Oper}{o:Oper}{a:Act}{Q:Exit→Act→World→Prop}(hgd:o.guard=none)(s x:Operand)(t:TypeId)
  (ho:o.op = .call {callee:=.builtin .append,args:=#[s,x],argTypes:=#[t,t]})
  (base:Nat) (e:TypeId) (i:TypeInfo) (size c m:Nat) (ht:P.underlying t=some (.slice e)) (hi:P.info? e=some i)
  (v:Value) (n:Nat) (xs:List Value) (hs:a.eval s=v) (hown:w.ownsRow base e size v n xs) (hm:m=0) (hx:a.eval x = .slice none m c)
  (h:wpList P ops Q rest (a.put o.dst v) w):wpList P ops Q (o :: rest) a w:=by
 subst hm
 refine wpList_plain hgd fun K hK=>?_
 have hrun:=run_append_nil (P:=P) (w:=w) base t o.type e i size c ht hi v n xs hown
 unfold Oper.wp
 simp [execOp,ho,resolve,invoke,builtin,hs,hx,hrun,Result.andThen]
 exact hK _ _ h
theorem run_append_zero{P:Program}{w:World}(base:Nat)(t ty e:TypeId)(i:TypeInfo)(size c:Nat)(ao:Option Addr)(ht:P.underlying t=some (.slice e))(hi:P.info? e=some i)
  (v:Value) (n:Nat) (xs:List Value) (hown:w.ownsRow base e size v n xs) :
  (Builtin.append_ #[t,t] ty #[v,.slice ao 0 c]).run P w = .ok v w:=by
 rcases hown.2 with⟨rfl,rfl⟩ | ⟨g,cap,cur,rfl,_,_,hnc,_⟩
 ·cases ao <;> simp [Builtin.append_,run_underlying ht,sizeOf,typeInfo,hi,Builtin.lenOf,Builtin.firstCells,loadCells,loadCellsFrom]
 ·cases ao <;> simp [Builtin.append_,run_underlying ht,sizeOf,typeInfo,hi,Builtin.lenOf,Builtin.firstCells,hnc,storeCells,loadCells,loadCellsFrom]
theorem wpList_append_zero{P:Program}{w:World}{ops:Array Oper}{rest:List Oper}{o:Oper}{a:Act}{Q:Exit→Act→World→Prop}(hgd:o.guard=none)(s x:Operand)(t:TypeId)
  (ho:o.op = .call {callee:=.builtin .append,args:=#[s,x],argTypes:=#[t,t]})
  (base:Nat) (e:TypeId) (i:TypeInfo) (size c m:Nat) (ao:Option Addr) (ht:P.underlying t=some (.slice e)) (hi:P.info? e=some i)
  (v:Value) (n:Nat) (xs:List Value) (hs:a.eval s=v) (hown:w.ownsRow base e size v n xs) (hm:m=0) (hx:a.eval x = .slice ao m c)
  (h:wpList P ops Q rest (a.put o.dst v) w):wpList P ops Q (o :: rest) a w:=by
 subst hm
 refine wpList_plain hgd fun K hK=>?_
 have hrun:=run_append_zero (P:=P) (w:=w) base t o.type e i size c ao ht hi v n xs hown
 unfold Oper.wp
 simp [execOp,ho,resolve,invoke,builtin,hs,hx,hrun,Result.andThen]
 exact hK _ _ h
theorem infoPtrT:(Tryz.prog.info? 88).map (fun i=>(i.zero,i.size,i.bytes))=some (some (.agg #[.int .i64 0,.int .i64 0]),2,16):=by kernel_rfl
end Go.Proofs.YtihplgckbhnohaaGreatDoor

namespace Go.Proofs.YtihplgckbhnohaaGreatDoor
open Go.RowKit
set_option linter.unusedVariables false
def sc(f:Nat→SlotD)(kv:Nat→Value):Nat→List Value
 | 0=>[]
 | k+1=>sc f kv k ++ [.int .i64 (f k).birth,kv k,.string (f k).data]
theorem sc_len(f:Nat→SlotD)(kv:Nat→Value)(k:Nat):(sc f kv k).length=k*3:=by
 induction k with
 | zero=>rfl
 | succ k ih=>simp [sc,ih]; omega
theorem sc_at(f:Nat→SlotD)(kv:Nat→Value)(k i r:Nat)(hi:i<k)(hr:r<3):(sc f kv k)[i*3+r]? = [Value.int .i64 (f i).birth,kv i,.string (f i).data][r]?:=by
 induction k with
 | zero=>omega
 | succ k ih=>
  unfold sc
  by_cases e:i<k
  ·rw [List.getElem?_append_left (by rw [sc_len]; omega)]; exact ih e
  ·obtain rfl:i=k:=by omega
   rw [List.getElem?_append_right (by rw [sc_len]; omega),sc_len]
   congr 1; omega
theorem sc_congr(f:Nat→SlotD){kv kv':Nat→Value}{k:Nat}(h:∀i,i<k→kv i=kv' i):sc f kv k=sc f kv' k:=by
 induction k with
 | zero=>rfl
 | succ k ih=>
  unfold sc
  rw [ih (fun i hi=>h i (by omega)),h k (by omega)]
theorem sc_one(f:Nat→SlotD)(kv:Nat→Value)(k:Nat)(h:∀i,i<k→(kv i).oneCell'=true):∀u∈sc f kv k,u.oneCell'=true:=by
 induction k with
 | zero=>intro u hu; simp [sc] at hu
 | succ k ih=>
  intro u hu
  simp only [sc,List.mem_append,List.mem_cons,List.not_mem_nil,or_false] at hu
  rcases hu with hu | rfl | rfl | rfl
  ·exact ih (fun i hi=>h i (by omega)) u hu
  ·rfl
  ·exact h k (by omega)
  ·rfl
theorem turned_of_grown{w w1:World}{row:Option Nat}(h:w.grownBy w1 row):Turned (fun b=>row=some b) w w1:=⟨h.os,h.tape,h.output,h.size,fun k hk hs=>h.block k hk (fun e=>hs e.symm)⟩
theorem grown_of_below{w w1:World}(h:Below w.heap.size w w1)(row:Option Nat):w.grownBy w1 row:=⟨h.os,h.tape,h.output,h.size,fun k hk _=>h.block k hk⟩
structure Laid (w:World) (lo k:Nat) (f:Nat→SlotD) (kb:Nat→Nat) (kv:Nat→Value) (v:Value):Prop where
 row:w.ownsRow lo 66 3 v k (sc f kv k)
 kids:∀j,j<k→PtrsOwn w (kb j) (kv j) (f j).kn (f j).ks (f j).kb
 place:∀j,j<k→0<(f j).kn→lo≤kb j∧kb j<w.heap.size∧v.ownBlock≠some (kb j)
 apart:KidsApart kb k f
 small:∀j,j<k→(f j).data.size≤maxLen
theorem Laid.nil(w:World)(lo:Nat)(f:Nat→SlotD):Laid w lo 0 f (fun _=>0) (fun _=>.slice none 0 0) (.slice none 0 0):=
 ⟨World.ownsRow_nil _ _ _ _,fun j hj=>absurd hj (Nat.not_lt_zero _),fun j hj=>absurd hj (Nat.not_lt_zero _),fun i j hi=>absurd hi (Nat.not_lt_zero _),fun j hj=>absurd hj (Nat.not_lt_zero _)⟩
theorem Laid.below{w w':World}{lo k:Nat}{f:Nat→SlotD}{kb:Nat→Nat}{kv:Nat→Value}{v:Value}(h:Laid w lo k f kb kv v)(t:Below w.heap.size w w'):Laid w' lo k f kb kv v:=
 ⟨h.row.kept (grown_of_below t none) (by cases hv:v.ownBlock <;> simp),fun j hj=>(h.kids j hj).below t,fun j hj h0=>by have h1:=h.place j hj h0; have:=t.size; exact⟨h1.1,by omega,h1.2.2⟩,h.apart,h.small⟩
theorem Laid.next{w w1:World}{lo k:Nat}{f:Nat→SlotD}{kb:Nat→Nat}{kv:Nat→Value}{v:Value}(h:Laid w lo k f kb kv v){nb g cap:Nat}{nv:Value}(hp:PtrsOwn w nb nv (f k).kn (f k).ks (f k).kb)
  (hnb:0<(f k).kn→lo≤nb∧nb<w.heap.size∧v.ownBlock≠some nb∧∀j,j<k→0<(f j).kn→kb j≠nb) (hs:(f k).data.size≤maxLen)
  (hown:w1.ownsRow lo 66 3 (.slice (some ⟨g,0,none⟩) (k+1) cap) (k+1) (sc f kv k ++ [.int .i64 (f k).birth,nv,.string (f k).data])) (hg:w.grownBy w1 v.ownBlock) (hat:v.ownBlock=some g∨g=w.heap.size) :
  Laid w1 lo (k+1) f (fun j=>if j=k then nb else kb j) (fun j=>if j=k then nv else kv j) (.slice (some ⟨g,0,none⟩) (k+1) cap):=by
 have t:=turned_of_grown hg
 have hsz:=t.size
 have far:∀b,b<w.heap.size→v.ownBlock≠some b→(Value.slice (some ⟨g,0,none⟩) (k+1) cap).ownBlock≠some b:=fun b hb hne e=>by
  have hgb:g=b:=by simpa [Value.ownBlock] using e
  rcases hat with hx | hx
  ·exact hne (by rw [hx,hgb])
  ·omega
 refine⟨?_,fun j hj=>?_,fun j hj h0=>?_,fun i j hi hj hij h1 h2=>?_,fun j hj=>?_⟩
 ·have e:sc f (fun j=>if j=k then nv else kv j) (k+1)=sc f kv k ++ [.int .i64 (f k).birth,nv,.string (f k).data]:=by
   show sc f _ k ++ [.int .i64 (f k).birth,(if k=k then nv else kv k),.string (f k).data]=_
   rw [if_pos rfl,sc_congr f (fun i hi=>if_neg (by omega))]
  rw [e]; exact hown
 ·by_cases e:j=k
  ·subst e
   simp only [if_true]
   exact hp.turned t (fun h0=>(hnb h0).2.2.1)
  ·simp only [if_neg e]
   exact(h.kids j (by omega)).turned t (fun h0=>(h.place j (by omega) h0).2.2)
 ·by_cases e:j=k
  ·subst e
   simp only [if_true]
   obtain⟨h1,h2,h3,_⟩:=hnb h0
   exact⟨h1,by omega,far _ h2 h3⟩
  ·simp only [if_neg e]
   obtain⟨h1,h2,h3⟩:=h.place j (by omega) h0
   exact⟨h1,by omega,far _ h2 h3⟩
 ·show(if i=k then nb else kb i)≠(if j=k then nb else kb j)
  by_cases e1:i=k
  ·by_cases e2:j=k
   ·omega
   ·rw [if_pos e1,if_neg e2]
    subst e1
    exact fun e=>(hnb h1).2.2.2 j (by omega) h2 e.symm
  ·by_cases e2:j=k
   ·rw [if_neg e1,if_pos e2]
    subst e2
    exact(hnb h2).2.2.2 i (by omega) h1
   ·rw [if_neg e1,if_neg e2]
    exact h.apart i j (by omega) (by omega) hij h1 h2
 ·by_cases e:j=k
  ·subst e; exact hs
  ·exact h.small j (by omega)
theorem Laid.put{w:World}{lo k:Nat}{f:Nat→SlotD}{kb:Nat→Nat}{kv:Nat→Value}{v:Value}(h:Laid w lo k f kb kv v){b o:Nat}(hb:b<lo)(u:Value):Laid (w.setCell ⟨b,o,none⟩ u) lo k f kb kv v:=
 ⟨ownsRow_setCell_below h.row hb u,fun j hj=>(h.kids j hj).turned (Turned.put _ _ _ _) (fun h0 e=>by have:=h.place j hj h0; omega),fun j hj h0=>by rw [World.size_setCell]; exact h.place j hj h0,h.apart,h.small⟩
theorem Laid.own{w:World}{lo n:Nat}{f:Nat→SlotD}{kb:Nat→Nat}{kv:Nat→Value}{v:Value}(h:Laid w lo n f kb kv v)(hn:n≤maxLen) :
  ∃bs,SlotsOwn w bs kb kv v n f∧∀k,SlotsB bs kb n f k→lo≤k∧k<w.heap.size:=by
 by_cases h0:0<n
 ·obtain⟨g,cap,rfl,hcp,hb,hlt,hcell⟩:=owns_cell h.row h0
  refine⟨g,⟨hn,_,cap,rfl,hcp,fun _=>⟨0,rfl,fun i hi=>⟨?_,?_,?_,h.kids i hi,h.small i hi,fun hk e=>(h.place i hi hk).2.2 (by rw [e]; rfl)⟩⟩⟩,fun k hk=>?_⟩
  ·have:=hcell (i*3+0) _ (sc_at f kv n i 0 hi (by omega)); simpa using this
  ·have:=hcell (i*3+1) _ (sc_at f kv n i 1 hi (by omega)); simpa using this
  ·have:=hcell (i*3+2) _ (sc_at f kv n i 2 hi (by omega)); simpa using this
  ·rcases hk with⟨_,rfl⟩ | ⟨i,hi,hk0,rfl⟩
   ·exact⟨hb,hlt⟩
   ·exact⟨(h.place i hi hk0).1,(h.place i hi hk0).2.1⟩
 ·obtain⟨a,cap,rfl,hcp⟩:=owns_form h.row
  refine⟨0,⟨hn,a,cap,rfl,hcp,fun hx=>absurd hx h0⟩,fun k hk=>?_⟩
  rcases hk with⟨hx,_⟩ | ⟨i,hi,_⟩
  ·exact absurd hx h0
  ·omega
def ic(f:Nat→Int):Nat→List Value
 | 0=>[]
 | k+1=>ic f k ++ [.int .i64 (f k)]
theorem ic_len(f:Nat→Int)(k:Nat):(ic f k).length=k*1:=by
 induction k with
 | zero=>rfl
 | succ k ih=>simp [ic,ih]
theorem ic_at(f:Nat→Int)(k i:Nat)(hi:i<k):(ic f k)[i]?=some (Value.int .i64 (f i)):=by
 induction k with
 | zero=>omega
 | succ k ih=>
  unfold ic
  by_cases e:i<k
  ·rw [List.getElem?_append_left (by rw [ic_len]; omega)]; exact ih e
  ·obtain rfl:i=k:=by omega
   rw [List.getElem?_append_right (by rw [ic_len]; omega),ic_len]
   simp
theorem ic_one(f:Nat→Int)(k:Nat):∀u∈ic f k,u.oneCell'=true:=by
 induction k with
 | zero=>intro u hu; simp [ic] at hu
 | succ k ih=>
  intro u hu
  simp only [ic,List.mem_append,List.mem_cons,List.not_mem_nil,or_false] at hu
  rcases hu with hu | rfl
  ·exact ih u hu
  ·rfl
theorem add_lit(b off j:Nat):(⟨b,off,none⟩:Addr).add j=⟨b,off+j,none⟩:=by unfold Addr.add; split <;> simp_all
theorem ic_cells{w:World}{b off:Nat}{f:Nat→Int}{n:Nat}(h:∀i,i<n→w.cell? ⟨b,off+i,none⟩=some (.int .i64 (f i))) :
  ∀j u,(ic f n)[j]?=some u→w.cell? ((⟨b,off,none⟩:Addr).add j)=some u:=by
 intro j u hj
 have hlt:j<n:=by
  have:=(List.getElem?_eq_some_iff.1 hj).1
  rw [ic_len] at this
  omega
 rw [ic_at f n j hlt] at hj
 rw [add_lit,h j hlt]
 exact hj
theorem row_room{w:World}{base e g n cap:Nat}{xs:List Value}(h:w.ownsRow base e 1 (.slice (some ⟨g,0,none⟩) n cap) n xs)(h0:0<n):0<n∧(some ⟨g,0,none⟩:Option Addr)=some ⟨g,0,none⟩∧cap≤maxLen∧∃cur,w.heap[g]?=some (.cells cur e (0,0))∧cur.size=cap:=by
 obtain⟨_,⟨h,rfl⟩ | ⟨g',cap',cur,hv,_,hg,_,h2,h3,_⟩⟩:=h
 ·omega
 ·simp only [Value.slice.injEq,Option.some.injEq,Addr.mk.injEq,and_true,true_and] at hv
  obtain⟨rfl,rfl⟩:=hv
  exact⟨h0,rfl,h2,cur,hg,by simpa using h3⟩
theorem ints_of_owns{w:World}{base n:Nat}{v:Value}{f:Nat→Int}(hm:n≤maxLen)(h:w.ownsRow base 2 1 v n (ic f n))(hz:n=0→∃a,v = .slice a 0 0):∃hb,IntsOwn w hb v n f∧(0<n→base≤hb∧hb<w.heap.size):=by
 by_cases h0:0<n
 ·obtain⟨gb,cap,rfl,hcp,hb,hlt,hcell⟩:=owns_cell h h0
  refine⟨gb,⟨hm,_,cap,rfl,hcp,fun _=>⟨0,rfl,fun i hi=>?_⟩,fun _=>?_⟩,fun _=>⟨hb,hlt⟩⟩
  ·have:=hcell i _ (ic_at f n i hi)
   simpa using this
  ·exact row_room h h0
 ·obtain⟨a,cap,rfl,hcp⟩:=owns_form h
  exact⟨0,⟨hm,a,cap,rfl,hcp,fun h=>absurd h h0,fun hlt=>by obtain⟨a2,e2⟩:=hz (by omega); simp only [Value.slice.injEq] at e2; omega⟩,fun h=>absurd h h0⟩
theorem hide{P:Prop}(h:P):Hid P:=h
theorem wpList_append_opt{P:Program}{w:World}{ops:Array Oper}{rest:List Oper}{o:Oper}{a:Act}{Q:Exit→Act→World→Prop}(hgd:o.guard=none)(s x:Operand)(t:TypeId)
  (ho:o.op = .call {callee:=.builtin .append,args:=#[s,x],argTypes:=#[t,t]})
  (base:Nat) (e:TypeId) (i:TypeInfo) (z:Value) (size bytes:Nat) (ht:P.underlying t=some (.slice e)) (hi:P.info? e=some i) (hz:i.zero=some z)
  (hsize:i.size=size) (hby:i.bytes=bytes) (hzs:z.cells.size=size) (hsz:0<size)
  (v:Value) (n:Nat) (xs:List Value) (hs:a.eval s=v) (hown:w.ownsRow base e size v n xs)
  (ao:Option Addr) (m c:Nat) (news:List Value) (hx:a.eval x = .slice ao m c) (hl:news.length=m*size) (h1:∀u∈news,u.oneCell'=true)
  (hnews:0<m→∃b off,ao=some ⟨b,off,none⟩∧∀j u,news[j]?=some u→w.cell? ⟨b,off+j,none⟩=some u)
  (h63:n+m≤maxLen) (hbytes:(n+m)*bytes≤140737488355328) (hbase:base≤w.heap.size)
  (h:∀v' w',w'.ownsRow base e size v' (n+m) (xs ++ news)→w.grownBy w' v.ownBlock→(m=0→v'=v)→wpList P ops Q rest (a.put o.dst v') w'):wpList P ops Q (o :: rest) a w:=by
 by_cases hm0:m=0
 ·have hn0:news = []:=List.eq_nil_of_length_eq_zero (by rw [hl,hm0,Nat.zero_mul])
  exact wpList_append_zero hgd s x t ho base e i size c m ao ht hi v n xs hs hown hm0 hx (h v w (by subst hm0; subst hn0; simpa using hown) ⟨rfl,rfl,rfl,Nat.le_refl _,fun _ _ _=>rfl⟩ (fun _=>rfl))
 cases ao with
 | none=>
  obtain⟨b,off,ha,_⟩:=hnews (by omega)
  simp at ha
 | some ad=>
  refine wpList_append_own w hgd s x t ho base e i z size bytes ht hi hz hsize hby hzs hsz v n xs hs hown ad m c news hx hl (fun j u hj=>?_) h1 h63 hbytes hbase (fun v' w' g1 g2 _=>h v' w' g1 g2 (fun e=>absurd e hm0))
  have h0:0<m:=by
   have:=(List.getElem?_eq_some_iff.1 hj).1
   rw [hl] at this
   rcases Nat.eq_zero_or_pos m with hm | hm
   ·rw [hm,Nat.zero_mul] at this; omega
   ·exact hm
  obtain⟨b,off,ha,hc⟩:=hnews h0
  simp only [Option.some.injEq] at ha
  subst ha
  rw [add_lit]
  exact hc j u hj
theorem news_at{w:World}{lo hi:Nat}{f:Nat→Int}{n:Nat}{v:Value}(h:IntsAt w lo hi v n f){a:Option Addr}{c:Nat}(hv:v = .slice a n c){w':World}(hb:Below w.heap.size w w') :
  0<n→∃b off,a=some ⟨b,off,none⟩∧∀j u,(ic f n)[j]?=some u→w'.cell? ⟨b,off+j,none⟩=some u:=by
 obtain⟨_,a0,c0,h0,_,g⟩:=h
 subst hv
 simp only [Value.slice.injEq,true_and] at h0
 obtain⟨rfl,rfl⟩:=h0
 intro hn
 obtain⟨b,off,ha,_,_,hc⟩:=g hn
 refine⟨b,off,ha,fun j u hj=>?_⟩
 have:=ic_cells hc j u hj
 rw [add_lit] at this
 exact(hb.cell (lt_of_cell this)).trans this
theorem Box2.grown{w w1:World}{v:Value}{b base e size n:Nat}{xs:List Value}{x y:Value}(h:Box2 w b x y)(hg:w.grownBy w1 v.ownBlock)(hown:w.ownsRow base e size v n xs)(hb:b<base):Box2 w1 b x y:=
 h.turned (turned_of_grown hg) (fun e=>by have:=hown.lt b e; omega)
theorem news3(w:World)(x y z:Value)(t:TypeId):∀j u,[x,y,z][j]?=some u→(w.alloc (.cells #[x,y,z] t)).cell? ((⟨w.heap.size,0,none⟩:Addr).add j)=some u:=by
 intro j u hj
 match j,hj with
 | 0,hj=>simp at hj; subst hj; simp [Addr.add]
 | 1,hj=>simp at hj; subst hj; simp [Addr.add]
 | 2,hj=>simp at hj; subst hj; simp [Addr.add]
 | (j+3),hj=>simp at hj
theorem one3(x:Int)(a:Option Addr)(n c:Nat)(s:ByteArray):∀u∈[Value.int .i64 x,.slice a n c,.string s],u.oneCell'=true:=by
 intro u hu
 simp only [List.mem_cons,List.not_mem_nil,or_false] at hu
 rcases hu with rfl | rfl | rfl <;> rfl
theorem laid_fresh{wr W:World}{lo k nb m:Nat}{f:Nat→SlotD}{kb:Nat→Nat}{kv:Nat→Value}{v:Value}(h:Laid wr lo k f kb kv v)(hlo:lo≤wr.heap.size)(h2:0<m→wr.heap.size≤nb∧nb<W.heap.size) :
  0<m→lo≤nb∧nb<W.heap.size∧v.ownBlock≠some nb∧∀j,j<k→0<(f j).kn→kb j≠nb:=fun h0=>by
 obtain⟨h3,h4⟩:=h2 h0
 exact⟨by omega,h4,fun e=>by have:=h.row.lt nb e; omega,fun j hj hk e=>by have:=h.place j hj hk; omega⟩
def NewParts(p:PoolD)(w:World)(e:Ending)(w':World):Prop:=
 ∃v0 v1 M bs kb kv,e = .returned (.agg #[v0,v1])∧SlotsOwn w' bs kb kv v0 p.n p.s∧KidsApart kb p.n p.s∧(∀k,SlotsB bs kb p.n p.s k→M≤k∧k<w'.heap.size)∧
  w'.ownsRow w.heap.size 2 1 v1 p.hn (ic p.h p.hn)∧(∀k,v1.ownBlock=some k→w.heap.size≤k∧k<M)∧w.heap.size≤M∧M≤w'.heap.size∧Below w.heap.size w w'∧(p.hn=0→∃a,v1 = .slice a 0 0)
theorem ints_of_owns2{w:World}{base n:Nat}{v:Value}{f:Nat→Int}(hm:n≤maxLen)(h:w.ownsRow base 2 1 v n (ic f n))(hz:n=0→∃a,v = .slice a 0 0):∃hb,IntsOwn w hb v n f∧(0<n→v.ownBlock=some hb):=by
 by_cases h0:0<n
 ·obtain⟨gb,cap,rfl,hcp,hb,hlt,hcell⟩:=owns_cell h h0
  refine⟨gb,⟨hm,_,cap,rfl,hcp,fun _=>⟨0,rfl,fun i hi=>?_⟩,fun _=>?_⟩,fun _=>rfl⟩
  ·have:=hcell i _ (ic_at f n i hi)
   simpa using this
  ·exact row_room h h0
 ·obtain⟨a,cap,rfl,hcp⟩:=owns_form h
  exact⟨0,⟨hm,a,cap,rfl,hcp,fun h=>absurd h h0,fun hlt=>by obtain⟨a2,e2⟩:=hz (by omega); simp only [Value.slice.injEq] at e2; omega⟩,fun h=>absurd h h0⟩
theorem parts_own{w':World}{p:PoolD}{v0 v1:Value}{B M bs base:Nat}{kb:Nat→Nat}{kv:Nat→Value}(h1:SlotsOwn w' bs kb kv v0 p.n p.s)(h2:KidsApart kb p.n p.s)(h3:∀k,SlotsB bs kb p.n p.s k→M≤k∧k<w'.heap.size)(hm:p.hn≤maxLen)
  (h4:w'.ownsRow base 2 1 v1 p.hn (ic p.h p.hn)) (h5:∀k,v1.ownBlock=some k→B≤k∧(k<M∨w'.heap.size≤k∨(k<w'.heap.size∧¬SlotsB bs kb p.n p.s k))) (h6:B≤M) (hz:p.hn=0→∃a,v1 = .slice a 0 0):PoolOwn w' B w'.heap.size v0 v1 p:=by
 obtain⟨hb,hi,hbk⟩:=ints_of_owns2 hm h4 hz
 refine⟨bs,hb,kb,kv,h1,h2,hi,fun h0 hx=>?_,fun k hk=>?_⟩
 ·have a:=h3 _ hx
  have b:=h5 _ (hbk h0)
  rcases b.2 with b2 | b2 | b2
  ·omega
  ·omega
  ·exact b2.2 hx
 ·rcases hk with hk | ⟨h0,rfl⟩
  ·have:=h3 _ hk; omega
  ·have b:=h5 _ (hbk h0)
   have c:=h4.lt _ (hbk h0)
   exact⟨b.1,c.2⟩
theorem own_base{w:World}{B B' e size n:Nat}{v:Value}{xs:List Value}(h:w.ownsRow B' e size v n xs)(hB:B≤B'):w.ownsRow B e size v n xs:=
 ⟨h.1,h.2.imp id (fun ⟨g,cap,cur,a,b,c⟩=>⟨g,cap,cur,a,Nat.le_trans hB b,c⟩)⟩
end Go.Proofs.YtihplgckbhnohaaGreatDoor

namespace Go.Proofs.YtihplgckbhnohaaGreatDoor
open Go.RowKit
set_option linter.unusedVariables false
set_option maxRecDepth 20000 in
set_option maxHeartbeats 400000 in
theorem clonePtrs_any(v:Value)(n lo hi:Nat)(f g:Nat→Int)(w:World)(h1:PtrsAt w lo hi v n f g)(hn:n≤1048576) :
  Calls Tryz.prog 130 #[v] w fun e w'=>(∃v' kb,e = .returned v'∧PtrsOwn w' kb v' n f g∧(0<n→w.heap.size≤kb∧kb<w'.heap.size))∧Below w.heap.size w w':=by
 obtain⟨m1,a,c,rfl,mc,g1⟩:=h1
 have G1:Hid (0<n→∃b off,a=some ⟨b,off,none⟩∧lo≤b∧b<hi∧∀i,i<n→w.cell? ⟨b,off+i*2,none⟩=some (.int .i64 (f i))∧w.cell? ⟨b,off+i*2+1,none⟩=some (.int .i64 (g i))):=g1
 have Hm:Hid (n≤maxLen):=m1
 clear g1 m1
 have heq:=fun w=>Lib.run_eql_slice_nil (P:=Tryz.prog) w 64 88 a n c 0 0 (by kernel_rfl)
 cases a with
 | none=>
  have hn0:n=0:=by
   by_cases h:0<n
   ·obtain⟨b,off,ha,_⟩:=G1.out h; simp at ha
   ·omega
  subst hn0
  go_enter Tryz.func130,Tryz.ntmps130
  go_wp2
  go_ret
  exact⟨⟨_,0,rfl,⟨Nat.zero_le _,none,0,rfl,Nat.le_refl _,fun h=>absurd h (Nat.lt_irrefl _)⟩,fun h=>absurd h (Nat.lt_irrefl _)⟩,Below.refl _ _⟩
 | some ad=>
  obtain⟨i0,hi,hzz⟩:=Option.map_eq_some_iff.1 infoPtrT
  simp only [Prod.mk.injEq] at hzz
  obtain⟨hz,hs,hby⟩:=hzz
  have hsrc:∀(w':World),Below w.heap.size w w'→∀j u,(kc f g n)[j]?=some u→w'.cell? (ad.add j)=some u:=fun w' hb j u hj=>by
   by_cases h0:0<n
   ·obtain⟨b,off,ha,_,_,hc⟩:=G1.out h0
    simp only [Option.some.injEq] at ha
    subst ha
    have:=kc_cells hc j u hj
    have hadd:(⟨b,off,none⟩:Addr).add j=⟨b,off+j,none⟩:=by unfold Addr.add; split <;> simp_all
    rw [hadd] at this ⊢
    exact(hb.cell (lt_of_cell this)).trans this
   ·obtain rfl:n=0:=by omega
    simp [kc] at hj
  have Hsrc:Hid (∀(w':World),Below w.heap.size w w'→∀j u,(kc f g n)[j]?=some u→w'.cell? (ad.add j)=some u):=hsrc
  have HI:Hid (Tryz.prog.info? 88=some i0∧i0.zero=some (.agg #[.int .i64 0,.int .i64 0])∧i0.size=2∧i0.bytes=16):=⟨hi,hz,hs,hby⟩
  have hown0:(w.alloc (.cells #[] 88)).ownsRow w.heap.size 88 2 (.slice (some ⟨w.heap.size,0,none⟩) 0 0) 0 []:=World.ownsRow_made w #[] 0 (Nat.le_refl _) (Nat.zero_le _) (by simp)
  have Hown0:Hid ((w.alloc (.cells #[] 88)).ownsRow w.heap.size 88 2 (.slice (some ⟨w.heap.size,0,none⟩) 0 0) 0 []):=hown0
  clear hi hz hs hby hsrc hown0
  go_enter Tryz.func130,Tryz.ntmps130
  go_wp2_with (first
   | (at_builtin; refine wpList_append_own _ rfl _ _ 64 rfl w.heap.size 88 i0 (.agg #[.int .i64 0,.int .i64 0]) 2 16 (by kernel_rfl) HI.out.1 HI.out.2.1 HI.out.2.2.1 HI.out.2.2.2 rfl (by decide) _ _ _ rfl Hown0.out ad n c (kc f g n) rfl (kc_len f g n) ?c1 (kc_one f g n) ?c3 ?c4 ?c5 ?_))
  case c1=>exact Hsrc.out _ ((Below.refl _ _).alloc (Nat.le_refl _) _)
  case c3=>unfold maxLen; omega
  case c4=>omega
  case c5=>simp
  intro v' w1 hown' hgrow hnil
  have hb1:Below w.heap.size w w1:=((Below.refl _ _).alloc (Nat.le_refl _) _).grown hgrow (by simp) (fun q hq=>by have:=Hown0.out.lt q hq; omega)
  have hown2:w1.ownsRow w.heap.size 88 2 v' n (kc f g n):=by simpa using hown'
  obtain⟨kb,hp,hk⟩:=ptrs_of_owns Hm.out hown2
  have Hp:Hid (PtrsOwn w1 kb v' n f g∧(0<n→w.heap.size≤kb∧kb<w1.heap.size)):=⟨hp,hk⟩
  clear hp hk hown' hown2 hgrow hnil
  go_wp2
  go_ret
  exact⟨⟨v',kb,rfl,Hp.out.1,Hp.out.2⟩,hb1⟩
end Go.Proofs.YtihplgckbhnohaaGreatDoor

namespace Go.Proofs.YtihplgckbhnohaaGreatDoor
open Go.RowKit
set_option linter.unusedVariables false
set_option maxRecDepth 20000 in
set_option maxHeartbeats 400000 in
theorem cloneSlot_any(v0 v1 v2:Value)(lo hi:Nat)(s:SlotD)(w:World)(h1:SlotAt w lo hi v0 v1 v2 s)(hn:s.kn≤1048576) :
  Calls Tryz.prog 170 #[.agg #[v0,v1,v2]] w (NewSlot s w):=by
 obtain⟨rfl,p1,rfl,m1⟩:=h1
 have q1:=p1
 obtain⟨_,a,c,rfl,_⟩:=p1
 go_enter Tryz.func170,Tryz.ntmps170
 go_wp2_with fail
 have ha1:=below_alloc w (.cells #[.int .i64 s.birth,.slice a s.kn c,.string s.data] 66)
 have ha2:=below_next ha1 (below_alloc _ (.cells #[.int .i64 0,.slice none 0 0,.string ⟨#[]⟩] 66))
 refine(clonePtrs_any _ s.kn lo hi _ _ _ (q1.below ha2) hn).mono ?_
 rintro e w1 ⟨⟨kv,kb,rfl,hp,hk⟩,hb1⟩
 have HB:Hid (Box3 w1 w.heap.size (.int .i64 s.birth) (.slice a s.kn c) (.string s.data)):=((Box3.new w _ _ _ _).below (below_alloc _ _)).below hb1
 have HR:Hid (Box3 w1 (w.heap.size+1) (.int .i64 0) (.slice none 0 0) (.string ⟨#[]⟩)):=by
  have:=((Box3.new (w.alloc (.cells #[.int .i64 s.birth,.slice a s.kn c,.string s.data] 66)) (.int .i64 0) (.slice none 0 0) (.string ⟨#[]⟩) 66).below hb1)
  rw [World.size_alloc] at this
  exact this
 have hb2:=below_next ha2 hb1
 rw [World.size_alloc,World.size_alloc] at hk
 have Hp:Hid (PtrsOwn w1 kb kv s.kn s.ks s.kb∧(0<s.kn→w.heap.size+1+1≤kb∧kb<w1.heap.size)):=⟨hp,hk⟩
 obtain⟨_,ka,kc',rfl,_⟩:=hp
 clear ha1 ha2 hb1 hk
 obtain⟨⟨x0,x1⟩,⟨x2,x3⟩,⟨x4,x5⟩⟩:=HB.out
 obtain⟨⟨y0,y1⟩,⟨y2,y3⟩,⟨y4,y5⟩⟩:=HR.out
 go_wp2
 have HR2:=(HR.out.other (b':=w.heap.size) (o':=1) (.slice ka s.kn kc') (by omega)).put (.int .i64 s.birth) (.slice ka s.kn kc') (.string s.data)
 refine bodyPost_ret (v:=.agg #[.int .i64 s.birth,.slice ka s.kn kc',.string s.data]) (by simp [results,Tryz.results170,go_sem,HR2.1.1,HR2.2.1.1,HR2.2.2.1]) rfl ⟨_,kb,rfl,?_,?_,?_⟩
 ·have hk:=Hp.out.2
  refine(((Hp.out.1.turned (Turned.put _ _ _ _) ?_).turned (Turned.put _ _ _ _) ?_).turned (Turned.put _ _ _ _) ?_).turned (Turned.put _ _ _ _) ?_
  all_goals exact fun h0 e=>by have:=hk h0; omega
 ·intro h0
  have:=Hp.out.2 h0
  simp only [World.size_setCell]
  omega
 ·exact(((hb2.setCell (by show _≤w.heap.size; omega) _).setCell (by show _≤w.heap.size+1; omega) _).setCell (by show _≤w.heap.size+1; omega) _).setCell (by show _≤w.heap.size+1; omega) _
set_option maxRecDepth 20000 in
set_option maxHeartbeats 400000 in
theorem l01Slot_any(v0 v1 v2:Value)(lo hi:Nat)(s:SlotD)(w:World)(h1:SlotAt w lo hi v0 v1 v2 s)(hn:s.kn≤1048576) :
  Calls Tryz.prog 29 #[.agg #[v0,v1,v2]] w (NewSlot s w):=by
 obtain⟨rfl,⟨m1,a,c,rfl,mc,g1⟩,rfl,m2⟩:=h1
 have G1:Hid (0<s.kn→∃b off,a=some ⟨b,off,none⟩∧lo≤b∧b<hi∧∀i,i<s.kn→w.cell? ⟨b,off+i*2,none⟩=some (.int .i64 (s.ks i))∧w.cell? ⟨b,off+i*2+1,none⟩=some (.int .i64 (s.kb i))):=g1
 have Hm:Hid (s.kn≤maxLen):=m1
 clear g1 m1
 obtain⟨i0,hi',hzz⟩:=Option.map_eq_some_iff.1 infoPtrT
 simp only [Prod.mk.injEq] at hzz
 obtain⟨hz,hs,hby⟩:=hzz
 have HI:Hid (Tryz.prog.info? 88=some i0∧i0.zero=some (.agg #[.int .i64 0,.int .i64 0])∧i0.size=2∧i0.bytes=16):=⟨hi',hz,hs,hby⟩
 clear hi' hz hs hby
 have ha1:=below_alloc w (.cells #[.int .i64 s.birth,.slice a s.kn c,.string s.data] 66)
 have ha2:=below_next ha1 (below_alloc _ (.cells #[.int .i64 0,.slice none 0 0,.string ⟨#[]⟩] 66))
 have ha3:=below_next ha2 (below_alloc _ (.cells #[] 88))
 have Hb3:Hid (Below w.heap.size w (((w.alloc (.cells #[.int .i64 s.birth,.slice a s.kn c,.string s.data] 66)).alloc (.cells #[.int .i64 0,.slice none 0 0,.string ⟨#[]⟩] 66)).alloc (.cells #[] 88))):=ha3
 have hown0:=World.ownsRow_made (base:=w.heap.size+1+1) (e:=88) (size:=2) ((w.alloc (.cells #[.int .i64 s.birth,.slice a s.kn c,.string s.data] 66)).alloc (.cells #[.int .i64 0,.slice none 0 0,.string ⟨#[]⟩] 66)) #[] 0 (by simp) (Nat.zero_le _) (by simp)
 rw [World.size_alloc,World.size_alloc] at hown0
 have Hown0:Hid ((((w.alloc (.cells #[.int .i64 s.birth,.slice a s.kn c,.string s.data] 66)).alloc (.cells #[.int .i64 0,.slice none 0 0,.string ⟨#[]⟩] 66)).alloc (.cells #[] 88)).ownsRow (w.heap.size+1+1) 88 2 (.slice (some ⟨w.heap.size+1+1,0,none⟩) 0 0) 0 []):=hown0
 have HB3:Hid (Box3 (((w.alloc (.cells #[.int .i64 s.birth,.slice a s.kn c,.string s.data] 66)).alloc (.cells #[.int .i64 0,.slice none 0 0,.string ⟨#[]⟩] 66)).alloc (.cells #[] 88)) w.heap.size (.int .i64 s.birth) (.slice a s.kn c) (.string s.data)):=((Box3.new w _ _ _ _).below (below_alloc _ _)).below (below_alloc _ _)
 have HR3:Hid (Box3 (((w.alloc (.cells #[.int .i64 s.birth,.slice a s.kn c,.string s.data] 66)).alloc (.cells #[.int .i64 0,.slice none 0 0,.string ⟨#[]⟩] 66)).alloc (.cells #[] 88)) (w.heap.size+1) (.int .i64 0) (.slice none 0 0) (.string ⟨#[]⟩)):=by
  have:=((Box3.new (w.alloc (.cells #[.int .i64 s.birth,.slice a s.kn c,.string s.data] 66)) (.int .i64 0) (.slice none 0 0) (.string ⟨#[]⟩) 66).below (below_alloc _ (.cells #[] 88)))
  rw [World.size_alloc] at this
  exact this
 clear ha1 ha2 ha3 hown0
 go_enter Tryz.func29,Tryz.ntmps29
 cases a with
 | none=>
  have hn0:s.kn=0:=by
   by_cases h:0<s.kn
   ·obtain⟨b,off,ha,_⟩:=G1.out h; simp at ha
   ·omega
  have Hn0:Hid (s.kn=0):=hn0
  clear hn0
  go_wp2_with (first
   | (at_builtin; refine wpList_append_nil rfl _ _ 64 rfl (w.heap.size+1+1) 88 i0 2 c s.kn (by kernel_rfl) HI.out.1 (.slice (some ⟨w.heap.size+1+1,0,none⟩) 0 0) 0 [] rfl ?c0 Hn0.out rfl ?_))
  case c0=>exact Hown0.out
  refine bodyPost_ret (v:=.agg #[.int .i64 s.birth,.slice (some ⟨w.heap.size+1+1,0,none⟩) 0 0,.string s.data]) (by simp [results,Tryz.results29,go_sem]) rfl ⟨_,0,rfl,?_,?_,?_⟩
  ·exact⟨Hm.out,_,0,by rw [Hn0.out],by rw [Hn0.out]; exact Nat.le_refl _,fun h=>absurd h (by rw [Hn0.out]; exact Nat.lt_irrefl _)⟩
  ·exact fun h=>absurd h (by rw [Hn0.out]; exact Nat.lt_irrefl _)
  ·exact below_next (below_next (below_alloc _ _) (below_alloc _ _)) (below_alloc _ _)
 | some ad=>
  have Hsrc:Hid (∀(w':World),Below w.heap.size w w'→∀j u,(kc s.ks s.kb s.kn)[j]?=some u→w'.cell? (ad.add j)=some u):=fun w' hb j u hj=>by
   by_cases h0:0<s.kn
   ·obtain⟨b,off,ha,_,_,hc⟩:=G1.out h0
    simp only [Option.some.injEq] at ha
    subst ha
    have:=kc_cells hc j u hj
    have hadd:(⟨b,off,none⟩:Addr).add j=⟨b,off+j,none⟩:=by unfold Addr.add; split <;> simp_all
    rw [hadd] at this ⊢
    exact(hb.cell (lt_of_cell this)).trans this
   ·have h00:s.kn=0:=by omega
    rw [h00] at hj
    simp [kc] at hj
  go_wp2_with (first
   | (at_builtin; refine wpList_append_own _ rfl _ _ 64 rfl (w.heap.size+1+1) 88 i0 (.agg #[.int .i64 0,.int .i64 0]) 2 16 (by kernel_rfl) HI.out.1 HI.out.2.1 HI.out.2.2.1 HI.out.2.2.2 rfl (by decide) _ 0 [] rfl ?c0 ad s.kn c (kc s.ks s.kb s.kn) rfl (kc_len _ _ _) ?c1 (kc_one _ _ _) ?c3 ?c4 ?c5 ?_))
  case c0=>exact Hown0.out
  case c1=>exact Hsrc.out _ Hb3.out
  case c3=>unfold maxLen; omega
  case c4=>omega
  case c5=>simp
  intro v' w1 hown' hgrow hnil
  have hown2:w1.ownsRow (w.heap.size+1+1) 88 2 v' s.kn (kc s.ks s.kb s.kn):=by simpa using hown'
  have hb1:Below w.heap.size w w1:=Hb3.out.grown hgrow (by simp; omega) (fun q hq=>by have:=Hown0.out.lt q hq; omega)
  have hbl:∀b,b<w.heap.size+1+1→∀o x,Cell (((w.alloc (.cells #[.int .i64 s.birth,.slice (some ad) s.kn c,.string s.data] 66)).alloc (.cells #[.int .i64 0,.slice none 0 0,.string ⟨#[]⟩] 66)).alloc (.cells #[] 88)) b o x→Cell w1 b o x:=fun b hb o x hx=>by
   have e:=grown_block hgrow Hown0.out hb hx.lt
   exact⟨(World.cell?_of_block (a:=⟨b,o,none⟩) e).trans hx.1,(World.frozen?_of_block (a:=⟨b,o,none⟩) e).trans hx.2⟩
  have HB4:Hid (Box3 w1 w.heap.size (.int .i64 s.birth) (.slice (some ad) s.kn c) (.string s.data)):=⟨hbl _ (by omega) _ _ HB3.out.1,hbl _ (by omega) _ _ HB3.out.2.1,hbl _ (by omega) _ _ HB3.out.2.2⟩
  have HR4:Hid (Box3 w1 (w.heap.size+1) (.int .i64 0) (.slice none 0 0) (.string ⟨#[]⟩)):=⟨hbl _ (by omega) _ _ HR3.out.1,hbl _ (by omega) _ _ HR3.out.2.1,hbl _ (by omega) _ _ HR3.out.2.2⟩
  obtain⟨kb,hp,hk⟩:=ptrs_of_owns Hm.out hown2
  have Hp:Hid (PtrsOwn w1 kb v' s.kn s.ks s.kb∧(0<s.kn→w.heap.size+1+1≤kb∧kb<w1.heap.size)):=⟨hp,hk⟩
  obtain⟨_,ka,kc',rfl,_⟩:=hp
  clear hk hown' hown2 hgrow hnil hbl HB3 HR3 Hown0 Hb3
  obtain⟨⟨x0,x1⟩,⟨x2,x3⟩,⟨x4,x5⟩⟩:=HB4.out
  obtain⟨⟨y0,y1⟩,⟨y2,y3⟩,⟨y4,y5⟩⟩:=HR4.out
  go_wp2
  have HR2:=(HR4.out.other (b':=w.heap.size) (o':=1) (.slice ka s.kn kc') (by omega)).put (.int .i64 s.birth) (.slice ka s.kn kc') (.string s.data)
  refine bodyPost_ret (v:=.agg #[.int .i64 s.birth,.slice ka s.kn kc',.string s.data]) (by simp [results,Tryz.results29,go_sem,HR2.1.1,HR2.2.1.1,HR2.2.2.1]) rfl ⟨_,kb,rfl,?_,?_,?_⟩
  ·have hk:=Hp.out.2
   refine(((Hp.out.1.turned (Turned.put _ _ _ _) ?_).turned (Turned.put _ _ _ _) ?_).turned (Turned.put _ _ _ _) ?_).turned (Turned.put _ _ _ _) ?_
   all_goals exact fun h0 e=>by have:=hk h0; omega
  ·intro h0
   have:=Hp.out.2 h0
   simp only [World.size_setCell]
   omega
  ·exact(((hb1.setCell (by show _≤w.heap.size; omega) _).setCell (by show _≤w.heap.size+1; omega) _).setCell (by show _≤w.heap.size+1; omega) _).setCell (by show _≤w.heap.size+1; omega) _
end Go.Proofs.YtihplgckbhnohaaGreatDoor
