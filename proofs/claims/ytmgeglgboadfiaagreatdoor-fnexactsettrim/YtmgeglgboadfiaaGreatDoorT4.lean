/- What impl.shapeRight answers, of a page, a node and a root. -/
import Derived.Test.YtmgeglgboadfiaaGreatDoorT3
import Derived.Laws.OwnMore
import Derived.Lib.SliceRun
import Derived.Deep.AppendLies
import Derived.Deep.DeepCutAuto
set_option linter.unusedVariables false
set_option maxRecDepth 20000
set_option maxHeartbeats 4000000
namespace Go.Proofs.YtmgeglgboadfiaaGreatDoor
open Go.RowKit
def zNq(p:zJ)(Low:zL->Prop)(s:zL):Prop:=(∃i,i<8/\¬Nil (zb s i) (zu s i))/\∀i,i<8->Nil (zb s i) (zu s i)\/Low (p.s (zb s i).toNat)
def zF9(p:zJ)(L:Int)(Low:zL->Prop):Prop:=∀(v:Value) (lo hi:Nat) (xs xb:Int) (w:World),qA w lo hi v p.n p.s->zr p xs xb->
 Calls Tryz.prog 195 #[v,.agg #[.int .i64 xs,.int .i64 xb],.int .i64 L] w fun e w'=>zG (Low (p.s xs.toNat)) e/\Below w.heap.size w w'
theorem zJP(s:zL):zGV (zk s) (fun _=>0)=true↔¬∃i,i<8/\¬Nil (zb s i) (zu s i):=by
 rw[zIH];constructor
 ·rintro h ⟨i,hi,hn⟩;exact hn (h i hi)
 ·intro h i hi;by_cases hn:Nil (zb s i) (zu s i)
  ·exact hn
  ·exact absurd ⟨i,hi,hn⟩ h
theorem zM4(p:zJ):zF9 p 2 zHA:=by
 intro v lo hi xs xb w hs hP;have Hs:=zE hs;obtain⟨_,a,c,rfl,_⟩:=id hs;obtain⟨k,rfl⟩:=Int.eq_ofNat_of_zero_le hP.2.1;have hk:k<p.n:=by have:=hP.2.2.1;omega
 have dA:(k:Int)<(p.n:Int):=by omega
 have ha:=zC w (.cells #[.int .i64 (k:Int),.int .i64 xb] 61);obtain⟨⟨x0,x1⟩,⟨x2,x3⟩⟩:=zc.zRL w (.int .i64 (k:Int)) (.int .i64 xb) 61;obtain⟨b,off,ka,kc,rfl,bA⟩:=(Hs.out.zRJ ha).cells hk;have HC:=zE bA;obtain⟨q0,q1,q2,_⟩:=bA;clear hs hP;go_enter Tryz.func195,Tryz.ntmps195;go_wp2_with fail;have aA:=zC (w.alloc (.cells #[.int .i64 (k:Int),.int .i64 xb] 61)) (.cells #[.int .i64 (p.s k).zRU,.slice ka (p.s k).kn kc,.string (p.s k).data] 127);refine(zIC _ _ _ lo hi (p.s k) _ (HC.out.slot.zRJ aA)).mono ?_;rintro e w1 ⟨⟨t,rfl,ht⟩,cA⟩;have hB:=zA (zA ha aA) cA;have HT:=zE ht;clear ht cA;go_wp2;go_ret;refine⟨⟨t,rfl,?_⟩,hB⟩;rw[Int.toNat_natCast];exact HT.out
theorem zHt(p:zJ)(L:Int)(jA:zL->Prop)(hR:zv p)(hL:0<=L/\L<2)(dA:zF9 p (L+1) jA):zF9 p L (zNq p jA):=by
 intro v lo hi xs xb w hs hP;have iA:=zE dA;have HR:=zE hR;have Hs:=zE hs;have HP:=zE hP;have Hf:=zE (qU hR hP);obtain⟨_,a,c,rfl,_⟩:=id hs;obtain⟨k,rfl⟩:=Int.eq_ofNat_of_zero_le hP.2.1;rw[Int.toNat_natCast]at Hf;have hk:k<p.n:=by have:=hP.2.2.1;omega
 have dB:(k:Int)<(p.n:Int):=by omega
 have cB:(L == 2)=false:=by simp;omega
 have ha:=zC w (.cells #[.int .i64 (k:Int),.int .i64 xb] 61);obtain⟨⟨x0,x1⟩,⟨x2,x3⟩⟩:=zc.zRL w (.int .i64 (k:Int)) (.int .i64 xb) 61;obtain⟨b,off,ka,kc,rfl,oA⟩:=(Hs.out.zRJ ha).cells hk;have HC:=zE oA;obtain⟨q0,q1,q2,_⟩:=oA;clear hs hP dA hR;go_enter Tryz.func195,Tryz.ntmps195;go_wp2_with fail;have kA:=zC (w.alloc (.cells #[.int .i64 (k:Int),.int .i64 xb] 61)) (.cells #[.int .i64 (p.s k).zRU,.slice ka (p.s k).kn kc,.string (p.s k).data] 127);refine(zDS _ _ _ lo hi (p.s k) _ (HC.out.slot.zRJ kA) (zEc Hf.out)).mono ?_;rintro e w1 ⟨rfl,pA⟩;have hB:=zA (zA ha kA) pA;clear pA ha kA x0 x1 x2 x3 q0 q1 q2 HC;have aA:Hid ((Tryz.prog.info? 155).map (·.size)=some (qE (p.s k)).size):=by
  show _=_;rw[qE,qB];exact zBp
 have tA:Hid ((#[Value.int .i64 0,Value.int .i64 0,Value.int .i64 0,Value.int .i64 0,Value.int .i64 0,Value.int .i64 0,Value.int .i64 0,Value.int .i64 0,Value.int .i64 0,Value.int .i64 0,Value.int .i64 0,Value.int .i64 0,Value.int .i64 0,Value.int .i64 0,Value.int .i64 0,Value.int .i64 0]:Array Value)=zp (fun _=>0)):=rfl;have sA:∀w,(binOp .eql 155 (.agg (qE (p.s k))) (.agg #[Value.int .i64 0,Value.int .i64 0,Value.int .i64 0,Value.int .i64 0,Value.int .i64 0,Value.int .i64 0,Value.int .i64 0,Value.int .i64 0,Value.int .i64 0,Value.int .i64 0,Value.int .i64 0,Value.int .i64 0,Value.int .i64 0,Value.int .i64 0,Value.int .i64 0,Value.int .i64 0])).run Tryz.prog w = .ok (.bool (zGV (zk (p.s k)) (fun _=>0))) w:=fun w=>zKZ (zk (p.s k)) (fun _=>0) w
 have cA:(w1.alloc (.cells (qE (p.s k)) 155)).heap[w1.heap.size]?=some (.cells (qE (p.s k)) 155 (0,0)):=heap_alloc_last _ _;have HK:=zE cA;have rA:=zA hB (zC w1 (.cells (qE (p.s k)) 155));clear cA hB;by_cases hz:zGV (zk (p.s k)) (fun _=>0)=true
 ·have HZ:=zE ((zJP _).1 hz);go_wp2_with (first
   | (refine wpList_store_row rfl 155 (.tmp 8) (.tmp 20) rfl w1.heap.size (qE (p.s k)) rfl rfl 155 #[Value.int .i64 0,Value.int .i64 0,Value.int .i64 0,Value.int .i64 0,Value.int .i64 0,Value.int .i64 0,Value.int .i64 0,Value.int .i64 0,Value.int .i64 0,Value.int .i64 0,Value.int .i64 0,Value.int .i64 0,Value.int .i64 0,Value.int .i64 0,Value.int .i64 0,Value.int .i64 0] (heap_alloc_last _ _) aA.out (by rw[qE,qB];rfl) (zAs _) ?_;rw[World.setRow_alloc_new])
   | (refine wpList_load_row rfl 155 (.tmp 8) rfl w1.heap.size rfl 155 (qE (p.s k)) (0,0) _ HK.out zHH rfl aA.out ?_))
  go_ret;exact⟨zG.no fun h=>HZ.out (by rw[Int.toNat_natCast]at h;exact h.1),rA⟩
 ·have HZ:Hid (∃i,i<8/\¬Nil (zb (p.s k) i) (zu (p.s k) i)):=by
   by_cases h:∃i,i<8/\¬Nil (zb (p.s k) i) (zu (p.s k) i)
   ·exact h
   ·exact absurd ((zJP _).2 h) hz
  have fB:zGV (zk (p.s k)) (fun _=>0)=false:=(by simpa using hz);clear hz;go_wp2_with (first
   | (refine wpList_store_row rfl 155 (.tmp 8) (.tmp 20) rfl w1.heap.size (qE (p.s k)) rfl rfl 155 #[Value.int .i64 0,Value.int .i64 0,Value.int .i64 0,Value.int .i64 0,Value.int .i64 0,Value.int .i64 0,Value.int .i64 0,Value.int .i64 0,Value.int .i64 0,Value.int .i64 0,Value.int .i64 0,Value.int .i64 0,Value.int .i64 0,Value.int .i64 0,Value.int .i64 0,Value.int .i64 0] (heap_alloc_last _ _) aA.out (by rw[qE,qB];rfl) (zAs _) ?_;rw[World.setRow_alloc_new])
   | (refine wpList_load_row rfl 155 (.tmp 8) rfl w1.heap.size rfl 155 (qE (p.s k)) (0,0) _ HK.out zHH rfl aA.out ?_))
  have eB:w1.heap.size<(w1.alloc (.cells (qE (p.s k)) 155)).heap.size:=by rw[World.size_alloc];exact Nat.lt_succ_self _
  go_loopw [24] (fun i wr=>∃j:Nat,j<=8/\i = .int .i64 j/\(∀m,m<j->Nil (zb (p.s k) m) (zu (p.s k) m)\/jA (p.s (zb (p.s k) m).toNat))/\wr.heap[w1.heap.size]?=some (.cells (qE (p.s k)) 155 (0,0))/\Below w.heap.size w wr) (fun i _=>8 - (intOf i).toNat)
  case atStart=>exact⟨0,Nat.zero_le _,rfl,fun m hm=>absurd hm (Nat.not_lt_zero _),HK.out,rA⟩
  case round=>
   obtain⟨j,hj,rfl,eA,hK,hb⟩:=hrel;have bA:=zE eA;have gA:=zE hK;have mA:w1.heap.size<wr.heap.size:=(Array.getElem?_eq_some_iff.1 hK).1;clear eA hK;by_cases fA:j<8
   ·have aB:(j:Int)<8:=(by omega);obtain⟨y0,y1⟩:=zI (i:=j*2) gA.out (yQ (zk (p.s k)) (by omega));obtain⟨y2,y3⟩:=zI (i:=j*2+1) gA.out (yQ (zk (p.s k)) (by omega));by_cases hn:Nil (zb (p.s k) j) (zu (p.s k) j)
    ·have HN:=zE hn;rw[show zk (p.s k) (j*2)=0 from hn.1]at y0;rw[show zk (p.s k) (j*2+1)=0 from hn.2]at y2;clear hn;go_wp2;go_roundw
     case rel=>exact⟨j+1,by omega,by go_num,zo (n:=8) fA bA.out (Or.inl HN.out),gA.out,hb⟩
     case measure=>simp[intOf];omega
    ·have HN:=zE hn;have vA:=zE (zAh Hf.out fA hn).1;have e0:(zk (p.s k) (j*2) == 0)=false\/(zk (p.s k) (j*2) == 0)=true/\(zk (p.s k) (j*2+1) == 0)=false:=by
      by_cases h:zk (p.s k) (j*2)=0
      ·right;refine⟨by simp[h],?_⟩;have:zk (p.s k) (j*2+1)≠0:=fun h'=>hn ⟨h,h'⟩
       simp[this]
      ·left;simp[h]
     clear hn;rcases e0 with e0 | ⟨e0,e1⟩
     all_goals
      go_wp2_with fail;refine(iA.out _ lo hi (zk (p.s k) (j*2)) (zk (p.s k) (j*2+1)) _ (Hs.out.zRJ hb) vA.out).mono ?_;rintro e w2 ⟨⟨t,rfl,ht⟩,lA⟩;have HT:=zE ht;have bB:=zE ((lA.block _ mA).trans gA.out);have nA:=zA hb lA;clear ht lA y0 y1 y2 y3;cases t
      ·go_wp2;go_ret;refine⟨zG.no fun h=>?_,nA⟩;rw[Int.toNat_natCast]at h;rcases h.2 j fA with h1 | h1
       ·exact HN.out h1
       ·exact absurd (HT.out.2 h1) (by simp)
      ·go_wp2;go_roundw
       case rel=>exact⟨j+1,by omega,by go_num,zo (n:=8) fA bA.out (Or.inr (HT.out.1 trivial)),bB.out,nA⟩
       case measure=>simp[intOf];omega
   ·obtain rfl:j=8:=(by omega);go_wp2;go_ret;exact⟨zG.yes (by rw[Int.toNat_natCast];exact⟨HZ.out,bA.out⟩),hb⟩
theorem zMs(p:zJ)(hR:zv p):zF9 p 1 (zKV p):=zHt p 1 zHA hR (by omega) (zM4 p)
theorem zH0(p:zJ)(hR:zv p):zF9 p 0 (zKX p):=zHt p 0 (zKV p) hR (by omega) (zMs p hR)
def zND(s:zL)(w:World)(e:Ending)(w':World):Prop:=
 ∃kv kb,e = .returned (.agg #[.int .i64 s.zRU,kv,.string s.data])/\zj w' kb kv s.kn s.ks s.kb/\(0<s.kn->w.heap.size<=kb/\kb<w'.heap.size)/\Below w.heap.size w w'
def kc(f g:Nat->Int):Nat->List Value
 | 0=>[]
 | k+1=>kc f g k ++ [.int .i64 (f k),.int .i64 (g k)]
theorem zEP(f g:Nat->Int)(k:Nat):(kc f g k).length=k*2:=by
 induction k with
 | zero=>rfl
 | succ k ih=>simp[kc,ih];omega
theorem zPO(f g:Nat->Int)(k i r:Nat)(hi:i<k)(hr:r<2):(kc f g k)[i*2+r]? = [Value.int .i64 (f i),.int .i64 (g i)][r]?:=by
 induction k with
 | zero=>omega
 | succ k ih=>
  unfold kc;by_cases e:i<k
  ·rw[List.getElem?_append_left (by rw[zEP];omega)];exact ih e
  ·obtain rfl:i=k:=(by omega);rw[List.getElem?_append_right (by rw[zEP];omega),zEP];congr 1;omega
theorem zJv(f g:Nat->Int)(k:Nat):∀u∈kc f g k,u.oneCell'=true:=by
 induction k with
 | zero=>intro u hu;simp[kc]at hu
 | succ k ih=>
  intro u hu;simp only[kc,List.mem_append,List.mem_cons,List.not_mem_nil,or_false]at hu;rcases hu with hu | rfl | rfl
  ·exact ih u hu
  ·rfl
  ·rfl
theorem zFl{w:World}{b off:Nat}{f g:Nat->Int}{n:Nat}(h:∀i,i<n->w.cell? ⟨b,off+i*2,none⟩=some (.int .i64 (f i))/\w.cell? ⟨b,off+i*2+1,none⟩=some (.int .i64 (g i))) :
  ∀j u,(kc f g n)[j]?=some u->w.cell? ((⟨b,off,none⟩:Addr).add j)=some u:=by
 intro j u hj;have bA:j<n*2:=by
  have:=(List.getElem?_eq_some_iff.1 hj).1
  rwa [zEP]at this
 have aA:(⟨b,off,none⟩:Addr).add j=⟨b,off+j,none⟩:=by unfold Addr.add;split<;>simp_all
 rw[aA];obtain⟨c0,c1⟩:=h (j / 2) (by omega);have e:=zPO f g n (j / 2) (j % 2) (by omega) (by omega);rw[show j / 2*2+j % 2=j by omega,hj]at e;rcases(by omega:j % 2=0\/j % 2=1)with hm | hm
 ·rw[hm]at e;simp at e;subst e;rw[show off+j=off+j / 2*2 by omega];exact c0
 ·rw[hm]at e;simp at e;subst e;rw[show off+j=off+j / 2*2+1 by omega];exact c1
theorem zCJ{w:World}{base e n:Nat}{v:Value}{f g:Nat->Int}(hm:n<=maxLen)(h:w.ownsRow base e 2 v n (kc f g n)):∃kb,zj w kb v n f g/\(0<n->base<=kb/\kb<w.heap.size):=by
 by_cases h0:0<n
 ·obtain⟨gb,cA,rfl,bA,hb,dA,aA⟩:=qe h h0;refine⟨gb,⟨hm,_,cA,rfl,bA,fun _=>⟨0,rfl,fun i hi=>⟨?_,?_⟩⟩⟩,fun _=>⟨hb,dA⟩⟩
  ·have:=aA (i*2+0) _ (zPO f g n i 0 hi (by omega));simpa using this
  ·have:=aA (i*2+1) _ (zPO f g n i 1 hi (by omega));simpa using this
 ·obtain⟨a,cA,rfl,bA⟩:=zW h;exact⟨0,⟨hm,a,cA,rfl,bA,fun h=>absurd h h0⟩,fun h=>absurd h h0⟩
theorem zHy{P:Program}{w:World}(base:Nat)(t ty e:TypeId)(i:TypeInfo)(size c:Nat)(ht:P.underlying t=some (.slice e))(hi:P.info? e=some i)
  (v:Value) (n:Nat) (xs:List Value) (aA:w.ownsRow base e size v n xs) :
  (Builtin.append_ #[t,t] ty #[v,.slice none 0 c]).run P w = .ok v w:=by
 rcases aA.2 with⟨rfl,rfl⟩ | ⟨g,dA,cA,rfl,_,_,bA,_⟩
 ·simp[Builtin.append_,run_underlying ht,sizeOf,typeInfo,hi,Builtin.lenOf,Builtin.firstCells]
 ·simp[Builtin.append_,run_underlying ht,sizeOf,typeInfo,hi,Builtin.lenOf,Builtin.firstCells,bA,storeCells]
theorem zF2{P:Program}{w:World}{dA:Array Oper}{aA:List Oper}{o:Oper}{a:Act}{Q:Exit->Act->World->Prop}(eA:o.guard=none)(s x:Operand)(t:TypeId)
  (ho:o.op = .call {callee:=.builtin .append,args:=#[s,x],argTypes:=#[t,t]})
  (base:Nat) (e:TypeId) (i:TypeInfo) (size c m:Nat) (ht:P.underlying t=some (.slice e)) (hi:P.info? e=some i)
  (v:Value) (n:Nat) (xs:List Value) (hs:a.eval s=v) (bA:w.ownsRow base e size v n xs) (hm:m=0) (hx:a.eval x = .slice none m c)
  (h:wpList P dA Q aA (a.put o.dst v) w):wpList P dA Q (o :: aA) a w:=by
 subst hm;refine wpList_plain eA fun K hK=>?_
 have cA:=zHy (P:=P) (w:=w) base t o.type e i size c ht hi v n xs bA;unfold Oper.wp;simp[execOp,ho,resolve,invoke,builtin,hs,hx,cA,Result.andThen];exact hK _ _ h
theorem zA5{P:Program}{w:World}(base:Nat)(t ty e:TypeId)(i:TypeInfo)(size c:Nat)(ao:Option Addr)(ht:P.underlying t=some (.slice e))(hi:P.info? e=some i)
  (v:Value) (n:Nat) (xs:List Value) (aA:w.ownsRow base e size v n xs) :
  (Builtin.append_ #[t,t] ty #[v,.slice ao 0 c]).run P w = .ok v w:=by
 rcases aA.2 with⟨rfl,rfl⟩ | ⟨g,dA,cA,rfl,_,_,bA,_⟩
 ·cases ao<;>simp[Builtin.append_,run_underlying ht,sizeOf,typeInfo,hi,Builtin.lenOf,Builtin.firstCells,loadCells,loadCellsFrom]
 ·cases ao<;>simp[Builtin.append_,run_underlying ht,sizeOf,typeInfo,hi,Builtin.lenOf,Builtin.firstCells,bA,storeCells,loadCells,loadCellsFrom]
theorem zFS{P:Program}{w:World}{dA:Array Oper}{aA:List Oper}{o:Oper}{a:Act}{Q:Exit->Act->World->Prop}(eA:o.guard=none)(s x:Operand)(t:TypeId)
  (ho:o.op = .call {callee:=.builtin .append,args:=#[s,x],argTypes:=#[t,t]})
  (base:Nat) (e:TypeId) (i:TypeInfo) (size c m:Nat) (ao:Option Addr) (ht:P.underlying t=some (.slice e)) (hi:P.info? e=some i)
  (v:Value) (n:Nat) (xs:List Value) (hs:a.eval s=v) (bA:w.ownsRow base e size v n xs) (hm:m=0) (hx:a.eval x = .slice ao m c)
  (h:wpList P dA Q aA (a.put o.dst v) w):wpList P dA Q (o :: aA) a w:=by
 subst hm;refine wpList_plain eA fun K hK=>?_
 have cA:=zA5 (P:=P) (w:=w) base t o.type e i size c ao ht hi v n xs bA;unfold Oper.wp;simp[execOp,ho,resolve,invoke,builtin,hs,hx,cA,Result.andThen];exact hK _ _ h
theorem zCn:(Tryz.prog.info? 61).map (fun i=>(i.zero,i.size,i.bytes))=some (some (.agg #[.int .i64 0,.int .i64 0]),2,16):=by kernel_rfl
def sc(f:Nat->zL)(kv:Nat->Value):Nat->List Value
 | 0=>[]
 | k+1=>sc f kv k ++ [.int .i64 (f k).zRU,kv k,.string (f k).data]
theorem zDd(f:Nat->zL)(kv:Nat->Value)(k:Nat):(sc f kv k).length=k*3:=by
 induction k with
 | zero=>rfl
 | succ k ih=>simp[sc,ih];omega
theorem zET(f:Nat->zL)(kv:Nat->Value)(k i r:Nat)(hi:i<k)(hr:r<3):(sc f kv k)[i*3+r]? = [Value.int .i64 (f i).zRU,kv i,.string (f i).data][r]?:=by
 induction k with
 | zero=>omega
 | succ k ih=>
  unfold sc;by_cases e:i<k
  ·rw[List.getElem?_append_left (by rw[zDd];omega)];exact ih e
  ·obtain rfl:i=k:=(by omega);rw[List.getElem?_append_right (by rw[zDd];omega),zDd];congr 1;omega
theorem zPL(f:Nat->zL){kv aA:Nat->Value}{k:Nat}(h:∀i,i<k->kv i=aA i):sc f kv k=sc f aA k:=by
 induction k with
 | zero=>rfl
 | succ k ih=>
  unfold sc;rw[ih (fun i hi=>h i (by omega)),h k (by omega)]
theorem zPY(f:Nat->zL)(kv:Nat->Value)(k:Nat)(h:∀i,i<k->(kv i).oneCell'=true):∀u∈sc f kv k,u.oneCell'=true:=by
 induction k with
 | zero=>intro u hu;simp[sc]at hu
 | succ k ih=>
  intro u hu;simp only[sc,List.mem_append,List.mem_cons,List.not_mem_nil,or_false]at hu;rcases hu with hu | rfl | rfl | rfl
  ·exact ih (fun i hi=>h i (by omega)) u hu
  ·rfl
  ·exact h k (by omega)
  ·rfl
theorem zB7{w w1:World}{row:Option Nat}(h:w.grownBy w1 row):zF (fun b=>row=some b) w w1:=⟨h.os,h.tape,h.output,h.size,fun k hk hs=>h.block k hk (fun e=>hs e.symm)⟩
theorem zBa{w w1:World}(h:Below w.heap.size w w1)(row:Option Nat):w.grownBy w1 row:=⟨h.os,h.tape,h.output,h.size,fun k hk _=>h.block k hk⟩
structure zEo (w:World) (lo k:Nat) (f:Nat->zL) (kb:Nat->Nat) (kv:Nat->Value) (v:Value):Prop where
 row:w.ownsRow lo 127 3 v k (sc f kv k)
 kids:∀j,j<k->zj w (kb j) (kv j) (f j).kn (f j).ks (f j).kb
 zRY:∀j,j<k->0<(f j).kn->lo<=kb j/\kb j<w.heap.size/\v.ownBlock≠some (kb j)
 zRW:yS kb k f
 zRZ:∀j,j<k->(f j).data.size<=maxLen
theorem zEo.nil(w:World)(lo:Nat)(f:Nat->zL):zEo w lo 0 f (fun _=>0) (fun _=>.slice none 0 0) (.slice none 0 0):=
 ⟨World.ownsRow_nil _ _ _ _,fun j hj=>absurd hj (Nat.not_lt_zero _),fun j hj=>absurd hj (Nat.not_lt_zero _),fun i j hi=>absurd hi (Nat.not_lt_zero _),fun j hj=>absurd hj (Nat.not_lt_zero _)⟩
theorem zEo.zRJ{w w':World}{lo k:Nat}{f:Nat->zL}{kb:Nat->Nat}{kv:Nat->Value}{v:Value}(h:zEo w lo k f kb kv v)(t:Below w.heap.size w w'):zEo w' lo k f kb kv v:=
 ⟨h.row.kept (zBa t none) (by cases hv:v.ownBlock<;>simp),fun j hj=>(h.kids j hj).zRJ t,fun j hj h0=>by have h1:=h.zRY j hj h0;have:=t.size;exact⟨h1.1,by omega,h1.2.2⟩,h.zRW,h.zRZ⟩
theorem zEo.next{w w1:World}{lo k:Nat}{f:Nat->zL}{kb:Nat->Nat}{kv:Nat->Value}{v:Value}(h:zEo w lo k f kb kv v){nb g bA:Nat}{nv:Value}(hp:zj w nb nv (f k).kn (f k).ks (f k).kb)
  (aA:0<(f k).kn->lo<=nb/\nb<w.heap.size/\v.ownBlock≠some nb/\∀j,j<k->0<(f j).kn->kb j≠nb) (hs:(f k).data.size<=maxLen)
  (cA:w1.ownsRow lo 127 3 (.slice (some ⟨g,0,none⟩) (k+1) bA) (k+1) (sc f kv k ++ [.int .i64 (f k).zRU,nv,.string (f k).data])) (hg:w.grownBy w1 v.ownBlock) (fA:v.ownBlock=some g\/g=w.heap.size) :
  zEo w1 lo (k+1) f (fun j=>if j=k then nb else kb j) (fun j=>if j=k then nv else kv j) (.slice (some ⟨g,0,none⟩) (k+1) bA):=by
 have t:=zB7 hg;have jA:=t.size;have dA:∀b,b<w.heap.size->v.ownBlock≠some b->(Value.slice (some ⟨g,0,none⟩) (k+1) bA).ownBlock≠some b:=fun b hb iA e=>by
  have gA:g=b:=(by simpa[Value.ownBlock]using e);rcases fA with hx | hx
  ·exact iA (by rw[hx,gA])
  ·omega
 refine⟨?_,fun j hj=>?_,fun j hj h0=>?_,fun i j hi hj eA h1 h2=>?_,fun j hj=>?_⟩
 ·have e:sc f (fun j=>if j=k then nv else kv j) (k+1)=sc f kv k ++ [.int .i64 (f k).zRU,nv,.string (f k).data]:=by
   show sc f _ k ++ [.int .i64 (f k).zRU,(if k=k then nv else kv k),.string (f k).data]=_;rw[if_pos rfl,zPL f (fun i hi=>if_neg (by omega))]
  rw[e];exact cA
 ·by_cases e:j=k
  ·subst e;simp only[if_true];exact hp.zRR t (fun h0=>(aA h0).2.2.1)
  ·simp only[if_neg e];exact(h.kids j (by omega)).zRR t (fun h0=>(h.zRY j (by omega) h0).2.2)
 ·by_cases e:j=k
  ·subst e;simp only[if_true];obtain⟨h1,h2,h3,_⟩:=aA h0;exact⟨h1,by omega,dA _ h2 h3⟩
  ·simp only[if_neg e];obtain⟨h1,h2,h3⟩:=h.zRY j (by omega) h0;exact⟨h1,by omega,dA _ h2 h3⟩
 ·show(if i=k then nb else kb i)≠(if j=k then nb else kb j);by_cases e1:i=k
  ·by_cases e2:j=k
   ·omega
   ·rw[if_pos e1,if_neg e2];subst e1;exact fun e=>(aA h1).2.2.2 j (by omega) h2 e.symm
  ·by_cases e2:j=k
   ·rw[if_neg e1,if_pos e2];subst e2;exact(aA h2).2.2.2 i (by omega) h1
   ·rw[if_neg e1,if_neg e2];exact h.zRW i j (by omega) (by omega) eA h1 h2
 ·by_cases e:j=k
  ·subst e;exact hs
  ·exact h.zRZ j (by omega)
theorem zEo.put{w:World}{lo k:Nat}{f:Nat->zL}{kb:Nat->Nat}{kv:Nat->Value}{v:Value}(h:zEo w lo k f kb kv v){b o:Nat}(hb:b<lo)(u:Value):zEo (w.setCell ⟨b,o,none⟩ u) lo k f kb kv v:=
 ⟨ownsRow_setCell_below h.row hb u,fun j hj=>(h.kids j hj).zRR (zF.put _ _ _ _) (fun h0 e=>by have:=h.zRY j hj h0;omega),fun j hj h0=>by rw[World.size_setCell];exact h.zRY j hj h0,h.zRW,h.zRZ⟩
theorem zEo.own{w:World}{lo n:Nat}{f:Nat->zL}{kb:Nat->Nat}{kv:Nat->Value}{v:Value}(h:zEo w lo n f kb kv v)(hn:n<=maxLen) :
  ∃bs,qV w bs kb kv v n f/\∀k,yr bs kb n f k->lo<=k/\k<w.heap.size:=by
 by_cases h0:0<n
 ·obtain⟨g,bA,rfl,cA,hb,eA,aA⟩:=qe h.row h0;refine⟨g,⟨hn,_,bA,rfl,cA,fun _=>⟨0,rfl,fun i hi=>⟨?_,?_,?_,h.kids i hi,h.zRZ i hi,fun hk e=>(h.zRY i hi hk).2.2 (by rw[e];rfl)⟩⟩⟩,fun k hk=>?_⟩
  ·have:=aA (i*3+0) _ (zET f kv n i 0 hi (by omega));simpa using this
  ·have:=aA (i*3+1) _ (zET f kv n i 1 hi (by omega));simpa using this
  ·have:=aA (i*3+2) _ (zET f kv n i 2 hi (by omega));simpa using this
  ·rcases hk with⟨_,rfl⟩ | ⟨i,hi,dA,rfl⟩
   ·exact⟨hb,eA⟩
   ·exact⟨(h.zRY i hi dA).1,(h.zRY i hi dA).2.1⟩
 ·obtain⟨a,bA,rfl,cA⟩:=zW h.row;refine⟨0,⟨hn,a,bA,rfl,cA,fun hx=>absurd hx h0⟩,fun k hk=>?_⟩;rcases hk with⟨hx,_⟩ | ⟨i,hi,_⟩
  ·exact absurd hx h0
  ·omega
def ic(f:Nat->Int):Nat->List Value
 | 0=>[]
 | k+1=>ic f k ++ [.int .i64 (f k)]
theorem zBo(f:Nat->Int)(k:Nat):(ic f k).length=k*1:=by
 induction k with
 | zero=>rfl
 | succ k ih=>simp[ic,ih]
theorem zL9(f:Nat->Int)(k i:Nat)(hi:i<k):(ic f k)[i]?=some (Value.int .i64 (f i)):=by
 induction k with
 | zero=>omega
 | succ k ih=>
  unfold ic;by_cases e:i<k
  ·rw[List.getElem?_append_left (by rw[zBo];omega)];exact ih e
  ·obtain rfl:i=k:=(by omega);rw[List.getElem?_append_right (by rw[zBo];omega),zBo];simp
theorem zPS(f:Nat->Int)(k:Nat):∀u∈ic f k,u.oneCell'=true:=by
 induction k with
 | zero=>intro u hu;simp[ic]at hu
 | succ k ih=>
  intro u hu;simp only[ic,List.mem_append,List.mem_cons,List.not_mem_nil,or_false]at hu;rcases hu with hu | rfl
  ·exact ih u hu
  ·rfl
theorem add_lit(b off j:Nat):(⟨b,off,none⟩:Addr).add j=⟨b,off+j,none⟩:=by unfold Addr.add;split<;>simp_all
theorem zPn{w:World}{b off:Nat}{f:Nat->Int}{n:Nat}(h:∀i,i<n->w.cell? ⟨b,off+i,none⟩=some (.int .i64 (f i))) :
  ∀j u,(ic f n)[j]?=some u->w.cell? ((⟨b,off,none⟩:Addr).add j)=some u:=by
 intro j u hj;have aA:j<n:=by
  have:=(List.getElem?_eq_some_iff.1 hj).1;rw[zBo]at this;omega
 rw[zL9 f n j aA]at hj;rw[add_lit,h j aA];exact hj
theorem zK1{w:World}{base e g n bA:Nat}{xs:List Value}(h:w.ownsRow base e 1 (.slice (some ⟨g,0,none⟩) n bA) n xs)(h0:0<n):0<n/\(some ⟨g,0,none⟩:Option Addr)=some ⟨g,0,none⟩/\bA<=maxLen/\∃aA,w.heap[g]?=some (.cells aA e (0,0))/\aA.size=bA:=by
 obtain⟨_,⟨h,rfl⟩ | ⟨g',cA,aA,hv,_,hg,_,h2,h3,_⟩⟩:=h
 ·omega
 ·simp only[Value.slice.injEq,Option.some.injEq,Addr.mk.injEq,and_true,true_and]at hv;obtain⟨rfl,rfl⟩:=hv;exact⟨h0,rfl,h2,aA,hg,by simpa using h3⟩
theorem zKq{w:World}{base n:Nat}{v:Value}{f:Nat->Int}(hm:n<=maxLen)(h:w.ownsRow base 2 1 v n (ic f n))(hz:n=0->∃a,v = .slice a 0 0):∃hb,qk w hb v n f/\(0<n->base<=hb/\hb<w.heap.size):=by
 by_cases h0:0<n
 ·obtain⟨gb,cA,rfl,bA,hb,dA,aA⟩:=qe h h0;refine⟨gb,⟨hm,_,cA,rfl,bA,fun _=>⟨0,rfl,fun i hi=>?_⟩,fun _=>?_⟩,fun _=>⟨hb,dA⟩⟩
  ·have:=aA i _ (zL9 f n i hi);simpa using this
  ·exact zK1 h h0
 ·obtain⟨a,cA,rfl,bA⟩:=zW h;exact⟨0,⟨hm,a,cA,rfl,bA,fun h=>absurd h h0,fun dA=>by obtain⟨a2,e2⟩:=hz (by omega);simp only[Value.slice.injEq]at e2;omega⟩,fun h=>absurd h h0⟩
theorem zT{P:Prop}(h:P):Hid P:=h
theorem qJ{P:Program}{w:World}{jA:Array Oper}{fA:List Oper}{o:Oper}{a:Act}{Q:Exit->Act->World->Prop}(kA:o.guard=none)(s x:Operand)(t:TypeId)
  (ho:o.op = .call {callee:=.builtin .append,args:=#[s,x],argTypes:=#[t,t]})
  (base:Nat) (e:TypeId) (i:TypeInfo) (z:Value) (size bytes:Nat) (ht:P.underlying t=some (.slice e)) (hi:P.info? e=some i) (hz:i.zero=some z)
  (eA:i.size=size) (lA:i.bytes=bytes) (pA:z.cells.size=size) (nA:0<size)
  (v:Value) (n:Nat) (xs:List Value) (hs:a.eval s=v) (cA:w.ownsRow base e size v n xs)
  (ao:Option Addr) (m c:Nat) (aA:List Value) (hx:a.eval x = .slice ao m c) (hl:aA.length=m*size) (h1:∀u∈aA,u.oneCell'=true)
  (bA:0<m->∃b off,ao=some ⟨b,off,none⟩/\∀j u,aA[j]?=some u->w.cell? ⟨b,off+j,none⟩=some u)
  (mA:n+m<=maxLen) (dA:(n+m)*bytes<=140737488355328) (gA:base<=w.heap.size)
  (h:∀v' w',w'.ownsRow base e size v' (n+m) (xs ++ aA)->w.grownBy w' v.ownBlock->(m=0->v'=v)->wpList P jA Q fA (a.put o.dst v') w'):wpList P jA Q (o :: fA) a w:=by
 by_cases iA:m=0
 ·have oA:aA = []:=List.eq_nil_of_length_eq_zero (by rw[hl,iA,Nat.zero_mul]);exact zFS kA s x t ho base e i size c m ao ht hi v n xs hs cA iA hx (h v w (by subst iA;subst oA;simpa using cA) ⟨rfl,rfl,rfl,Nat.le_refl _,fun _ _ _=>rfl⟩ (fun _=>rfl))
 cases ao with
 | none=>
  obtain⟨b,off,ha,_⟩:=bA (by omega);simp at ha
 | some ad=>
  refine wpList_append_own w kA s x t ho base e i z size bytes ht hi hz eA lA pA nA v n xs hs cA ad m c aA hx hl (fun j u hj=>?_) h1 mA dA gA (fun v' w' g1 g2 _=>h v' w' g1 g2 (fun e=>absurd e iA));have h0:0<m:=by
   have:=(List.getElem?_eq_some_iff.1 hj).1;rw[hl]at this;rcases Nat.eq_zero_or_pos m with hm | hm
   ·rw[hm,Nat.zero_mul]at this;omega
   ·exact hm
  obtain⟨b,off,ha,hc⟩:=bA h0;simp only[Option.some.injEq]at ha;subst ha;rw[add_lit];exact hc j u hj
theorem zJy{w:World}{lo hi:Nat}{f:Nat->Int}{n:Nat}{v:Value}(h:qY w lo hi v n f){a:Option Addr}{c:Nat}(hv:v = .slice a n c){w':World}(hb:Below w.heap.size w w') :
  0<n->∃b off,a=some ⟨b,off,none⟩/\∀j u,(ic f n)[j]?=some u->w'.cell? ⟨b,off+j,none⟩=some u:=by
 obtain⟨_,a0,c0,h0,_,g⟩:=h;subst hv;simp only[Value.slice.injEq,true_and]at h0;obtain⟨rfl,rfl⟩:=h0;intro hn;obtain⟨b,off,ha,_,_,hc⟩:=g hn;refine⟨b,off,ha,fun j u hj=>?_⟩;have:=zPn hc j u hj;rw[add_lit]at this;exact(hb.cell (zD this)).trans this
theorem zc.grown{w w1:World}{v:Value}{b base e size n:Nat}{xs:List Value}{x y:Value}(h:zc w b x y)(hg:w.grownBy w1 v.ownBlock)(aA:w.ownsRow base e size v n xs)(hb:b<base):zc w1 b x y:=
 h.zRR (zB7 hg) (fun e=>by have:=aA.lt b e;omega)
theorem zQR(w:World)(x y z:Value)(t:TypeId):∀j u,[x,y,z][j]?=some u->(w.alloc (.cells #[x,y,z] t)).cell? ((⟨w.heap.size,0,none⟩:Addr).add j)=some u:=by
 intro j u hj
 match j,hj with
 | 0,hj=>simp at hj;subst hj;simp[Addr.add]
 | 1,hj=>simp at hj;subst hj;simp[Addr.add]
 | 2,hj=>simp at hj;subst hj;simp[Addr.add]
 | (j+3),hj=>simp at hj
theorem zQx(x:Int)(a:Option Addr)(n c:Nat)(s:ByteArray):∀u∈[Value.int .i64 x,.slice a n c,.string s],u.oneCell'=true:=by
 intro u hu;simp only[List.mem_cons,List.not_mem_nil,or_false]at hu;rcases hu with rfl | rfl | rfl<;>rfl
theorem zMI{wr W:World}{lo k nb m:Nat}{f:Nat->zL}{kb:Nat->Nat}{kv:Nat->Value}{v:Value}(h:zEo wr lo k f kb kv v)(aA:lo<=wr.heap.size)(h2:0<m->wr.heap.size<=nb/\nb<W.heap.size) :
  0<m->lo<=nb/\nb<W.heap.size/\v.ownBlock≠some nb/\∀j,j<k->0<(f j).kn->kb j≠nb:=fun h0=>by
 obtain⟨h3,h4⟩:=h2 h0;exact⟨by omega,h4,fun e=>by have:=h.row.lt nb e;omega,fun j hj hk e=>by have:=h.zRY j hj hk;omega⟩
def zPD(p:zJ)(w:World)(e:Ending)(w':World):Prop:=
 ∃v0 v1 M bs kb kv,e = .returned (.agg #[v0,v1])/\qV w' bs kb kv v0 p.n p.s/\yS kb p.n p.s/\(∀k,yr bs kb p.n p.s k->M<=k/\k<w'.heap.size)/\
  w'.ownsRow w.heap.size 2 1 v1 p.hn (ic p.h p.hn)/\(∀k,v1.ownBlock=some k->w.heap.size<=k/\k<M)/\w.heap.size<=M/\M<=w'.heap.size/\Below w.heap.size w w'/\(p.hn=0->∃a,v1 = .slice a 0 0)
theorem zEv{w:World}{base n:Nat}{v:Value}{f:Nat->Int}(hm:n<=maxLen)(h:w.ownsRow base 2 1 v n (ic f n))(hz:n=0->∃a,v = .slice a 0 0):∃hb,qk w hb v n f/\(0<n->v.ownBlock=some hb):=by
 by_cases h0:0<n
 ·obtain⟨gb,cA,rfl,bA,hb,dA,aA⟩:=qe h h0;refine⟨gb,⟨hm,_,cA,rfl,bA,fun _=>⟨0,rfl,fun i hi=>?_⟩,fun _=>?_⟩,fun _=>rfl⟩
  ·have:=aA i _ (zL9 f n i hi);simpa using this
  ·exact zK1 h h0
 ·obtain⟨a,cA,rfl,bA⟩:=zW h;exact⟨0,⟨hm,a,cA,rfl,bA,fun h=>absurd h h0,fun dA=>by obtain⟨a2,e2⟩:=hz (by omega);simp only[Value.slice.injEq]at e2;omega⟩,fun h=>absurd h h0⟩
theorem zJW{w':World}{p:zJ}{v0 v1:Value}{B M bs base:Nat}{kb:Nat->Nat}{kv:Nat->Value}(h1:qV w' bs kb kv v0 p.n p.s)(h2:yS kb p.n p.s)(h3:∀k,yr bs kb p.n p.s k->M<=k/\k<w'.heap.size)(hm:p.hn<=maxLen)
  (h4:w'.ownsRow base 2 1 v1 p.hn (ic p.h p.hn)) (h5:∀k,v1.ownBlock=some k->B<=k/\(k<M\/w'.heap.size<=k\/(k<w'.heap.size/\¬yr bs kb p.n p.s k))) (h6:B<=M) (hz:p.hn=0->∃a,v1 = .slice a 0 0):zt w' B w'.heap.size v0 v1 p:=by
 obtain⟨hb,hi,aA⟩:=zEv hm h4 hz;refine⟨bs,hb,kb,kv,h1,h2,hi,fun h0 hx=>?_,fun k hk=>?_⟩
 ·have a:=h3 _ hx;have b:=h5 _ (aA h0);rcases b.2 with b2 | b2 | b2
  ·omega
  ·omega
  ·exact b2.2 hx
 ·rcases hk with hk | ⟨h0,rfl⟩
  ·have:=h3 _ hk;omega
  ·have b:=h5 _ (aA h0);have c:=h4.lt _ (aA h0);exact⟨b.1,c.2⟩
theorem zEF{w:World}{B B' e size n:Nat}{v:Value}{xs:List Value}(h:w.ownsRow B' e size v n xs)(hB:B<=B'):w.ownsRow B e size v n xs:=
 ⟨h.1,h.2.imp id (fun ⟨g,cap,cur,a,b,c⟩=>⟨g,cap,cur,a,Nat.le_trans hB b,c⟩)⟩
def pcl:List (Int×Int)->List Value
 | []=>[]
 | x :: l=>.int .i64 x.1 :: .int .i64 x.2 :: pcl l
theorem zA3:∀l,(pcl l).length=l.length*2
 | []=>rfl
 | x :: l=>by simp[pcl,zA3 l];omega
theorem zBE:∀l m,pcl (l ++ m)=pcl l ++ pcl m
 | [],m=>rfl
 | x :: l,m=>by simp[pcl,zBE l m]
theorem zF7:∀l,∀u∈pcl l,u.oneCell'=true
 | [],u,hu=>by simp[pcl]at hu
 | x :: l,u,hu=>by
  simp only[pcl,List.mem_cons]at hu;rcases hu with rfl | rfl | hu
  ·rfl
  ·rfl
  ·exact zF7 l u hu
theorem zBT:∀(l:List (Int×Int)) i,i<l.length->(pcl l)[i*2]?=some (.int .i64 (l.getD i (0,0)).1)/\(pcl l)[i*2+1]?=some (.int .i64 (l.getD i (0,0)).2):=by
 intro l
 induction l with
 | nil=>intro i hi;simp at hi
 | cons x l ih=>
  intro i hi;cases i with
  | zero=>exact⟨rfl,rfl⟩
  | succ i=>
   have:=ih i (by simpa using hi);rw[show(i+1)*2=i*2+1+1 by omega];simpa[pcl]using this
def zf(l:List (Int×Int))(i:Nat):Int:=(l.getD i (0,0)).1
def zh(l:List (Int×Int))(i:Nat):Int:=(l.getD i (0,0)).2
theorem zAz:(Tryz.prog.info? 61).map (fun i=>(i.zero,i.size,i.bytes))=some (some (.agg #[.int .i64 0,.int .i64 0]),2,16):=by kernel_rfl
theorem yu{w w1:World}(h:Below w.heap.size w w1)(row:Option Nat):w.grownBy w1 row:=⟨h.os,h.tape,h.output,h.size,fun k hk _=>h.block k hk⟩
def zw(w:World)(base:Nat)(v:Value)(l:List (Int×Int)):Prop:=w.ownsRow base 61 2 v l.length (pcl l)
theorem zw.zRJ{w w1:World}{base:Nat}{v:Value}{l:List (Int×Int)}(h:zw w base v l)(hb:Below w.heap.size w w1):zw w1 base v l:=
 h.kept (yu hb none) (by cases v.ownBlock<;>simp)
theorem zw.zRR{w w1:World}{base:Nat}{v:Value}{l:List (Int×Int)}{row:Option Nat}(h:zw w base v l)(hg:w.grownBy w1 row)(aA:∀q,v.ownBlock=some q->row≠some q):zw w1 base v l:=
 h.kept hg (by
  cases hv:v.ownBlock with
  | none=>simp
  | some q=>exact Or.inr (fun e=>aA q hv e.symm))
theorem zw.nil(w:World)(base:Nat):zw w base (.slice none 0 0) []:=World.ownsRow_nil _ _ _ _
theorem zw.mono{w:World}{base aA:Nat}{v:Value}{l:List (Int×Int)}(h:zw w base v l)(hb:aA<=base):zw w aA v l:=by
 refine⟨h.1,h.2.imp id ?_⟩;rintro⟨g,cA,bA,e,h1,h2⟩;exact⟨g,cA,bA,e,Nat.le_trans hb h1,h2⟩
theorem zw.put{w:World}{base b o:Nat}{v:Value}{l:List (Int×Int)}(h:zw w base v l)(hb:b<base)(u:Value):zw (w.setCell ⟨b,o,none⟩ u) base v l:=by
 refine⟨h.1,h.2.imp id ?_⟩;rintro⟨g,bA,aA,e,h1,h2,h3⟩;exact⟨g,bA,aA,e,h1,(Below.heap_setCell _ _ _ _ (fun e=>by have:g=b:=e;omega)).trans h2,h3⟩
theorem zw.lt{w:World}{base:Nat}{v:Value}{l:List (Int×Int)}(h:zw w base v l){q:Nat}(hq:v.ownBlock=some q):base<=q/\q<w.heap.size:=by
 rcases h.2 with⟨rfl,_⟩ | ⟨g,bA,aA,rfl,hb,hg,_⟩
 ·simp[Value.ownBlock]at hq
 ·simp only[Value.ownBlock,Option.some.injEq]at hq;subst hq;exact⟨hb,(Array.getElem?_eq_some_iff.1 hg).1⟩
theorem zw.own{w:World}{base:Nat}{v:Value}{l:List (Int×Int)}(h:zw w base v l)(hm:l.length<=maxLen):∃b,zj w b v l.length (zf l) (zh l)/\(0<l.length->v.ownBlock=some b/\base<=b/\b<w.heap.size):=by
 by_cases h0:0<l.length
 ·obtain⟨g,cA,rfl,bA,hb,dA,aA⟩:=qe h h0;refine⟨g,⟨hm,_,cA,rfl,bA,fun _=>⟨0,rfl,fun i hi=>?_⟩⟩,fun _=>⟨rfl,hb,dA⟩⟩;rw[Nat.zero_add];exact⟨aA _ _ (zBT l i hi).1,aA _ _ (zBT l i hi).2⟩
 ·obtain⟨a,cA,rfl,bA⟩:=zW h;exact⟨0,⟨hm,a,cA,rfl,bA,fun h=>absurd h h0⟩,fun h=>absurd h h0⟩
def zQi(l:List (Int×Int))(w:World)(e:Ending)(w':World):Prop:=∃v,e = .returned v/\w'.ownsRow w.heap.size 61 2 v l.length (pcl l)/\Below w.heap.size w w'
def zBG(F:Int->Int->List (Int×Int))(s:zL):Nat->List (Int×Int)
 | 0=>[]
 | k+1=>zBG F s k ++ F (zb s k) (zu s k)
theorem zJB(s:zL):∀k,zBG one s k=kidsUp (zb s) (zu s) k
 | 0=>rfl
 | k+1=>by rw[zBG,kidsUp,zJB s k]
theorem zJQ(p:zJ)(s:zL):∀k,zBG (zEu p) s k=zAv p s k
 | 0=>rfl
 | k+1=>by rw[zBG,zAv,zJQ p s k]
theorem zJY{F:Int->Int->List (Int×Int)}(hF:∀a b,(F a b).length<=9)(s:zL):∀k,(zBG F s k).length<=9*k
 | 0=>Nat.le_refl _
 | k+1=>by
  have:=zJY hF s k;have:=hF (zb s k) (zu s k);rw[zBG,List.length_append];omega
def zGq(p:zJ)(F:Int->Int->List (Int×Int))(xs xb:Int):List (Int×Int):=if Nil xs xb then [] else(xs,xb) :: zBG F (p.s xs.toNat) 8
def zFz(p:zJ)(L:Int)(F:Int->Int->List (Int×Int)):Prop:=∀(v:Value) (lo hi:Nat) (xs xb:Int) (w:World),qA w lo hi v p.n p.s->(Nil xs xb\/zr p xs xb)->
 Calls Tryz.prog 197 #[v,.agg #[.int .i64 xs,.int .i64 xb],.int .i64 L] w (zQi (F xs xb) w)
theorem zMA{w:World}{base n K:Nat}{v:Value}{xs:List Value}{cs:Array Value}(h:w.ownsRow base 61 2 v n xs)(hK:w.heap[K]?=some (.cells cs 155 (0,0))):v.ownBlock≠some K:=by
 intro e;rcases h.2 with⟨rfl,_⟩ | ⟨g,bA,aA,rfl,_,hg,_⟩
 ·simp[Value.ownBlock]at e
 ·simp only[Value.ownBlock,Option.some.injEq]at e;subst e;rw[hK]at hg;simp only[Option.some.injEq,Obj.cells.injEq]at hg;exact absurd hg.2.1 (by decide)
theorem zAS{xs xb:Int}(h:¬Nil xs xb):(xs == 0)=false\/(xs == 0)=true/\(xb == 0)=false:=by
 by_cases h0:xs=0
 ·right;refine⟨by simp[h0],?_⟩;have:xb≠0:=fun h'=>h ⟨h0,h'⟩
  simp[this]
 ·left;simp[h0]
theorem zOH(p:zJ):zFz p 2 one:=by
 intro v lo hi xs xb w hs hP;obtain⟨_,a,c,rfl,_⟩:=id hs;have ha:=zC w (.cells #[.int .i64 xs,.int .i64 xb] 61);obtain⟨⟨x0,x1⟩,⟨x2,x3⟩⟩:=zc.zRL w (.int .i64 xs) (.int .i64 xb) 61;have aA:=World.ownsRow_lit (e:=61) (size:=2) (base:=w.heap.size) (w.alloc (.cells #[.int .i64 xs,.int .i64 xb] 61)) #[.int .i64 xs,.int .i64 xb] 1 (by simp) (by unfold maxLen;omega) rfl;rw[World.size_alloc]at aA;have bA:=zE aA;have HB:=zE (zA ha (zC _ (.cells #[.int .i64 xs,.int .i64 xb] 61)));clear aA;by_cases hn:Nil xs xb
 ·have HN:=zE hn;obtain⟨rfl,rfl⟩:=hn;go_enter Tryz.func197,Tryz.ntmps197;go_wp2;go_ret;exact⟨_,rfl,by rw[show one 0 0 = [] from if_pos HN.out];exact World.ownsRow_nil _ _ _ _,ha⟩
 ·have HN:=zE hn;have e0:=zAS hn;clear hn;rcases e0 with e0 | ⟨e0,e1⟩
  all_goals
   go_enter Tryz.func197,Tryz.ntmps197;go_wp2;go_ret;exact⟨_,rfl,by rw[show one xs xb = [(xs,xb)] from if_neg HN.out];exact bA.out,HB.out⟩
theorem zJR(p:zJ)(L:Int)(F:Int->Int->List (Int×Int))(hR:zv p)(hL:0<=L/\L<2)(hF:∀a b,(F a b).length<=9)(kA:zFz p (L+1) F):zFz p L (zGq p F):=by
 intro v lo hi xs xb w hs hP;have Hs:=zE hs;obtain⟨_,a,c,rfl,_⟩:=id hs;have ha:=zC w (.cells #[.int .i64 xs,.int .i64 xb] 61);obtain⟨⟨x0,x1⟩,⟨x2,x3⟩⟩:=zc.zRL w (.int .i64 xs) (.int .i64 xb) 61;have eC:(L == 2)=false:=by simp;omega
 clear hs;by_cases hn:Nil xs xb
 ·have HN:=zE hn;obtain⟨rfl,rfl⟩:=hn;go_enter Tryz.func197,Tryz.ntmps197;go_wp2;go_ret;exact⟨_,rfl,by rw[show zGq p F 0 0 = [] from if_pos HN.out];exact World.ownsRow_nil _ _ _ _,ha⟩
 ·have HN:=zE hn;have e0:=zAS hn;have tA:zr p xs xb:=hP.resolve_left hn;have Hf:=zE (qU hR tA);have aB:=zE kA;have HF:=zE hF;obtain⟨k,rfl⟩:=Int.eq_ofNat_of_zero_le tA.2.1;rw[Int.toNat_natCast]at Hf;have hk:k<p.n:=(by have:=tA.2.2.1;omega);have fC:(k:Int)<(p.n:Int):=(by omega);clear hn hP tA kA hR hF;have iA:=World.ownsRow_lit (e:=61) (size:=2) (base:=w.heap.size+1) (w.alloc (.cells #[.int .i64 (k:Int),.int .i64 xb] 61)) #[.int .i64 (k:Int),.int .i64 xb] 1 (by simp) (by unfold maxLen;omega) rfl;rw[World.size_alloc]at iA;have nA:=zE iA;have bB:=zC (w.alloc (.cells #[.int .i64 (k:Int),.int .i64 xb] 61)) (.cells #[.int .i64 (k:Int),.int .i64 xb] 61);have cB:=zA ha bB;have bC:=(zc.zRL w (.int .i64 (k:Int)) (.int .i64 xb) 61).zRJ bB;clear x0 x1 x2 x3 iA ha bB;obtain⟨⟨x0,x1⟩,⟨x2,x3⟩⟩:=bC;obtain⟨b,off,ka,kc,rfl,jB⟩:=(Hs.out.zRJ cB).cells hk;have HC:=zE jB;obtain⟨q0,q1,q2,_⟩:=jB;obtain⟨y0,y1⟩:=(zc.zRL w (.int .i64 (k:Int)) (.int .i64 xb) 61).1;obtain⟨y2,y3⟩:=(zc.zRL w (.int .i64 (k:Int)) (.int .i64 xb) 61).2;rcases e0 with e0 | ⟨e0,e1⟩
  all_goals
   go_enter Tryz.func197,Tryz.ntmps197;go_wp2_with fail;refine(zDS _ _ _ lo hi (p.s k) _ HC.out.slot (zEc Hf.out)).mono ?_;rintro e w1 ⟨rfl,sA⟩;have kB:=zA cB sA;have eA:=nA.out.kept (zBa sA none) (Or.inr (by simp[Value.ownBlock]));have dB:Hid ((Tryz.prog.info? 155).map (·.size)=some (qE (p.s k)).size):=by
    show _=_;rw[qE,qB];exact zBp
   have jA:(w1.alloc (.cells (qE (p.s k)) 155)).heap[w1.heap.size]?=some (.cells (qE (p.s k)) 155 (0,0)):=heap_alloc_last _ _;have HK:=zE jA;have gB:=zE (eA.alloc (.cells (qE (p.s k)) 155));have aC:=zA kB (zC w1 (.cells (qE (p.s k)) 155));have gC:w.heap.size+2<=w1.heap.size:=(by have:=sA.size;rw[World.size_alloc,World.size_alloc]at this;omega);obtain⟨i0,mB,fB⟩:=Option.map_eq_some_iff.1 zCn;simp only[Prod.mk.injEq]at fB;have HT:=zE (And.intro mB fB);clear sA kB eA jA cB x0 x1 x2 x3 y0 y1 y2 y3 q0 q1 q2 HC nA mB fB;go_wp2_with (first
    | (refine wpList_store_row rfl 155 (.tmp 8) (.tmp 23) rfl w1.heap.size (qE (p.s k)) rfl rfl 155 #[Value.int .i64 0,Value.int .i64 0,Value.int .i64 0,Value.int .i64 0,Value.int .i64 0,Value.int .i64 0,Value.int .i64 0,Value.int .i64 0,Value.int .i64 0,Value.int .i64 0,Value.int .i64 0,Value.int .i64 0,Value.int .i64 0,Value.int .i64 0,Value.int .i64 0,Value.int .i64 0] (heap_alloc_last _ _) dB.out (by rw[qE,qB];rfl) (zAs _) ?_;rw[World.setRow_alloc_new]))
   go_loopw [7,24] (fun o i wr=>∃(j:Nat) (oa:Option Addr) (oc:Nat),j<=8/\i = .int .i64 j/\o = .slice oa (((k:Int),xb) :: zBG F (p.s k) j).length oc/\wr.ownsRow (w.heap.size+1) 61 2 o (((k:Int),xb) :: zBG F (p.s k) j).length (pcl (((k:Int),xb) :: zBG F (p.s k) j))/\wr.heap[w1.heap.size]?=some (.cells (qE (p.s k)) 155 (0,0))/\Below w.heap.size w wr) (fun _ i _=>8 - (intOf i).toNat)
   case atStart=>exact⟨0,_,_,Nat.zero_le _,rfl,rfl,gB.out,HK.out,aC⟩
   case round=>
    obtain⟨j,oa,oc,hj,rfl,rfl,mA,hK,hb⟩:=hrel;have gA:=zE mA;have vA:=zE hK;have eB:w1.heap.size<wr.heap.size:=(Array.getElem?_eq_some_iff.1 hK).1;have cC:=zJY HF.out (p.s k) j;clear mA hK;by_cases tB:j<8
    ·have vB:(j:Int)<8:=(by omega);obtain⟨y0,y1⟩:=zI (i:=j*2) vA.out (yQ (zk (p.s k)) (by omega));obtain⟨y2,y3⟩:=zI (i:=j*2+1) vA.out (yQ (zk (p.s k)) (by omega));have sB:Hid (Nil (zk (p.s k) (j*2)) (zk (p.s k) (j*2+1))\/zr p (zk (p.s k) (j*2)) (zk (p.s k) (j*2+1))):=by
      by_cases hn:Nil (zb (p.s k) j) (zu (p.s k) j)
      ·exact Or.inl hn
      ·exact Or.inr (zAh Hf.out tB hn).1
     go_wp2_with fail;refine(aB.out _ lo hi (zk (p.s k) (j*2)) (zk (p.s k) (j*2+1)) _ (Hs.out.zRJ hb) sB.out).mono ?_;rintro e w2 ⟨v2,rfl,cA,oA⟩;obtain⟨na,nc,rfl,_⟩:=zW cA;have iC:=HF.out (zk (p.s k) (j*2)) (zk (p.s k) (j*2+1));have rA:=zE cA;have dA:=zE (gA.out.kept (zBa oA none) (by cases hv:(Value.slice oa (((k:Int),xb) :: zBG F (p.s k) j).length oc).ownBlock<;>simp));have nB:=zE ((oA.block _ eB).trans vA.out);have iB:=zA hb oA;have kC:=oA.size;clear cA oA y0 y1 y2 y3 gA vA;go_wp2_with (first
      | (at_builtin;refine qJ rfl _ _ 62 rfl (w.heap.size+1) 61 i0 (.agg #[.int .i64 0,.int .i64 0]) 2 16 (by kernel_rfl) HT.out.1 HT.out.2.1 HT.out.2.2.1 HT.out.2.2.2 rfl (by decide) (.slice oa (((k:Int),xb) :: zBG F (p.s k) j).length oc) (((k:Int),xb) :: zBG F (p.s k) j).length (pcl (((k:Int),xb) :: zBG F (p.s k) j)) rfl ?c0 na (F (zk (p.s k) (j*2)) (zk (p.s k) (j*2+1))).length nc (pcl (F (zk (p.s k) (j*2)) (zk (p.s k) (j*2+1)))) rfl (zA3 _) (zF7 _) ?c1 ?c3 ?c4 ?c5 ?_))
     case c0=>exact dA.out
     case c1=>
      intro h0;obtain⟨g,jC,e,_,_,_,lA⟩:=qe rA.out h0;simp only[Value.slice.injEq,true_and]at e;exact⟨g,0,e.1,fun j u hj=>by rw[Nat.zero_add];exact(lA j u hj).1⟩
     case c3=>rw[List.length_cons];unfold maxLen;omega
     case c4=>rw[List.length_cons];omega
     case c5=>omega
     intro v3 w3 bA aA _;have fA:((k:Int),xb) :: zBG F (p.s k) (j+1)=(((k:Int),xb) :: zBG F (p.s k) j) ++ F (zk (p.s k) (j*2)) (zk (p.s k) (j*2+1)):=rfl;have lB:(zBG F (p.s k) j).length+1+(F (zk (p.s k) (j*2)) (zk (p.s k) (j*2+1))).length=(((k:Int),xb) :: zBG F (p.s k) (j+1)).length:=(by rw[fA,List.length_append,List.length_cons]);rw[<-zBE,<-fA,lB]at bA;have oB:=zE ((aA.block _ (by omega) (fun e=>zMA dA.out nB.out e.symm)).trans nB.out);have pB:=iB.grown aA iB.size (fun q hq=>by have:=dA.out.lt q hq;omega);obtain⟨dC,rB,rfl,_⟩:=zW bA;have pA:=zE bA;clear bA aA fA lB;go_wp2;go_roundw
     case rel=>exact⟨j+1,dC,rB,by omega,by go_num,rfl,pA.out,oB.out,pB⟩
     case measure=>simp[intOf];omega
    ·obtain rfl:j=8:=(by omega);go_wp2;go_ret;refine⟨_,rfl,?_,hb⟩;rw[show zGq p F (k:Int) xb=((k:Int),xb) :: zBG F (p.s k) 8 by unfold zGq;rw[if_neg HN.out,Int.toNat_natCast]];exact zEF gA.out (by omega)
theorem zOI(p:zJ)(hR:zv p):zFz p 1 (zEu p):=by
 have h:=zJR p 1 one hR (by omega) (fun a b=>by unfold one;split<;>simp) (zOH p);have e:zGq p one=zEu p:=by
  funext xs xb;unfold zGq zEu zMt;rw[zJB]
 rw[e]at h;exact h
theorem zJo(p:zJ)(hR:zv p):zFz p 0 (zR p):=by
 have h:=zJR p 0 (zEu p) hR (by omega) (zLb p) (zOI p hR);have e:zGq p (zEu p)=zR p:=by
  funext xs xb;unfold zGq zR;rw[zJQ]
 rw[e]at h;exact h
def zOX(n:Nat)(f g:Nat->Int)(x y:Int):Prop:=∃j,j<n/\f j=x/\g j=y
theorem zU.cellsT{w:World}{lo hi:Nat}{a:Option Addr}{n c:Nat}{f g:Nat->Int}(h:zU w lo hi (.slice a n c) n f g){k:Nat}(hk:k<n):∃b off,a=some ⟨b,off,none⟩/\w.cell? ⟨b,off+k*2,none⟩=some (.int .i64 (f k))/\w.cell? ⟨b,off+k*2+1,none⟩=some (.int .i64 (g k)):=by
 obtain⟨_,a2,c2,hv,_,hx⟩:=h;simp only[Value.slice.injEq,true_and]at hv;obtain⟨rfl,rfl⟩:=hv;obtain⟨b,off,ha,_,_,h3⟩:=hx (by omega);exact⟨b,off,ha,(h3 k hk).1,(h3 k hk).2⟩
theorem zU.take{w:World}{lo hi:Nat}{a:Option Addr}{n c m c':Nat}{f g:Nat->Int}(h:zU w lo hi (.slice a n c) n f g)(hm:m<=n)(hc:m<=c'):zU w lo hi (.slice a m c') m f g:=by
 obtain⟨h0,a2,c2,hv,_,hx⟩:=h;simp only[Value.slice.injEq,true_and]at hv;obtain⟨rfl,rfl⟩:=hv;refine⟨by omega,_,c',rfl,hc,fun h1=>?_⟩;obtain⟨b,off,ha,hl,hh,h3⟩:=hx (by omega);exact⟨b,off,ha,hl,hh,fun i hi=>h3 i (by omega)⟩
theorem zKv(v:Value)(n lo hi:Nat)(f g:Nat->Int)(x y:Int)(w:World)(h1:zU w lo hi v n f g) :
  Calls Tryz.prog 228 #[v,.agg #[.int .i64 x,.int .i64 y]] w fun e w'=>(∃r:Int,e = .returned (.int .i64 r)/\(0<=r↔zOX n f g x y))/\Below w.heap.size w w':=by
 have Hp:=zE h1;obtain⟨m1,a,c,rfl,mc,_⟩:=id h1;unfold maxLen at m1;clear h1;have ha:=zC w (.cells #[.int .i64 x,.int .i64 y] 61);have HB:=zE (zc.zRL w (.int .i64 x) (.int .i64 y) 61);go_enter Tryz.func228,Tryz.ntmps228;go_wp2
 go_loopw [8] (fun i wr=>∃k:Nat,k<=n/\i = .int .i64 k/\¬zOX k f g x y/\zc wr w.heap.size (.int .i64 x) (.int .i64 y)/\Below w.heap.size w wr) (fun i _=>n - (intOf i).toNat)
 case atStart=>exact⟨0,Nat.zero_le _,rfl,fun ⟨j,hj,_⟩=>absurd hj (Nat.not_lt_zero _),HB.out,ha⟩
 case round=>
  obtain⟨k,hk,rfl,dA,hX,hb⟩:=hrel;have bA:=zE dA;have HX:=zE hX;clear dA hX;obtain⟨⟨x0,x1⟩,⟨x2,x3⟩⟩:=HX.out;by_cases cA:k<n
  ·have eA:(k:Int)<(n:Int):=(by omega);obtain⟨b,off,rfl,q0,q1⟩:=(Hp.out.zRJ hb).cellsT cA;by_cases he:x=f k/\y=g k
   ·have H:=zE (show zOX n f g x y from⟨k,cA,he.1.symm,he.2.symm⟩);rw[<-he.1]at q0;rw[<-he.2]at q1;clear he;go_wp2
    go_quiet (fail)
    go_wp2;go_ret;exact⟨⟨_,rfl,⟨fun _=>H.out,fun _=>Int.natCast_nonneg _⟩⟩,zg hb _⟩
   ·have H:=zE he;have e0:(x == f k)=false\/(x == f k)=true/\(y == g k)=false:=by
     by_cases h:x=f k
     ·right;refine⟨by simp[h],?_⟩;have:y≠g k:=fun h'=>he ⟨h,h'⟩
      simp[this]
     ·left;simp[h]
    clear he;rcases e0 with e0 | ⟨e0,e1⟩
    all_goals
     go_wp2
     go_quiet (fail)
     go_wp2;go_roundw
     case rel=>
      refine⟨k+1,by omega,by go_num,?_,HX.out.zRJ (zg (Below.refl _ _) _),zg hb _⟩;rintro⟨j,hj,aA⟩;by_cases e:j=k
      ·subst e;exact H.out ⟨aA.1.symm,aA.2.symm⟩
      ·exact bA.out ⟨j,by omega,aA⟩
     case measure=>simp[intOf];omega
  ·obtain rfl:k=n:=(by omega);go_wp2;go_ret;exact⟨⟨-1,rfl,⟨fun h=>absurd h (by omega),fun h=>absurd h bA.out⟩⟩,hb⟩
theorem zDu(v:Value)(n lo hi:Nat)(f g:Nat->Int)(x y:Int)(w:World)(h1:zU w lo hi v n f g) :
  Calls Tryz.prog 220 #[v,.agg #[.int .i64 x,.int .i64 y]] w fun e w'=>zG (zOX n f g x y) e/\Below w.heap.size w w':=by
 have Hi:=zE h1;obtain⟨m1,a,c,rfl,mc,_⟩:=id h1;clear h1;have ha:=zC w (.cells #[.int .i64 x,.int .i64 y] 61);go_enter Tryz.func220,Tryz.ntmps220;go_wp2_with fail;refine(zKv _ n lo hi f g x y _ (Hi.out.zRJ ha)).mono ?_;rintro e w' ⟨⟨r,rfl,hr⟩,hb⟩;have Hr:=zE hr;have hB:=zA ha hb;clear hr hb;go_wp2;go_ret;exact⟨⟨_,rfl,by simpa using Hr.out⟩,hB⟩
def zMw(p:zJ)(n:Nat)(f g:Nat->Int):Prop:=∀i,i<n->¬zOX i f g (f i) (g i)/\¬Has p.hn p.h (f i)
theorem zN9(v0 v1 v:Value)(lo hi lo' hi' n:Nat)(p:zJ)(f g:Nat->Int)(w:World)(h1:zy w lo hi v0 v1 p)(h2:zU w lo' hi' v n f g) :
    Calls Tryz.prog 196 #[.agg #[v0,v1],v] w fun e w'=>zG (zMw p n f g) e/\Below w.heap.size w w':=by
  have Hp:=zE h1;have Hl:=zE h2;obtain⟨a,c,a',c',rfl,rfl⟩:∃a c a' c',v0 = .slice a p.n c/\v1 = .slice a' p.hn c':=by
    obtain⟨⟨_,a,c,h1,_⟩,⟨_,a',c',h3,_⟩⟩:=h1;exact⟨a,c,a',c',h1,h3⟩
  obtain⟨m1,la,lc,rfl,mc,_⟩:=id h2;unfold maxLen at m1;clear h1 h2;have ha:=zC w (.cells #[.slice a p.n c,.slice a' p.hn c'] 33);have HB:=zE (zc.zRL w (.slice a p.n c) (.slice a' p.hn c') 33);go_enter Tryz.func196,Tryz.ntmps196;go_wp2
  go_loopw [9] (fun i wr=>∃k:Nat,k<=n/\i = .int .i64 k/\zMw p k f g/\zc wr w.heap.size (.slice a p.n c) (.slice a' p.hn c')/\Below w.heap.size w wr) (fun i _=>n - (intOf i).toNat)
  case atStart=>exact⟨0,Nat.zero_le _,rfl,fun j hj=>absurd hj (Nat.not_lt_zero _),HB.out,ha⟩
  case round=>
    obtain⟨k,hk,rfl,eA,hX,hb⟩:=hrel;have gA:=zE eA;have HX:=zE hX;clear eA hX;by_cases jA:k<n
    · have rA:(k:Int)<(n:Int):=by omega
      have sA:(k:Int)<=(lc:Int):=(by omega);obtain⟨b,off,rfl,q0,q1⟩:=(Hl.out.zRJ hb).cellsT jA;have lA:=zC wr (.cells #[.int .i64 (f k),.int .i64 (g k)] 61);have fA:=zE (HX.out.zRJ lA);have HV:=zE (zc.zRL wr (.int .i64 (f k)) (.int .i64 (g k)) 61);have dA:=zA hb lA;have tA:w.heap.size<wr.heap.size:=HX.out.1.lt;have pA:(wr.alloc (.cells #[.int .i64 (f k),.int .i64 (g k)] 61)).heap.size=wr.heap.size+1:=World.size_alloc _ _;go_upto_region 4 with fail;generalize wr.alloc (.cells #[.int .i64 (f k),.int .i64 (g k)] 61)=wx at fA HV dA pA ⊢;clear q0 q1 lA HX;have iA:=zE ((Hl.out.zRJ dA).take (m:=k) (c':=lc) (by omega) (by omega));obtain⟨⟨x0,x1⟩,⟨x2,x3⟩⟩:=fA.out;obtain⟨⟨y0,y1⟩,⟨y2,y3⟩⟩:=HV.out;by_cases hh:zOX k f g (f k) (g k)
      · have HH:=zE hh
        clear hh
        first
          | (go_region_with (first
              | (go_at_call 220
                 refine(zDu _ k lo' hi' f g (f k) (g k) _ ?_).mono ?_
                 (first | exact iA.out | exact iA.out.zRJ (Below.refl _ _).drew)
                 rintro e w2 ⟨⟨t2,rfl,cA⟩,bA⟩;obtain rfl:t2=true:=cA.2 HH.out;clear cA;have aA:Below wx.heap.size wx w2:=(by first | exact bA | exact zK bA);obtain⟨⟨k0,_⟩,⟨k1,_⟩⟩:=fA.out.zRJ aA;obtain⟨⟨k2,_⟩,⟨k3,_⟩⟩:=HV.out.zRJ aA)))
          | fail
        all_goals
          have kA:=zA dA aA;go_wp2;go_ret;exact⟨zG.no fun h=>(h k jA).1 HH.out,kA⟩
      · have HH:=zE hh
        clear hh;go_region_held3 (fun w'=>w'.cell? ⟨w.heap.size,0,none⟩=some (.slice a p.n c)/\w'.cell? ⟨w.heap.size,1,none⟩=some (.slice a' p.hn c')/\w'.cell? ⟨wr.heap.size,0,none⟩=some (.int .i64 (f k))/\w'.cell? ⟨wr.heap.size,1,none⟩=some (.int .i64 (g k))) (go_keep)
          (first
            | (go_at_call 220
               refine(zDu _ k lo' hi' f g (f k) (g k) _ ?_).mono ?_
               (first | exact iA.out | exact iA.out.zRJ (Below.refl _ _).drew)
               rintro e w2 ⟨⟨t2,rfl,cA⟩,bA⟩;obtain rfl:t2=false:=zQ cA HH.out;clear cA;have aA:Below wx.heap.size wx w2:=(by first | exact bA | exact zK bA);obtain⟨⟨k0,_⟩,⟨k1,_⟩⟩:=fA.out.zRJ aA;obtain⟨⟨k2,_⟩,⟨k3,_⟩⟩:=HV.out.zRJ aA)
            | (go_at_call 192
               refine(zCF _ p.hn lo hi p.h (f k) _ ?_).mono ?_;exact(Hp.out.2.zRJ (zA dA aA));rintro e w3 ⟨⟨t3,rfl,nA⟩,rfl⟩))
        have kA:=zA dA aA;have oA:=zE (fA.out.zRJ aA);have mA:=zE nA;clear nA aA bA x0 x1 x2 x3 y0 y1 y2 y3 k0 k1 k2 k3;cases t3
        · go_wp2
          go_roundw
          case rel=>exact⟨k+1,by omega,by go_num,zo (n:=n) jA gA.out ⟨HH.out,fun h=>absurd (mA.out.2 h) (by simp)⟩,oA.out,kA⟩
          case measure=>simp[intOf];omega
        · go_wp2
          go_ret;exact⟨zG.no fun h=>(h k jA).2 (mA.out.1 trivial),kA⟩
    · obtain rfl:k=n:=by omega
      go_wp2;go_ret;exact⟨zG.yes gA.out,hb⟩
theorem zPm{w:World}{base:Nat}{v:Value}{l:List (Int×Int)}(hm:l.length<=maxLen)(h:w.ownsRow base 61 2 v l.length (pcl l)):zU w 0 w.heap.size v l.length (fun i=>(l.getD i (0,0)).1) (fun i=>(l.getD i (0,0)).2):=by
  by_cases h0:0<l.length
  · obtain⟨g,cA,rfl,bA,hb,dA,aA⟩:=qe h h0
    refine⟨hm,_,cA,rfl,bA,fun _=>⟨g,0,rfl,Nat.zero_le _,dA,fun i hi=>?_⟩⟩;have get:∀(l:List (Int×Int)) i,i<l.length->(pcl l)[i*2]?=some (.int .i64 (l.getD i (0,0)).1)/\(pcl l)[i*2+1]?=some (.int .i64 (l.getD i (0,0)).2):=by
      intro l
      induction l with
      | nil=>intro i hi;simp at hi
      | cons x l ih=>
        intro i hi;cases i with
        | zero=>exact⟨rfl,rfl⟩
        | succ i=>
          have:=ih i (by simpa using hi);rw[show(i+1)*2=i*2+1+1 by omega];simpa[pcl]using this
    rw[Nat.zero_add];exact⟨(aA _ _ (get l i hi).1).1,(aA _ _ (get l i hi).2).1⟩
  · obtain⟨a,cA,rfl,bA⟩:=zW h
    exact⟨hm,a,cA,rfl,bA,fun h=>absurd h h0⟩
theorem zNB(p:zJ)(l:List (Int×Int)):zMw p l.length (fun i=>(l.getD i (0,0)).1) (fun i=>(l.getD i (0,0)).2)↔zPk p l:=by
  have aA:∀i (h:i<l.length),l.getD i (0,0)=l[i]:=fun i h=>by rw[List.getD_eq_getElem?_getD,List.getElem?_eq_getElem h,Option.getD_some]
  constructor
  · intro h
    refine⟨?_,fun x hx=>?_⟩
    · rw[List.Nodup,List.pairwise_iff_getElem]
      intro i j hi hj bA e;refine(h j hj).1 ⟨i,bA,?_,?_⟩
      · show(l.getD i (0,0)).1=(l.getD j (0,0)).1
        rw[aA i hi,aA j hj,e]
      · show(l.getD i (0,0)).2=(l.getD j (0,0)).2
        rw[aA i hi,aA j hj,e]
    · obtain⟨i,hi,rfl⟩:=List.getElem_of_mem hx
      have:=(h i hi).2;simp only[aA i hi]at this;exact this
  · rintro⟨h1,h2⟩ i hi
    refine⟨?_,?_⟩
    · rintro⟨j,hj,e1,e2⟩
      simp only[aA i hi,aA j (by omega)]at e1 e2;rw[List.Nodup,List.pairwise_iff_getElem]at h1;exact h1 j i (by omega) hi hj (Prod.ext e1 e2)
    · simp only[aA i hi]
      exact h2 _ (List.getElem_mem hi)
theorem zE1(v0 v1:Value)(lo hi:Nat)(p:zJ)(xs xb:Int)(w:World)(h1:zy w lo hi v0 v1 p)(hR:zv p) :
    Calls Tryz.prog 155 #[.agg #[v0,v1],.agg #[.int .i64 xs,.int .i64 xb]] w fun e w'=>zG (zJ3 p xs xb) e/\Below w.heap.size w w':=by
  have Hp:=zE h1;have HR:=zE hR;obtain⟨a,c,a',c',rfl,rfl⟩:∃a c a' c',v0 = .slice a p.n c/\v1 = .slice a' p.hn c':=by
    obtain⟨⟨_,a,c,h1,_⟩,⟨_,a',c',h3,_⟩⟩:=h1;exact⟨a,c,a',c',h1,h3⟩
  clear h1 hR;have oA:=zBq w (.slice a p.n c) (.slice a' p.hn c') (.int .i64 xs) (.int .i64 xb) 33 61;by_cases hn:Nil xs xb
  · have HN:=zE hn
    obtain⟨rfl,rfl⟩:=hn;obtain⟨_,_,aA,_⟩:=oA;go_enter Tryz.func155,Tryz.ntmps155;go_wp2;go_ret;exact⟨zG.yes (Or.inl HN.out),aA⟩
  · have HN:=zE hn
    have e0:=zAS hn;clear hn;have iA:Hid (∀t:Bool,(t=true↔zr p xs xb/\zKX p (p.s xs.toNat)/\zPk p (zR p xs xb))->zG (zJ3 p xs xb) (.returned (.bool t))):=fun t ht=>⟨t,rfl,ht.trans ⟨fun h=>Or.inr h,fun h=>h.resolve_left HN.out⟩⟩
    go_enter Tryz.func155,Tryz.ntmps155;go_upto_region 1 with fail;generalize (w.alloc (.cells #[.slice a p.n c,.slice a' p.hn c'] 33)).alloc (.cells #[.int .i64 xs,.int .i64 xb] 61)=W at oA ⊢;obtain⟨hB,hX,aA,hz⟩:=oA;have HB:=zE hB;have HX:=zE hX;clear hB hX
    go_cut [7] (fun v wc=>v = .bool false/\W=wc)
    case first=>
      obtain⟨⟨y0,y1⟩,⟨y2,y3⟩⟩:=HX.out;rcases e0 with e0 | ⟨e0,e1⟩
      all_goals
        go_wp2_with fail
        go_meet
        case rel=>exact⟨rfl,rfl⟩
    case rest=>
      obtain⟨rfl,rfl⟩:=hcut;clear e0;obtain⟨⟨x0,x1⟩,⟨x2,x3⟩⟩:=HB.out;obtain⟨⟨y0,y1⟩,⟨y2,y3⟩⟩:=HX.out;go_upto_region 3 with fail;by_cases hP:zr p xs xb
      · have HP:=zE hP
        clear hP;by_cases mA:zKX p (p.s xs.toNat)
        · have kA:=zE mA
          clear mA;go_region_held3 (fun w'=>w'.cell? ⟨w.heap.size,0,none⟩=some (.slice a p.n c)/\w'.cell? ⟨w.heap.size,1,none⟩=some (.slice a' p.hn c')/\w'.cell? ⟨w.heap.size+1,0,none⟩=some (.int .i64 xs)/\w'.cell? ⟨w.heap.size+1,1,none⟩=some (.int .i64 xb)) (go_keep)
            (first
              | (go_at_call 191
                 refine(zEi _ p.n lo hi p.s xs xb _ ?_).mono ?_
                 (first | exact Hp.out.1.zRJ aA | exact Hp.out.1.zRJ aA.drew)
                 rintro e w1 ⟨⟨t1,rfl,cA⟩,eA⟩;rw[zEk HR.out]at cA;obtain rfl:t1=true:=cA.2 HP.out;clear cA;have bA:Below W.heap.size W w1:=(by first | exact eA | exact zK eA);obtain⟨⟨k0,_⟩,⟨k1,_⟩⟩:=HB.out.zRJ bA;obtain⟨⟨k2,_⟩,⟨k3,_⟩⟩:=HX.out.zRJ bA)
              | (go_at_call 195
                 refine(zH0 p HR.out _ lo hi xs xb _ ?_ HP.out).mono ?_;exact Hp.out.1.zRJ (zA aA bA);rintro e w2 ⟨⟨t2,rfl,lA⟩,pA⟩;obtain rfl:t2=true:=lA.2 kA.out;clear lA;have gA:=zA bA pA;obtain⟨⟨l0,_⟩,⟨l1,_⟩⟩:=HB.out.zRJ gA;obtain⟨⟨l2,_⟩,⟨l3,_⟩⟩:=HX.out.zRJ gA)
              | (go_at_call 197
                 refine(zJo p HR.out _ lo hi xs xb _ ?_ (Or.inr HP.out)).mono ?_;exact Hp.out.1.zRJ (zA aA gA);rintro e w3 ⟨v3,rfl,fA,tA⟩;obtain⟨na,nc,rfl,_⟩:=zW fA;have nA:=zA gA tA;have aB:=zPm (by have:=qP p xs xb;unfold maxLen;omega) fA;obtain⟨⟨m0,_⟩,⟨m1,_⟩⟩:=HB.out.zRJ nA;obtain⟨⟨m2,_⟩,⟨m3,_⟩⟩:=HX.out.zRJ nA)
              | (go_at_call 196
                 refine(zN9 _ _ _ lo hi 0 w3.heap.size _ p _ _ _ ?_ aB).mono ?_;exact Hp.out.zRJ (zA aA nA);rintro e w4 ⟨⟨t4,rfl,sA⟩,vA⟩;rw[zNB]at sA;have rA:=zA nA vA;obtain⟨⟨n0,_⟩,⟨n1,_⟩⟩:=HB.out.zRJ rA;obtain⟨⟨n2,_⟩,⟨n3,_⟩⟩:=HX.out.zRJ rA))
          have jA:=zA aA rA;have HT:=zE sA;clear sA;go_wp2;go_ret;exact⟨iA.out t4 (HT.out.trans ⟨fun h=>⟨HP.out,kA.out,h⟩,fun h=>h.2.2⟩),jA⟩
        · have kA:=zE mA
          clear mA;refine wp_region_held_drew (S:=(fun w'=>w'.cell? ⟨w.heap.size,0,none⟩=some (.slice a p.n c)/\w'.cell? ⟨w.heap.size,1,none⟩=some (.slice a' p.hn c')/\w'.cell? ⟨w.heap.size+1,0,none⟩=some (.int .i64 xs)/\w'.cell? ⟨w.heap.size+1,1,none⟩=some (.int .i64 xb))) (by kernel_rfl) ?_ (fun hHeld=>?_)
          · (try dsimp only)
            go_keep
          refine tk 0 (h:=tk 1 (h:=tk 2 (h:=?_)));refine rd [3] (rc (fun K hK=>?_) .nil);go_simp;go_at_call 191;refine(zEi _ p.n lo hi p.s xs xb _ ?_).mono ?_
          · first | exact Hp.out.1.zRJ aA | exact Hp.out.1.zRJ aA.drew
          rintro e w1 ⟨⟨t1,rfl,cA⟩,eA⟩;rw[zEk HR.out]at cA;obtain rfl:t1=true:=cA.2 HP.out;clear cA;have bA:Below W.heap.size W w1:=(by first | exact eA | exact zK eA);obtain⟨⟨k0,_⟩,⟨k1,_⟩⟩:=HB.out.zRJ bA;obtain⟨⟨k2,_⟩,⟨k3,_⟩⟩:=HX.out.zRJ bA
          (try go_wp2_with fail)
          refine hK.out _ _ (by(try dsimp only);go_keep) ?_;clear hK K hHeld;intro hHeld
          try simp only[Act.put,s1,s2,s3]
          refine tk 4 (h:=tk 5 (h:=tk 6 (h:=tk 7 (h:=?_))));refine rd [8] (rc (fun K hK=>?_) .nil);go_simp;go_at_call 195;refine(zH0 p HR.out _ lo hi xs xb _ ?_ HP.out).mono ?_
          · exact Hp.out.1.zRJ (zA aA bA)
          rintro e w2 ⟨⟨t2,rfl,lA⟩,pA⟩;obtain rfl:t2=false:=zQ lA kA.out;clear lA;have gA:=zA bA pA;obtain⟨⟨l0,_⟩,⟨l1,_⟩⟩:=HB.out.zRJ gA;obtain⟨⟨l2,_⟩,⟨l3,_⟩⟩:=HX.out.zRJ gA
          (try go_wp2_with fail)
          refine hK.out _ _ (by(try dsimp only);go_keep) ?_;clear hK K hHeld;intro hHeld
          try simp only[Act.put,s1,s2,s3]
          refine tk 9 (h:=tk 10 (h:=ts 11 (h:=ts 12 (h:=ts 13 (h:=ts 14 (h:=?_))))));refine rd [15] (rc (fun K hK=>?_) .nil);split
          · rename_i dA
            exact absurd (show false=true from dA) Bool.false_ne_true
          refine hK.out _ _ (by assumption) (fun hHeld=>?_);clear hK K
          try simp only[Act.put,s1,s2,s3]
          refine rd [16] (rc (fun K hK=>?_) .nil);split
          · rename_i dA
            exact absurd (show false=true from dA) Bool.false_ne_true
          refine hK.out _ _ (by assumption) (fun hHeld=>?_);clear hK K
          try simp only[Act.put,s1,s2,s3]
          refine tk 17 (h:=tk 18 (h:=?_));refine wpAnyH_done (by kernel_rfl) ?_ _;have jA:=zA aA gA;go_wp2;go_ret;exact⟨iA.out false ⟨fun h=>(by cases h),fun h=>absurd h.2.1 kA.out⟩,jA⟩
      · have HP:=zE hP
        clear hP;refine wp_region_held_drew (S:=(fun w'=>w'.cell? ⟨w.heap.size,0,none⟩=some (.slice a p.n c)/\w'.cell? ⟨w.heap.size,1,none⟩=some (.slice a' p.hn c')/\w'.cell? ⟨w.heap.size+1,0,none⟩=some (.int .i64 xs)/\w'.cell? ⟨w.heap.size+1,1,none⟩=some (.int .i64 xb))) (by kernel_rfl) ?_ (fun hHeld=>?_)
        · (try dsimp only)
          go_keep
        refine tk 0 (h:=tk 1 (h:=tk 2 (h:=?_)));refine rd [3] (rc (fun K hK=>?_) .nil);go_simp;go_at_call 191;refine(zEi _ p.n lo hi p.s xs xb _ ?_).mono ?_
        · first | exact Hp.out.1.zRJ aA | exact Hp.out.1.zRJ aA.drew
        rintro e w1 ⟨⟨t1,rfl,cA⟩,eA⟩;rw[zEk HR.out]at cA;obtain rfl:t1=false:=zQ cA HP.out;clear cA;have bA:Below W.heap.size W w1:=(by first | exact eA | exact zK eA);obtain⟨⟨k0,_⟩,⟨k1,_⟩⟩:=HB.out.zRJ bA;obtain⟨⟨k2,_⟩,⟨k3,_⟩⟩:=HX.out.zRJ bA
        (try go_wp2_with fail)
        refine hK.out _ _ (by(try dsimp only);go_keep) ?_;clear hK K hHeld;intro hHeld
        try simp only[Act.put,s1,s2,s3]
        refine tk 4 (h:=ts 5 (h:=ts 6 (h:=ts 7 (h:=?_))));refine rd [8] (rc (fun K hK=>?_) .nil);split
        · rename_i dA
          exact absurd (show false=true from dA) Bool.false_ne_true
        refine hK.out _ _ (by assumption) (fun hHeld=>?_);clear hK K
        try simp only[Act.put,s1,s2,s3]
        refine tk 9 (h:=tk 10 (h:=ts 11 (h:=ts 12 (h:=ts 13 (h:=ts 14 (h:=?_))))));refine rd [15] (rc (fun K hK=>?_) .nil);split
        · rename_i dA
          exact absurd (show false=true from dA) Bool.false_ne_true
        refine hK.out _ _ (by assumption) (fun hHeld=>?_);clear hK K
        try simp only[Act.put,s1,s2,s3]
        refine rd [16] (rc (fun K hK=>?_) .nil);split
        · rename_i dA
          exact absurd (show false=true from dA) Bool.false_ne_true
        refine hK.out _ _ (by assumption) (fun hHeld=>?_);clear hK K
        try simp only[Act.put,s1,s2,s3]
        refine tk 17 (h:=tk 18 (h:=?_));refine wpAnyH_done (by kernel_rfl) ?_ _;have jA:=zA aA bA;go_wp2;go_ret;exact⟨iA.out false ⟨fun h=>(by cases h),fun h=>absurd h.1 HP.out⟩,jA⟩
def icl(l:List Int):List Value:=l.map (Value.int .i64)
theorem zMO(l m:List Int):icl (l ++ m)=icl l ++ icl m:=by simp[icl]
theorem zF0{w:World}{base:Nat}{v:Value}{l:List Int}(hm:l.length<=maxLen)(h:w.ownsRow base 2 1 v l.length (icl l)):qY w 0 w.heap.size v l.length (fun i=>l.getD i 0):=by
 by_cases h0:0<l.length
 ·obtain⟨g,cA,rfl,bA,hb,dA,aA⟩:=qe h h0;refine⟨hm,_,cA,rfl,bA,fun _=>⟨g,0,rfl,Nat.zero_le _,dA,fun i hi=>?_⟩⟩;rw[Nat.zero_add];refine(aA i _ ?_).1;simp[icl,hi]
 ·obtain⟨a,cA,rfl,bA⟩:=zW h;exact⟨hm,a,cA,rfl,bA,fun h=>absurd h h0⟩
theorem zF5(l:List Int)(x:Int):Has l.length (fun i=>l.getD i 0) x↔x∈l:=by
 have aA:∀i (h:i<l.length),l.getD i 0=l[i]:=fun i h=>by rw[List.getD_eq_getElem?_getD,List.getElem?_eq_getElem h,Option.getD_some]
 constructor
 ·rintro⟨j,hj,e⟩;rw[<-e];show l.getD j 0∈l;rw[aA j hj];exact List.getElem_mem hj
 ·intro h;obtain⟨i,hi,rfl⟩:=List.getElem_of_mem h;exact⟨i,hi,aA i hi⟩
def zAJ(p:zJ)(rs:Int)(s:zL)(j:Nat):List Int:=rs :: yK (zAv p s j)
def zBN(p:zJ)(rs:Int)(s:zL)(j i:Nat):List Int:=zAJ p rs s j ++ (zb s j :: yK (kidsUp (zb (p.s (zb s j).toNat)) (zu (p.s (zb s j).toNat)) i))
theorem zH3(p:zJ)(s:zL)(j:Nat):∀m,j<=m->∃r,zAv p s m=zAv p s j ++ r
 | 0,h=>⟨[],by rw[show j=0 by omega];simp⟩
 | m+1,h=>by
  by_cases e:j=m+1
  ·subst e;exact⟨[],by simp⟩
  ·obtain⟨r,hr⟩:=zH3 p s j m (by omega);exact⟨r ++ zEu p (zb s m) (zu s m),by rw[zAv,hr,List.append_assoc]⟩
theorem zG2(ks kb:Nat->Int)(j:Nat):∀m,j<=m->∃r,kidsUp ks kb m=kidsUp ks kb j ++ r
 | 0,h=>⟨[],by rw[show j=0 by omega];simp⟩
 | m+1,h=>by
  by_cases e:j=m+1
  ·subst e;exact⟨[],by simp⟩
  ·obtain⟨r,hr⟩:=zG2 ks kb j m (by omega);exact⟨r ++ one (ks m) (kb m),by rw[kidsUp,hr,List.append_assoc]⟩
theorem zA0(l m:List (Int×Int)):yK (l ++ m)=yK l ++ yK m:=by simp[yK]
theorem zDg{l:List Int}{x:Int}:(l ++ [x]).Nodup↔l.Nodup/\x∉l:=by
 rw[List.nodup_append];constructor
 ·rintro⟨h1,_,h3⟩;exact⟨h1,fun hx=>h3 x hx x (by simp) rfl⟩
 ·rintro⟨h1,h2⟩;refine⟨h1,by simp,fun a ha b hb e=>?_⟩;rw[List.mem_singleton]at hb;subst hb;subst e;exact h2 ha
theorem zHi{p:zJ}{rs rb:Int}(hz:¬Nil rs rb):yK (zR p rs rb)=zAJ p rs (p.s rs.toNat) 8:=by
 unfold zR zAJ;rw[if_neg hz];rfl
theorem zLv{p:zJ}{s:zL}{j:Nat}(hn:¬Nil (zb s j) (zu s j)):zEu p (zb s j) (zu s j)=(zb s j,zu s j) :: zMt (p.s (zb s j).toNat):=if_neg hn
theorem zEl{p:zJ}{rs:Int}{s:zL}{j:Nat}(hn:¬Nil (zb s j) (zu s j)):zAJ p rs s (j+1)=zBN p rs s j 8:=by
 unfold zAJ zBN zAJ;rw[zAv,zA0,zLv hn];rfl
theorem zGS{p:zJ}{rs:Int}{s:zL}{j:Nat}(hn:Nil (zb s j) (zu s j)):zAJ p rs s (j+1)=zAJ p rs s j:=by
 unfold zAJ;rw[zAv,show zEu p (zb s j) (zu s j) = [] from if_pos hn,List.append_nil]
theorem zGL(p:zJ)(rs:Int)(s:zL)(j:Nat):zBN p rs s j 0=zAJ p rs s j ++ [zb s j]:=rfl
theorem zPU{p:zJ}{rs:Int}{s:zL}{j i:Nat}(hn:Nil (zb (p.s (zb s j).toNat) i) (zu (p.s (zb s j).toNat) i)):zBN p rs s j (i+1)=zBN p rs s j i:=by
 unfold zBN;rw[kidsUp,show one (zb (p.s (zb s j).toNat) i) (zu (p.s (zb s j).toNat) i) = [] from if_pos hn,List.append_nil]
theorem zOs{p:zJ}{rs:Int}{s:zL}{j i:Nat}(hn:¬Nil (zb (p.s (zb s j).toNat) i) (zu (p.s (zb s j).toNat) i)):zBN p rs s j (i+1)=zBN p rs s j i ++ [zb (p.s (zb s j).toNat) i]:=by
 unfold zBN;rw[kidsUp,show one (zb (p.s (zb s j).toNat) i) (zu (p.s (zb s j).toNat) i) = [(zb (p.s (zb s j).toNat) i,zu (p.s (zb s j).toNat) i)] from if_neg hn,zA0,List.append_assoc];rfl
theorem zL7(p:zJ)(rs:Int)(s:zL){j:Nat}(hj:j<=8):(zAJ p rs s j).length<=73:=by
 have:=zEZ p s j;simp only[zAJ,yK,List.length_cons,List.length_map];omega
theorem zP5(p:zJ)(rs:Int)(s:zL){j i:Nat}(hj:j<=8)(hi:i<=8):(zBN p rs s j i).length<=90:=by
 have h1:=zL7 p rs s hj;have h2:=zAg (zb (p.s (zb s j).toNat)) (zu (p.s (zb s j).toNat)) i;simp only[zBN,yK,List.length_append,List.length_cons,List.length_map];omega
theorem zJk{p:zJ}{rs rb:Int}(hz:¬Nil rs rb)(h:(yK (zR p rs rb)).Nodup){j i:Nat}(hj:j<8)(hi:i<=8)(hn:¬Nil (zb (p.s rs.toNat) j) (zu (p.s rs.toNat) j)):(zBN p rs (p.s rs.toNat) j i).Nodup:=by
 rw[zHi hz]at h;obtain⟨r,hr⟩:=zH3 p (p.s rs.toNat) (j+1) 8 (by omega);obtain⟨r2,aA⟩:=zG2 (zb (p.s (zb (p.s rs.toNat) j).toNat)) (zu (p.s (zb (p.s rs.toNat) j).toNat)) i 8 hi;have e1:zAJ p rs (p.s rs.toNat) 8=zAJ p rs (p.s rs.toNat) (j+1) ++ yK r:=by unfold zAJ;rw[hr,zA0];rfl
 have e2:zBN p rs (p.s rs.toNat) j 8=zBN p rs (p.s rs.toNat) j i ++ yK r2:=by
  unfold zBN;rw[aA,zA0,List.append_assoc];rfl
 rw[e1,zEl hn,e2,List.append_assoc]at h;exact(List.nodup_append.1 h).1
end Go.Proofs.YtmgeglgboadfiaaGreatDoor
