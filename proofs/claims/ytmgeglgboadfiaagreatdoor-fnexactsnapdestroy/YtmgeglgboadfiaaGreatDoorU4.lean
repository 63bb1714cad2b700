/- A part of the proof. -/
import Derived.Test.YtmgeglgboadfiaaGreatDoorU3
import Derived.Laws.OwnMore
import Derived.Lib.SliceRun
import Derived.Deep.AppendLies
import Derived.Deep.DeepCutAuto
set_option linter.unusedVariables false
set_option maxRecDepth 20000
set_option maxHeartbeats 4000000
namespace Go.Proofs.YtmgeglgboadfiaaGreatDoor
open Go.RowKit
def zL8(p:zN)(Low:zO->Prop)(s:zO):Prop:=(∃i,i<8/\¬Nil (zb s i) (zu s i))/\∀i,i<8->Nil (zb s i) (zu s i)\/Low (p.s (zb s i).toNat)
def zEl(p:zN)(L:Int)(Low:zO->Prop):Prop:=∀(v:Value) (lo hi:Nat) (xs xb:Int) (w:World),qG w lo hi v p.n p.s->zx p xs xb->
 Calls Tryz.prog 195 #[v,.agg #[.int .i64 xs,.int .i64 xb],.int .i64 L] w fun e w'=>zG (Low (p.s xs.toNat)) e/\Below w.heap.size w w'
theorem zIW(s:zO):zHX (zl s) (fun _=>0)=true↔¬∃i,i<8/\¬Nil (zb s i) (zu s i):=by
 rw[zJk];constructor
 ·rintro h ⟨i,hi,hn⟩;exact hn (h i hi)
 ·intro h i hi;by_cases hn:Nil (zb s i) (zu s i)
  ·exact hn
  ·exact absurd ⟨i,hi,hn⟩ h
theorem zLO(p:zN):zEl p 2 zF0:=by
 intro v lo hi xs xb w hs hP;have Hs:=zL hs;obtain⟨_,a,c,rfl,_⟩:=id hs;obtain⟨k,rfl⟩:=Int.eq_ofNat_of_zero_le hP.2.1;have hk:k<p.n:=by have:=hP.2.2.1;omega
 have dA:(k:Int)<(p.n:Int):=by omega
 have ha:=zC w (.cells #[.int .i64 (k:Int),.int .i64 xb] 61);obtain⟨⟨x0,x1⟩,⟨x2,x3⟩⟩:=zp.new w (.int .i64 (k:Int)) (.int .i64 xb) 61;obtain⟨b,off,ka,kc,rfl,cA⟩:=(Hs.out.zO9 ha).cells hk;have HC:=zL cA;obtain⟨q0,q1,q2,_⟩:=cA;clear hs hP;go_enter Tryz.func195,Tryz.ntmps195;go_wp2_with fail;have aA:=zC (w.alloc (.cells #[.int .i64 (k:Int),.int .i64 xb] 61)) (.cells #[.int .i64 (p.s k).zPI,.slice ka (p.s k).kn kc,.string (p.s k).data] 127);refine(zGe _ _ _ lo hi (p.s k) _ (HC.out.slot.zO9 aA)).mono ?_;rintro e w1 ⟨⟨t,rfl,ht⟩,bA⟩;have hB:=zA (zA ha aA) bA;have HT:=zL ht;clear ht bA;go_wp2;go_ret;refine⟨⟨t,rfl,?_⟩,hB⟩;rw[Int.toNat_natCast];exact HT.out
theorem zG8(p:zN)(L:Int)(jA:zO->Prop)(hR:qB p)(hL:0<=L/\L<2)(eA:zEl p (L+1) jA):zEl p L (zL8 p jA):=by
 intro v lo hi xs xb w hs hP;have iA:=zL eA;have HR:=zL hR;have Hs:=zL hs;have HP:=zL hP;have Hf:=zL (qp hR hP);obtain⟨_,a,c,rfl,_⟩:=id hs;obtain⟨k,rfl⟩:=Int.eq_ofNat_of_zero_le hP.2.1;rw[Int.toNat_natCast]at Hf;have hk:k<p.n:=by have:=hP.2.2.1;omega
 have dB:(k:Int)<(p.n:Int):=by omega
 have cB:(L == 2)=false:=by simp;omega
 have ha:=zC w (.cells #[.int .i64 (k:Int),.int .i64 xb] 61);obtain⟨⟨x0,x1⟩,⟨x2,x3⟩⟩:=zp.new w (.int .i64 (k:Int)) (.int .i64 xb) 61;obtain⟨b,off,ka,kc,rfl,rA⟩:=(Hs.out.zO9 ha).cells hk;have HC:=zL rA;obtain⟨q0,q1,q2,_⟩:=rA;clear hs hP eA hR;go_enter Tryz.func195,Tryz.ntmps195;go_wp2_with fail;have kA:=zC (w.alloc (.cells #[.int .i64 (k:Int),.int .i64 xb] 61)) (.cells #[.int .i64 (p.s k).zPI,.slice ka (p.s k).kn kc,.string (p.s k).data] 127);refine(zER _ _ _ lo hi (p.s k) _ (HC.out.slot.zO9 kA) (zDp Hf.out)).mono ?_;rintro e w1 ⟨rfl,oA⟩;have hB:=zA (zA ha kA) oA;clear oA ha kA x0 x1 x2 x3 q0 q1 q2 HC;have aA:Hid ((Tryz.prog.info? 155).map (·.size)=some (qJ (p.s k)).size):=by
  show _=_;rw[qJ,qY];exact zEv
 have tA:Hid ((#[Value.int .i64 0,Value.int .i64 0,Value.int .i64 0,Value.int .i64 0,Value.int .i64 0,Value.int .i64 0,Value.int .i64 0,Value.int .i64 0,Value.int .i64 0,Value.int .i64 0,Value.int .i64 0,Value.int .i64 0,Value.int .i64 0,Value.int .i64 0,Value.int .i64 0,Value.int .i64 0]:Array Value)=qg (fun _=>0)):=rfl;have vA:∀w,(binOp .eql 155 (.agg (qJ (p.s k))) (.agg #[Value.int .i64 0,Value.int .i64 0,Value.int .i64 0,Value.int .i64 0,Value.int .i64 0,Value.int .i64 0,Value.int .i64 0,Value.int .i64 0,Value.int .i64 0,Value.int .i64 0,Value.int .i64 0,Value.int .i64 0,Value.int .i64 0,Value.int .i64 0,Value.int .i64 0,Value.int .i64 0])).run Tryz.prog w = .ok (.bool (zHX (zl (p.s k)) (fun _=>0))) w:=fun w=>zLk (zl (p.s k)) (fun _=>0) w
 have dA:(w1.alloc (.cells (qJ (p.s k)) 155)).heap[w1.heap.size]?=some (.cells (qJ (p.s k)) 155 (0,0)):=heap_alloc_last _ _;have HK:=zL dA;have nA:=zA hB (zC w1 (.cells (qJ (p.s k)) 155));clear dA hB;by_cases hz:zHX (zl (p.s k)) (fun _=>0)=true
 ·have HZ:=zL ((zIW _).1 hz);go_wp2_with (first
   | (refine wpList_store_row rfl 155 (.tmp 8) (.tmp 20) rfl w1.heap.size (qJ (p.s k)) rfl rfl 155 #[Value.int .i64 0,Value.int .i64 0,Value.int .i64 0,Value.int .i64 0,Value.int .i64 0,Value.int .i64 0,Value.int .i64 0,Value.int .i64 0,Value.int .i64 0,Value.int .i64 0,Value.int .i64 0,Value.int .i64 0,Value.int .i64 0,Value.int .i64 0,Value.int .i64 0,Value.int .i64 0] (heap_alloc_last _ _) aA.out (by rw[qJ,qY];rfl) (zBg _) ?_;rw[World.setRow_alloc_new])
   | (refine wpList_load_row rfl 155 (.tmp 8) rfl w1.heap.size rfl 155 (qJ (p.s k)) (0,0) _ HK.out zJY rfl aA.out ?_))
  go_ret;exact⟨zG.no fun h=>HZ.out (by rw[Int.toNat_natCast]at h;exact h.1),nA⟩
 ·have HZ:Hid (∃i,i<8/\¬Nil (zb (p.s k) i) (zu (p.s k) i)):=by
   by_cases h:∃i,i<8/\¬Nil (zb (p.s k) i) (zu (p.s k) i)
   ·exact h
   ·exact absurd ((zIW _).2 h) hz
  have eB:zHX (zl (p.s k)) (fun _=>0)=false:=(by simpa using hz);clear hz;go_wp2_with (first
   | (refine wpList_store_row rfl 155 (.tmp 8) (.tmp 20) rfl w1.heap.size (qJ (p.s k)) rfl rfl 155 #[Value.int .i64 0,Value.int .i64 0,Value.int .i64 0,Value.int .i64 0,Value.int .i64 0,Value.int .i64 0,Value.int .i64 0,Value.int .i64 0,Value.int .i64 0,Value.int .i64 0,Value.int .i64 0,Value.int .i64 0,Value.int .i64 0,Value.int .i64 0,Value.int .i64 0,Value.int .i64 0] (heap_alloc_last _ _) aA.out (by rw[qJ,qY];rfl) (zBg _) ?_;rw[World.setRow_alloc_new])
   | (refine wpList_load_row rfl 155 (.tmp 8) rfl w1.heap.size rfl 155 (qJ (p.s k)) (0,0) _ HK.out zJY rfl aA.out ?_))
  have fB:w1.heap.size<(w1.alloc (.cells (qJ (p.s k)) 155)).heap.size:=by rw[World.size_alloc];exact Nat.lt_succ_self _
  go_loopw [24] (fun i wr=>∃j:Nat,j<=8/\i = .int .i64 j/\(∀m,m<j->Nil (zb (p.s k) m) (zu (p.s k) m)\/jA (p.s (zb (p.s k) m).toNat))/\wr.heap[w1.heap.size]?=some (.cells (qJ (p.s k)) 155 (0,0))/\Below w.heap.size w wr) (fun i _=>8 - (intOf i).toNat)
  case atStart=>exact⟨0,Nat.zero_le _,rfl,fun m hm=>absurd hm (Nat.not_lt_zero _),HK.out,nA⟩
  case round=>
   obtain⟨j,hj,rfl,cA,hK,hb⟩:=hrel;have bA:=zL cA;have fA:=zL hK;have mA:w1.heap.size<wr.heap.size:=(Array.getElem?_eq_some_iff.1 hK).1;clear cA hK;by_cases gA:j<8
   ·have bB:(j:Int)<8:=(by omega);obtain⟨y0,y1⟩:=zH (i:=j*2) fA.out (zAx (zl (p.s k)) (by omega));obtain⟨y2,y3⟩:=zH (i:=j*2+1) fA.out (zAx (zl (p.s k)) (by omega));by_cases hn:Nil (zb (p.s k) j) (zu (p.s k) j)
    ·have HN:=zL hn;rw[show zl (p.s k) (j*2)=0 from hn.1]at y0;rw[show zl (p.s k) (j*2+1)=0 from hn.2]at y2;clear hn;go_wp2;go_roundw
     case rel=>exact⟨j+1,by omega,by go_num,zr (n:=8) gA bA.out (Or.inl HN.out),fA.out,hb⟩
     case measure=>simp[intOf];omega
    ·have HN:=zL hn;have aB:=zL (zBE Hf.out gA hn).1;have e0:(zl (p.s k) (j*2) == 0)=false\/(zl (p.s k) (j*2) == 0)=true/\(zl (p.s k) (j*2+1) == 0)=false:=by
      by_cases h:zl (p.s k) (j*2)=0
      ·right;refine⟨by simp[h],?_⟩;have:zl (p.s k) (j*2+1)≠0:=fun h'=>hn ⟨h,h'⟩
       simp[this]
      ·left;simp[h]
     clear hn;rcases e0 with e0 | ⟨e0,e1⟩
     all_goals
      go_wp2_with fail;refine(iA.out _ lo hi (zl (p.s k) (j*2)) (zl (p.s k) (j*2+1)) _ (Hs.out.zO9 hb) aB.out).mono ?_;rintro e w2 ⟨⟨t,rfl,ht⟩,lA⟩;have HT:=zL ht;have sA:=zL ((lA.block _ mA).trans fA.out);have pA:=zA hb lA;clear ht lA y0 y1 y2 y3;cases t
      ·go_wp2;go_ret;refine⟨zG.no fun h=>?_,pA⟩;rw[Int.toNat_natCast]at h;rcases h.2 j gA with h1 | h1
       ·exact HN.out h1
       ·exact absurd (HT.out.2 h1) (by simp)
      ·go_wp2;go_roundw
       case rel=>exact⟨j+1,by omega,by go_num,zr (n:=8) gA bA.out (Or.inr (HT.out.1 trivial)),sA.out,pA⟩
       case measure=>simp[intOf];omega
   ·obtain rfl:j=8:=(by omega);go_wp2;go_ret;exact⟨zG.yes (by rw[Int.toNat_natCast];exact⟨HZ.out,bA.out⟩),hb⟩
theorem zLN(p:zN)(hR:qB p):zEl p 1 (zIf p):=zG8 p 1 zF0 hR (by omega) (zLO p)
theorem zG7(p:zN)(hR:qB p):zEl p 0 (zIe p):=zG8 p 0 (zIf p) hR (by omega) (zLN p hR)
def zLf(s:zO)(w:World)(e:Ending)(w':World):Prop:=
 ∃kv kb,e = .returned (.agg #[.int .i64 s.zPI,kv,.string s.data])/\zj w' kb kv s.kn s.ks s.kb/\(0<s.kn->w.heap.size<=kb/\kb<w'.heap.size)/\Below w.heap.size w w'
def kc(f g:Nat->Int):Nat->List Value
 | 0=>[]
 | k+1=>kc f g k ++ [.int .i64 (f k),.int .i64 (g k)]
theorem zDU(f g:Nat->Int)(k:Nat):(kc f g k).length=k*2:=by
 induction k with
 | zero=>rfl
 | succ k ih=>simp[kc,ih];omega
theorem zNM(f g:Nat->Int)(k i r:Nat)(hi:i<k)(hr:r<2):(kc f g k)[i*2+r]? = [Value.int .i64 (f i),.int .i64 (g i)][r]?:=by
 induction k with
 | zero=>omega
 | succ k ih=>
  unfold kc;by_cases e:i<k
  ·rw[List.getElem?_append_left (by rw[zDU];omega)];exact ih e
  ·obtain rfl:i=k:=(by omega);rw[List.getElem?_append_right (by rw[zDU];omega),zDU];congr 1;omega
theorem zIv(f g:Nat->Int)(k:Nat):∀u∈kc f g k,u.oneCell'=true:=by
 induction k with
 | zero=>intro u hu;simp[kc]at hu
 | succ k ih=>
  intro u hu;simp only[kc,List.mem_append,List.mem_cons,List.not_mem_nil,or_false]at hu;rcases hu with hu | rfl | rfl
  ·exact ih u hu
  ·rfl
  ·rfl
theorem zEx{w:World}{b off:Nat}{f g:Nat->Int}{n:Nat}(h:∀i,i<n->w.cell? ⟨b,off+i*2,none⟩=some (.int .i64 (f i))/\w.cell? ⟨b,off+i*2+1,none⟩=some (.int .i64 (g i))) :
  ∀j u,(kc f g n)[j]?=some u->w.cell? ((⟨b,off,none⟩:Addr).add j)=some u:=by
 intro j u hj;have bA:j<n*2:=by
  have:=(List.getElem?_eq_some_iff.1 hj).1
  rwa [zDU]at this
 have aA:(⟨b,off,none⟩:Addr).add j=⟨b,off+j,none⟩:=by unfold Addr.add;split<;>simp_all
 rw[aA];obtain⟨c0,c1⟩:=h (j / 2) (by omega);have e:=zNM f g n (j / 2) (j % 2) (by omega) (by omega);rw[show j / 2*2+j % 2=j by omega,hj]at e;rcases(by omega:j % 2=0\/j % 2=1)with hm | hm
 ·rw[hm]at e;simp at e;subst e;rw[show off+j=off+j / 2*2 by omega];exact c0
 ·rw[hm]at e;simp at e;subst e;rw[show off+j=off+j / 2*2+1 by omega];exact c1
theorem zBf{w:World}{base e n:Nat}{v:Value}{f g:Nat->Int}(hm:n<=maxLen)(h:w.ownsRow base e 2 v n (kc f g n)):∃kb,zj w kb v n f g/\(0<n->base<=kb/\kb<w.heap.size):=by
 by_cases h0:0<n
 ·obtain⟨gb,cap,rfl,bA,hb,cA,aA⟩:=yK h h0;refine⟨gb,⟨hm,_,cap,rfl,bA,fun _=>⟨0,rfl,fun i hi=>⟨?_,?_⟩⟩⟩,fun _=>⟨hb,cA⟩⟩
  ·have:=aA (i*2+0) _ (zNM f g n i 0 hi (by omega));simpa using this
  ·have:=aA (i*2+1) _ (zNM f g n i 1 hi (by omega));simpa using this
 ·obtain⟨a,cap,rfl,bA⟩:=za h;exact⟨0,⟨hm,a,cap,rfl,bA,fun h=>absurd h h0⟩,fun h=>absurd h h0⟩
theorem zGw{P:Program}{w:World}(base:Nat)(t ty e:TypeId)(i:TypeInfo)(size c:Nat)(ht:P.underlying t=some (.slice e))(hi:P.info? e=some i)
  (v:Value) (n:Nat) (xs:List Value) (aA:w.ownsRow base e size v n xs) :
  (Builtin.append_ #[t,t] ty #[v,.slice none 0 c]).run P w = .ok v w:=by
 rcases aA.2 with⟨rfl,rfl⟩ | ⟨g,cap,cA,rfl,_,_,bA,_⟩
 ·simp[Builtin.append_,run_underlying ht,sizeOf,typeInfo,hi,Builtin.lenOf,Builtin.firstCells]
 ·simp[Builtin.append_,run_underlying ht,sizeOf,typeInfo,hi,Builtin.lenOf,Builtin.firstCells,bA,storeCells]
theorem zFH{P:Program}{w:World}{dA:Array Oper}{aA:List Oper}{o:Oper}{a:Act}{Q:Exit->Act->World->Prop}(eA:o.guard=none)(s x:Operand)(t:TypeId)
  (ho:o.op = .call {callee:=.builtin .append,args:=#[s,x],argTypes:=#[t,t]})
  (base:Nat) (e:TypeId) (i:TypeInfo) (size c m:Nat) (ht:P.underlying t=some (.slice e)) (hi:P.info? e=some i)
  (v:Value) (n:Nat) (xs:List Value) (hs:a.eval s=v) (bA:w.ownsRow base e size v n xs) (hm:m=0) (hx:a.eval x = .slice none m c)
  (h:wpList P dA Q aA (a.put o.dst v) w):wpList P dA Q (o :: aA) a w:=by
 subst hm;refine wpList_plain eA fun K hK=>?_
 have cA:=zGw (P:=P) (w:=w) base t o.type e i size c ht hi v n xs bA;unfold Oper.wp;simp[execOp,ho,resolve,invoke,builtin,hs,hx,cA,Result.andThen];exact hK _ _ h
theorem zAE{P:Program}{w:World}(base:Nat)(t ty e:TypeId)(i:TypeInfo)(size c:Nat)(ao:Option Addr)(ht:P.underlying t=some (.slice e))(hi:P.info? e=some i)
  (v:Value) (n:Nat) (xs:List Value) (aA:w.ownsRow base e size v n xs) :
  (Builtin.append_ #[t,t] ty #[v,.slice ao 0 c]).run P w = .ok v w:=by
 rcases aA.2 with⟨rfl,rfl⟩ | ⟨g,cap,cA,rfl,_,_,bA,_⟩
 ·cases ao<;>simp[Builtin.append_,run_underlying ht,sizeOf,typeInfo,hi,Builtin.lenOf,Builtin.firstCells,loadCells,loadCellsFrom]
 ·cases ao<;>simp[Builtin.append_,run_underlying ht,sizeOf,typeInfo,hi,Builtin.lenOf,Builtin.firstCells,bA,storeCells,loadCells,loadCellsFrom]
theorem zEb{P:Program}{w:World}{dA:Array Oper}{aA:List Oper}{o:Oper}{a:Act}{Q:Exit->Act->World->Prop}(eA:o.guard=none)(s x:Operand)(t:TypeId)
  (ho:o.op = .call {callee:=.builtin .append,args:=#[s,x],argTypes:=#[t,t]})
  (base:Nat) (e:TypeId) (i:TypeInfo) (size c m:Nat) (ao:Option Addr) (ht:P.underlying t=some (.slice e)) (hi:P.info? e=some i)
  (v:Value) (n:Nat) (xs:List Value) (hs:a.eval s=v) (bA:w.ownsRow base e size v n xs) (hm:m=0) (hx:a.eval x = .slice ao m c)
  (h:wpList P dA Q aA (a.put o.dst v) w):wpList P dA Q (o :: aA) a w:=by
 subst hm;refine wpList_plain eA fun K hK=>?_
 have cA:=zAE (P:=P) (w:=w) base t o.type e i size c ao ht hi v n xs bA;unfold Oper.wp;simp[execOp,ho,resolve,invoke,builtin,hs,hx,cA,Result.andThen];exact hK _ _ h
theorem zBS:(Tryz.prog.info? 61).map (fun i=>(i.zero,i.size,i.bytes))=some (some (.agg #[.int .i64 0,.int .i64 0]),2,16):=by kernel_rfl
def sc(f:Nat->zO)(kv:Nat->Value):Nat->List Value
 | 0=>[]
 | k+1=>sc f kv k ++ [.int .i64 (f k).zPI,kv k,.string (f k).data]
theorem zGz(f:Nat->zO)(kv:Nat->Value)(k:Nat):(sc f kv k).length=k*3:=by
 induction k with
 | zero=>rfl
 | succ k ih=>simp[sc,ih];omega
theorem zGy(f:Nat->zO)(kv:Nat->Value)(k i r:Nat)(hi:i<k)(hr:r<3):(sc f kv k)[i*3+r]? = [Value.int .i64 (f i).zPI,kv i,.string (f i).data][r]?:=by
 induction k with
 | zero=>omega
 | succ k ih=>
  unfold sc;by_cases e:i<k
  ·rw[List.getElem?_append_left (by rw[zGz];omega)];exact ih e
  ·obtain rfl:i=k:=(by omega);rw[List.getElem?_append_right (by rw[zGz];omega),zGz];congr 1;omega
theorem zNl(f:Nat->zO){kv aA:Nat->Value}{k:Nat}(h:∀i,i<k->kv i=aA i):sc f kv k=sc f aA k:=by
 induction k with
 | zero=>rfl
 | succ k ih=>
  unfold sc;rw[ih (fun i hi=>h i (by omega)),h k (by omega)]
theorem zOj(f:Nat->zO)(kv:Nat->Value)(k:Nat)(h:∀i,i<k->(kv i).oneCell'=true):∀u∈sc f kv k,u.oneCell'=true:=by
 induction k with
 | zero=>intro u hu;simp[sc]at hu
 | succ k ih=>
  intro u hu;simp only[sc,List.mem_append,List.mem_cons,List.not_mem_nil,or_false]at hu;rcases hu with hu | rfl | rfl | rfl
  ·exact ih (fun i hi=>h i (by omega)) u hu
  ·rfl
  ·exact h k (by omega)
  ·rfl
theorem zBa{w w1:World}{row:Option Nat}(h:w.grownBy w1 row):zF (fun b=>row=some b) w w1:=⟨h.os,h.tape,h.output,h.size,fun k hk hs=>h.block k hk (fun e=>hs e.symm)⟩
theorem zAz{w w1:World}(h:Below w.heap.size w w1)(row:Option Nat):w.grownBy w1 row:=⟨h.os,h.tape,h.output,h.size,fun k hk _=>h.block k hk⟩
structure zDy (w:World) (lo k:Nat) (f:Nat->zO) (kb:Nat->Nat) (kv:Nat->Value) (v:Value):Prop where
 row:w.ownsRow lo 127 3 v k (sc f kv k)
 kids:∀j,j<k->zj w (kb j) (kv j) (f j).kn (f j).ks (f j).kb
 zPM:∀j,j<k->0<(f j).kn->lo<=kb j/\kb j<w.heap.size/\v.ownBlock≠some (kb j)
 zPJ:yJ kb k f
 zPN:∀j,j<k->(f j).data.size<=maxLen
theorem zDy.nil(w:World)(lo:Nat)(f:Nat->zO):zDy w lo 0 f (fun _=>0) (fun _=>.slice none 0 0) (.slice none 0 0):=
 ⟨World.ownsRow_nil _ _ _ _,fun j hj=>absurd hj (Nat.not_lt_zero _),fun j hj=>absurd hj (Nat.not_lt_zero _),fun i j hi=>absurd hi (Nat.not_lt_zero _),fun j hj=>absurd hj (Nat.not_lt_zero _)⟩
theorem zDy.zO9{w w':World}{lo k:Nat}{f:Nat->zO}{kb:Nat->Nat}{kv:Nat->Value}{v:Value}(h:zDy w lo k f kb kv v)(t:Below w.heap.size w w'):zDy w' lo k f kb kv v:=
 ⟨h.row.kept (zAz t none) (by cases hv:v.ownBlock<;>simp),fun j hj=>(h.kids j hj).zO9 t,fun j hj h0=>by have h1:=h.zPM j hj h0;have:=t.size;exact⟨h1.1,by omega,h1.2.2⟩,h.zPJ,h.zPN⟩
theorem zDy.next{w w1:World}{lo k:Nat}{f:Nat->zO}{kb:Nat->Nat}{kv:Nat->Value}{v:Value}(h:zDy w lo k f kb kv v){nb g cap:Nat}{nv:Value}(hp:zj w nb nv (f k).kn (f k).ks (f k).kb)
  (aA:0<(f k).kn->lo<=nb/\nb<w.heap.size/\v.ownBlock≠some nb/\∀j,j<k->0<(f j).kn->kb j≠nb) (hs:(f k).data.size<=maxLen)
  (bA:w1.ownsRow lo 127 3 (.slice (some ⟨g,0,none⟩) (k+1) cap) (k+1) (sc f kv k ++ [.int .i64 (f k).zPI,nv,.string (f k).data])) (hg:w.grownBy w1 v.ownBlock) (dA:v.ownBlock=some g\/g=w.heap.size) :
  zDy w1 lo (k+1) f (fun j=>if j=k then nb else kb j) (fun j=>if j=k then nv else kv j) (.slice (some ⟨g,0,none⟩) (k+1) cap):=by
 have t:=zBa hg;have iA:=t.size;have cA:∀b,b<w.heap.size->v.ownBlock≠some b->(Value.slice (some ⟨g,0,none⟩) (k+1) cap).ownBlock≠some b:=fun b hb gA e=>by
  have eA:g=b:=(by simpa[Value.ownBlock]using e);rcases dA with hx | hx
  ·exact gA (by rw[hx,eA])
  ·omega
 refine⟨?_,fun j hj=>?_,fun j hj h0=>?_,fun i j hi hj fA h1 h2=>?_,fun j hj=>?_⟩
 ·have e:sc f (fun j=>if j=k then nv else kv j) (k+1)=sc f kv k ++ [.int .i64 (f k).zPI,nv,.string (f k).data]:=by
   show sc f _ k ++ [.int .i64 (f k).zPI,(if k=k then nv else kv k),.string (f k).data]=_;rw[if_pos rfl,zNl f (fun i hi=>if_neg (by omega))]
  rw[e];exact bA
 ·by_cases e:j=k
  ·subst e;simp only[if_true];exact hp.zPF t (fun h0=>(aA h0).2.2.1)
  ·simp only[if_neg e];exact(h.kids j (by omega)).zPF t (fun h0=>(h.zPM j (by omega) h0).2.2)
 ·by_cases e:j=k
  ·subst e;simp only[if_true];obtain⟨h1,h2,h3,_⟩:=aA h0;exact⟨h1,by omega,cA _ h2 h3⟩
  ·simp only[if_neg e];obtain⟨h1,h2,h3⟩:=h.zPM j (by omega) h0;exact⟨h1,by omega,cA _ h2 h3⟩
 ·show(if i=k then nb else kb i)≠(if j=k then nb else kb j);by_cases e1:i=k
  ·by_cases e2:j=k
   ·omega
   ·rw[if_pos e1,if_neg e2];subst e1;exact fun e=>(aA h1).2.2.2 j (by omega) h2 e.symm
  ·by_cases e2:j=k
   ·rw[if_neg e1,if_pos e2];subst e2;exact(aA h2).2.2.2 i (by omega) h1
   ·rw[if_neg e1,if_neg e2];exact h.zPJ i j (by omega) (by omega) fA h1 h2
 ·by_cases e:j=k
  ·subst e;exact hs
  ·exact h.zPN j (by omega)
theorem zDy.put{w:World}{lo k:Nat}{f:Nat->zO}{kb:Nat->Nat}{kv:Nat->Value}{v:Value}(h:zDy w lo k f kb kv v){b o:Nat}(hb:b<lo)(u:Value):zDy (w.setCell ⟨b,o,none⟩ u) lo k f kb kv v:=
 ⟨ownsRow_setCell_below h.row hb u,fun j hj=>(h.kids j hj).zPF (zF.put _ _ _ _) (fun h0 e=>by have:=h.zPM j hj h0;omega),fun j hj h0=>by rw[World.size_setCell];exact h.zPM j hj h0,h.zPJ,h.zPN⟩
theorem zDy.own{w:World}{lo n:Nat}{f:Nat->zO}{kb:Nat->Nat}{kv:Nat->Value}{v:Value}(h:zDy w lo n f kb kv v)(hn:n<=maxLen) :
  ∃bs,qO w bs kb kv v n f/\∀k,yV bs kb n f k->lo<=k/\k<w.heap.size:=by
 by_cases h0:0<n
 ·obtain⟨g,cap,rfl,bA,hb,dA,aA⟩:=yK h.row h0;refine⟨g,⟨hn,_,cap,rfl,bA,fun _=>⟨0,rfl,fun i hi=>⟨?_,?_,?_,h.kids i hi,h.zPN i hi,fun hk e=>(h.zPM i hi hk).2.2 (by rw[e];rfl)⟩⟩⟩,fun k hk=>?_⟩
  ·have:=aA (i*3+0) _ (zGy f kv n i 0 hi (by omega));simpa using this
  ·have:=aA (i*3+1) _ (zGy f kv n i 1 hi (by omega));simpa using this
  ·have:=aA (i*3+2) _ (zGy f kv n i 2 hi (by omega));simpa using this
  ·rcases hk with⟨_,rfl⟩ | ⟨i,hi,cA,rfl⟩
   ·exact⟨hb,dA⟩
   ·exact⟨(h.zPM i hi cA).1,(h.zPM i hi cA).2.1⟩
 ·obtain⟨a,cap,rfl,bA⟩:=za h.row;refine⟨0,⟨hn,a,cap,rfl,bA,fun hx=>absurd hx h0⟩,fun k hk=>?_⟩;rcases hk with⟨hx,_⟩ | ⟨i,hi,_⟩
  ·exact absurd hx h0
  ·omega
def ic(f:Nat->Int):Nat->List Value
 | 0=>[]
 | k+1=>ic f k ++ [.int .i64 (f k)]
theorem zBD(f:Nat->Int)(k:Nat):(ic f k).length=k*1:=by
 induction k with
 | zero=>rfl
 | succ k ih=>simp[ic,ih]
theorem zJs(f:Nat->Int)(k i:Nat)(hi:i<k):(ic f k)[i]?=some (Value.int .i64 (f i)):=by
 induction k with
 | zero=>omega
 | succ k ih=>
  unfold ic;by_cases e:i<k
  ·rw[List.getElem?_append_left (by rw[zBD];omega)];exact ih e
  ·obtain rfl:i=k:=(by omega);rw[List.getElem?_append_right (by rw[zBD];omega),zBD];simp
theorem zNH(f:Nat->Int)(k:Nat):∀u∈ic f k,u.oneCell'=true:=by
 induction k with
 | zero=>intro u hu;simp[ic]at hu
 | succ k ih=>
  intro u hu;simp only[ic,List.mem_append,List.mem_cons,List.not_mem_nil,or_false]at hu;rcases hu with hu | rfl
  ·exact ih u hu
  ·rfl
theorem add_lit(b off j:Nat):(⟨b,off,none⟩:Addr).add j=⟨b,off+j,none⟩:=by unfold Addr.add;split<;>simp_all
theorem zNF{w:World}{b off:Nat}{f:Nat->Int}{n:Nat}(h:∀i,i<n->w.cell? ⟨b,off+i,none⟩=some (.int .i64 (f i))) :
  ∀j u,(ic f n)[j]?=some u->w.cell? ((⟨b,off,none⟩:Addr).add j)=some u:=by
 intro j u hj;have aA:j<n:=by
  have:=(List.getElem?_eq_some_iff.1 hj).1;rw[zBD]at this;omega
 rw[zJs f n j aA]at hj;rw[add_lit,h j aA];exact hj
theorem zKJ{w:World}{base e g n cap:Nat}{xs:List Value}(h:w.ownsRow base e 1 (.slice (some ⟨g,0,none⟩) n cap) n xs)(h0:0<n):0<n/\(some ⟨g,0,none⟩:Option Addr)=some ⟨g,0,none⟩/\cap<=maxLen/\∃aA,w.heap[g]?=some (.cells aA e (0,0))/\aA.size=cap:=by
 obtain⟨_,⟨h,rfl⟩ | ⟨g',bA,aA,hv,_,hg,_,h2,h3,_⟩⟩:=h
 ·omega
 ·simp only[Value.slice.injEq,Option.some.injEq,Addr.mk.injEq,and_true,true_and]at hv;obtain⟨rfl,rfl⟩:=hv;exact⟨h0,rfl,h2,aA,hg,by simpa using h3⟩
theorem zIu{w:World}{base n:Nat}{v:Value}{f:Nat->Int}(hm:n<=maxLen)(h:w.ownsRow base 2 1 v n (ic f n))(hz:n=0->∃a,v = .slice a 0 0):∃hb,qd w hb v n f/\(0<n->base<=hb/\hb<w.heap.size):=by
 by_cases h0:0<n
 ·obtain⟨gb,cap,rfl,bA,hb,cA,aA⟩:=yK h h0;refine⟨gb,⟨hm,_,cap,rfl,bA,fun _=>⟨0,rfl,fun i hi=>?_⟩,fun _=>?_⟩,fun _=>⟨hb,cA⟩⟩
  ·have:=aA i _ (zJs f n i hi);simpa using this
  ·exact zKJ h h0
 ·obtain⟨a,cap,rfl,bA⟩:=za h;exact⟨0,⟨hm,a,cap,rfl,bA,fun h=>absurd h h0,fun cA=>by obtain⟨a2,e2⟩:=hz (by omega);simp only[Value.slice.injEq]at e2;omega⟩,fun h=>absurd h h0⟩
theorem zi{P:Prop}(h:P):Hid P:=h
theorem qR{P:Program}{w:World}{kA:Array Oper}{gA:List Oper}{o:Oper}{a:Act}{Q:Exit->Act->World->Prop}(jA:o.guard=none)(s x:Operand)(t:TypeId)
  (ho:o.op = .call {callee:=.builtin .append,args:=#[s,x],argTypes:=#[t,t]})
  (base:Nat) (e:TypeId) (i:TypeInfo) (z:Value) (size bytes:Nat) (ht:P.underlying t=some (.slice e)) (hi:P.info? e=some i) (hz:i.zero=some z)
  (fA:i.size=size) (mA:i.bytes=bytes) (pA:z.cells.size=size) (oA:0<size)
  (v:Value) (n:Nat) (xs:List Value) (hs:a.eval s=v) (dA:w.ownsRow base e size v n xs)
  (ao:Option Addr) (m c:Nat) (aA:List Value) (hx:a.eval x = .slice ao m c) (hl:aA.length=m*size) (h1:∀u∈aA,u.oneCell'=true)
  (bA:0<m->∃b off,ao=some ⟨b,off,none⟩/\∀j u,aA[j]?=some u->w.cell? ⟨b,off+j,none⟩=some u)
  (lA:n+m<=maxLen) (cA:(n+m)*bytes<=140737488355328) (eA:base<=w.heap.size)
  (h:∀v' w',w'.ownsRow base e size v' (n+m) (xs ++ aA)->w.grownBy w' v.ownBlock->(m=0->v'=v)->wpList P kA Q gA (a.put o.dst v') w'):wpList P kA Q (o :: gA) a w:=by
 by_cases iA:m=0
 ·have nA:aA = []:=List.eq_nil_of_length_eq_zero (by rw[hl,iA,Nat.zero_mul]);exact zEb jA s x t ho base e i size c m ao ht hi v n xs hs dA iA hx (h v w (by subst iA;subst nA;simpa using dA) ⟨rfl,rfl,rfl,Nat.le_refl _,fun _ _ _=>rfl⟩ (fun _=>rfl))
 cases ao with
 | none=>
  obtain⟨b,off,ha,_⟩:=bA (by omega);simp at ha
 | some ad=>
  refine wpList_append_own w jA s x t ho base e i z size bytes ht hi hz fA mA pA oA v n xs hs dA ad m c aA hx hl (fun j u hj=>?_) h1 lA cA eA (fun v' w' g1 g2 _=>h v' w' g1 g2 (fun e=>absurd e iA));have h0:0<m:=by
   have:=(List.getElem?_eq_some_iff.1 hj).1;rw[hl]at this;rcases Nat.eq_zero_or_pos m with hm | hm
   ·rw[hm,Nat.zero_mul]at this;omega
   ·exact hm
  obtain⟨b,off,ha,hc⟩:=bA h0;simp only[Option.some.injEq]at ha;subst ha;rw[add_lit];exact hc j u hj
theorem zI9{w:World}{lo hi:Nat}{f:Nat->Int}{n:Nat}{v:Value}(h:qs w lo hi v n f){a:Option Addr}{c:Nat}(hv:v = .slice a n c){w':World}(hb:Below w.heap.size w w') :
  0<n->∃b off,a=some ⟨b,off,none⟩/\∀j u,(ic f n)[j]?=some u->w'.cell? ⟨b,off+j,none⟩=some u:=by
 obtain⟨_,a0,c0,h0,_,g⟩:=h;subst hv;simp only[Value.slice.injEq,true_and]at h0;obtain⟨rfl,rfl⟩:=h0;intro hn;obtain⟨b,off,ha,_,_,hc⟩:=g hn;refine⟨b,off,ha,fun j u hj=>?_⟩;have:=zNF hc j u hj;rw[add_lit]at this;exact(hb.cell (zD this)).trans this
theorem zp.grown{w w1:World}{v:Value}{b base e size n:Nat}{xs:List Value}{x y:Value}(h:zp w b x y)(hg:w.grownBy w1 v.ownBlock)(aA:w.ownsRow base e size v n xs)(hb:b<base):zp w1 b x y:=
 h.zPF (zBa hg) (fun e=>by have:=aA.lt b e;omega)
theorem zOy(w:World)(x y z:Value)(t:TypeId):∀j u,[x,y,z][j]?=some u->(w.alloc (.cells #[x,y,z] t)).cell? ((⟨w.heap.size,0,none⟩:Addr).add j)=some u:=by
 intro j u hj
 match j,hj with
 | 0,hj=>simp at hj;subst hj;simp[Addr.add]
 | 1,hj=>simp at hj;subst hj;simp[Addr.add]
 | 2,hj=>simp at hj;subst hj;simp[Addr.add]
 | (j+3),hj=>simp at hj
theorem zO7(x:Int)(a:Option Addr)(n c:Nat)(s:ByteArray):∀u∈[Value.int .i64 x,.slice a n c,.string s],u.oneCell'=true:=by
 intro u hu;simp only[List.mem_cons,List.not_mem_nil,or_false]at hu;rcases hu with rfl | rfl | rfl<;>rfl
theorem zK6{wr W:World}{lo k nb m:Nat}{f:Nat->zO}{kb:Nat->Nat}{kv:Nat->Value}{v:Value}(h:zDy wr lo k f kb kv v)(aA:lo<=wr.heap.size)(h2:0<m->wr.heap.size<=nb/\nb<W.heap.size) :
  0<m->lo<=nb/\nb<W.heap.size/\v.ownBlock≠some nb/\∀j,j<k->0<(f j).kn->kb j≠nb:=fun h0=>by
 obtain⟨h3,h4⟩:=h2 h0;exact⟨by omega,h4,fun e=>by have:=h.row.lt nb e;omega,fun j hj hk e=>by have:=h.zPM j hj hk;omega⟩
def zMu(p:zN)(w:World)(e:Ending)(w':World):Prop:=
 ∃v0 v1 M bs kb kv,e = .returned (.agg #[v0,v1])/\qO w' bs kb kv v0 p.n p.s/\yJ kb p.n p.s/\(∀k,yV bs kb p.n p.s k->M<=k/\k<w'.heap.size)/\
  w'.ownsRow w.heap.size 2 1 v1 p.hn (ic p.h p.hn)/\(∀k,v1.ownBlock=some k->w.heap.size<=k/\k<M)/\w.heap.size<=M/\M<=w'.heap.size/\Below w.heap.size w w'/\(p.hn=0->∃a,v1 = .slice a 0 0)
theorem zD9{w:World}{base n:Nat}{v:Value}{f:Nat->Int}(hm:n<=maxLen)(h:w.ownsRow base 2 1 v n (ic f n))(hz:n=0->∃a,v = .slice a 0 0):∃hb,qd w hb v n f/\(0<n->v.ownBlock=some hb):=by
 by_cases h0:0<n
 ·obtain⟨gb,cap,rfl,bA,hb,cA,aA⟩:=yK h h0;refine⟨gb,⟨hm,_,cap,rfl,bA,fun _=>⟨0,rfl,fun i hi=>?_⟩,fun _=>?_⟩,fun _=>rfl⟩
  ·have:=aA i _ (zJs f n i hi);simpa using this
  ·exact zKJ h h0
 ·obtain⟨a,cap,rfl,bA⟩:=za h;exact⟨0,⟨hm,a,cap,rfl,bA,fun h=>absurd h h0,fun cA=>by obtain⟨a2,e2⟩:=hz (by omega);simp only[Value.slice.injEq]at e2;omega⟩,fun h=>absurd h h0⟩
theorem zIF{w':World}{p:zN}{v0 v1:Value}{B M bs base:Nat}{kb:Nat->Nat}{kv:Nat->Value}(h1:qO w' bs kb kv v0 p.n p.s)(h2:yJ kb p.n p.s)(h3:∀k,yV bs kb p.n p.s k->M<=k/\k<w'.heap.size)(hm:p.hn<=maxLen)
  (h4:w'.ownsRow base 2 1 v1 p.hn (ic p.h p.hn)) (h5:∀k,v1.ownBlock=some k->B<=k/\(k<M\/w'.heap.size<=k\/(k<w'.heap.size/\¬yV bs kb p.n p.s k))) (h6:B<=M) (hz:p.hn=0->∃a,v1 = .slice a 0 0):qF w' B w'.heap.size v0 v1 p:=by
 obtain⟨hb,hi,aA⟩:=zD9 hm h4 hz;refine⟨bs,hb,kb,kv,h1,h2,hi,fun h0 hx=>?_,fun k hk=>?_⟩
 ·have a:=h3 _ hx;have b:=h5 _ (aA h0);rcases b.2 with b2 | b2 | b2
  ·omega
  ·omega
  ·exact b2.2 hx
 ·rcases hk with hk | ⟨h0,rfl⟩
  ·have:=h3 _ hk;omega
  ·have b:=h5 _ (aA h0);have c:=h4.lt _ (aA h0);exact⟨b.1,c.2⟩
theorem zE8{w:World}{B B' e size n:Nat}{v:Value}{xs:List Value}(h:w.ownsRow B' e size v n xs)(hB:B<=B'):w.ownsRow B e size v n xs:=
 ⟨h.1,h.2.imp id (fun ⟨g,cap,cur,a,b,c⟩=>⟨g,cap,cur,a,Nat.le_trans hB b,c⟩)⟩
def pcl:List (Int×Int)->List Value
 | []=>[]
 | x :: l=>.int .i64 x.1 :: .int .i64 x.2 :: pcl l
theorem zAX:∀l,(pcl l).length=l.length*2
 | []=>rfl
 | x :: l=>by simp[pcl,zAX l];omega
theorem zBG:∀l m,pcl (l ++ m)=pcl l ++ pcl m
 | [],m=>rfl
 | x :: l,m=>by simp[pcl,zBG l m]
theorem zGE:∀l,∀u∈pcl l,u.oneCell'=true
 | [],u,hu=>by simp[pcl]at hu
 | x :: l,u,hu=>by
  simp only[pcl,List.mem_cons]at hu;rcases hu with rfl | rfl | hu
  ·rfl
  ·rfl
  ·exact zGE l u hu
theorem zDt:∀(l:List (Int×Int)) i,i<l.length->(pcl l)[i*2]?=some (.int .i64 (l.getD i (0,0)).1)/\(pcl l)[i*2+1]?=some (.int .i64 (l.getD i (0,0)).2):=by
 intro l
 induction l with
 | nil=>intro i hi;simp at hi
 | cons x l ih=>
  intro i hi;cases i with
  | zero=>exact⟨rfl,rfl⟩
  | succ i=>
   have:=ih i (by simpa using hi);rw[show(i+1)*2=i*2+1+1 by omega];simpa[pcl]using this
def zk(l:List (Int×Int))(i:Nat):Int:=(l.getD i (0,0)).1
def zn(l:List (Int×Int))(i:Nat):Int:=(l.getD i (0,0)).2
theorem zBy:(Tryz.prog.info? 61).map (fun i=>(i.zero,i.size,i.bytes))=some (some (.agg #[.int .i64 0,.int .i64 0]),2,16):=by kernel_rfl
theorem yW{w w1:World}(h:Below w.heap.size w w1)(row:Option Nat):w.grownBy w1 row:=⟨h.os,h.tape,h.output,h.size,fun k hk _=>h.block k hk⟩
def qE(w:World)(base:Nat)(v:Value)(l:List (Int×Int)):Prop:=w.ownsRow base 61 2 v l.length (pcl l)
theorem qE.zO9{w w1:World}{base:Nat}{v:Value}{l:List (Int×Int)}(h:qE w base v l)(hb:Below w.heap.size w w1):qE w1 base v l:=
 h.kept (yW hb none) (by cases v.ownBlock<;>simp)
theorem qE.zPF{w w1:World}{base:Nat}{v:Value}{l:List (Int×Int)}{row:Option Nat}(h:qE w base v l)(hg:w.grownBy w1 row)(aA:∀q,v.ownBlock=some q->row≠some q):qE w1 base v l:=
 h.kept hg (by
  cases hv:v.ownBlock with
  | none=>simp
  | some q=>exact Or.inr (fun e=>aA q hv e.symm))
theorem qE.nil(w:World)(base:Nat):qE w base (.slice none 0 0) []:=World.ownsRow_nil _ _ _ _
theorem qE.mono{w:World}{base aA:Nat}{v:Value}{l:List (Int×Int)}(h:qE w base v l)(hb:aA<=base):qE w aA v l:=by
 refine⟨h.1,h.2.imp id ?_⟩;rintro⟨g,cap,bA,e,h1,h2⟩;exact⟨g,cap,bA,e,Nat.le_trans hb h1,h2⟩
theorem qE.put{w:World}{base b o:Nat}{v:Value}{l:List (Int×Int)}(h:qE w base v l)(hb:b<base)(u:Value):qE (w.setCell ⟨b,o,none⟩ u) base v l:=by
 refine⟨h.1,h.2.imp id ?_⟩;rintro⟨g,cap,aA,e,h1,h2,h3⟩;exact⟨g,cap,aA,e,h1,(Below.heap_setCell _ _ _ _ (fun e=>by have:g=b:=e;omega)).trans h2,h3⟩
theorem qE.lt{w:World}{base:Nat}{v:Value}{l:List (Int×Int)}(h:qE w base v l){q:Nat}(hq:v.ownBlock=some q):base<=q/\q<w.heap.size:=by
 rcases h.2 with⟨rfl,_⟩ | ⟨g,cap,aA,rfl,hb,hg,_⟩
 ·simp[Value.ownBlock]at hq
 ·simp only[Value.ownBlock,Option.some.injEq]at hq;subst hq;exact⟨hb,(Array.getElem?_eq_some_iff.1 hg).1⟩
theorem qE.own{w:World}{base:Nat}{v:Value}{l:List (Int×Int)}(h:qE w base v l)(hm:l.length<=maxLen):∃b,zj w b v l.length (zk l) (zn l)/\(0<l.length->v.ownBlock=some b/\base<=b/\b<w.heap.size):=by
 by_cases h0:0<l.length
 ·obtain⟨g,cap,rfl,bA,hb,cA,aA⟩:=yK h h0;refine⟨g,⟨hm,_,cap,rfl,bA,fun _=>⟨0,rfl,fun i hi=>?_⟩⟩,fun _=>⟨rfl,hb,cA⟩⟩;rw[Nat.zero_add];exact⟨aA _ _ (zDt l i hi).1,aA _ _ (zDt l i hi).2⟩
 ·obtain⟨a,cap,rfl,bA⟩:=za h;exact⟨0,⟨hm,a,cap,rfl,bA,fun h=>absurd h h0⟩,fun h=>absurd h h0⟩
def zOV(l:List (Int×Int))(w:World)(e:Ending)(w':World):Prop:=∃v,e = .returned v/\w'.ownsRow w.heap.size 61 2 v l.length (pcl l)/\Below w.heap.size w w'
def zAl(F:Int->Int->List (Int×Int))(s:zO):Nat->List (Int×Int)
 | 0=>[]
 | k+1=>zAl F s k ++ F (zb s k) (zu s k)
theorem zHz(s:zO):∀k,zAl one s k=kidsUp (zb s) (zu s) k
 | 0=>rfl
 | k+1=>by rw[zAl,kidsUp,zHz s k]
theorem zHy(p:zN)(s:zO):∀k,zAl (zD0 p) s k=zAo p s k
 | 0=>rfl
 | k+1=>by rw[zAl,zAo,zHy p s k]
theorem zHx{F:Int->Int->List (Int×Int)}(hF:∀a b,(F a b).length<=9)(s:zO):∀k,(zAl F s k).length<=9*k
 | 0=>Nat.le_refl _
 | k+1=>by
  have:=zHx hF s k;have:=hF (zb s k) (zu s k);rw[zAl,List.length_append];omega
def zFy(p:zN)(F:Int->Int->List (Int×Int))(xs xb:Int):List (Int×Int):=if Nil xs xb then [] else(xs,xb) :: zAl F (p.s xs.toNat) 8
def zEj(p:zN)(L:Int)(F:Int->Int->List (Int×Int)):Prop:=∀(v:Value) (lo hi:Nat) (xs xb:Int) (w:World),qG w lo hi v p.n p.s->(Nil xs xb\/zx p xs xb)->
 Calls Tryz.prog 197 #[v,.agg #[.int .i64 xs,.int .i64 xb],.int .i64 L] w (zOV (F xs xb) w)
theorem zKI{w:World}{base n K:Nat}{v:Value}{xs:List Value}{cs:Array Value}(h:w.ownsRow base 61 2 v n xs)(hK:w.heap[K]?=some (.cells cs 155 (0,0))):v.ownBlock≠some K:=by
 intro e;rcases h.2 with⟨rfl,_⟩ | ⟨g,cap,aA,rfl,_,hg,_⟩
 ·simp[Value.ownBlock]at e
 ·simp only[Value.ownBlock,Option.some.injEq]at e;subst e;rw[hK]at hg;simp only[Option.some.injEq,Obj.cells.injEq]at hg;exact absurd hg.2.1 (by decide)
theorem zC2{xs xb:Int}(h:¬Nil xs xb):(xs == 0)=false\/(xs == 0)=true/\(xb == 0)=false:=by
 by_cases h0:xs=0
 ·right;refine⟨by simp[h0],?_⟩;have:xb≠0:=fun h'=>h ⟨h0,h'⟩
  simp[this]
 ·left;simp[h0]
theorem zMe(p:zN):zEj p 2 one:=by
 intro v lo hi xs xb w hs hP;obtain⟨_,a,c,rfl,_⟩:=id hs;have ha:=zC w (.cells #[.int .i64 xs,.int .i64 xb] 61);obtain⟨⟨x0,x1⟩,⟨x2,x3⟩⟩:=zp.new w (.int .i64 xs) (.int .i64 xb) 61;have aA:=World.ownsRow_lit (e:=61) (size:=2) (base:=w.heap.size) (w.alloc (.cells #[.int .i64 xs,.int .i64 xb] 61)) #[.int .i64 xs,.int .i64 xb] 1 (by simp) (by unfold maxLen;omega) rfl;rw[World.size_alloc]at aA;have bA:=zL aA;have HB:=zL (zA ha (zC _ (.cells #[.int .i64 xs,.int .i64 xb] 61)));clear aA;by_cases hn:Nil xs xb
 ·have HN:=zL hn;obtain⟨rfl,rfl⟩:=hn;go_enter Tryz.func197,Tryz.ntmps197;go_wp2;go_ret;exact⟨_,rfl,by rw[show one 0 0 = [] from if_pos HN.out];exact World.ownsRow_nil _ _ _ _,ha⟩
 ·have HN:=zL hn;have e0:=zC2 hn;clear hn;rcases e0 with e0 | ⟨e0,e1⟩
  all_goals
   go_enter Tryz.func197,Tryz.ntmps197;go_wp2;go_ret;exact⟨_,rfl,by rw[show one xs xb = [(xs,xb)] from if_neg HN.out];exact bA.out,HB.out⟩
theorem zIH(p:zN)(L:Int)(F:Int->Int->List (Int×Int))(hR:qB p)(hL:0<=L/\L<2)(hF:∀a b,(F a b).length<=9)(pA:zEj p (L+1) F):zEj p L (zFy p F):=by
 intro v lo hi xs xb w hs hP;have Hs:=zL hs;obtain⟨_,a,c,rfl,_⟩:=id hs;have ha:=zC w (.cells #[.int .i64 xs,.int .i64 xb] 61);obtain⟨⟨x0,x1⟩,⟨x2,x3⟩⟩:=zp.new w (.int .i64 xs) (.int .i64 xb) 61;have eC:(L == 2)=false:=by simp;omega
 clear hs;by_cases hn:Nil xs xb
 ·have HN:=zL hn;obtain⟨rfl,rfl⟩:=hn;go_enter Tryz.func197,Tryz.ntmps197;go_wp2;go_ret;exact⟨_,rfl,by rw[show zFy p F 0 0 = [] from if_pos HN.out];exact World.ownsRow_nil _ _ _ _,ha⟩
 ·have HN:=zL hn;have e0:=zC2 hn;have tA:zx p xs xb:=hP.resolve_left hn;have Hf:=zL (qp hR tA);have bB:=zL pA;have HF:=zL hF;obtain⟨k,rfl⟩:=Int.eq_ofNat_of_zero_le tA.2.1;rw[Int.toNat_natCast]at Hf;have hk:k<p.n:=(by have:=tA.2.2.1;omega);have fC:(k:Int)<(p.n:Int):=(by omega);clear hn hP tA pA hR hF;have iA:=World.ownsRow_lit (e:=61) (size:=2) (base:=w.heap.size+1) (w.alloc (.cells #[.int .i64 (k:Int),.int .i64 xb] 61)) #[.int .i64 (k:Int),.int .i64 xb] 1 (by simp) (by unfold maxLen;omega) rfl;rw[World.size_alloc]at iA;have jA:=zL iA;have eB:=zC (w.alloc (.cells #[.int .i64 (k:Int),.int .i64 xb] 61)) (.cells #[.int .i64 (k:Int),.int .i64 xb] 61);have dB:=zA ha eB;have bC:=(zp.new w (.int .i64 (k:Int)) (.int .i64 xb) 61).zO9 eB;clear x0 x1 x2 x3 iA ha eB;obtain⟨⟨x0,x1⟩,⟨x2,x3⟩⟩:=bC;obtain⟨b,off,ka,kc,rfl,nB⟩:=(Hs.out.zO9 dB).cells hk;have HC:=zL nB;obtain⟨q0,q1,q2,_⟩:=nB;obtain⟨y0,y1⟩:=(zp.new w (.int .i64 (k:Int)) (.int .i64 xb) 61).1;obtain⟨y2,y3⟩:=(zp.new w (.int .i64 (k:Int)) (.int .i64 xb) 61).2;rcases e0 with e0 | ⟨e0,e1⟩
  all_goals
   go_enter Tryz.func197,Tryz.ntmps197;go_wp2_with fail;refine(zER _ _ _ lo hi (p.s k) _ HC.out.slot (zDp Hf.out)).mono ?_;rintro e w1 ⟨rfl,vA⟩;have jB:=zA dB vA;have eA:=jA.out.kept (zAz vA none) (Or.inr (by simp[Value.ownBlock]));have aB:Hid ((Tryz.prog.info? 155).map (·.size)=some (qJ (p.s k)).size):=by
    show _=_;rw[qJ,qY];exact zEv
   have nA:(w1.alloc (.cells (qJ (p.s k)) 155)).heap[w1.heap.size]?=some (.cells (qJ (p.s k)) 155 (0,0)):=heap_alloc_last _ _;have HK:=zL nA;have cB:=zL (eA.alloc (.cells (qJ (p.s k)) 155));have rB:=zA jB (zC w1 (.cells (qJ (p.s k)) 155));have iC:w.heap.size+2<=w1.heap.size:=(by have:=vA.size;rw[World.size_alloc,World.size_alloc]at this;omega);obtain⟨i0,mB,gB⟩:=Option.map_eq_some_iff.1 zBS;simp only[Prod.mk.injEq]at gB;have HT:=zL (And.intro mB gB);clear vA jB eA nA dB x0 x1 x2 x3 y0 y1 y2 y3 q0 q1 q2 HC jA mB gB;go_wp2_with (first
    | (refine wpList_store_row rfl 155 (.tmp 8) (.tmp 23) rfl w1.heap.size (qJ (p.s k)) rfl rfl 155 #[Value.int .i64 0,Value.int .i64 0,Value.int .i64 0,Value.int .i64 0,Value.int .i64 0,Value.int .i64 0,Value.int .i64 0,Value.int .i64 0,Value.int .i64 0,Value.int .i64 0,Value.int .i64 0,Value.int .i64 0,Value.int .i64 0,Value.int .i64 0,Value.int .i64 0,Value.int .i64 0] (heap_alloc_last _ _) aB.out (by rw[qJ,qY];rfl) (zBg _) ?_;rw[World.setRow_alloc_new]))
   go_loopw [7,24] (fun o i wr=>∃(j:Nat) (oa:Option Addr) (oc:Nat),j<=8/\i = .int .i64 j/\o = .slice oa (((k:Int),xb) :: zAl F (p.s k) j).length oc/\wr.ownsRow (w.heap.size+1) 61 2 o (((k:Int),xb) :: zAl F (p.s k) j).length (pcl (((k:Int),xb) :: zAl F (p.s k) j))/\wr.heap[w1.heap.size]?=some (.cells (qJ (p.s k)) 155 (0,0))/\Below w.heap.size w wr) (fun _ i _=>8 - (intOf i).toNat)
   case atStart=>exact⟨0,_,_,Nat.zero_le _,rfl,rfl,cB.out,HK.out,rB⟩
   case round=>
    obtain⟨j,oa,oc,hj,rfl,rfl,rA,hK,hb⟩:=hrel;have fA:=zL rA;have sA:=zL hK;have fB:w1.heap.size<wr.heap.size:=(Array.getElem?_eq_some_iff.1 hK).1;have tB:=zHx HF.out (p.s k) j;clear rA hK;by_cases vB:j<8
    ·have aC:(j:Int)<8:=(by omega);obtain⟨y0,y1⟩:=zH (i:=j*2) sA.out (zAx (zl (p.s k)) (by omega));obtain⟨y2,y3⟩:=zH (i:=j*2+1) sA.out (zAx (zl (p.s k)) (by omega));have pB:Hid (Nil (zl (p.s k) (j*2)) (zl (p.s k) (j*2+1))\/zx p (zl (p.s k) (j*2)) (zl (p.s k) (j*2+1))):=by
      by_cases hn:Nil (zb (p.s k) j) (zu (p.s k) j)
      ·exact Or.inl hn
      ·exact Or.inr (zBE Hf.out vB hn).1
     go_wp2_with fail;refine(bB.out _ lo hi (zl (p.s k) (j*2)) (zl (p.s k) (j*2+1)) _ (Hs.out.zO9 hb) pB.out).mono ?_;rintro e w2 ⟨v2,rfl,dA,mA⟩;obtain⟨na,nc,rfl,_⟩:=za dA;have gC:=HF.out (zl (p.s k) (j*2)) (zl (p.s k) (j*2+1));have kA:=zL dA;have cA:=zL (fA.out.kept (zAz mA none) (by cases hv:(Value.slice oa (((k:Int),xb) :: zAl F (p.s k) j).length oc).ownBlock<;>simp));have iB:=zL ((mA.block _ fB).trans sA.out);have kB:=zA hb mA;have jC:=mA.size;clear dA mA y0 y1 y2 y3 fA sA;go_wp2_with (first
      | (at_builtin;refine qR rfl _ _ 62 rfl (w.heap.size+1) 61 i0 (.agg #[.int .i64 0,.int .i64 0]) 2 16 (by kernel_rfl) HT.out.1 HT.out.2.1 HT.out.2.2.1 HT.out.2.2.2 rfl (by decide) (.slice oa (((k:Int),xb) :: zAl F (p.s k) j).length oc) (((k:Int),xb) :: zAl F (p.s k) j).length (pcl (((k:Int),xb) :: zAl F (p.s k) j)) rfl ?c0 na (F (zl (p.s k) (j*2)) (zl (p.s k) (j*2+1))).length nc (pcl (F (zl (p.s k) (j*2)) (zl (p.s k) (j*2+1)))) rfl (zAX _) (zGE _) ?c1 ?c3 ?c4 ?c5 ?_))
     case c0=>exact cA.out
     case c1=>
      intro h0;obtain⟨g,cap,e,_,_,_,oA⟩:=yK kA.out h0;simp only[Value.slice.injEq,true_and]at e;exact⟨g,0,e.1,fun j u hj=>by rw[Nat.zero_add];exact(oA j u hj).1⟩
     case c3=>rw[List.length_cons];unfold maxLen;omega
     case c4=>rw[List.length_cons];omega
     case c5=>omega
     intro v3 w3 bA aA _;have gA:((k:Int),xb) :: zAl F (p.s k) (j+1)=(((k:Int),xb) :: zAl F (p.s k) j) ++ F (zl (p.s k) (j*2)) (zl (p.s k) (j*2+1)):=rfl;have lB:(zAl F (p.s k) j).length+1+(F (zl (p.s k) (j*2)) (zl (p.s k) (j*2+1))).length=(((k:Int),xb) :: zAl F (p.s k) (j+1)).length:=(by rw[gA,List.length_append,List.length_cons]);rw[<-zBG,<-gA,lB]at bA;have oB:=zL ((aA.block _ (by omega) (fun e=>zKI cA.out iB.out e.symm)).trans iB.out);have sB:=kB.grown aA kB.size (fun q hq=>by have:=cA.out.lt q hq;omega);obtain⟨cC,dC,rfl,_⟩:=za bA;have lA:=zL bA;clear bA aA gA lB;go_wp2;go_roundw
     case rel=>exact⟨j+1,cC,dC,by omega,by go_num,rfl,lA.out,oB.out,sB⟩
     case measure=>simp[intOf];omega
    ·obtain rfl:j=8:=(by omega);go_wp2;go_ret;refine⟨_,rfl,?_,hb⟩;rw[show zFy p F (k:Int) xb=((k:Int),xb) :: zAl F (p.s k) 8 by unfold zFy;rw[if_neg HN.out,Int.toNat_natCast]];exact zE8 fA.out (by omega)
theorem zMd(p:zN)(hR:qB p):zEj p 1 (zD0 p):=by
 have h:=zIH p 1 one hR (by omega) (fun a b=>by unfold one;split<;>simp) (zMe p);have e:zFy p one=zD0 p:=by
  funext xs xb;unfold zFy zD0 zK7;rw[zHz]
 rw[e]at h;exact h
theorem zIG(p:zN)(hR:qB p):zEj p 0 (zX p):=by
 have h:=zIH p 0 (zD0 p) hR (by omega) (zJ5 p) (zMd p hR);have e:zFy p (zD0 p)=zX p:=by
  funext xs xb;unfold zFy zX;rw[zHy]
 rw[e]at h;exact h
def zL6(n:Nat)(f g:Nat->Int)(x y:Int):Prop:=∃j,j<n/\f j=x/\g j=y
theorem zR.cellsT{w:World}{lo hi:Nat}{a:Option Addr}{n c:Nat}{f g:Nat->Int}(h:zR w lo hi (.slice a n c) n f g){k:Nat}(hk:k<n):∃b off,a=some ⟨b,off,none⟩/\w.cell? ⟨b,off+k*2,none⟩=some (.int .i64 (f k))/\w.cell? ⟨b,off+k*2+1,none⟩=some (.int .i64 (g k)):=by
 obtain⟨_,a2,c2,hv,_,hx⟩:=h;simp only[Value.slice.injEq,true_and]at hv;obtain⟨rfl,rfl⟩:=hv;obtain⟨b,off,ha,_,_,h3⟩:=hx (by omega);exact⟨b,off,ha,(h3 k hk).1,(h3 k hk).2⟩
theorem zR.take{w:World}{lo hi:Nat}{a:Option Addr}{n c m c':Nat}{f g:Nat->Int}(h:zR w lo hi (.slice a n c) n f g)(hm:m<=n)(hc:m<=c'):zR w lo hi (.slice a m c') m f g:=by
 obtain⟨h0,a2,c2,hv,_,hx⟩:=h;simp only[Value.slice.injEq,true_and]at hv;obtain⟨rfl,rfl⟩:=hv;refine⟨by omega,_,c',rfl,hc,fun h1=>?_⟩;obtain⟨b,off,ha,hl,hh,h3⟩:=hx (by omega);exact⟨b,off,ha,hl,hh,fun i hi=>h3 i (by omega)⟩
theorem zIs(v:Value)(n lo hi:Nat)(f g:Nat->Int)(x y:Int)(w:World)(h1:zR w lo hi v n f g) :
  Calls Tryz.prog 228 #[v,.agg #[.int .i64 x,.int .i64 y]] w fun e w'=>(∃r:Int,e = .returned (.int .i64 r)/\(0<=r↔zL6 n f g x y))/\Below w.heap.size w w':=by
 have Hp:=zL h1;obtain⟨m1,a,c,rfl,mc,_⟩:=id h1;unfold maxLen at m1;clear h1;have ha:=zC w (.cells #[.int .i64 x,.int .i64 y] 61);have HB:=zL (zp.new w (.int .i64 x) (.int .i64 y) 61);go_enter Tryz.func228,Tryz.ntmps228;go_wp2
 go_loopw [8] (fun i wr=>∃k:Nat,k<=n/\i = .int .i64 k/\¬zL6 k f g x y/\zp wr w.heap.size (.int .i64 x) (.int .i64 y)/\Below w.heap.size w wr) (fun i _=>n - (intOf i).toNat)
 case atStart=>exact⟨0,Nat.zero_le _,rfl,fun ⟨j,hj,_⟩=>absurd hj (Nat.not_lt_zero _),HB.out,ha⟩
 case round=>
  obtain⟨k,hk,rfl,dA,hX,hb⟩:=hrel;have bA:=zL dA;have HX:=zL hX;clear dA hX;obtain⟨⟨x0,x1⟩,⟨x2,x3⟩⟩:=HX.out;by_cases cA:k<n
  ·have eA:(k:Int)<(n:Int):=(by omega);obtain⟨b,off,rfl,q0,q1⟩:=(Hp.out.zO9 hb).cellsT cA;by_cases he:x=f k/\y=g k
   ·have H:=zL (show zL6 n f g x y from⟨k,cA,he.1.symm,he.2.symm⟩);rw[<-he.1]at q0;rw[<-he.2]at q1;clear he;go_wp2
    go_quiet (fail)
    go_wp2;go_ret;exact⟨⟨_,rfl,⟨fun _=>H.out,fun _=>Int.natCast_nonneg _⟩⟩,zh hb _⟩
   ·have H:=zL he;have e0:(x == f k)=false\/(x == f k)=true/\(y == g k)=false:=by
     by_cases h:x=f k
     ·right;refine⟨by simp[h],?_⟩;have:y≠g k:=fun h'=>he ⟨h,h'⟩
      simp[this]
     ·left;simp[h]
    clear he;rcases e0 with e0 | ⟨e0,e1⟩
    all_goals
     go_wp2
     go_quiet (fail)
     go_wp2;go_roundw
     case rel=>
      refine⟨k+1,by omega,by go_num,?_,HX.out.zO9 (zh (Below.refl _ _) _),zh hb _⟩;rintro⟨j,hj,aA⟩;by_cases e:j=k
      ·subst e;exact H.out ⟨aA.1.symm,aA.2.symm⟩
      ·exact bA.out ⟨j,by omega,aA⟩
     case measure=>simp[intOf];omega
  ·obtain rfl:k=n:=(by omega);go_wp2;go_ret;exact⟨⟨-1,rfl,⟨fun h=>absurd h (by omega),fun h=>absurd h bA.out⟩⟩,hb⟩
theorem zC8(v:Value)(n lo hi:Nat)(f g:Nat->Int)(x y:Int)(w:World)(h1:zR w lo hi v n f g) :
  Calls Tryz.prog 220 #[v,.agg #[.int .i64 x,.int .i64 y]] w fun e w'=>zG (zL6 n f g x y) e/\Below w.heap.size w w':=by
 have Hi:=zL h1;obtain⟨m1,a,c,rfl,mc,_⟩:=id h1;clear h1;have ha:=zC w (.cells #[.int .i64 x,.int .i64 y] 61);go_enter Tryz.func220,Tryz.ntmps220;go_wp2_with fail;refine(zIs _ n lo hi f g x y _ (Hi.out.zO9 ha)).mono ?_;rintro e w' ⟨⟨r,rfl,hr⟩,hb⟩;have Hr:=zL hr;have hB:=zA ha hb;clear hr hb;go_wp2;go_ret;exact⟨⟨_,rfl,by simpa using Hr.out⟩,hB⟩
def zKg(p:zN)(n:Nat)(f g:Nat->Int):Prop:=∀i,i<n->¬zL6 i f g (f i) (g i)/\¬Has p.hn p.h (f i)
theorem zMA(v0 v1 v:Value)(lo hi nA mA n:Nat)(p:zN)(f g:Nat->Int)(w:World)(h1:qS w lo hi v0 v1 p)(h2:zR w nA mA v n f g) :
    Calls Tryz.prog 196 #[.agg #[v0,v1],v] w fun e w'=>zG (zKg p n f g) e/\Below w.heap.size w w':=by
  have Hp:=zL h1;have Hl:=zL h2;obtain⟨a,c,a',c',rfl,rfl⟩:∃a c a' c',v0 = .slice a p.n c/\v1 = .slice a' p.hn c':=by
    obtain⟨⟨_,a,c,h1,_⟩,⟨_,a',c',h3,_⟩⟩:=h1;exact⟨a,c,a',c',h1,h3⟩
  obtain⟨m1,la,lc,rfl,mc,_⟩:=id h2;unfold maxLen at m1;clear h1 h2;have ha:=zC w (.cells #[.slice a p.n c,.slice a' p.hn c'] 33);have HB:=zL (zp.new w (.slice a p.n c) (.slice a' p.hn c') 33);go_enter Tryz.func196,Tryz.ntmps196;go_wp2
  go_loopw [9] (fun i wr=>∃k:Nat,k<=n/\i = .int .i64 k/\zKg p k f g/\zp wr w.heap.size (.slice a p.n c) (.slice a' p.hn c')/\Below w.heap.size w wr) (fun i _=>n - (intOf i).toNat)
  case atStart=>exact⟨0,Nat.zero_le _,rfl,fun j hj=>absurd hj (Nat.not_lt_zero _),HB.out,ha⟩
  case round=>
    obtain⟨k,hk,rfl,eA,hX,hb⟩:=hrel;have dA:=zL eA;have HX:=zL hX;clear eA hX;by_cases kA:k<n
    · have sA:(k:Int)<(n:Int):=by omega
      have vA:(k:Int)<=(lc:Int):=(by omega);obtain⟨b,off,rfl,q0,q1⟩:=(Hl.out.zO9 hb).cellsT kA;have lA:=zC wr (.cells #[.int .i64 (f k),.int .i64 (g k)] 61);have cA:=zL (HX.out.zO9 lA);have HV:=zL (zp.new wr (.int .i64 (f k)) (.int .i64 (g k)) 61);have fA:=zA hb lA;have aB:w.heap.size<wr.heap.size:=HX.out.1.lt;have tA:(wr.alloc (.cells #[.int .i64 (f k),.int .i64 (g k)] 61)).heap.size=wr.heap.size+1:=World.size_alloc _ _;go_upto_region 4 with fail;generalize wr.alloc (.cells #[.int .i64 (f k),.int .i64 (g k)] 61)=wx at cA HV fA tA ⊢;clear q0 q1 lA HX;have iA:=zL ((Hl.out.zO9 fA).take (m:=k) (c':=lc) (by omega) (by omega));obtain⟨⟨x0,x1⟩,⟨x2,x3⟩⟩:=cA.out;obtain⟨⟨y0,y1⟩,⟨y2,y3⟩⟩:=HV.out;by_cases hh:zL6 k f g (f k) (g k)
      · have HH:=zL hh
        clear hh
        first
          | (go_region_with (first
              | (go_at_call 220
                 refine(zC8 _ k nA mA f g (f k) (g k) _ ?_).mono ?_
                 (first | exact iA.out | exact iA.out.zO9 (Below.refl _ _).drew)
                 rintro e w2 ⟨⟨t2,rfl,gA⟩,bA⟩;obtain rfl:t2=true:=gA.2 HH.out;clear gA;have aA:Below wx.heap.size wx w2:=(by first | exact bA | exact zI bA);obtain⟨⟨k0,_⟩,⟨k1,_⟩⟩:=cA.out.zO9 aA;obtain⟨⟨k2,_⟩,⟨k3,_⟩⟩:=HV.out.zO9 aA)))
          | fail
        all_goals
          have jA:=zA fA aA;go_wp2;go_ret;exact⟨zG.no fun h=>(h k kA).1 HH.out,jA⟩
      · have HH:=zL hh
        clear hh;go_region_held3 (fun w'=>w'.cell? ⟨w.heap.size,0,none⟩=some (.slice a p.n c)/\w'.cell? ⟨w.heap.size,1,none⟩=some (.slice a' p.hn c')/\w'.cell? ⟨wr.heap.size,0,none⟩=some (.int .i64 (f k))/\w'.cell? ⟨wr.heap.size,1,none⟩=some (.int .i64 (g k))) (go_keep)
          (first
            | (go_at_call 220
               refine(zC8 _ k nA mA f g (f k) (g k) _ ?_).mono ?_
               (first | exact iA.out | exact iA.out.zO9 (Below.refl _ _).drew)
               rintro e w2 ⟨⟨t2,rfl,gA⟩,bA⟩;obtain rfl:t2=false:=zW gA HH.out;clear gA;have aA:Below wx.heap.size wx w2:=(by first | exact bA | exact zI bA);obtain⟨⟨k0,_⟩,⟨k1,_⟩⟩:=cA.out.zO9 aA;obtain⟨⟨k2,_⟩,⟨k3,_⟩⟩:=HV.out.zO9 aA)
            | (go_at_call 192
               refine(zBe _ p.hn lo hi p.h (f k) _ ?_).mono ?_;exact(Hp.out.2.zO9 (zA fA aA));rintro e w3 ⟨⟨t3,rfl,pA⟩,rfl⟩))
        have jA:=zA fA aA;have rA:=zL (cA.out.zO9 aA);have oA:=zL pA;clear pA aA bA x0 x1 x2 x3 y0 y1 y2 y3 k0 k1 k2 k3;cases t3
        · go_wp2
          go_roundw
          case rel=>exact⟨k+1,by omega,by go_num,zr (n:=n) kA dA.out ⟨HH.out,fun h=>absurd (oA.out.2 h) (by simp)⟩,rA.out,jA⟩
          case measure=>simp[intOf];omega
        · go_wp2
          go_ret;exact⟨zG.no fun h=>(h k kA).2 (oA.out.1 trivial),jA⟩
    · obtain rfl:k=n:=by omega
      go_wp2;go_ret;exact⟨zG.yes dA.out,hb⟩
theorem zNj{w:World}{base:Nat}{v:Value}{l:List (Int×Int)}(hm:l.length<=maxLen)(h:w.ownsRow base 61 2 v l.length (pcl l)):zR w 0 w.heap.size v l.length (fun i=>(l.getD i (0,0)).1) (fun i=>(l.getD i (0,0)).2):=by
  by_cases h0:0<l.length
  · obtain⟨g,cap,rfl,bA,hb,cA,aA⟩:=yK h h0
    refine⟨hm,_,cap,rfl,bA,fun _=>⟨g,0,rfl,Nat.zero_le _,cA,fun i hi=>?_⟩⟩;have get:∀(l:List (Int×Int)) i,i<l.length->(pcl l)[i*2]?=some (.int .i64 (l.getD i (0,0)).1)/\(pcl l)[i*2+1]?=some (.int .i64 (l.getD i (0,0)).2):=by
      intro l
      induction l with
      | nil=>intro i hi;simp at hi
      | cons x l ih=>
        intro i hi;cases i with
        | zero=>exact⟨rfl,rfl⟩
        | succ i=>
          have:=ih i (by simpa using hi);rw[show(i+1)*2=i*2+1+1 by omega];simpa[pcl]using this
    rw[Nat.zero_add];exact⟨(aA _ _ (get l i hi).1).1,(aA _ _ (get l i hi).2).1⟩
  · obtain⟨a,cap,rfl,bA⟩:=za h
    exact⟨hm,a,cap,rfl,bA,fun h=>absurd h h0⟩
theorem zKn(p:zN)(l:List (Int×Int)):zKg p l.length (fun i=>(l.getD i (0,0)).1) (fun i=>(l.getD i (0,0)).2)↔zMs p l:=by
  have aA:∀i (h:i<l.length),l.getD i (0,0)=l[i]:=fun i h=>by rw[List.getD_eq_getElem?_getD,List.getElem?_eq_getElem h,Option.getD_some]
  constructor
  · intro h
    refine⟨?_,fun x hx=>?_⟩
    · rw[List.Nodup,List.pairwise_iff_getElem]
      intro i j hi hj bA e;refine(h j hj).1 ⟨i,bA,?_,?_⟩
      · show(l.getD i (0,0)).1=(l.getD j (0,0)).1
        rw[aA i hi,aA j hj,e]
      · show(l.getD i (0,0)).2=(l.getD j (0,0)).2
        rw[aA i hi,aA j hj,e]
    · obtain⟨i,hi,rfl⟩:=List.getElem_of_mem hx
      have:=(h i hi).2;simp only[aA i hi]at this;exact this
  · rintro⟨h1,h2⟩ i hi
    refine⟨?_,?_⟩
    · rintro⟨j,hj,e1,e2⟩
      simp only[aA i hi,aA j (by omega)]at e1 e2;rw[List.Nodup,List.pairwise_iff_getElem]at h1;exact h1 j i (by omega) hi hj (Prod.ext e1 e2)
    · simp only[aA i hi]
      exact h2 _ (List.getElem_mem hi)
theorem zHs(v0 v1:Value)(lo hi:Nat)(p:zN)(xs xb:Int)(w:World)(h1:qS w lo hi v0 v1 p)(hR:qB p) :
    Calls Tryz.prog 155 #[.agg #[v0,v1],.agg #[.int .i64 xs,.int .i64 xb]] w fun e w'=>zG (zIi p xs xb) e/\Below w.heap.size w w':=by
  have Hp:=zL h1;have HR:=zL hR;obtain⟨a,c,a',c',rfl,rfl⟩:∃a c a' c',v0 = .slice a p.n c/\v1 = .slice a' p.hn c':=by
    obtain⟨⟨_,a,c,h1,_⟩,⟨_,a',c',h3,_⟩⟩:=h1;exact⟨a,c,a',c',h1,h3⟩
  clear h1 hR;have rA:=zFE w (.slice a p.n c) (.slice a' p.hn c') (.int .i64 xs) (.int .i64 xb) 33 61;by_cases hn:Nil xs xb
  · have HN:=zL hn
    obtain⟨rfl,rfl⟩:=hn;obtain⟨_,_,aA,_⟩:=rA;go_enter Tryz.func155,Tryz.ntmps155;go_wp2;go_ret;exact⟨zG.yes (Or.inl HN.out),aA⟩
  · have HN:=zL hn
    have e0:=zC2 hn;clear hn;have iA:Hid (∀t:Bool,(t=true↔zx p xs xb/\zIe p (p.s xs.toNat)/\zMs p (zX p xs xb))->zG (zIi p xs xb) (.returned (.bool t))):=fun t ht=>⟨t,rfl,ht.trans ⟨fun h=>Or.inr h,fun h=>h.resolve_left HN.out⟩⟩
    go_enter Tryz.func155,Tryz.ntmps155;go_upto_region 1 with fail;generalize (w.alloc (.cells #[.slice a p.n c,.slice a' p.hn c'] 33)).alloc (.cells #[.int .i64 xs,.int .i64 xb] 61)=W at rA ⊢;obtain⟨hB,hX,aA,hz⟩:=rA;have HB:=zL hB;have HX:=zL hX;clear hB hX
    go_cut [7] (fun v wc=>v = .bool false/\W=wc)
    case first=>
      obtain⟨⟨y0,y1⟩,⟨y2,y3⟩⟩:=HX.out;rcases e0 with e0 | ⟨e0,e1⟩
      all_goals
        go_wp2_with fail
        go_meet
        case rel=>exact⟨rfl,rfl⟩
    case rest=>
      obtain⟨rfl,rfl⟩:=hcut;clear e0;obtain⟨⟨x0,x1⟩,⟨x2,x3⟩⟩:=HB.out;obtain⟨⟨y0,y1⟩,⟨y2,y3⟩⟩:=HX.out;go_upto_region 3 with fail;by_cases hP:zx p xs xb
      · have HP:=zL hP
        clear hP;by_cases nA:zIe p (p.s xs.toNat)
        · have jA:=zL nA
          clear nA;go_region_held3 (fun w'=>w'.cell? ⟨w.heap.size,0,none⟩=some (.slice a p.n c)/\w'.cell? ⟨w.heap.size,1,none⟩=some (.slice a' p.hn c')/\w'.cell? ⟨w.heap.size+1,0,none⟩=some (.int .i64 xs)/\w'.cell? ⟨w.heap.size+1,1,none⟩=some (.int .i64 xb)) (go_keep)
            (first
              | (go_at_call 191
                 refine(zDr _ p.n lo hi p.s xs xb _ ?_).mono ?_
                 (first | exact Hp.out.1.zO9 aA | exact Hp.out.1.zO9 aA.drew)
                 rintro e w1 ⟨⟨t1,rfl,cA⟩,fA⟩;rw[zDs HR.out]at cA;obtain rfl:t1=true:=cA.2 HP.out;clear cA;have bA:Below W.heap.size W w1:=(by first | exact fA | exact zI fA);obtain⟨⟨k0,_⟩,⟨k1,_⟩⟩:=HB.out.zO9 bA;obtain⟨⟨k2,_⟩,⟨k3,_⟩⟩:=HX.out.zO9 bA)
              | (go_at_call 195
                 refine(zG7 p HR.out _ lo hi xs xb _ ?_ HP.out).mono ?_;exact Hp.out.1.zO9 (zA aA bA);rintro e w2 ⟨⟨t2,rfl,lA⟩,pA⟩;obtain rfl:t2=true:=lA.2 jA.out;clear lA;have eA:=zA bA pA;obtain⟨⟨l0,_⟩,⟨l1,_⟩⟩:=HB.out.zO9 eA;obtain⟨⟨l2,_⟩,⟨l3,_⟩⟩:=HX.out.zO9 eA)
              | (go_at_call 197
                 refine(zIG p HR.out _ lo hi xs xb _ ?_ (Or.inr HP.out)).mono ?_;exact Hp.out.1.zO9 (zA aA eA);rintro e w3 ⟨v3,rfl,gA,tA⟩;obtain⟨na,nc,rfl,_⟩:=za gA;have mA:=zA eA tA;have aB:=zNj (by have:=qK p xs xb;unfold maxLen;omega) gA;obtain⟨⟨m0,_⟩,⟨m1,_⟩⟩:=HB.out.zO9 mA;obtain⟨⟨m2,_⟩,⟨m3,_⟩⟩:=HX.out.zO9 mA)
              | (go_at_call 196
                 refine(zMA _ _ _ lo hi 0 w3.heap.size _ p _ _ _ ?_ aB).mono ?_;exact Hp.out.zO9 (zA aA mA);rintro e w4 ⟨⟨t4,rfl,sA⟩,vA⟩;rw[zKn]at sA;have oA:=zA mA vA;obtain⟨⟨n0,_⟩,⟨n1,_⟩⟩:=HB.out.zO9 oA;obtain⟨⟨n2,_⟩,⟨n3,_⟩⟩:=HX.out.zO9 oA))
          have kA:=zA aA oA;have HT:=zL sA;clear sA;go_wp2;go_ret;exact⟨iA.out t4 (HT.out.trans ⟨fun h=>⟨HP.out,jA.out,h⟩,fun h=>h.2.2⟩),kA⟩
        · have jA:=zL nA
          clear nA;refine wp_region_held_drew (S:=(fun w'=>w'.cell? ⟨w.heap.size,0,none⟩=some (.slice a p.n c)/\w'.cell? ⟨w.heap.size,1,none⟩=some (.slice a' p.hn c')/\w'.cell? ⟨w.heap.size+1,0,none⟩=some (.int .i64 xs)/\w'.cell? ⟨w.heap.size+1,1,none⟩=some (.int .i64 xb))) (by kernel_rfl) ?_ (fun hHeld=>?_)
          · (try dsimp only)
            go_keep
          refine tk 0 (h:=tk 1 (h:=tk 2 (h:=?_)));refine rd [3] (rc (fun K hK=>?_) .nil);go_simp;go_at_call 191;refine(zDr _ p.n lo hi p.s xs xb _ ?_).mono ?_
          · first | exact Hp.out.1.zO9 aA | exact Hp.out.1.zO9 aA.drew
          rintro e w1 ⟨⟨t1,rfl,cA⟩,fA⟩;rw[zDs HR.out]at cA;obtain rfl:t1=true:=cA.2 HP.out;clear cA;have bA:Below W.heap.size W w1:=(by first | exact fA | exact zI fA);obtain⟨⟨k0,_⟩,⟨k1,_⟩⟩:=HB.out.zO9 bA;obtain⟨⟨k2,_⟩,⟨k3,_⟩⟩:=HX.out.zO9 bA
          (try go_wp2_with fail)
          refine hK.out _ _ (by(try dsimp only);go_keep) ?_;clear hK K hHeld;intro hHeld
          try simp only[Act.put,s1,s2,s3]
          refine tk 4 (h:=tk 5 (h:=tk 6 (h:=tk 7 (h:=?_))));refine rd [8] (rc (fun K hK=>?_) .nil);go_simp;go_at_call 195;refine(zG7 p HR.out _ lo hi xs xb _ ?_ HP.out).mono ?_
          · exact Hp.out.1.zO9 (zA aA bA)
          rintro e w2 ⟨⟨t2,rfl,lA⟩,pA⟩;obtain rfl:t2=false:=zW lA jA.out;clear lA;have eA:=zA bA pA;obtain⟨⟨l0,_⟩,⟨l1,_⟩⟩:=HB.out.zO9 eA;obtain⟨⟨l2,_⟩,⟨l3,_⟩⟩:=HX.out.zO9 eA
          (try go_wp2_with fail)
          refine hK.out _ _ (by(try dsimp only);go_keep) ?_;clear hK K hHeld;intro hHeld
          try simp only[Act.put,s1,s2,s3]
          refine tk 9 (h:=tk 10 (h:=ts 11 (h:=ts 12 (h:=ts 13 (h:=ts 14 (h:=?_))))));refine rd [15] (rc (fun K hK=>?_) .nil);split
          · rename_i dA
            exact absurd (show false=true from dA) Bool.false_ne_true
          refine hK.out _ _ (by assumption) (fun hHeld=>?_);clear hK K
          try simp only[Act.put,s1,s2,s3]
          refine rd [16] (rc (fun K hK=>?_) .nil);split
          · rename_i dA
            exact absurd (show false=true from dA) Bool.false_ne_true
          refine hK.out _ _ (by assumption) (fun hHeld=>?_);clear hK K
          try simp only[Act.put,s1,s2,s3]
          refine tk 17 (h:=tk 18 (h:=?_));refine wpAnyH_done (by kernel_rfl) ?_ _;have kA:=zA aA eA;go_wp2;go_ret;exact⟨iA.out false ⟨fun h=>(by cases h),fun h=>absurd h.2.1 jA.out⟩,kA⟩
      · have HP:=zL hP
        clear hP;refine wp_region_held_drew (S:=(fun w'=>w'.cell? ⟨w.heap.size,0,none⟩=some (.slice a p.n c)/\w'.cell? ⟨w.heap.size,1,none⟩=some (.slice a' p.hn c')/\w'.cell? ⟨w.heap.size+1,0,none⟩=some (.int .i64 xs)/\w'.cell? ⟨w.heap.size+1,1,none⟩=some (.int .i64 xb))) (by kernel_rfl) ?_ (fun hHeld=>?_)
        · (try dsimp only)
          go_keep
        refine tk 0 (h:=tk 1 (h:=tk 2 (h:=?_)));refine rd [3] (rc (fun K hK=>?_) .nil);go_simp;go_at_call 191;refine(zDr _ p.n lo hi p.s xs xb _ ?_).mono ?_
        · first | exact Hp.out.1.zO9 aA | exact Hp.out.1.zO9 aA.drew
        rintro e w1 ⟨⟨t1,rfl,cA⟩,fA⟩;rw[zDs HR.out]at cA;obtain rfl:t1=false:=zW cA HP.out;clear cA;have bA:Below W.heap.size W w1:=(by first | exact fA | exact zI fA);obtain⟨⟨k0,_⟩,⟨k1,_⟩⟩:=HB.out.zO9 bA;obtain⟨⟨k2,_⟩,⟨k3,_⟩⟩:=HX.out.zO9 bA
        (try go_wp2_with fail)
        refine hK.out _ _ (by(try dsimp only);go_keep) ?_;clear hK K hHeld;intro hHeld
        try simp only[Act.put,s1,s2,s3]
        refine tk 4 (h:=ts 5 (h:=ts 6 (h:=ts 7 (h:=?_))));refine rd [8] (rc (fun K hK=>?_) .nil);split
        · rename_i dA
          exact absurd (show false=true from dA) Bool.false_ne_true
        refine hK.out _ _ (by assumption) (fun hHeld=>?_);clear hK K
        try simp only[Act.put,s1,s2,s3]
        refine tk 9 (h:=tk 10 (h:=ts 11 (h:=ts 12 (h:=ts 13 (h:=ts 14 (h:=?_))))));refine rd [15] (rc (fun K hK=>?_) .nil);split
        · rename_i dA
          exact absurd (show false=true from dA) Bool.false_ne_true
        refine hK.out _ _ (by assumption) (fun hHeld=>?_);clear hK K
        try simp only[Act.put,s1,s2,s3]
        refine rd [16] (rc (fun K hK=>?_) .nil);split
        · rename_i dA
          exact absurd (show false=true from dA) Bool.false_ne_true
        refine hK.out _ _ (by assumption) (fun hHeld=>?_);clear hK K
        try simp only[Act.put,s1,s2,s3]
        refine tk 17 (h:=tk 18 (h:=?_));refine wpAnyH_done (by kernel_rfl) ?_ _;have kA:=zA aA bA;go_wp2;go_ret;exact⟨iA.out false ⟨fun h=>(by cases h),fun h=>absurd h.1 HP.out⟩,kA⟩
def icl(l:List Int):List Value:=l.map (Value.int .i64)
theorem zK0(l m:List Int):icl (l ++ m)=icl l ++ icl m:=by simp[icl]
theorem zE9{w:World}{base:Nat}{v:Value}{l:List Int}(hm:l.length<=maxLen)(h:w.ownsRow base 2 1 v l.length (icl l)):qs w 0 w.heap.size v l.length (fun i=>l.getD i 0):=by
 by_cases h0:0<l.length
 ·obtain⟨g,cap,rfl,bA,hb,cA,aA⟩:=yK h h0;refine⟨hm,_,cap,rfl,bA,fun _=>⟨g,0,rfl,Nat.zero_le _,cA,fun i hi=>?_⟩⟩;rw[Nat.zero_add];refine(aA i _ ?_).1;simp[icl,hi]
 ·obtain⟨a,cap,rfl,bA⟩:=za h;exact⟨hm,a,cap,rfl,bA,fun h=>absurd h h0⟩
theorem zEs(l:List Int)(x:Int):Has l.length (fun i=>l.getD i 0) x↔x∈l:=by
 have aA:∀i (h:i<l.length),l.getD i 0=l[i]:=fun i h=>by rw[List.getD_eq_getElem?_getD,List.getElem?_eq_getElem h,Option.getD_some]
 constructor
 ·rintro⟨j,hj,e⟩;rw[<-e];show l.getD j 0∈l;rw[aA j hj];exact List.getElem_mem hj
 ·intro h;obtain⟨i,hi,rfl⟩:=List.getElem_of_mem h;exact⟨i,hi,aA i hi⟩
def ys(p:zN)(rs:Int)(s:zO)(j:Nat):List Int:=rs :: zAO (zAo p s j)
def zAp(p:zN)(rs:Int)(s:zO)(j i:Nat):List Int:=ys p rs s j ++ (zb s j :: zAO (kidsUp (zb (p.s (zb s j).toNat)) (zu (p.s (zb s j).toNat)) i))
theorem zHF(p:zN)(s:zO)(j:Nat):∀m,j<=m->∃r,zAo p s m=zAo p s j ++ r
 | 0,h=>⟨[],by rw[show j=0 by omega];simp⟩
 | m+1,h=>by
  by_cases e:j=m+1
  ·subst e;exact⟨[],by simp⟩
  ·obtain⟨r,hr⟩:=zHF p s j m (by omega);exact⟨r ++ zD0 p (zb s m) (zu s m),by rw[zAo,hr,List.append_assoc]⟩
theorem zFp(ks kb:Nat->Int)(j:Nat):∀m,j<=m->∃r,kidsUp ks kb m=kidsUp ks kb j ++ r
 | 0,h=>⟨[],by rw[show j=0 by omega];simp⟩
 | m+1,h=>by
  by_cases e:j=m+1
  ·subst e;exact⟨[],by simp⟩
  ·obtain⟨r,hr⟩:=zFp ks kb j m (by omega);exact⟨r ++ one (ks m) (kb m),by rw[kidsUp,hr,List.append_assoc]⟩
theorem zBR(l m:List (Int×Int)):zAO (l ++ m)=zAO l ++ zAO m:=by simp[zAO]
theorem zC6{l:List Int}{x:Int}:(l ++ [x]).Nodup↔l.Nodup/\x∉l:=by
 rw[List.nodup_append];constructor
 ·rintro⟨h1,_,h3⟩;exact⟨h1,fun hx=>h3 x hx x (by simp) rfl⟩
 ·rintro⟨h1,h2⟩;refine⟨h1,by simp,fun a ha b hb e=>?_⟩;rw[List.mem_singleton]at hb;subst hb;subst e;exact h2 ha
theorem zHH{p:zN}{rs rb:Int}(hz:¬Nil rs rb):zAO (zX p rs rb)=ys p rs (p.s rs.toNat) 8:=by
 unfold zX ys;rw[if_neg hz];rfl
theorem zJ6{p:zN}{s:zO}{j:Nat}(hn:¬Nil (zb s j) (zu s j)):zD0 p (zb s j) (zu s j)=(zb s j,zu s j) :: zK7 (p.s (zb s j).toNat):=if_neg hn
theorem zDw{p:zN}{rs:Int}{s:zO}{j:Nat}(hn:¬Nil (zb s j) (zu s j)):ys p rs s (j+1)=zAp p rs s j 8:=by
 unfold ys zAp ys;rw[zAo,zBR,zJ6 hn];rfl
theorem zFd{p:zN}{rs:Int}{s:zO}{j:Nat}(hn:Nil (zb s j) (zu s j)):ys p rs s (j+1)=ys p rs s j:=by
 unfold ys;rw[zAo,show zD0 p (zb s j) (zu s j) = [] from if_pos hn,List.append_nil]
theorem zFX(p:zN)(rs:Int)(s:zO)(j:Nat):zAp p rs s j 0=ys p rs s j ++ [zb s j]:=rfl
theorem zNU{p:zN}{rs:Int}{s:zO}{j i:Nat}(hn:Nil (zb (p.s (zb s j).toNat) i) (zu (p.s (zb s j).toNat) i)):zAp p rs s j (i+1)=zAp p rs s j i:=by
 unfold zAp;rw[kidsUp,show one (zb (p.s (zb s j).toNat) i) (zu (p.s (zb s j).toNat) i) = [] from if_pos hn,List.append_nil]
theorem zNT{p:zN}{rs:Int}{s:zO}{j i:Nat}(hn:¬Nil (zb (p.s (zb s j).toNat) i) (zu (p.s (zb s j).toNat) i)):zAp p rs s j (i+1)=zAp p rs s j i ++ [zb (p.s (zb s j).toNat) i]:=by
 unfold zAp;rw[kidsUp,show one (zb (p.s (zb s j).toNat) i) (zu (p.s (zb s j).toNat) i) = [(zb (p.s (zb s j).toNat) i,zu (p.s (zb s j).toNat) i)] from if_neg hn,zBR,List.append_assoc];rfl
theorem zKL(p:zN)(rs:Int)(s:zO){j:Nat}(hj:j<=8):(ys p rs s j).length<=73:=by
 have:=zDx p s j;simp only[ys,zAO,List.length_cons,List.length_map];omega
theorem zN8(p:zN)(rs:Int)(s:zO){j i:Nat}(hj:j<=8)(hi:i<=8):(zAp p rs s j i).length<=90:=by
 have h1:=zKL p rs s hj;have h2:=zCy (zb (p.s (zb s j).toNat)) (zu (p.s (zb s j).toNat)) i;simp only[zAp,zAO,List.length_append,List.length_cons,List.length_map];omega
theorem zIC{p:zN}{rs rb:Int}(hz:¬Nil rs rb)(h:(zAO (zX p rs rb)).Nodup){j i:Nat}(hj:j<8)(hi:i<=8)(hn:¬Nil (zb (p.s rs.toNat) j) (zu (p.s rs.toNat) j)):(zAp p rs (p.s rs.toNat) j i).Nodup:=by
 rw[zHH hz]at h;obtain⟨r,hr⟩:=zHF p (p.s rs.toNat) (j+1) 8 (by omega);obtain⟨r2,aA⟩:=zFp (zb (p.s (zb (p.s rs.toNat) j).toNat)) (zu (p.s (zb (p.s rs.toNat) j).toNat)) i 8 hi;have e1:ys p rs (p.s rs.toNat) 8=ys p rs (p.s rs.toNat) (j+1) ++ zAO r:=by unfold ys;rw[hr,zBR];rfl
 have e2:zAp p rs (p.s rs.toNat) j 8=zAp p rs (p.s rs.toNat) j i ++ zAO r2:=by
  unfold zAp;rw[aA,zBR,List.append_assoc];rfl
 rw[e1,zDw hn,e2,List.append_assoc]at h;exact(List.nodup_append.1 h).1
end Go.Proofs.YtmgeglgboadfiaaGreatDoor
