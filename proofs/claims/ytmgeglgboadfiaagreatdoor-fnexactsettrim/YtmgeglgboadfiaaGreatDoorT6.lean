/- What impl.shapeRight answers, of a page, a node and a root. -/
import Derived.Test.YtmgeglgboadfiaaGreatDoorT5
import Derived.Laws.OwnMore
import Derived.Lib.SliceRun
import Derived.Deep.AppendLies
set_option linter.unusedVariables false
set_option maxRecDepth 20000
set_option maxHeartbeats 4000000
namespace Go.Proofs.YtmgeglgboadfiaaGreatDoor
open Go.RowKit
def zNl(p:zJ)(Low:zL->Prop)(s:zL):Prop:=(∃i,i<8/\¬Nil(zb s i)(zu s i))/\∀i,i<8->Nil(zb s i)(zu s i)\/Low(p.s(zb s i).toNat)
def zFz(p:zJ)(L:Int)(Low:zL->Prop):Prop:=∀(v:Value)(lo hi:Nat)(xs xb:Int)(w:World),qA w lo hi v p.n p.s->zr p xs xb->
 Calls Tryz.prog 195 #[v,.agg #[.int .i64 xs,.int .i64 xb],.int .i64 L] w fun e w'=>zG(Low(p.s xs.toNat)) e/\Below w.heap.size w w'
theorem zJN(s:zL):zGg(zk s)(fun _=>0)=true↔¬∃i,i<8/\¬Nil(zb s i)(zu s i):=by
 rw [zHy];constructor
 ·rintro h ⟨i,hi,hn⟩;exact hn(h i hi)
 ·intro h i hi;by_cases hn:Nil(zb s i)(zu s i)
  ·exact hn
  ·exact absurd ⟨i,hi,hn⟩ h
theorem zMJ(p:zJ):zFz p 2 zHD:=by
 intro v lo hi xs xb w hs hP;have Hs:=zE hs;obtain⟨_,a,c,rfl,_⟩:=id hs;obtain⟨k,rfl⟩:=Int.eq_ofNat_of_zero_le hP.2.1;have hk:k<p.n:=by have:=hP.2.2.1;omega
 have bA:(k:Int)<(p.n:Int):=by omega
 have ha:=zC w(.cells #[.int .i64(k:Int),.int .i64 xb] 61);obtain⟨⟨x0,x1⟩,⟨x2,x3⟩⟩:=zc.zRL w(.int .i64(k:Int))(.int .i64 xb) 61;obtain⟨b,off,ka,kc,rfl,hsc⟩:=(Hs.out.zRJ ha).cells hk;have HC:=zE hsc;obtain⟨q0,q1,q2,_⟩:=hsc;clear hs hP;go_enter Tryz.func195,Tryz.ntmps195;go_wp2_with fail;have aA:=zC(w.alloc(.cells #[.int .i64(k:Int),.int .i64 xb] 61))(.cells #[.int .i64(p.s k).zRU,.slice ka(p.s k).kn kc,.string(p.s k).data] 127);refine(zIO _ _ _ lo hi(p.s k) _(HC.out.slot.zRJ aA)).mono ?_;rintro e w1 ⟨⟨t,rfl,ht⟩,hb1⟩;have hB:=zA(zA ha aA) hb1;have HT:=zE ht;clear ht hb1;go_wp2;go_ret;refine⟨⟨t,rfl,?_⟩,hB⟩;rw [Int.toNat_natCast];exact HT.out
theorem zHq(p:zJ)(L:Int)(iA:zL->Prop)(hR:zv p)(hL:0<=L/\L<2)(cA:zFz p(L+1) iA):zFz p L(zNl p iA):=by
 intro v lo hi xs xb w hs hP;have jA:=zE cA;have HR:=zE hR;have Hs:=zE hs;have HP:=zE hP;have Hf:=zE(qV hR hP);obtain⟨_,a,c,rfl,_⟩:=id hs;obtain⟨k,rfl⟩:=Int.eq_ofNat_of_zero_le hP.2.1;rw [Int.toNat_natCast] at Hf;have hk:k<p.n:=by have:=hP.2.2.1;omega
 have vA:(k:Int)<(p.n:Int):=by omega
 have aB:(L == 2)=false:=by simp;omega
 have ha:=zC w(.cells #[.int .i64(k:Int),.int .i64 xb] 61);obtain⟨⟨x0,x1⟩,⟨x2,x3⟩⟩:=zc.zRL w(.int .i64(k:Int))(.int .i64 xb) 61;obtain⟨b,off,ka,kc,rfl,hsc⟩:=(Hs.out.zRJ ha).cells hk;have HC:=zE hsc;obtain⟨q0,q1,q2,_⟩:=hsc;clear hs hP cA hR;go_enter Tryz.func195,Tryz.ntmps195;go_wp2_with fail;have gA:=zC(w.alloc(.cells #[.int .i64(k:Int),.int .i64 xb] 61))(.cells #[.int .i64(p.s k).zRU,.slice ka(p.s k).kn kc,.string(p.s k).data] 127);refine(zDh _ _ _ lo hi(p.s k) _(HC.out.slot.zRJ gA)(zEl Hf.out)).mono ?_;rintro e w1 ⟨rfl,hb1⟩;have hB:=zA(zA ha gA) hb1;clear hb1 ha gA x0 x1 x2 x3 q0 q1 q2 HC;have aA:Hid((Tryz.prog.info? 155).map(·.size)=some(qD(p.s k)).size):=by
  show _=_;rw [qD,qB];exact zBv
 have nA:Hid((#[Value.int .i64 0,Value.int .i64 0,Value.int .i64 0,Value.int .i64 0,Value.int .i64 0,Value.int .i64 0,Value.int .i64 0,Value.int .i64 0,Value.int .i64 0,Value.int .i64 0,Value.int .i64 0,Value.int .i64 0,Value.int .i64 0,Value.int .i64 0,Value.int .i64 0,Value.int .i64 0]:Array Value)=zp(fun _=>0)):=rfl;have rA:∀w,(binOp .eql 155(.agg(qD(p.s k)))(.agg #[Value.int .i64 0,Value.int .i64 0,Value.int .i64 0,Value.int .i64 0,Value.int .i64 0,Value.int .i64 0,Value.int .i64 0,Value.int .i64 0,Value.int .i64 0,Value.int .i64 0,Value.int .i64 0,Value.int .i64 0,Value.int .i64 0,Value.int .i64 0,Value.int .i64 0,Value.int .i64 0])).run Tryz.prog w = .ok(.bool(zGg(zk(p.s k))(fun _=>0))) w:=fun w=>zJs(zk(p.s k))(fun _=>0) w
 have dA:(w1.alloc(.cells(qD(p.s k)) 155)).heap[w1.heap.size]?=some(.cells(qD(p.s k)) 155(0,0)):=heap_alloc_last _ _;have HK:=zE dA;have lA:=zA hB(zC w1(.cells(qD(p.s k)) 155));clear dA hB;by_cases hz:zGg(zk(p.s k))(fun _=>0)=true
 ·have HZ:=zE((zJN _).1 hz);go_wp2_with(first
   |(refine wpList_store_row rfl 155(.tmp 8)(.tmp 20) rfl w1.heap.size(qD(p.s k)) rfl rfl 155 #[Value.int .i64 0,Value.int .i64 0,Value.int .i64 0,Value.int .i64 0,Value.int .i64 0,Value.int .i64 0,Value.int .i64 0,Value.int .i64 0,Value.int .i64 0,Value.int .i64 0,Value.int .i64 0,Value.int .i64 0,Value.int .i64 0,Value.int .i64 0,Value.int .i64 0,Value.int .i64 0](heap_alloc_last _ _) aA.out(by rw [qD,qB];rfl)(zAs _) ?_;rw [World.setRow_alloc_new])
   |(refine wpList_load_row rfl 155(.tmp 8) rfl w1.heap.size rfl 155(qD(p.s k))(0,0) _ HK.out zG9 rfl aA.out ?_))
  go_ret;exact⟨zG.no fun h=>HZ.out(by rw [Int.toNat_natCast] at h;exact h.1),lA⟩
 ·have HZ:Hid(∃i,i<8/\¬Nil(zb(p.s k) i)(zu(p.s k) i)):=by
   by_cases h:∃i,i<8/\¬Nil(zb(p.s k) i)(zu(p.s k) i)
   ·exact h
   ·exact absurd((zJN _).2 h) hz
  have bB:zGg(zk(p.s k))(fun _=>0)=false:=(by simpa using hz);clear hz;go_wp2_with(first
   |(refine wpList_store_row rfl 155(.tmp 8)(.tmp 20) rfl w1.heap.size(qD(p.s k)) rfl rfl 155 #[Value.int .i64 0,Value.int .i64 0,Value.int .i64 0,Value.int .i64 0,Value.int .i64 0,Value.int .i64 0,Value.int .i64 0,Value.int .i64 0,Value.int .i64 0,Value.int .i64 0,Value.int .i64 0,Value.int .i64 0,Value.int .i64 0,Value.int .i64 0,Value.int .i64 0,Value.int .i64 0](heap_alloc_last _ _) aA.out(by rw [qD,qB];rfl)(zAs _) ?_;rw [World.setRow_alloc_new])
   |(refine wpList_load_row rfl 155(.tmp 8) rfl w1.heap.size rfl 155(qD(p.s k))(0,0) _ HK.out zG9 rfl aA.out ?_))
  have tA:w1.heap.size<(w1.alloc(.cells(qD(p.s k)) 155)).heap.size:=by rw [World.size_alloc];exact Nat.lt_succ_self _
  go_loopw [24](fun i wr=>∃j:Nat,j<=8/\i = .int .i64 j/\(∀m,m<j->Nil(zb(p.s k) m)(zu(p.s k) m)\/iA(p.s(zb(p.s k) m).toNat))/\wr.heap[w1.heap.size]?=some(.cells(qD(p.s k)) 155(0,0))/\Below w.heap.size w wr)(fun i _=>8 - (intOf i).toNat)
  case atStart=>exact⟨0,Nat.zero_le _,rfl,fun m hm=>absurd hm(Nat.not_lt_zero _),HK.out,lA⟩
  case round=>
   obtain⟨j,hj,rfl,hall,hK,hb⟩:=hrel;have bA:=zE hall;have eA:=zE hK;have kA:w1.heap.size<wr.heap.size:=(Array.getElem?_eq_some_iff.1 hK).1;clear hall hK;by_cases fA:j<8
   ·have sA:(j:Int)<8:=(by omega);obtain⟨y0,y1⟩:=zI(i:=j*2) eA.out(yO(zk(p.s k))(by omega));obtain⟨y2,y3⟩:=zI(i:=j*2+1) eA.out(yO(zk(p.s k))(by omega));by_cases hn:Nil(zb(p.s k) j)(zu(p.s k) j)
    ·have HN:=zE hn;rw [show zk(p.s k)(j*2)=0 from hn.1] at y0;rw [show zk(p.s k)(j*2+1)=0 from hn.2] at y2;clear hn;go_wp2;go_roundw
     case rel=>exact⟨j+1,by omega,by go_num,zo(n:=8) fA bA.out(Or.inl HN.out),eA.out,hb⟩
     case measure=>simp [intOf];omega
    ·have HN:=zE hn;have pA:=zE(zAi Hf.out fA hn).1;have e0:(zk(p.s k)(j*2) == 0)=false\/(zk(p.s k)(j*2) == 0)=true/\(zk(p.s k)(j*2+1) == 0)=false:=by
      by_cases h:zk(p.s k)(j*2)=0
      ·right;refine⟨by simp [h],?_⟩;have:zk(p.s k)(j*2+1)≠0:=fun h'=>hn ⟨h,h'⟩
       simp [this]
      ·left;simp [h]
     clear hn;rcases e0 with e0 | ⟨e0,e1⟩
     all_goals
      go_wp2_with fail;refine(jA.out _ lo hi(zk(p.s k)(j*2))(zk(p.s k)(j*2+1)) _(Hs.out.zRJ hb) pA.out).mono ?_;rintro e w2 ⟨⟨t,rfl,ht⟩,hb2⟩;have HT:=zE ht;have oA:=zE((hb2.block _ kA).trans eA.out);have mA:=zA hb hb2;clear ht hb2 y0 y1 y2 y3;cases t
      ·go_wp2;go_ret;refine⟨zG.no fun h=>?_,mA⟩;rw [Int.toNat_natCast] at h;rcases h.2 j fA with h1 | h1
       ·exact HN.out h1
       ·exact absurd(HT.out.2 h1)(by simp)
      ·go_wp2;go_roundw
       case rel=>exact⟨j+1,by omega,by go_num,zo(n:=8) fA bA.out(Or.inr(HT.out.1 trivial)),oA.out,mA⟩
       case measure=>simp [intOf];omega
   ·obtain rfl:j=8:=(by omega);go_wp2;go_ret;exact⟨zG.yes(by rw [Int.toNat_natCast];exact⟨HZ.out,bA.out⟩),hb⟩
theorem zMz(p:zJ)(hR:zv p):zFz p 1(zKP p):=zHq p 1 zHD hR(by omega)(zMJ p)
theorem zIX(p:zJ)(hR:zv p):zFz p 0(zKb p):=zHq p 0(zKP p) hR(by omega)(zMz p hR)
def zNZ(s:zL)(w:World)(e:Ending)(w':World):Prop:=
 ∃kv kb,e = .returned(.agg #[.int .i64 s.zRU,kv,.string s.data])/\zj w' kb kv s.kn s.ks s.kb/\(0<s.kn->w.heap.size<=kb/\kb<w'.heap.size)/\Below w.heap.size w w'
def kc(f g:Nat->Int):Nat->List Value
 |0=>[]
 |k+1=>kc f g k ++ [.int .i64(f k),.int .i64(g k)]
theorem zEH(f g:Nat->Int)(k:Nat):(kc f g k).length=k*2:=by
 induction k with
 |zero=>rfl
 |succ k ih=>simp [kc,ih];omega
theorem zO3(f g:Nat->Int)(k i r:Nat)(hi:i<k)(hr:r<2):(kc f g k)[i*2+r]? = [Value.int .i64(f i),.int .i64(g i)][r]?:=by
 induction k with
 |zero=>omega
 |succ k ih=>
  unfold kc;by_cases e:i<k
  ·rw [List.getElem?_append_left(by rw [zEH];omega)];exact ih e
  ·obtain rfl:i=k:=(by omega);rw [List.getElem?_append_right(by rw [zEH];omega),zEH];congr 1;omega
theorem zKF(f g:Nat->Int)(k:Nat):∀u∈kc f g k,u.oneCell'=true:=by
 induction k with
 |zero=>intro u hu;simp [kc] at hu
 |succ k ih=>
  intro u hu;simp only [kc,List.mem_append,List.mem_cons,List.not_mem_nil,or_false] at hu;rcases hu with hu | rfl | rfl
  ·exact ih u hu
  ·rfl
  ·rfl
theorem zFu{w:World}{b off:Nat}{f g:Nat->Int}{n:Nat}(h:∀i,i<n->w.cell? ⟨b,off+i*2,none⟩=some(.int .i64(f i))/\w.cell? ⟨b,off+i*2+1,none⟩=some(.int .i64(g i))) :
  ∀j u,(kc f g n)[j]?=some u->w.cell?((⟨b,off,none⟩:Addr).add j)=some u:=by
 intro j u hj;have bA:j<n*2:=by
  have:=(List.getElem?_eq_some_iff.1 hj).1
  rwa [zEH] at this
 have aA:(⟨b,off,none⟩:Addr).add j=⟨b,off+j,none⟩:=by unfold Addr.add;split<;>simp_all
 rw [aA];obtain⟨c0,c1⟩:=h(j / 2)(by omega);have e:=zO3 f g n(j / 2)(j % 2)(by omega)(by omega);rw [show j / 2*2+j % 2=j by omega,hj] at e;rcases(by omega:j % 2=0\/j % 2=1)with hm | hm
 ·rw [hm] at e;simp at e;subst e;rw [show off+j=off+j / 2*2 by omega];exact c0
 ·rw [hm] at e;simp at e;subst e;rw [show off+j=off+j / 2*2+1 by omega];exact c1
theorem zCG{w:World}{base e n:Nat}{v:Value}{f g:Nat->Int}(hm:n<=maxLen)(h:w.ownsRow base e 2 v n(kc f g n)):∃kb,zj w kb v n f g/\(0<n->base<=kb/\kb<w.heap.size):=by
 by_cases h0:0<n
 ·obtain⟨gb,cap,rfl,hcp,hb,hlt,hcell⟩:=qf h h0;refine⟨gb,⟨hm,_,cap,rfl,hcp,fun _=>⟨0,rfl,fun i hi=>⟨?_,?_⟩⟩⟩,fun _=>⟨hb,hlt⟩⟩
  ·have:=hcell(i*2+0) _(zO3 f g n i 0 hi(by omega));simpa using this
  ·have:=hcell(i*2+1) _(zO3 f g n i 1 hi(by omega));simpa using this
 ·obtain⟨a,cap,rfl,hcp⟩:=zW h;exact⟨0,⟨hm,a,cap,rfl,hcp,fun h=>absurd h h0⟩,fun h=>absurd h h0⟩
theorem zHY{P:Program}{w:World}(base:Nat)(t ty e:TypeId)(i:TypeInfo)(size c:Nat)(ht:P.underlying t=some(.slice e))(hi:P.info? e=some i)
  (v:Value)(n:Nat)(xs:List Value)(aA:w.ownsRow base e size v n xs) :
  (Builtin.append_ #[t,t] ty #[v,.slice none 0 c]).run P w = .ok v w:=by
 rcases aA.2 with⟨rfl,rfl⟩ | ⟨g,cap,cur,rfl,_,_,hnc,_⟩
 ·simp [Builtin.append_,run_underlying ht,sizeOf,typeInfo,hi,Builtin.lenOf,Builtin.firstCells]
 ·simp [Builtin.append_,run_underlying ht,sizeOf,typeInfo,hi,Builtin.lenOf,Builtin.firstCells,hnc,storeCells]
theorem zF3{P:Program}{w:World}{dA:Array Oper}{aA:List Oper}{o:Oper}{a:Act}{Q:Exit->Act->World->Prop}(eA:o.guard=none)(s x:Operand)(t:TypeId)
  (ho:o.op = .call {callee:=.builtin .append,args:=#[s,x],argTypes:=#[t,t]})
  (base:Nat)(e:TypeId)(i:TypeInfo)(size c m:Nat)(ht:P.underlying t=some(.slice e))(hi:P.info? e=some i)
  (v:Value)(n:Nat)(xs:List Value)(hs:a.eval s=v)(cA:w.ownsRow base e size v n xs)(hm:m=0)(hx:a.eval x = .slice none m c)
  (h:wpList P dA Q aA(a.put o.dst v) w):wpList P dA Q(o :: aA) a w:=by
 subst hm;refine wpList_plain eA fun K hK=>?_
 have bA:=zHY(P:=P)(w:=w) base t o.type e i size c ht hi v n xs cA;unfold Oper.wp;simp [execOp,ho,resolve,invoke,builtin,hs,hx,bA,Result.andThen];exact hK _ _ h
theorem zA3{P:Program}{w:World}(base:Nat)(t ty e:TypeId)(i:TypeInfo)(size c:Nat)(ao:Option Addr)(ht:P.underlying t=some(.slice e))(hi:P.info? e=some i)
  (v:Value)(n:Nat)(xs:List Value)(aA:w.ownsRow base e size v n xs) :
  (Builtin.append_ #[t,t] ty #[v,.slice ao 0 c]).run P w = .ok v w:=by
 rcases aA.2 with⟨rfl,rfl⟩ | ⟨g,cap,cur,rfl,_,_,hnc,_⟩
 ·cases ao<;>simp [Builtin.append_,run_underlying ht,sizeOf,typeInfo,hi,Builtin.lenOf,Builtin.firstCells,loadCells,loadCellsFrom]
 ·cases ao<;>simp [Builtin.append_,run_underlying ht,sizeOf,typeInfo,hi,Builtin.lenOf,Builtin.firstCells,hnc,storeCells,loadCells,loadCellsFrom]
theorem zFE{P:Program}{w:World}{dA:Array Oper}{aA:List Oper}{o:Oper}{a:Act}{Q:Exit->Act->World->Prop}(eA:o.guard=none)(s x:Operand)(t:TypeId)
  (ho:o.op = .call {callee:=.builtin .append,args:=#[s,x],argTypes:=#[t,t]})
  (base:Nat)(e:TypeId)(i:TypeInfo)(size c m:Nat)(ao:Option Addr)(ht:P.underlying t=some(.slice e))(hi:P.info? e=some i)
  (v:Value)(n:Nat)(xs:List Value)(hs:a.eval s=v)(cA:w.ownsRow base e size v n xs)(hm:m=0)(hx:a.eval x = .slice ao m c)
  (h:wpList P dA Q aA(a.put o.dst v) w):wpList P dA Q(o :: aA) a w:=by
 subst hm;refine wpList_plain eA fun K hK=>?_
 have bA:=zA3(P:=P)(w:=w) base t o.type e i size c ao ht hi v n xs cA;unfold Oper.wp;simp [execOp,ho,resolve,invoke,builtin,hs,hx,bA,Result.andThen];exact hK _ _ h
theorem zCR:(Tryz.prog.info? 61).map(fun i=>(i.zero,i.size,i.bytes))=some(some(.agg #[.int .i64 0,.int .i64 0]),2,16):=by kernel_rfl
def sc(f:Nat->zL)(kv:Nat->Value):Nat->List Value
 |0=>[]
 |k+1=>sc f kv k ++ [.int .i64(f k).zRU,kv k,.string(f k).data]
theorem zDT(f:Nat->zL)(kv:Nat->Value)(k:Nat):(sc f kv k).length=k*3:=by
 induction k with
 |zero=>rfl
 |succ k ih=>simp [sc,ih];omega
theorem zD9(f:Nat->zL)(kv:Nat->Value)(k i r:Nat)(hi:i<k)(hr:r<3):(sc f kv k)[i*3+r]? = [Value.int .i64(f i).zRU,kv i,.string(f i).data][r]?:=by
 induction k with
 |zero=>omega
 |succ k ih=>
  unfold sc;by_cases e:i<k
  ·rw [List.getElem?_append_left(by rw [zDT];omega)];exact ih e
  ·obtain rfl:i=k:=(by omega);rw [List.getElem?_append_right(by rw [zDT];omega),zDT];congr 1;omega
theorem zPs(f:Nat->zL){kv aA:Nat->Value}{k:Nat}(h:∀i,i<k->kv i=aA i):sc f kv k=sc f aA k:=by
 induction k with
 |zero=>rfl
 |succ k ih=>
  unfold sc;rw [ih(fun i hi=>h i(by omega)),h k(by omega)]
theorem zPE(f:Nat->zL)(kv:Nat->Value)(k:Nat)(h:∀i,i<k->(kv i).oneCell'=true):∀u∈sc f kv k,u.oneCell'=true:=by
 induction k with
 |zero=>intro u hu;simp [sc] at hu
 |succ k ih=>
  intro u hu;simp only [sc,List.mem_append,List.mem_cons,List.not_mem_nil,or_false] at hu;rcases hu with hu | rfl | rfl | rfl
  ·exact ih(fun i hi=>h i(by omega)) u hu
  ·rfl
  ·exact h k(by omega)
  ·rfl
theorem zB9{w w1:World}{row:Option Nat}(h:w.grownBy w1 row):zF(fun b=>row=some b) w w1:=⟨h.os,h.tape,h.output,h.size,fun k hk hs=>h.block k hk(fun e=>hs e.symm)⟩
theorem zBV{w w1:World}(h:Below w.heap.size w w1)(row:Option Nat):w.grownBy w1 row:=⟨h.os,h.tape,h.output,h.size,fun k hk _=>h.block k hk⟩
structure zEs(w:World)(lo k:Nat)(f:Nat->zL)(kb:Nat->Nat)(kv:Nat->Value)(v:Value):Prop where
 row:w.ownsRow lo 127 3 v k(sc f kv k)
 kids:∀j,j<k->zj w(kb j)(kv j)(f j).kn(f j).ks(f j).kb
 zRY:∀j,j<k->0<(f j).kn->lo<=kb j/\kb j<w.heap.size/\v.ownBlock≠some(kb j)
 zRW:yS kb k f
 zRZ:∀j,j<k->(f j).data.size<=maxLen
theorem zEs.nil(w:World)(lo:Nat)(f:Nat->zL):zEs w lo 0 f(fun _=>0)(fun _=>.slice none 0 0)(.slice none 0 0):=
 ⟨World.ownsRow_nil _ _ _ _,fun j hj=>absurd hj(Nat.not_lt_zero _),fun j hj=>absurd hj(Nat.not_lt_zero _),fun i j hi=>absurd hi(Nat.not_lt_zero _),fun j hj=>absurd hj(Nat.not_lt_zero _)⟩
theorem zEs.zRJ{w w':World}{lo k:Nat}{f:Nat->zL}{kb:Nat->Nat}{kv:Nat->Value}{v:Value}(h:zEs w lo k f kb kv v)(t:Below w.heap.size w w'):zEs w' lo k f kb kv v:=
 ⟨h.row.kept(zBV t none)(by cases hv:v.ownBlock<;>simp),fun j hj=>(h.kids j hj).zRJ t,fun j hj h0=>by have h1:=h.zRY j hj h0;have:=t.size;exact⟨h1.1,by omega,h1.2.2⟩,h.zRW,h.zRZ⟩
theorem zEs.next{w w1:World}{lo k:Nat}{f:Nat->zL}{kb:Nat->Nat}{kv:Nat->Value}{v:Value}(h:zEs w lo k f kb kv v){nb g bA:Nat}{nv:Value}(hp:zj w nb nv(f k).kn(f k).ks(f k).kb)
  (aA:0<(f k).kn->lo<=nb/\nb<w.heap.size/\v.ownBlock≠some nb/\∀j,j<k->0<(f j).kn->kb j≠nb)(hs:(f k).data.size<=maxLen)
  (cA:w1.ownsRow lo 127 3(.slice(some ⟨g,0,none⟩)(k+1) bA)(k+1)(sc f kv k ++ [.int .i64(f k).zRU,nv,.string(f k).data]))(hg:w.grownBy w1 v.ownBlock)(iA:v.ownBlock=some g\/g=w.heap.size) :
  zEs w1 lo(k+1) f(fun j=>if j=k then nb else kb j)(fun j=>if j=k then nv else kv j)(.slice(some ⟨g,0,none⟩)(k+1) bA):=by
 have t:=zB9 hg;have jA:=t.size;have dA:∀b,b<w.heap.size->v.ownBlock≠some b->(Value.slice(some ⟨g,0,none⟩)(k+1) bA).ownBlock≠some b:=fun b hb eA e=>by
  have fA:g=b:=(by simpa [Value.ownBlock] using e);rcases iA with hx | hx
  ·exact eA(by rw [hx,fA])
  ·omega
 refine⟨?_,fun j hj=>?_,fun j hj h0=>?_,fun i j hi hj gA h1 h2=>?_,fun j hj=>?_⟩
 ·have e:sc f(fun j=>if j=k then nv else kv j)(k+1)=sc f kv k ++ [.int .i64(f k).zRU,nv,.string(f k).data]:=by
   show sc f _ k ++ [.int .i64(f k).zRU,(if k=k then nv else kv k),.string(f k).data]=_;rw [if_pos rfl,zPs f(fun i hi=>if_neg(by omega))]
  rw [e];exact cA
 ·by_cases e:j=k
  ·subst e;simp only [if_true];exact hp.zRR t(fun h0=>(aA h0).2.2.1)
  ·simp only [if_neg e];exact(h.kids j(by omega)).zRR t(fun h0=>(h.zRY j(by omega) h0).2.2)
 ·by_cases e:j=k
  ·subst e;simp only [if_true];obtain⟨h1,h2,h3,_⟩:=aA h0;exact⟨h1,by omega,dA _ h2 h3⟩
  ·simp only [if_neg e];obtain⟨h1,h2,h3⟩:=h.zRY j(by omega) h0;exact⟨h1,by omega,dA _ h2 h3⟩
 ·show(if i=k then nb else kb i)≠(if j=k then nb else kb j);by_cases e1:i=k
  ·by_cases e2:j=k
   ·omega
   ·rw [if_pos e1,if_neg e2];subst e1;exact fun e=>(aA h1).2.2.2 j(by omega) h2 e.symm
  ·by_cases e2:j=k
   ·rw [if_neg e1,if_pos e2];subst e2;exact(aA h2).2.2.2 i(by omega) h1
   ·rw [if_neg e1,if_neg e2];exact h.zRW i j(by omega)(by omega) gA h1 h2
 ·by_cases e:j=k
  ·subst e;exact hs
  ·exact h.zRZ j(by omega)
theorem zEs.put{w:World}{lo k:Nat}{f:Nat->zL}{kb:Nat->Nat}{kv:Nat->Value}{v:Value}(h:zEs w lo k f kb kv v){b o:Nat}(hb:b<lo)(u:Value):zEs(w.setCell ⟨b,o,none⟩ u) lo k f kb kv v:=
 ⟨ownsRow_setCell_below h.row hb u,fun j hj=>(h.kids j hj).zRR(zF.put _ _ _ _)(fun h0 e=>by have:=h.zRY j hj h0;omega),fun j hj h0=>by rw [World.size_setCell];exact h.zRY j hj h0,h.zRW,h.zRZ⟩
theorem zEs.own{w:World}{lo n:Nat}{f:Nat->zL}{kb:Nat->Nat}{kv:Nat->Value}{v:Value}(h:zEs w lo n f kb kv v)(hn:n<=maxLen) :
  ∃bs,qW w bs kb kv v n f/\∀k,yk bs kb n f k->lo<=k/\k<w.heap.size:=by
 by_cases h0:0<n
 ·obtain⟨g,cap,rfl,hcp,hb,hlt,hcell⟩:=qf h.row h0;refine⟨g,⟨hn,_,cap,rfl,hcp,fun _=>⟨0,rfl,fun i hi=>⟨?_,?_,?_,h.kids i hi,h.zRZ i hi,fun hk e=>(h.zRY i hi hk).2.2(by rw [e];rfl)⟩⟩⟩,fun k hk=>?_⟩
  ·have:=hcell(i*3+0) _(zD9 f kv n i 0 hi(by omega));simpa using this
  ·have:=hcell(i*3+1) _(zD9 f kv n i 1 hi(by omega));simpa using this
  ·have:=hcell(i*3+2) _(zD9 f kv n i 2 hi(by omega));simpa using this
  ·rcases hk with⟨_,rfl⟩ | ⟨i,hi,hk0,rfl⟩
   ·exact⟨hb,hlt⟩
   ·exact⟨(h.zRY i hi hk0).1,(h.zRY i hi hk0).2.1⟩
 ·obtain⟨a,cap,rfl,hcp⟩:=zW h.row;refine⟨0,⟨hn,a,cap,rfl,hcp,fun hx=>absurd hx h0⟩,fun k hk=>?_⟩;rcases hk with⟨hx,_⟩ | ⟨i,hi,_⟩
  ·exact absurd hx h0
  ·omega
def ic(f:Nat->Int):Nat->List Value
 |0=>[]
 |k+1=>ic f k ++ [.int .i64(f k)]
theorem zBe(f:Nat->Int)(k:Nat):(ic f k).length=k*1:=by
 induction k with
 |zero=>rfl
 |succ k ih=>simp [ic,ih]
theorem zMD(f:Nat->Int)(k i:Nat)(hi:i<k):(ic f k)[i]?=some(Value.int .i64(f i)):=by
 induction k with
 |zero=>omega
 |succ k ih=>
  unfold ic;by_cases e:i<k
  ·rw [List.getElem?_append_left(by rw [zBe];omega)];exact ih e
  ·obtain rfl:i=k:=(by omega);rw [List.getElem?_append_right(by rw [zBe];omega),zBe];simp
theorem zO4(f:Nat->Int)(k:Nat):∀u∈ic f k,u.oneCell'=true:=by
 induction k with
 |zero=>intro u hu;simp [ic] at hu
 |succ k ih=>
  intro u hu;simp only [ic,List.mem_append,List.mem_cons,List.not_mem_nil,or_false] at hu;rcases hu with hu | rfl
  ·exact ih u hu
  ·rfl
theorem add_lit(b off j:Nat):(⟨b,off,none⟩:Addr).add j=⟨b,off+j,none⟩:=by unfold Addr.add;split<;>simp_all
theorem zPQ{w:World}{b off:Nat}{f:Nat->Int}{n:Nat}(h:∀i,i<n->w.cell? ⟨b,off+i,none⟩=some(.int .i64(f i))) :
  ∀j u,(ic f n)[j]?=some u->w.cell?((⟨b,off,none⟩:Addr).add j)=some u:=by
 intro j u hj;have aA:j<n:=by
  have:=(List.getElem?_eq_some_iff.1 hj).1;rw [zBe] at this;omega
 rw [zMD f n j aA] at hj;rw [add_lit,h j aA];exact hj
theorem zLi{w:World}{base e g n bA:Nat}{xs:List Value}(h:w.ownsRow base e 1(.slice(some ⟨g,0,none⟩) n bA) n xs)(h0:0<n):0<n/\(some ⟨g,0,none⟩:Option Addr)=some ⟨g,0,none⟩/\bA<=maxLen/\∃aA,w.heap[g]?=some(.cells aA e(0,0))/\aA.size=bA:=by
 obtain⟨_,⟨h,rfl⟩ | ⟨g',cap',aA,hv,_,hg,_,h2,h3,_⟩⟩:=h
 ·omega
 ·simp only [Value.slice.injEq,Option.some.injEq,Addr.mk.injEq,and_true,true_and] at hv;obtain⟨rfl,rfl⟩:=hv;exact⟨h0,rfl,h2,aA,hg,by simpa using h3⟩
theorem zKM{w:World}{base n:Nat}{v:Value}{f:Nat->Int}(hm:n<=maxLen)(h:w.ownsRow base 2 1 v n(ic f n))(hz:n=0->∃a,v = .slice a 0 0):∃hb,qj w hb v n f/\(0<n->base<=hb/\hb<w.heap.size):=by
 by_cases h0:0<n
 ·obtain⟨gb,cap,rfl,hcp,hb,aA,hcell⟩:=qf h h0;refine⟨gb,⟨hm,_,cap,rfl,hcp,fun _=>⟨0,rfl,fun i hi=>?_⟩,fun _=>?_⟩,fun _=>⟨hb,aA⟩⟩
  ·have:=hcell i _(zMD f n i hi);simpa using this
  ·exact zLi h h0
 ·obtain⟨a,cap,rfl,hcp⟩:=zW h;exact⟨0,⟨hm,a,cap,rfl,hcp,fun h=>absurd h h0,fun aA=>by obtain⟨a2,e2⟩:=hz(by omega);simp only [Value.slice.injEq] at e2;omega⟩,fun h=>absurd h h0⟩
theorem zU{P:Prop}(h:P):Hid P:=h
theorem qJ{P:Program}{w:World}{kA:Array Oper}{fA:List Oper}{o:Oper}{a:Act}{Q:Exit->Act->World->Prop}(jA:o.guard=none)(s x:Operand)(t:TypeId)
  (ho:o.op = .call {callee:=.builtin .append,args:=#[s,x],argTypes:=#[t,t]})
  (base:Nat)(e:TypeId)(i:TypeInfo)(z:Value)(size bytes:Nat)(ht:P.underlying t=some(.slice e))(hi:P.info? e=some i)(hz:i.zero=some z)
  (eA:i.size=size)(oA:i.bytes=bytes)(pA:z.cells.size=size)(mA:0<size)
  (v:Value)(n:Nat)(xs:List Value)(hs:a.eval s=v)(dA:w.ownsRow base e size v n xs)
  (ao:Option Addr)(m c:Nat)(aA:List Value)(hx:a.eval x = .slice ao m c)(hl:aA.length=m*size)(h1:∀u∈aA,u.oneCell'=true)
  (bA:0<m->∃b off,ao=some ⟨b,off,none⟩/\∀j u,aA[j]?=some u->w.cell? ⟨b,off+j,none⟩=some u)
  (lA:n+m<=maxLen)(cA:(n+m)*bytes<=140737488355328)(gA:base<=w.heap.size)
  (h:∀v' w',w'.ownsRow base e size v'(n+m)(xs ++ aA)->w.grownBy w' v.ownBlock->(m=0->v'=v)->wpList P kA Q fA(a.put o.dst v') w'):wpList P kA Q(o :: fA) a w:=by
 by_cases iA:m=0
 ·have nA:aA = []:=List.eq_nil_of_length_eq_zero(by rw [hl,iA,Nat.zero_mul]);exact zFE jA s x t ho base e i size c m ao ht hi v n xs hs dA iA hx(h v w(by subst iA;subst nA;simpa using dA) ⟨rfl,rfl,rfl,Nat.le_refl _,fun _ _ _=>rfl⟩(fun _=>rfl))
 cases ao with
 |none=>
  obtain⟨b,off,ha,_⟩:=bA(by omega);simp at ha
 |some ad=>
  refine wpList_append_own w jA s x t ho base e i z size bytes ht hi hz eA oA pA mA v n xs hs dA ad m c aA hx hl(fun j u hj=>?_) h1 lA cA gA(fun v' w' g1 g2 _=>h v' w' g1 g2(fun e=>absurd e iA));have h0:0<m:=by
   have:=(List.getElem?_eq_some_iff.1 hj).1;rw [hl] at this;rcases Nat.eq_zero_or_pos m with hm | hm
   ·rw [hm,Nat.zero_mul] at this;omega
   ·exact hm
  obtain⟨b,off,ha,hc⟩:=bA h0;simp only [Option.some.injEq] at ha;subst ha;rw [add_lit];exact hc j u hj
theorem zJw{w:World}{lo hi:Nat}{f:Nat->Int}{n:Nat}{v:Value}(h:qT w lo hi v n f){a:Option Addr}{c:Nat}(hv:v = .slice a n c){w':World}(hb:Below w.heap.size w w') :
  0<n->∃b off,a=some ⟨b,off,none⟩/\∀j u,(ic f n)[j]?=some u->w'.cell? ⟨b,off+j,none⟩=some u:=by
 obtain⟨_,a0,c0,h0,_,g⟩:=h;subst hv;simp only [Value.slice.injEq,true_and] at h0;obtain⟨rfl,rfl⟩:=h0;intro hn;obtain⟨b,off,ha,_,_,hc⟩:=g hn;refine⟨b,off,ha,fun j u hj=>?_⟩;have:=zPQ hc j u hj;rw [add_lit] at this;exact(hb.cell(zD this)).trans this
theorem zc.grown{w w1:World}{v:Value}{b base e size n:Nat}{xs:List Value}{x y:Value}(h:zc w b x y)(hg:w.grownBy w1 v.ownBlock)(aA:w.ownsRow base e size v n xs)(hb:b<base):zc w1 b x y:=
 h.zRR(zB9 hg)(fun e=>by have:=aA.lt b e;omega)
theorem zQS(w:World)(x y z:Value)(t:TypeId):∀j u,[x,y,z][j]?=some u->(w.alloc(.cells #[x,y,z] t)).cell?((⟨w.heap.size,0,none⟩:Addr).add j)=some u:=by
 intro j u hj
 match j,hj with
 |0,hj=>simp at hj;subst hj;simp [Addr.add]
 |1,hj=>simp at hj;subst hj;simp [Addr.add]
 |2,hj=>simp at hj;subst hj;simp [Addr.add]
 |(j+3),hj=>simp at hj
theorem zQz(x:Int)(a:Option Addr)(n c:Nat)(s:ByteArray):∀u∈[Value.int .i64 x,.slice a n c,.string s],u.oneCell'=true:=by
 intro u hu;simp only [List.mem_cons,List.not_mem_nil,or_false] at hu;rcases hu with rfl | rfl | rfl<;>rfl
theorem zMU{wr W:World}{lo k nb m:Nat}{f:Nat->zL}{kb:Nat->Nat}{kv:Nat->Value}{v:Value}(h:zEs wr lo k f kb kv v)(aA:lo<=wr.heap.size)(h2:0<m->wr.heap.size<=nb/\nb<W.heap.size) :
  0<m->lo<=nb/\nb<W.heap.size/\v.ownBlock≠some nb/\∀j,j<k->0<(f j).kn->kb j≠nb:=fun h0=>by
 obtain⟨h3,h4⟩:=h2 h0;exact⟨by omega,h4,fun e=>by have:=h.row.lt nb e;omega,fun j hj hk e=>by have:=h.zRY j hj hk;omega⟩
def zPv(p:zJ)(w:World)(e:Ending)(w':World):Prop:=
 ∃v0 v1 M bs kb kv,e = .returned(.agg #[v0,v1])/\qW w' bs kb kv v0 p.n p.s/\yS kb p.n p.s/\(∀k,yk bs kb p.n p.s k->M<=k/\k<w'.heap.size)/\
  w'.ownsRow w.heap.size 2 1 v1 p.hn(ic p.h p.hn)/\(∀k,v1.ownBlock=some k->w.heap.size<=k/\k<M)/\w.heap.size<=M/\M<=w'.heap.size/\Below w.heap.size w w'/\(p.hn=0->∃a,v1 = .slice a 0 0)
theorem zEv{w:World}{base n:Nat}{v:Value}{f:Nat->Int}(hm:n<=maxLen)(h:w.ownsRow base 2 1 v n(ic f n))(hz:n=0->∃a,v = .slice a 0 0):∃hb,qj w hb v n f/\(0<n->v.ownBlock=some hb):=by
 by_cases h0:0<n
 ·obtain⟨gb,cap,rfl,hcp,hb,aA,hcell⟩:=qf h h0;refine⟨gb,⟨hm,_,cap,rfl,hcp,fun _=>⟨0,rfl,fun i hi=>?_⟩,fun _=>?_⟩,fun _=>rfl⟩
  ·have:=hcell i _(zMD f n i hi);simpa using this
  ·exact zLi h h0
 ·obtain⟨a,cap,rfl,hcp⟩:=zW h;exact⟨0,⟨hm,a,cap,rfl,hcp,fun h=>absurd h h0,fun aA=>by obtain⟨a2,e2⟩:=hz(by omega);simp only [Value.slice.injEq] at e2;omega⟩,fun h=>absurd h h0⟩
theorem zJX{w':World}{p:zJ}{v0 v1:Value}{B M bs base:Nat}{kb:Nat->Nat}{kv:Nat->Value}(h1:qW w' bs kb kv v0 p.n p.s)(h2:yS kb p.n p.s)(h3:∀k,yk bs kb p.n p.s k->M<=k/\k<w'.heap.size)(hm:p.hn<=maxLen)
  (h4:w'.ownsRow base 2 1 v1 p.hn(ic p.h p.hn))(h5:∀k,v1.ownBlock=some k->B<=k/\(k<M\/w'.heap.size<=k\/(k<w'.heap.size/\¬yk bs kb p.n p.s k)))(h6:B<=M)(hz:p.hn=0->∃a,v1 = .slice a 0 0):zt w' B w'.heap.size v0 v1 p:=by
 obtain⟨hb,hi,hbk⟩:=zEv hm h4 hz;refine⟨bs,hb,kb,kv,h1,h2,hi,fun h0 hx=>?_,fun k hk=>?_⟩
 ·have a:=h3 _ hx;have b:=h5 _(hbk h0);rcases b.2 with b2 | b2 | b2
  ·omega
  ·omega
  ·exact b2.2 hx
 ·rcases hk with hk | ⟨h0,rfl⟩
  ·have:=h3 _ hk;omega
  ·have b:=h5 _(hbk h0);have c:=h4.lt _(hbk h0);exact⟨b.1,c.2⟩
theorem zER{w:World}{B B' e size n:Nat}{v:Value}{xs:List Value}(h:w.ownsRow B' e size v n xs)(hB:B<=B'):w.ownsRow B e size v n xs:=
 ⟨h.1,h.2.imp id(fun ⟨g,cap,cur,a,b,c⟩=>⟨g,cap,cur,a,Nat.le_trans hB b,c⟩)⟩
def pcl:List(Int×Int)->List Value
 |[]=>[]
 |x :: l=>.int .i64 x.1 :: .int .i64 x.2 :: pcl l
theorem zA5:∀l,(pcl l).length=l.length*2
 |[]=>rfl
 |x :: l=>by simp [pcl,zA5 l];omega
theorem zA9:∀l m,pcl(l ++ m)=pcl l ++ pcl m
 |[],m=>rfl
 |x :: l,m=>by simp [pcl,zA9 l m]
theorem zF4:∀l,∀u∈pcl l,u.oneCell'=true
 |[],u,hu=>by simp [pcl] at hu
 |x :: l,u,hu=>by
  simp only [pcl,List.mem_cons] at hu;rcases hu with rfl | rfl | hu
  ·rfl
  ·rfl
  ·exact zF4 l u hu
theorem zBa:∀(l:List(Int×Int)) i,i<l.length->(pcl l)[i*2]?=some(.int .i64(l.getD i(0,0)).1)/\(pcl l)[i*2+1]?=some(.int .i64(l.getD i(0,0)).2):=by
 intro l
 induction l with
 |nil=>intro i hi;simp at hi
 |cons x l ih=>
  intro i hi;cases i with
  |zero=>exact⟨rfl,rfl⟩
  |succ i=>
   have:=ih i(by simpa using hi);rw [show(i+1)*2=i*2+1+1 by omega];simpa [pcl] using this
def zf(l:List(Int×Int))(i:Nat):Int:=(l.getD i(0,0)).1
def zh(l:List(Int×Int))(i:Nat):Int:=(l.getD i(0,0)).2
theorem zA1:(Tryz.prog.info? 61).map(fun i=>(i.zero,i.size,i.bytes))=some(some(.agg #[.int .i64 0,.int .i64 0]),2,16):=by kernel_rfl
theorem yu{w w1:World}(h:Below w.heap.size w w1)(row:Option Nat):w.grownBy w1 row:=⟨h.os,h.tape,h.output,h.size,fun k hk _=>h.block k hk⟩
def zw(w:World)(base:Nat)(v:Value)(l:List(Int×Int)):Prop:=w.ownsRow base 61 2 v l.length(pcl l)
theorem zw.zRJ{w w1:World}{base:Nat}{v:Value}{l:List(Int×Int)}(h:zw w base v l)(hb:Below w.heap.size w w1):zw w1 base v l:=
 h.kept(yu hb none)(by cases v.ownBlock<;>simp)
theorem zw.zRR{w w1:World}{base:Nat}{v:Value}{l:List(Int×Int)}{row:Option Nat}(h:zw w base v l)(hg:w.grownBy w1 row)(aA:∀q,v.ownBlock=some q->row≠some q):zw w1 base v l:=
 h.kept hg(by
  cases hv:v.ownBlock with
  |none=>simp
  |some q=>exact Or.inr(fun e=>aA q hv e.symm))
theorem zw.nil(w:World)(base:Nat):zw w base(.slice none 0 0) []:=World.ownsRow_nil _ _ _ _
theorem zw.mono{w:World}{base aA:Nat}{v:Value}{l:List(Int×Int)}(h:zw w base v l)(hb:aA<=base):zw w aA v l:=by
 refine⟨h.1,h.2.imp id ?_⟩;rintro⟨g,cap,cur,e,h1,h2⟩;exact⟨g,cap,cur,e,Nat.le_trans hb h1,h2⟩
theorem zw.put{w:World}{base b o:Nat}{v:Value}{l:List(Int×Int)}(h:zw w base v l)(hb:b<base)(u:Value):zw(w.setCell ⟨b,o,none⟩ u) base v l:=by
 refine⟨h.1,h.2.imp id ?_⟩;rintro⟨g,cap,cur,e,h1,h2,h3⟩;exact⟨g,cap,cur,e,h1,(Below.heap_setCell _ _ _ _(fun e=>by have:g=b:=e;omega)).trans h2,h3⟩
theorem zw.lt{w:World}{base:Nat}{v:Value}{l:List(Int×Int)}(h:zw w base v l){q:Nat}(hq:v.ownBlock=some q):base<=q/\q<w.heap.size:=by
 rcases h.2 with⟨rfl,_⟩ | ⟨g,cap,cur,rfl,hb,hg,_⟩
 ·simp [Value.ownBlock] at hq
 ·simp only [Value.ownBlock,Option.some.injEq] at hq;subst hq;exact⟨hb,(Array.getElem?_eq_some_iff.1 hg).1⟩
theorem zw.own{w:World}{base:Nat}{v:Value}{l:List(Int×Int)}(h:zw w base v l)(hm:l.length<=maxLen):∃b,zj w b v l.length(zf l)(zh l)/\(0<l.length->v.ownBlock=some b/\base<=b/\b<w.heap.size):=by
 by_cases h0:0<l.length
 ·obtain⟨g,cap,rfl,hcp,hb,hlt,hcell⟩:=qf h h0;refine⟨g,⟨hm,_,cap,rfl,hcp,fun _=>⟨0,rfl,fun i hi=>?_⟩⟩,fun _=>⟨rfl,hb,hlt⟩⟩;rw [Nat.zero_add];exact⟨hcell _ _(zBa l i hi).1,hcell _ _(zBa l i hi).2⟩
 ·obtain⟨a,cap,rfl,hcp⟩:=zW h;exact⟨0,⟨hm,a,cap,rfl,hcp,fun h=>absurd h h0⟩,fun h=>absurd h h0⟩
end Go.Proofs.YtmgeglgboadfiaaGreatDoor
