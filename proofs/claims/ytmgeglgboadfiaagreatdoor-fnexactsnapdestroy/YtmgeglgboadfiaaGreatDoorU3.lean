/- A part of the proof. -/
import Derived.Test.YtmgeglgboadfiaaGreatDoorU2
import Derived.Deep.RegionWith
set_option linter.unusedVariables false
set_option maxRecDepth 20000
set_option maxHeartbeats 4000000
namespace Go.Proofs.YtmgeglgboadfiaaGreatDoor
open Go.RowKit
def zFM(n:Nat)(f:Nat->zO)(s:zO):Prop:=∀i,i<8->zAC n f s.zPI (s.ks i) (s.kb i) (s.ks i) (s.kb i)
theorem zAs.uniq{n:Nat}{f:Nat->zO}{x ps pb bA aA:Int}(h:zAs n f x ps pb)(h':zAs n f x bA aA):ps=bA/\pb=aA:=by
 rcases h with⟨a,b,c,rfl,rfl⟩ | ⟨a,rfl,rfl⟩<;>rcases h' with⟨a',b',c',rfl,rfl⟩ | ⟨a',rfl,rfl⟩
 ·exact⟨rfl,rfl⟩
 ·exact absurd ⟨a,b,c⟩ a'
 ·exact absurd ⟨a',b',c'⟩ a
 ·exact⟨rfl,rfl⟩
theorem zAC.uniq{n:Nat}{f:Nat->zO}{b ks kb rs rb bA aA:Int}(h:zAC n f b ks kb rs rb)(h':zAC n f b ks kb bA aA):rs=bA/\rb=aA:=by
 obtain⟨ps,pb,hp,h⟩:=h;obtain⟨eA,dA,cA,h'⟩:=h';obtain⟨rfl,rfl⟩:=hp.uniq cA;rcases h with⟨a,rfl,rfl⟩ | ⟨a,rfl,rfl⟩<;>rcases h' with⟨a',rfl,rfl⟩ | ⟨a',rfl,rfl⟩
 ·exact⟨rfl,rfl⟩
 ·exact absurd a a'
 ·exact absurd a' a
 ·exact⟨rfl,rfl⟩
theorem zMC(g:Nat->Int)(k:Nat)(hk:k<8)(x y:Int):((qg g).setIfInBounds (k*2) (.int .i64 x)).setIfInBounds (k*2+1) (.int .i64 y)=qg (fun j=>if j=k*2 then x else if j=k*2+1 then y else g j):=by
 apply Array.ext_getElem?;intro i;rw[Array.getElem?_setIfInBounds,Array.getElem?_setIfInBounds];simp only[Array.size_setIfInBounds,qY];by_cases aA:i<16
 ·rw[zAx _ aA,zAx _ aA];by_cases e1:k*2+1=i
  ·subst e1;rw[if_pos rfl,if_pos (by omega),if_neg (by omega),if_pos rfl]
  ·rw[if_neg e1];by_cases e0:k*2=i
   ·subst e0;rw[if_pos rfl,if_pos (by omega),if_pos rfl]
   ·rw[if_neg e0,if_neg (by omega),if_neg (by omega)]
 ·have n1:(qg g)[i]?=none:=Array.getElem?_eq_none (by rw[qY];omega);have n2:(qg (fun j=>if j=k*2 then x else if j=k*2+1 then y else g j))[i]?=none:=Array.getElem?_eq_none (by rw[qY];omega);rw[n1,n2,if_neg (by omega),if_neg (by omega)]
theorem zMO(g:Nat->Int)(k:Nat)(hk:k<8)(w:World):(Instr.index 155 (.agg (qg g)) (.int .i64 (k:Int))).run Tryz.prog w = .ok (.agg #[.int .i64 (g (k*2)),.int .i64 (g (k*2+1))]) w:=by
 rcases(by omega:k=0\/k=1\/k=2\/k=3\/k=4\/k=5\/k=6\/k=7)with rfl | rfl | rfl | rfl | rfl | rfl | rfl | rfl
 all_goals kernel_rfl
theorem zNc(g:Nat->Int)(k:Nat)(hk:k<8)(w:World):(part 61 (qg g) (k*2)).run Tryz.prog w = .ok (.agg #[.int .i64 (g (k*2)),.int .i64 (g (k*2+1))]) w:=by
 rcases(by omega:k=0\/k=1\/k=2\/k=3\/k=4\/k=5\/k=6\/k=7)with rfl | rfl | rfl | rfl | rfl | rfl | rfl | rfl
 all_goals kernel_rfl
theorem zNz(d:Nat)(a b c e:Int)(w:World):(Op.equalIn (d+2) 61 (.agg #[.int .i64 a,.int .i64 b]) (.agg #[.int .i64 c,.int .i64 e])).run Tryz.prog w = .ok (a == c && b == e) w:=by
 by_cases h1:a=c<;>by_cases h2:b=e
 all_goals simp[go_sem,h1,h2]
theorem zOG(w:World):(sizeOf 61).run Tryz.prog w = .ok 2 w:=by kernel_rfl
theorem zH3{P:Program}(b:Nat->Bool)(F:Nat->Option Bool×Unit->Sem (ForInStep (Option Bool×Unit))):∀(L:List Nat) (w:World),(∀i∈L,∀s w,(F i s).run P w = .ok (if b i then .yield (none,())else .done (some false,())) w)->
  (forIn L (none,()) F).run P w = .ok (if L.all b then(none,())else(some false,())) w
 | [],w,_=>by simp[Sem.run_pure]
 | i :: L,w,hF=>by
  simp only[List.forIn_cons,Sem.run_bind,hF i (by simp),Result.andThen_ok,List.all_cons];by_cases hb:b i=true
  ·simp only[hb,if_true,Bool.true_and];exact zH3 b F L w (fun j hj=>hF j (by simp[hj]))
  ·simp[hb,Sem.run_pure]
def zHX(g h:Nat->Int):Bool:=(List.range 8).all fun i=>g (i*2) == h (i*2) && g (i*2+1) == h (i*2+1)
theorem zJk(g h:Nat->Int):zHX g h=true↔∀i,i<8->g (i*2)=h (i*2)/\g (i*2+1)=h (i*2+1):=by
 simp[zHX,List.all_eq_true]
theorem zME(g h:Nat->Int)(d:Nat)(w:World):(Op.equalIn (d+3) 155 (.agg (qg g)) (.agg (qg h))).run Tryz.prog w = .ok (zHX g h) w:=by
 rw[Op.equalIn];simp only[Sem.run_bind,run_underlying zJY,Result.andThen_ok,zOG];rw[Std.Legacy.Range.forIn_eq_forIn_range'];have e:=zH3 (P:=Tryz.prog) (fun i=>g (i*2) == h (i*2) && g (i*2+1) == h (i*2+1)) (fun i (bA:Option Bool×Unit)=>do
      let __do_lift <-part 61 (qg g) (i*2)
      let __do_lift_1 <-part 61 (qg h) (i*2)
      let __do_lift <-Op.equalIn (d+2) 61 __do_lift __do_lift_1
      if (!__do_lift)=true then pure (ForInStep.done (some false,()))else pure (ForInStep.yield (none,()))) (List.range 8) w (fun i hi s w=>by
   have aA:i<8:=(by simpa using hi);simp only[Sem.run_bind,zNc _ i aA,Result.andThen_ok,zNz];cases (g (i*2) == h (i*2) && g (i*2+1) == h (i*2+1))<;>simp[Sem.run_pure])
 have e2:List.range' 0 (([:8]:Std.Legacy.Range).size) ([:8]:Std.Legacy.Range).step=List.range 8:=by rfl
 rw[e2,e];simp only[Result.andThen_ok];unfold zHX;cases ((List.range 8).all fun i=>g (i*2) == h (i*2) && g (i*2+1) == h (i*2+1))<;>simp[Sem.run_pure]
theorem zLk(g h:Nat->Int)(w:World):(binOp .eql 155 (.agg (qg g)) (.agg (qg h))).run Tryz.prog w = .ok (.bool (zHX g h)) w:=by
 rw[run_eql_struct,zME g h 9997];rfl
theorem zHd(v v0 v1 v2:Value)(n lo hi oA lA:Nat)(f:Nat->zO)(s:zO)(w:World)(h1:qG w lo hi v n f)(h2:qT w oA lA v0 v1 v2 s)(hk:s.kn=8) :
  Calls Tryz.prog 200 #[v,.agg #[v0,v1,v2]] w fun e w'=>zG (zFM n f s) e/\Below w.heap.size w w':=by
 have Hv:Hid (qG w lo hi v n f):=h1;obtain⟨m1,a,c,rfl,mc,g1⟩:=h1;have Hs:Hid (qT w oA lA v0 v1 v2 s):=h2;obtain⟨rfl,⟨m2,ka,kc,rfl,jB,g2⟩,rfl,m3⟩:=h2;have Hk:Hid (s.kn=8):=hk;clear g1 g2 hk;go_enter Tryz.func200,Tryz.ntmps200;go_wp2_with fail;have iA:=zC w (.cells #[.int .i64 s.zPI,.slice ka s.kn kc,.string s.data] 127);refine(zER _ _ _ oA lA s _ (Hs.out.zO9 iA) (Or.inr Hk.out)).mono ?_;rintro e w1 ⟨rfl,kA⟩;have Hx:Hid (yX w1 w.heap.size (.int .i64 s.zPI) (.slice ka s.kn kc) (.string s.data)):=(yX.new w _ _ _ _).zO9 kA;have cB:=zA iA kA;have bA:Hid ((Tryz.prog.info? 155).map (·.size)=some (qJ s).size):=by
  show _=_;rw[qJ,qY];exact zEv
 clear iA kA;have tA:(#[Value.int .i64 0,Value.int .i64 0,Value.int .i64 0,Value.int .i64 0,Value.int .i64 0,Value.int .i64 0,Value.int .i64 0,Value.int .i64 0,Value.int .i64 0,Value.int .i64 0,Value.int .i64 0,Value.int .i64 0,Value.int .i64 0,Value.int .i64 0,Value.int .i64 0,Value.int .i64 0]:Array Value)=qg (fun _=>0):=rfl;have gA:Hid ((#[Value.int .i64 0,Value.int .i64 0,Value.int .i64 0,Value.int .i64 0,Value.int .i64 0,Value.int .i64 0,Value.int .i64 0,Value.int .i64 0,Value.int .i64 0,Value.int .i64 0,Value.int .i64 0,Value.int .i64 0,Value.int .i64 0,Value.int .i64 0,Value.int .i64 0,Value.int .i64 0]:Array Value)=qg (fun _=>0)):=tA;clear tA;go_wp2_with (first
  | (refine wpList_store_row rfl 155 (.tmp 5) (.tmp 10) rfl w1.heap.size (qJ s) rfl rfl 155 #[Value.int .i64 0,Value.int .i64 0,Value.int .i64 0,Value.int .i64 0,Value.int .i64 0,Value.int .i64 0,Value.int .i64 0,Value.int .i64 0,Value.int .i64 0,Value.int .i64 0,Value.int .i64 0,Value.int .i64 0,Value.int .i64 0,Value.int .i64 0,Value.int .i64 0,Value.int .i64 0] (heap_alloc_last _ _) bA.out (by rw[qJ,qY];rfl) (zBg _) ?_;rw[World.setRow_alloc_new])
  | (refine wpList_load_row rfl 155 (.tmp 5) rfl w1.heap.size rfl 155 (qJ s) (0,0) _ ?hh zJY rfl bA.out ?_;(exact(Below.heap_alloc _ _ _ (by simp)).trans (heap_alloc_last _ _))))
 have gB:w.heap.size<w1.heap.size:=Hx.out.1.lt
 go_loopw [12] (fun i wr=>∃(k:Nat) (g:Nat->Int),k<=8/\i = .int .i64 k/\(∀j,j<k->zAC n f s.zPI (s.ks j) (s.kb j) (g (j*2)) (g (j*2+1)))/\yX wr w.heap.size (.int .i64 s.zPI) (.slice ka s.kn kc) (.string s.data)/\
   wr.heap[w1.heap.size]?=some (.cells (qJ s) 155 (0,0))/\wr.heap[w1.heap.size+1]?=some (.cells (qg g) 155 (0,0))/\Below w.heap.size w wr) (fun i _=>8 - (intOf i).toNat)
 case atStart=>
  refine⟨0,fun _=>0,Nat.zero_le _,rfl,fun j hj=>absurd hj (Nat.not_lt_zero _),(Hx.out.zO9 (zC _ _)).zO9 (zC _ _),?_,?_,zA (zA cB (zC _ _)) (zC _ _)⟩
  ·exact(Below.heap_alloc _ _ _ (by simp)).trans (heap_alloc_last _ _)
  ·have:=heap_alloc_last (w1.alloc (.cells (qJ s) 155)) (.cells #[Value.int .i64 0,Value.int .i64 0,Value.int .i64 0,Value.int .i64 0,Value.int .i64 0,Value.int .i64 0,Value.int .i64 0,Value.int .i64 0,Value.int .i64 0,Value.int .i64 0,Value.int .i64 0,Value.int .i64 0,Value.int .i64 0,Value.int .i64 0,Value.int .i64 0,Value.int .i64 0] 155);rw[World.size_alloc]at this;rw[this,gA.out]
 case round=>
  obtain⟨k,g,hk,rfl,cA,hx,hK,hF,hb⟩:=hrel;have aA:Hid (∀j,j<k->zAC n f s.zPI (s.ks j) (s.kb j) (g (j*2)) (g (j*2+1))):=cA;have HX:Hid (yX wr w.heap.size (.int .i64 s.zPI) (.slice ka s.kn kc) (.string s.data)):=hx;have HK:Hid (wr.heap[w1.heap.size]?=some (.cells (qJ s) 155 (0,0))):=hK;have HF:Hid (wr.heap[w1.heap.size+1]?=some (.cells (qg g) 155 (0,0))):=hF;clear cA hx hK hF;have nA:w1.heap.size+1<wr.heap.size:=(Array.getElem?_eq_some_iff.1 HF.out).1;by_cases sA:k<8
  ·have fB:(k:Int)<8:=(by omega);have mA:∀w,(Instr.index 155 (.agg (qJ s)) (.int .i64 (k:Int))).run Tryz.prog w = .ok (.agg #[.int .i64 (s.ks k),.int .i64 (s.kb k)]) w:=fun w=>by
    have e:=zMO (zl s) k sA w;have e0:zl s (k*2)=s.ks k:=(by unfold zl;rw[if_pos (by have:=Hk.out;omega),if_pos (by omega),show k*2 / 2=k by omega]);have e1:zl s (k*2+1)=s.kb k:=(by unfold zl;rw[if_pos (by have:=Hk.out;omega),if_neg (by omega),show(k*2+1) / 2=k by omega]);rw[e0,e1]at e;exact e
   obtain⟨⟨x0,x1⟩,⟨x2,x3⟩,⟨x4,x5⟩⟩:=HX.out;have iB:w.heap.size<wr.heap.size:=(by omega);go_wp2_with fail;have jA:=zC wr (.cells #[.int .i64 (s.ks k),.int .i64 (s.kb k)] 61);refine(zIw _ n lo hi f _ _ _ _ (Hv.out.zO9 (zA hb jA))).mono ?_;rintro e w2 ⟨⟨rs,rb,rfl,rA⟩,pA⟩;have bB:Hid (zAC n f s.zPI (s.ks k) (s.kb k) rs rb):=rA;have dA:=zA jA pA;have eA:Hid (w2.heap[w1.heap.size+1]?=some (.cells (qg g) 155 (0,0))):=(dA.block _ nA).trans HF.out;have vA:Hid (w2.heap[w1.heap.size]?=some (.cells (qJ s) 155 (0,0))):=(dA.block _ (by omega)).trans HK.out;have aB:Hid (yX w2 w.heap.size (.int .i64 s.zPI) (.slice ka s.kn kc) (.string s.data)):=HX.out.zO9 dA;have dB:=zA hb dA;clear rA pA jA dA x0 x1 x2 x3 x4 x5 mA HF HK HX hb;obtain⟨y0,y1⟩:=zH (i:=k*2) eA.out (zAx g (by omega));obtain⟨y2,y3⟩:=zH (i:=k*2+1) eA.out (zAx g (by omega));go_wp2;go_roundw
   case rel=>
    refine⟨k+1,fun j=>if j=k*2 then rs else if j=k*2+1 then rb else g j,by omega,by go_num,fun j hj=>?_,(aB.out.zPA _ (by omega)).zPA _ (by omega),?_,?_,(dB.setCell (by show _<=w1.heap.size+1;omega) _).setCell (by show _<=w1.heap.size+1;omega) _⟩
    ·by_cases e:j=k
     ·subst e;simp only[if_true];rw[if_neg (by omega)];exact bB.out
     ·simp only;rw[if_neg (by omega),if_neg (by omega),if_neg (by omega),if_neg (by omega)];exact aA.out j (by omega)
    ·rw[Below.heap_setCell _ _ _ _ (by show w1.heap.size≠w1.heap.size+1;omega),Below.heap_setCell _ _ _ _ (by show w1.heap.size≠w1.heap.size+1;omega)];exact vA.out
    ·have:=zBY (o:=k*2+1) (.int .i64 rb) (zBY (o:=k*2) (.int .i64 rs) eA.out);rw[zMC g k sA]at this;exact this
   case measure=>simp[intOf];omega
  ·obtain rfl:k=8:=(by omega);have eB:∀w,(binOp .eql 155 (.agg (qg g)) (.agg (qJ s))).run Tryz.prog w = .ok (.bool (zHX g (zl s))) w:=fun w=>zLk g (zl s) w
   have fA:Hid ((Tryz.prog.info? 155).map (·.size)=some (qg g).size):=by
    show _=_;rw[qY];exact zEv
   go_wp2_with (first
    | (refine wpList_load_row rfl 155 (.tmp 6) rfl (w1.heap.size+1) rfl 155 (qg g) (0,0) _ HF.out zJY rfl fA.out ?_)
    | (refine wpList_load_row rfl 155 (.tmp 5) rfl w1.heap.size rfl 155 (qJ s) (0,0) _ HK.out zJY rfl bA.out ?_))
   go_ret;refine⟨⟨_,rfl,?_⟩,hb⟩;rw[zJk];have e0:∀i,i<8->zl s (i*2)=s.ks i/\zl s (i*2+1)=s.kb i:=fun i hi=>by
    have:=Hk.out;refine⟨?_,?_⟩
    ·unfold zl;rw[if_pos (by omega),if_pos (by omega),show i*2 / 2=i by omega]
    ·unfold zl;rw[if_pos (by omega),if_neg (by omega),show(i*2+1) / 2=i by omega]
   constructor
   ·intro h i hi;have:=aA.out i hi;rw[(h i hi).1,(h i hi).2,(e0 i hi).1,(e0 i hi).2]at this;exact this
   ·intro h i hi;rw[(e0 i hi).1,(e0 i hi).2];exact(aA.out i hi).uniq (h i hi)
def zA7(n:Nat)(f:Nat->zO)(s:zO):Prop:=ql s\/zF0 s\/(zJU s/\zFM n f s)
def zEf(p:zN)(i:Nat):Prop:=¬zAs p.n p.s (p.h i) 0 0/\¬Has i p.h (p.h i)
def zOX(p:zN):Prop:=p.n<=200/\p.hn<=p.n/\(∀i,i<p.n->zA7 p.n p.s (p.s i))/\∀i,i<p.hn->zEf p i
theorem zHq(v v0 v1 v2:Value)(n lo hi bA aA:Nat)(f:Nat->zO)(s:zO)(w:World)(h1:qG w lo hi v n f)(h2:qT w bA aA v0 v1 v2 s) :
  Calls Tryz.prog 158 #[v,.agg #[v0,v1,v2]] w fun e w'=>zG (zA7 n f s) e/\Below w.heap.size w w':=by
 have Hv:Hid (qG w lo hi v n f):=h1;obtain⟨m1,a,c,rfl,mc,g1⟩:=h1;have Hs:Hid (qT w bA aA v0 v1 v2 s):=h2;obtain⟨rfl,⟨m2,ka,kc,rfl,oA,g2⟩,rfl,m3⟩:=h2;clear g1 g2;go_enter Tryz.func158,Tryz.ntmps158;go_wp2_with fail;have gA:=zC w (.cells #[.int .i64 s.zPI,.slice ka s.kn kc,.string s.data] 127);refine(zCw _ _ _ bA aA s _ (Hs.out.zO9 gA)).mono ?_;rintro e w1 ⟨⟨t,rfl,ht⟩,iA⟩;have Hx:Hid (yX w1 w.heap.size (.int .i64 s.zPI) (.slice ka s.kn kc) (.string s.data)):=(yX.new w _ _ _ _).zO9 iA;have dA:=zA gA iA;clear gA iA;by_cases hf:ql s
 ·obtain rfl:t=true:=ht.2 hf;have HF:Hid (ql s):=hf;clear ht hf;go_wp2;go_ret;exact⟨zG.yes (Or.inl HF.out),dA⟩
 ·obtain rfl:t=false:=zW ht hf;have HF:Hid (¬ql s):=hf;clear ht hf;obtain⟨⟨x0,x1⟩,⟨x2,x3⟩,⟨x4,x5⟩⟩:=Hx.out;go_wp2_with fail;refine(zGe _ _ _ bA aA s _ (Hs.out.zO9 dA)).mono ?_;rintro e w2 ⟨⟨t,rfl,ht⟩,jA⟩;have fA:Hid (yX w2 w.heap.size (.int .i64 s.zPI) (.slice ka s.kn kc) (.string s.data)):=Hx.out.zO9 jA;have eA:=zA dA jA;clear jA dA x0 x1 x2 x3 x4 x5 Hx;by_cases hf:zF0 s
  ·obtain rfl:t=true:=ht.2 hf;have HP:Hid (zF0 s):=hf;clear ht hf;go_wp2;go_ret;exact⟨zG.yes (Or.inr (Or.inl HP.out)),eA⟩
  ·obtain rfl:t=false:=zW ht hf;have HP:Hid (¬zF0 s):=hf;clear ht hf;obtain⟨⟨x0,x1⟩,⟨x2,x3⟩,⟨x4,x5⟩⟩:=fA.out;go_wp2_with fail;refine(zK4 _ _ _ bA aA s _ (Hs.out.zO9 eA)).mono ?_;rintro e w3 ⟨⟨t,rfl,ht⟩,kA⟩;have lA:Hid (yX w3 w.heap.size (.int .i64 s.zPI) (.slice ka s.kn kc) (.string s.data)):=fA.out.zO9 kA;have cA:=zA eA kA;clear kA eA x0 x1 x2 x3 x4 x5 fA;by_cases hf:zJU s
   ·obtain rfl:t=true:=ht.2 hf;have HN:Hid (zJU s):=hf;clear ht hf;obtain⟨⟨x0,x1⟩,⟨x2,x3⟩,⟨x4,x5⟩⟩:=lA.out;go_wp2_with fail;refine(zHd _ _ _ _ n lo hi bA aA f s _ (Hv.out.zO9 cA) (Hs.out.zO9 cA) HN.out.2.1).mono ?_;rintro e w4 ⟨⟨t,rfl,ht⟩,mA⟩;have Ht:Hid (t=true↔zFM n f s):=ht;have nA:=zA cA mA;clear mA cA x0 x1 x2 x3 x4 x5 lA ht;go_wp2;go_ret;refine⟨⟨t,rfl,Ht.out.trans ⟨fun h=>Or.inr (Or.inr ⟨HN.out,h⟩),fun h=>?_⟩⟩,nA⟩;rcases h with h | h | h
    ·exact absurd h HF.out
    ·exact absurd h HP.out
    ·exact h.2
   ·obtain rfl:t=false:=zW ht hf;have HN:Hid (¬zJU s):=hf;clear ht hf;go_wp2;go_ret;refine⟨zG.no fun h=>?_,cA⟩;rcases h with h | h | h
    ·exact HF.out h
    ·exact HP.out h
    ·exact HN.out h.1
theorem zHY(v0 v1:Value)(lo hi:Nat)(p:zN)(w:World)(h1:qS w lo hi v0 v1 p) :
  Calls Tryz.prog 194 #[.agg #[v0,v1]] w fun e w'=>zG (∀i,i<p.hn->zEf p i) e/\Below w.heap.size w w':=by
 have Hp:Hid (qS w lo hi v0 v1 p):=h1;obtain⟨⟨m1,a,c,rfl,mc,g1⟩,⟨m2,a',c',rfl,rA,g2⟩⟩:=h1;unfold maxLen at m1 m2;clear g1 g2;go_enter Tryz.func194,Tryz.ntmps194;go_wp2
 go_loopw [8] (fun i wr=>∃k:Nat,k<=p.hn/\i = .int .i64 k/\(∀j,j<k->zEf p j)/\zp wr w.heap.size (.slice a p.n c) (.slice a' p.hn c')/\Below w.heap.size w wr) (fun i _=>p.hn - (intOf i).toNat)
 case atStart=>exact⟨0,Nat.zero_le _,rfl,fun j hj=>absurd hj (Nat.not_lt_zero _),zp.new _ _ _ _,zC _ _⟩
 case round=>
  obtain⟨k,hk,rfl,bA,hx,hb⟩:=hrel;have aA:Hid (∀j,j<k->zEf p j):=bA;have Hx:Hid (zp wr w.heap.size (.slice a p.n c) (.slice a' p.hn c')):=hx;clear bA hx;obtain⟨⟨y0,y1⟩,⟨y2,y3⟩⟩:=Hx.out;by_cases eA:k<p.hn
  ·have nA:(k:Int)<(p.hn:Int):=(by omega);have cA:=Hp.out.2.zO9 hb;have fA:Hid (qs wr lo hi (.slice a' p.hn c') p.hn p.h):=cA;obtain⟨_,a2,mA,kA,_,lA⟩:=cA;simp only[Value.slice.injEq,true_and]at kA;obtain⟨rfl,rfl⟩:=kA;obtain⟨b,off,rfl,_,_,k1⟩:=lA (by omega);have oA:=k1 k eA;clear k1 lA;go_wp2_with fail;refine(zDu _ p.n lo hi p.s _ _ (Hp.out.1.zO9 hb)).mono ?_;rintro e w1 ⟨⟨ps,pb,rfl,jA⟩,dA⟩;have iA:Hid (zAs p.n p.s (p.h k) ps pb):=jA;have HX:Hid (zp w1 w.heap.size (.slice a p.n c) (.slice (some ⟨b,off,none⟩) p.hn c')):=Hx.out.zO9 dA;have HI:Hid (qs w1 lo hi (.slice (some ⟨b,off,none⟩) k k) k p.h):=(fA.out.zO9 dA).take (by omega) (by omega);have gA:=zA hb dA;clear jA dA y0 y1 y2 y3 Hx;by_cases hz:ps=0/\pb=0
   ·obtain⟨rfl,rfl⟩:=hz;go_wp2;go_ret;exact⟨zG.no fun h=>(h k eA).1 iA.out,gA⟩
   ·have HZ:Hid (¬zAs p.n p.s (p.h k) 0 0):=fun h=>by
     obtain⟨e0,e1⟩:=iA.out.uniq h;exact hz ⟨e0,e1⟩
    have e0:(ps == 0)=false\/(ps == 0)=true/\(pb == 0)=false:=by
     by_cases h:ps=0
     ·right;refine⟨by simp[h],?_⟩;have:pb≠0:=fun h'=>hz ⟨h,h'⟩
      simp[this]
     ·left;simp[h]
    clear hz;obtain⟨⟨y0,y1⟩,⟨y2,y3⟩⟩:=HX.out;have pA:k<=c':=(by omega);by_cases hh:Has k p.h (p.h k)
    ·have HH:Hid (Has k p.h (p.h k)):=hh;clear hh;rcases e0 with e0 | ⟨e0,e1⟩
     all_goals
      go_wp2_with fail;refine(zBe _ k lo hi p.h _ _ HI.out).mono ?_;rintro e w2 ⟨⟨t,rfl,ht⟩,rfl⟩;obtain rfl:t=true:=ht.2 HH.out;clear ht;go_wp2;go_ret;exact⟨zG.no fun h=>(h k eA).2 HH.out,gA⟩
    ·have HH:Hid (¬Has k p.h (p.h k)):=hh;clear hh;rcases e0 with e0 | ⟨e0,e1⟩
     all_goals
      go_wp2_with fail;refine(zBe _ k lo hi p.h _ _ HI.out).mono ?_;rintro e w2 ⟨⟨t,rfl,ht⟩,rfl⟩;obtain rfl:t=false:=zW ht HH.out;clear ht y0 y1 y2 y3;go_wp2;go_roundw
      case rel=>exact⟨k+1,by omega,by go_num,zr eA aA.out ⟨HZ.out,HH.out⟩,HX.out,gA⟩
      case measure=>simp[intOf];omega
  ·obtain rfl:k=p.hn:=(by omega);go_wp2;go_ret;exact⟨zG.yes aA.out,hb⟩
theorem zNd:∀(m n:Nat) (h:Nat->Nat),(∀i,i<m->h i<n)->(∀i j,i<j->j<m->h i≠h j)->m<=n
 | 0,_,_,_,_=>Nat.zero_le _
 | m+1,0,h,hlt,_=>absurd (hlt 0 (by omega)) (Nat.not_lt_zero _)
 | m+1,n+1,h,hlt,hne=>by
  have key:=zNd m n (fun i=>if h i<h m then h i else h i - 1) (fun i hi=>by
   have a:=hlt i (by omega);have b:=hne i m hi (by omega);have c:=hlt m (by omega);show(if h i<h m then h i else h i - 1)<n;split<;>omega) (fun i j aA hj=>by
   have a:=hne i j aA (by omega);have b:=hne i m (by omega) (by omega);have c:=hne j m (by omega) (by omega);show(if h i<h m then h i else h i - 1)≠(if h j<h m then h j else h j - 1);split<;>split<;>omega)
  omega
theorem zGX{s:zO}(h:ql s):s.zPI=0:=h.1
theorem zNZ{n:Nat}{f:Nat->zO}{s:zO}(h:zA7 n f s)(hf:¬ql s):1<=s.zPI:=by
 rcases h with h | h | h
 ·exact absurd h hf
 ·exact h.1.1
 ·exact h.1.1.1
theorem zGW{p:zN}{s:zO}(h:ql s\/zDF p s)(hf:¬ql s):1<=s.zPI:=by
 rcases h with h | h
 ·exact absurd h hf
 ·exact h.1.1
theorem zLs{p:zN}{b ks kb:Int}(aA:∀i,i<p.n->¬ql (p.s i)->1<=(p.s i).zPI):zAC p.n p.s b ks kb ks kb↔zHt p b ks kb:=by
 constructor
 ·rintro⟨ps,pb,hp,h⟩;rcases h with⟨h,rfl,rfl⟩ | ⟨h,rfl,rfl⟩
  ·exact Or.inl ⟨rfl,rfl⟩
  ·rcases hp with⟨h1,h2,h3,_,h5⟩ | ⟨h1,rfl,rfl⟩
   ·right;have hb:=aA ks.toNat (by omega) h3;rw[<-h5]at hb;refine⟨⟨hb,h1,h2,h5.symm⟩,?_⟩;by_cases hx:b<kb
    ·exact absurd (Or.inr hx) h
    ·omega
   ·exact absurd (Or.inl ⟨rfl,rfl⟩) h
 ·rintro(⟨rfl,rfl⟩ | ⟨⟨h1,h2,h3,h4⟩,h5⟩)
  ·by_cases hx:0<p.n/\¬ql (p.s 0)
   ·refine⟨0,(p.s 0).zPI,Or.inl ⟨by omega,by omega,?_,rfl,rfl⟩,Or.inl ⟨Or.inl ⟨rfl,rfl⟩,rfl,rfl⟩⟩;exact hx.2
   ·refine⟨0,0,Or.inr ⟨fun h=>hx ⟨by omega,h.2.2⟩,rfl,rfl⟩,Or.inl ⟨Or.inl ⟨rfl,rfl⟩,rfl,rfl⟩⟩
  ·refine⟨ks,kb,Or.inl ⟨h2,h3,fun hf=>?_,rfl,h4.symm⟩,Or.inr ⟨fun h=>?_,rfl,rfl⟩⟩
   ·have:=zGX hf;omega
   ·rcases h with h | h
    ·have:=h.2;omega
    ·omega
theorem zBj(p:zN):zOX p↔qB p:=by
 constructor
 ·rintro⟨h1,h2,h3,h4⟩;have aA:∀i,i<p.n->¬ql (p.s i)->1<=(p.s i).zPI:=fun i hi=>zNZ (h3 i hi)
  refine⟨h1,fun i hi=>?_,fun i hi=>?_⟩
  ·rcases h3 i hi with h | h | h
   ·exact Or.inl h
   ·exact Or.inr ⟨h.1,Or.inl h.2⟩
   ·refine Or.inr ⟨h.1.1,Or.inr ⟨h.1.2.1,h.1.2.2,fun j hj=>?_⟩⟩;exact(zLs aA).1 (h.2 j (by have:=h.1.2.1;omega))
  ·obtain⟨ha,hb⟩:=h4 i hi;have hx:0<=p.h i/\p.h i<p.n/\¬ql (p.s (p.h i).toNat):=by
    by_cases hx:0<=p.h i/\p.h i<p.n/\¬ql (p.s (p.h i).toNat)
    ·exact hx
    ·exact absurd (Or.inr ⟨hx,rfl,rfl⟩) ha
   exact⟨hx.1,hx.2.1,hx.2.2,hb⟩
 ·rintro⟨h1,h3,h4⟩;have aA:∀i,i<p.n->¬ql (p.s i)->1<=(p.s i).zPI:=fun i hi=>zGW (h3 i hi)
  refine⟨h1,?_,fun i hi=>?_,fun i hi=>?_⟩
  ·refine zNd p.hn p.n (fun i=>(p.h i).toNat) (fun i hi=>?_) (fun i j bA hj=>?_)
   ·obtain⟨a,b,_,_⟩:=h4 i hi;show(p.h i).toNat<p.n;omega
   ·obtain⟨a,b,_,d⟩:=h4 j hj;obtain⟨a',b',_,_⟩:=h4 i (by omega);show(p.h i).toNat≠(p.h j).toNat;intro e;exact d ⟨i,bA,by omega⟩
  ·rcases h3 i hi with h | h
   ·exact Or.inl h
   ·rcases h.2 with g | g
    ·exact Or.inr (Or.inl ⟨h.1,g⟩)
    ·exact Or.inr (Or.inr ⟨⟨h.1,g.1,g.2.1⟩,fun j hj=>(zLs aA).2 (g.2.2 j (by omega))⟩)
  ·obtain⟨a,b,c,d⟩:=h4 i hi;refine⟨fun hx=>?_,d⟩;rcases hx with⟨_,_,_,e1,e2⟩ | ⟨hx,_⟩
   ·have:=aA (p.h i).toNat (by omega) c;omega
   ·exact hx ⟨a,b,c⟩
theorem zA0(v0 v1:Value)(lo hi:Nat)(p:zN)(w:World)(h1:qS w lo hi v0 v1 p) :
  Calls Tryz.prog 154 #[.agg #[v0,v1]] w fun e w'=>zG (qB p) e/\Below w.heap.size w w':=by
 have Hp:Hid (qS w lo hi v0 v1 p):=h1;obtain⟨⟨m1,a,c,rfl,mc,g1⟩,⟨m2,a',c',rfl,mA,g2⟩⟩:=h1;unfold maxLen at m1 m2;clear g1 g2;have fA:Hid (Below w.heap.size w (w.alloc (.cells #[.slice a p.n c,.slice a' p.hn c'] 33))):=zC _ _;by_cases hn:(200:Int)<p.n
 ·have H:Hid (¬qB p):=fun h=>by have:=h.1;omega
  go_enter Tryz.func154,Tryz.ntmps154;go_wp2;go_ret;exact⟨zG.no H.out,fA.out⟩
 by_cases kA:(p.n:Int)<p.hn
 ·have H:Hid (¬qB p):=fun h=>by have:=((zBj p).2 h).2.1;omega
  go_enter Tryz.func154,Tryz.ntmps154;go_wp2;go_ret;exact⟨zG.no H.out,fA.out⟩
 ·go_enter Tryz.func154,Tryz.ntmps154;go_wp2
  go_loopw [21] (fun i wr=>∃k:Nat,k<=p.n/\i = .int .i64 k/\(∀j,j<k->zA7 p.n p.s (p.s j))/\zp wr w.heap.size (.slice a p.n c) (.slice a' p.hn c')/\Below w.heap.size w wr) (fun i _=>p.n - (intOf i).toNat)
  case atStart=>exact⟨0,Nat.zero_le _,rfl,fun j hj=>absurd hj (Nat.not_lt_zero _),zp.new _ _ _ _,fA.out⟩
  case round=>
   obtain⟨k,hk,rfl,bA,hx,hb⟩:=hrel;have aA:Hid (∀j,j<k->zA7 p.n p.s (p.s j)):=bA;have Hx:Hid (zp wr w.heap.size (.slice a p.n c) (.slice a' p.hn c')):=hx;clear bA hx;obtain⟨⟨y0,y1⟩,⟨y2,y3⟩⟩:=Hx.out;have lA:w.heap.size<wr.heap.size:=Hx.out.1.lt;by_cases iA:k<p.n
   ·have jA:(k:Int)<(p.n:Int):=(by omega);obtain⟨b,off,ka,kc,rfl,hs⟩:=(Hp.out.1.zO9 hb).cells iA;have Hs:Hid (zAU wr b (off+k*3) lo hi ka kc (p.s k)):=hs;obtain⟨q0,q1,q2,_⟩:=hs;go_wp2_with fail;have dA:=zC wr (.cells #[.int .i64 (p.s k).zPI,.slice ka (p.s k).kn kc,.string (p.s k).data] 127);refine(zHq _ _ _ _ p.n lo hi lo hi p.s (p.s k) _ (Hp.out.1.zO9 (zA hb dA)) (Hs.out.slot.zO9 dA)).mono ?_;rintro e w1 ⟨⟨t,rfl,ht⟩,cA⟩;have gA:=zA dA cA;have HX:Hid (zp w1 w.heap.size (.slice (some ⟨b,off,none⟩) p.n c) (.slice a' p.hn c')):=Hx.out.zO9 gA;have eA:=zA hb gA;have Ht:Hid (t=true↔zA7 p.n p.s (p.s k)):=ht;clear dA cA gA ht q0 q1 q2 y0 y1 y2 y3 Hx Hs;cases t
    ·go_wp2;go_ret;refine⟨zG.no fun h=>?_,eA⟩;have:=((zBj p).2 h).2.2.1 k iA;exact absurd (Ht.out.2 this) (by simp)
    ·go_wp2;go_roundw
     case rel=>exact⟨k+1,by omega,by go_num,zr iA aA.out (by simpa using Ht.out),HX.out,eA⟩
     case measure=>simp[intOf];omega
   ·obtain rfl:k=p.n:=(by omega);go_wp2_with fail;refine(zHY _ _ lo hi p _ (Hp.out.zO9 hb)).mono ?_;rintro e w1 ⟨⟨t,rfl,ht⟩,cA⟩;have Ht:Hid (t=true↔∀i,i<p.hn->zEf p i):=ht;have eA:=zA hb cA;clear ht cA y0 y1 y2 y3;go_wp2;go_ret;refine⟨⟨t,rfl,Ht.out.trans ⟨fun h=>?_,fun h=>?_⟩⟩,eA⟩
    ·exact(zBj p).1 ⟨by omega,by omega,aA.out,h⟩
    ·exact((zBj p).2 h).2.2.2
theorem zAs.some(n:Nat)(f:Nat->zO)(x:Int):∃ps pb,zAs n f x ps pb:=by
 by_cases h:0<=x/\x<n/\¬ql (f x.toNat)
 ·exact⟨x,(f x.toNat).zPI,Or.inl ⟨h.1,h.2.1,h.2.2,rfl,rfl⟩⟩
 ·exact⟨0,0,Or.inr ⟨h,rfl,rfl⟩⟩
theorem zDr(v:Value)(n lo hi:Nat)(f:Nat->zO)(xs xb:Int)(w:World)(h1:qG w lo hi v n f) :
  Calls Tryz.prog 191 #[v,.agg #[.int .i64 xs,.int .i64 xb]] w fun e w'=>zG (¬zBd xs xb 0 0/\zAs n f xs xs xb) e/\Below w.heap.size w w':=by
 have Hi:Hid (qG w lo hi v n f):=h1;obtain⟨m1,a,c,rfl,mc,g1⟩:=h1;clear g1;have ha:=zC w (.cells #[.int .i64 xs,.int .i64 xb] 61);have Hx:Hid (zp (w.alloc (.cells #[.int .i64 xs,.int .i64 xb] 61)) w.heap.size (.int .i64 xs) (.int .i64 xb)):=zp.new _ _ _ _;by_cases hz:xs=0/\xb=0
 ·obtain⟨rfl,rfl⟩:=hz;go_enter Tryz.func191,Tryz.ntmps191;go_wp2_with fail
  go_quiet (fail)
  go_wp2;go_ret;exact⟨zG.no fun h=>h.1 ⟨rfl,rfl⟩,zh ha _⟩
 ·have HZ:Hid (¬zBd xs xb 0 0):=hz;have e0:(xs == 0)=false\/(xs == 0)=true/\(xb == 0)=false:=by
   by_cases h:xs=0
   ·right;refine⟨by simp[h],?_⟩;have:xb≠0:=fun h'=>hz ⟨h,h'⟩
    simp[this]
   ·left;simp[h]
  clear hz;obtain⟨bA,dA,h0⟩:=zAs.some n f xs;have H0:Hid (zAs n f xs bA dA):=h0;clear h0;by_cases hq:xs=bA/\xb=dA
  ·obtain⟨rfl,rfl⟩:=hq;rcases e0 with e0 | ⟨e0,e1⟩
   all_goals
    go_enter Tryz.func191,Tryz.ntmps191;go_wp2_with fail;go_region_held3 (fun w'=>w'.cell? ⟨w.heap.size,0,none⟩=some (.int .i64 xs)/\w'.cell? ⟨w.heap.size,1,none⟩=some (.int .i64 xb)) (go_keep)
     (first | (go_at_call 216;refine(zDu _ n lo hi f _ _ ?_).mono ?_;(exact(Hi.out.zO9 ha).zO9 ((Below.refl _ _).drew));rintro e w1 ⟨⟨ps,pb,rfl,hp⟩,cA⟩;obtain⟨rfl,rfl⟩:=H0.out.uniq hp;clear hp;have aA:=zI cA;have z0:=(Hx.out.zO9 aA).1.1;have z1:=(Hx.out.zO9 aA).2.1))
    have eA:=zA ha aA;clear cA aA z0 z1;go_wp2;go_ret;exact⟨zG.yes ⟨HZ.out,H0.out⟩,eA⟩
  ·have HQ:Hid (¬(xs=bA/\xb=dA)):=hq;have e4:(xs == bA)=false\/(xs == bA)=true/\(xb == dA)=false:=by
    by_cases h:xs=bA
    ·right;refine⟨by simp[h],?_⟩;have:xb≠dA:=fun h'=>hq ⟨h,h'⟩
     simp[this]
    ·left;simp[h]
   clear hq;rcases e0 with e0 | ⟨e0,e1⟩
   all_goals
    rcases e4 with e4 | ⟨e4,e5⟩
    all_goals
     go_enter Tryz.func191,Tryz.ntmps191;go_wp2_with fail;go_region_held3 (fun w'=>w'.cell? ⟨w.heap.size,0,none⟩=some (.int .i64 xs)/\w'.cell? ⟨w.heap.size,1,none⟩=some (.int .i64 xb)) (go_keep)
      (first | (go_at_call 216;refine(zDu _ n lo hi f _ _ ?_).mono ?_;(exact(Hi.out.zO9 ha).zO9 ((Below.refl _ _).drew));rintro e w1 ⟨⟨ps,pb,rfl,hp⟩,cA⟩;obtain⟨rfl,rfl⟩:=H0.out.uniq hp;clear hp;have aA:=zI cA;have z0:=(Hx.out.zO9 aA).1.1;have z1:=(Hx.out.zO9 aA).2.1))
     have eA:=zA ha aA;clear cA aA z0 z1;go_wp2;go_ret;refine⟨zG.no fun h=>?_,eA⟩;obtain⟨q0,q1⟩:=h.2.uniq H0.out;exact HQ.out ⟨q0,q1⟩
theorem zDs{p:zN}{xs xb:Int}(hR:qB p):(¬zBd xs xb 0 0/\zAs p.n p.s xs xs xb)↔zx p xs xb:=by
 constructor
 ·rintro⟨h,h1 | ⟨_,h2,h3⟩⟩
  ·obtain⟨a,b,c,_,e⟩:=h1;have:=zGW (hR.2.1 xs.toNat (by omega)) c;exact⟨by omega,a,b,e.symm⟩
  ·exact absurd ⟨h2,h3⟩ h
 ·rintro⟨a,b,c,d⟩;refine⟨fun h=>by have:=h.2;omega,Or.inl ⟨b,c,fun hf=>?_,rfl,d.symm⟩⟩;have:=zGX hf;omega
def Nil(xs xb:Int):Prop:=xs=0/\xb=0
instance (xs xb:Int):Decidable (Nil xs xb):=inferInstanceAs (Decidable (xs=0/\xb=0))
def one(xs xb:Int):List (Int×Int):=if Nil xs xb then [] else [(xs,xb)]
def kidsUp(ks kb:Nat->Int):Nat->List (Int×Int)
 | 0=>[]
 | k+1=>kidsUp ks kb k ++ one (ks k) (kb k)
def zb(s:zO)(i:Nat):Int:=zl s (i*2)
def zu(s:zO)(i:Nat):Int:=zl s (i*2+1)
def zK7(s:zO):List (Int×Int):=kidsUp (zb s) (zu s) 8
def zD0(p:zN)(xs xb:Int):List (Int×Int):=if Nil xs xb then [] else(xs,xb) :: zK7 (p.s xs.toNat)
def zAo(p:zN)(s:zO):Nat->List (Int×Int)
 | 0=>[]
 | k+1=>zAo p s k ++ zD0 p (zb s k) (zu s k)
def zX(p:zN)(rs rb:Int):List (Int×Int):=if Nil rs rb then [] else(rs,rb) :: zAo p (p.s rs.toNat) 8
theorem zCx{s:zO}(h:s.kn=8){i:Nat}(hi:i<8):zb s i=s.ks i:=by
 unfold zb zl;rw[show i*2 / 2=i by omega,if_pos (by omega),if_pos (by omega)]
theorem zE0{s:zO}(h:s.kn=8){i:Nat}(hi:i<8):zu s i=s.kb i:=by
 unfold zu zl;rw[show(i*2+1) / 2=i by omega,if_pos (by omega),if_neg (by omega)]
theorem zLr{s:zO}(h:s.kn=0)(i:Nat):zb s i=0:=by
 unfold zb zl;rw[if_neg (by omega)]
theorem zLq{s:zO}(h:s.kn=0)(i:Nat):zu s i=0:=by
 unfold zu zl;rw[if_neg (by omega)]
theorem zN7{xs xb:Int}{x:Int×Int}:x∈one xs xb↔x=(xs,xb)/\¬Nil xs xb:=by
 unfold one;by_cases h:Nil xs xb
 ·rw[if_pos h];simp[h]
 ·rw[if_neg h];simp[h]
theorem zC1{ks kb:Nat->Int}{x:Int×Int}:∀{k:Nat},x∈kidsUp ks kb k↔∃i,i<k/\x=(ks i,kb i)/\¬Nil (ks i) (kb i)
 | 0=>by simp[kidsUp]
 | k+1=>by
  rw[kidsUp,List.mem_append,zC1,zN7];constructor
  ·rintro(⟨i,hi,h⟩ | h)
   ·exact⟨i,by omega,h⟩
   ·exact⟨k,by omega,h⟩
  ·rintro⟨i,hi,h⟩;by_cases e:i=k
   ·subst e;exact Or.inr h
   ·exact Or.inl ⟨i,by omega,h⟩
theorem zE3{p:zN}{xs xb:Int}{x:Int×Int}:x∈zD0 p xs xb↔¬Nil xs xb/\(x=(xs,xb)\/x∈zK7 (p.s xs.toNat)):=by
 unfold zD0;by_cases h:Nil xs xb
 ·rw[if_pos h];simp[h]
 ·rw[if_neg h];simp[h]
theorem zCg{p:zN}{s:zO}{x:Int×Int}:∀{k:Nat},x∈zAo p s k↔∃i,i<k/\x∈zD0 p (zb s i) (zu s i)
 | 0=>by simp[zAo]
 | k+1=>by
  rw[zAo,List.mem_append,zCg];constructor
  ·rintro(⟨i,hi,h⟩ | h)
   ·exact⟨i,by omega,h⟩
   ·exact⟨k,by omega,h⟩
  ·rintro⟨i,hi,h⟩;by_cases e:i=k
   ·subst e;exact Or.inr h
   ·exact Or.inl ⟨i,by omega,h⟩
theorem zCy(ks kb:Nat->Int):∀k,(kidsUp ks kb k).length<=k
 | 0=>Nat.le_refl _
 | k+1=>by
  have:=zCy ks kb k;unfold kidsUp one;split<;>simp<;>omega
theorem zJ5(p:zN)(xs xb:Int):(zD0 p xs xb).length<=9:=by
 unfold zD0;have:=zCy (zb (p.s xs.toNat)) (zu (p.s xs.toNat)) 8;split
 ·simp
 ·show(zK7 _).length+1<=9;unfold zK7;omega
theorem zDx(p:zN)(s:zO):∀k,(zAo p s k).length<=9*k
 | 0=>Nat.le_refl _
 | k+1=>by
  have:=zDx p s k;have:=zJ5 p (zb s k) (zu s k);unfold zAo;rw[List.length_append];omega
theorem qK(p:zN)(rs rb:Int):(zX p rs rb).length<=73:=by
 unfold zX;have:=zDx p (p.s rs.toNat) 8;split
 ·simp
 ·show(zAo _ _ _).length+1<=73;omega
def zEG(p:zN)(xs xb:Int):Prop:=zx p xs xb/\0<(p.s xs.toNat).kn/\¬Has p.hn p.h xs
def zGI(p:zN)(xs xb:Int):Prop:=zx p xs xb/\(p.s xs.toNat).kn=0/\¬Has p.hn p.h xs
def zOL(p:zN)(s:zO):Prop:=(∀i,i<8->Nil (zb s i) (zu s i)\/zGI p (zb s i) (zu s i))/\∃i,i<8/\¬Nil (zb s i) (zu s i)
def zOM(p:zN)(s:zO)(i:Nat):Prop:=Nil (zb s i) (zu s i)\/(zEG p (zb s i) (zu s i)/\zOL p (p.s (zb s i).toNat))
def zAO(l:List (Int×Int)):List Int:=l.map Prod.fst
def zOt(p:zN)(s:zO):Prop:=(∀i,i<8->zOM p s i)/\∃i,i<8/\¬Nil (zb s i) (zu s i)
def zz(p:zN)(rs rb:Int):Prop:=Nil rs rb\/(zEG p rs rb/\zOt p (p.s rs.toNat)/\(zAO (zX p rs rb)).Nodup)
def zIf(p:zN)(s:zO):Prop:=(∃i,i<8/\¬Nil (zb s i) (zu s i))/\∀i,i<8->Nil (zb s i) (zu s i)\/zF0 (p.s (zb s i).toNat)
def zIe(p:zN)(s:zO):Prop:=(∃i,i<8/\¬Nil (zb s i) (zu s i))/\∀i,i<8->Nil (zb s i) (zu s i)\/zIf p (p.s (zb s i).toNat)
def zMs(p:zN)(l:List (Int×Int)):Prop:=l.Nodup/\∀x,x∈l->¬Has p.hn p.h x.1
def zIi(p:zN)(rs rb:Int):Prop:=Nil rs rb\/(zx p rs rb/\zIe p (p.s rs.toNat)/\zMs p (zX p rs rb))
theorem qp{p:zN}{xs xb:Int}(hR:qB p)(h:zx p xs xb):zDF p (p.s xs.toNat):=by
 obtain⟨h1,h2,h3,h4⟩:=h;rcases hR.2.1 xs.toNat (by omega)with hf | hf
 ·have:=hf.1;omega
 ·exact hf
theorem zDp{p:zN}{s:zO}(h:zDF p s):s.kn=0\/s.kn=8:=by
 rcases h.2 with h | h
 ·exact Or.inl h.1
 ·exact Or.inr h.1
theorem zFZ{p:zN}{xs xb:Int}(hR:qB p)(h:zx p xs xb):(p.s xs.toNat).kn=0\/(p.s xs.toNat).kn=8:=zDp (qp hR h)
theorem zBE{p:zN}{s:zO}(h:zDF p s){i:Nat}(hi:i<8)(hn:¬Nil (zb s i) (zu s i)):zx p (zb s i) (zu s i)/\zu s i<=s.zPI:=by
 rcases h.2 with h2 | h2
 ·exact absurd ⟨zLr h2.1 i,zLq h2.1 i⟩ hn
 ·rw[zCx h2.1 hi,zE0 h2.1 hi]at hn ⊢;rcases h2.2.2 i (by omega)with h3 | h3
  ·exact absurd h3 hn
  ·exact h3
theorem zNa{p:zN}{xs xb:Int}(hR:qB p)(h:zx p xs xb):zF0 (p.s xs.toNat)↔(p.s xs.toNat).kn=0:=by
 have hf:=qp hR h;constructor
 ·exact fun h=>h.2.1
 ·intro h0;rcases hf.2 with h2 | h2
  ·exact⟨hf.1,h2⟩
  ·omega
theorem zKS{s:zO}(h:s.kn=0\/s.kn=8)(he:∃i,i<8/\¬Nil (zb s i) (zu s i)):s.kn=8:=by
 rcases h with h | h
 ·obtain⟨i,_,hi⟩:=he;exact absurd ⟨zLr h i,zLq h i⟩ hi
 ·exact h
theorem zDk{p:zN}{rs rb:Int}(hR:qB p)(h:zx p rs rb):∀x,x∈zX p rs rb->zx p x.1 x.2/\x.2<=rb:=by
 intro x hx;unfold zX at hx;split at hx
 ·simp at hx
 ·rw[List.mem_cons,zCg]at hx;rcases hx with rfl | ⟨i,hi,hx⟩
  ·exact⟨h,by simp⟩
  ·have hf:=qp hR h;have bA:(p.s rs.toNat).zPI=rb:=h.2.2.2;obtain⟨hn,hx⟩:=zE3.1 hx;have hk:=zBE hf hi hn;rcases hx with rfl | hx
   ·exact⟨hk.1,by rw[<-bA];exact hk.2⟩
   ·obtain⟨j,hj,rfl,dA⟩:=zC1.1 hx;have cA:=qp hR hk.1;have aA:=zBE cA hj dA;have e:(p.s (zb (p.s rs.toNat) i).toNat).zPI=zu (p.s rs.toNat) i:=hk.1.2.2.2;have:=hk.2;have:=aA.2;exact⟨aA.1,by show zu _ j<=rb;omega⟩
theorem zFY{p:zN}{l:List (Int×Int)}(h:∀x,x∈l->zx p x.1 x.2):(zAO l).Nodup↔l.Nodup:=by
 unfold zAO List.Nodup;rw[List.pairwise_map];constructor
 ·exact fun hp=>hp.imp (fun aA e=>aA (by rw[e]))
 ·intro hp;refine List.Pairwise.imp_of_mem ?_ hp;intro a b ha hb aA e;apply aA;have h1:=(h a ha).2.2.2;have h2:=(h b hb).2.2.2;rw[e]at h1;obtain⟨a1,a2⟩:=a;obtain⟨b1,b2⟩:=b;simp only[Prod.mk.injEq];exact⟨e,by simp only at h1 h2 e;rw[<-h1,<-h2]⟩
theorem zHG{p:zN}{rs rb:Int}(hR:qB p):zIi p rs rb↔zz p rs rb:=by
 by_cases hz:Nil rs rb
 ·exact⟨fun _=>Or.inl hz,fun _=>Or.inl hz⟩
 have bA:(rs,rb)∈zX p rs rb:=by unfold zX;rw[if_neg hz];simp
 have cA:∀i,i<8->¬Nil (zb (p.s rs.toNat) i) (zu (p.s rs.toNat) i)->(zb (p.s rs.toNat) i,zu (p.s rs.toNat) i)∈zX p rs rb:=fun i hi hn=>by
  unfold zX;rw[if_neg hz,List.mem_cons,zCg];exact Or.inr ⟨i,hi,zE3.2 ⟨hn,Or.inl rfl⟩⟩
 have dA:∀i,i<8->¬Nil (zb (p.s rs.toNat) i) (zu (p.s rs.toNat) i)->∀x,x∈zK7 (p.s (zb (p.s rs.toNat) i).toNat)->x∈zX p rs rb:=fun i hi hn x hx=>by
  unfold zX;rw[if_neg hz,List.mem_cons,zCg];exact Or.inr ⟨i,hi,zE3.2 ⟨hn,Or.inr hx⟩⟩
 constructor
 ·rintro(h | ⟨hP,⟨he,hS⟩,hA⟩)
  ·exact Or.inl h
  ·right;have hf:=qp hR hP;have kA:=zKS (zDp hf) he;refine⟨⟨hP,by omega,hA.2 _ bA⟩,⟨fun i hi=>?_,he⟩,(zFY (fun x hx=>(zDk hR hP x hx).1)).2 hA.1⟩;by_cases hn:Nil (zb (p.s rs.toNat) i) (zu (p.s rs.toNat) i)
   ·exact Or.inl hn
   ·right;have hk:=zBE hf hi hn;have fA:=qp hR hk.1;obtain⟨eA,gA⟩:zIf p (p.s (zb (p.s rs.toNat) i).toNat):=by
     rcases hS i hi with h | h
     ·exact absurd h hn
     ·exact h
    have jA:=zKS (zDp fA) eA;refine⟨⟨hk.1,by omega,hA.2 _ (cA i hi hn)⟩,fun j hj=>?_,eA⟩;by_cases aA:Nil (zb (p.s (zb (p.s rs.toNat) i).toNat) j) (zu (p.s (zb (p.s rs.toNat) i).toNat) j)
    ·exact Or.inl aA
    ·right;have iA:=zBE fA hj aA;refine⟨iA.1,?_,hA.2 _ (dA i hi hn _ (zC1.2 ⟨j,hj,rfl,aA⟩))⟩;rcases gA j hj with h | h
     ·exact absurd h aA
     ·exact h.2.1
 ·rintro(h | ⟨hN,⟨hM,he⟩,hD⟩)
  ·exact Or.inl h
  ·right;have hP:=hN.1;have hf:=qp hR hP;have held:∀x,x∈zX p rs rb->¬Has p.hn p.h x.1:=fun x hx=>by
    unfold zX at hx;rw[if_neg hz,List.mem_cons,zCg]at hx;rcases hx with rfl | ⟨i,hi,hx⟩
    ·exact hN.2.2
    ·obtain⟨hn,hx⟩:=zE3.1 hx;rcases hM i hi with h | ⟨h1,h2⟩
     ·exact absurd h hn
     ·rcases hx with rfl | hx
      ·exact h1.2.2
      ·obtain⟨j,hj,rfl,aA⟩:=zC1.1 hx;rcases h2.1 j hj with h | h
       ·exact absurd h aA
       ·exact h.2.2
   refine⟨hP,⟨he,fun i hi=>?_⟩,(zFY (fun x hx=>(zDk hR hP x hx).1)).1 hD,held⟩;rcases hM i hi with h | ⟨h1,h2,h3⟩
   ·exact Or.inl h
   ·refine Or.inr ⟨h3,fun j hj=>?_⟩;rcases h2 j hj with h | h
    ·exact Or.inl h
    ·exact Or.inr ((zNa hR h.1).2 h.2.1)
theorem zCL(v0 v1:Value)(lo hi:Nat)(p:zN)(xs xb:Int)(w:World)(h1:qS w lo hi v0 v1 p) :
  Calls Tryz.prog 184 #[.agg #[v0,v1],.agg #[.int .i64 xs,.int .i64 xb]] w fun e w'=>zG (zx p xs xb) e/\Below w.heap.size w w':=by
 obtain⟨⟨m1,a,c,rfl,mc,g1⟩,⟨_,a',c',rfl,_⟩⟩:=h1;unfold maxLen at m1;have G1:Hid (0<p.n->∃b off,a=some ⟨b,off,none⟩/\lo<=b/\b<hi/\∀i,i<p.n->∃v0 v1 v2,w.cell? ⟨b,off+i*3,none⟩=some v0/\w.cell? ⟨b,off+i*3+1,none⟩=some v1/\w.cell? ⟨b,off+i*3+2,none⟩=some v2/\qT w lo hi v0 v1 v2 (p.s i)):=g1;clear g1;have bA:=((Below.refl w.heap.size w).alloc (Nat.le_refl _) (.cells #[.slice a p.n c,.slice a' p.hn c'] 33)).alloc (by simp) (.cells #[.int .i64 xs,.int .i64 xb] 61);have aA:Hid (Below w.heap.size w ((w.alloc (.cells #[.slice a p.n c,.slice a' p.hn c'] 33)).alloc (.cells #[.int .i64 xs,.int .i64 xb] 61))):=bA;clear bA;by_cases h1:1<=xb
 ·by_cases h2:0<=xs
  ·by_cases h3:xs<p.n
   ·obtain⟨x,rfl⟩:=Int.eq_ofNat_of_zero_le h2;have cA:x<p.n:=(by omega);obtain⟨b,off,rfl,_,_,k1⟩:=G1.out (by omega);obtain⟨x0,x1,x2,c0,c1,c2,hs⟩:=k1 x cA;obtain⟨rfl,_⟩:=hs;have dA:=zD c0;clear k1 G1 c1 c2;by_cases h4:(p.s x).zPI=xb
    ·have H:Hid (zx p x xb):=⟨h1,h2,h3,by rw[Int.toNat_natCast];exact h4⟩;have e4:((p.s x).zPI == xb)=true:=(by simp[h4]);clear h4;go_enter Tryz.func184,Tryz.ntmps184;go_wp2_with fail
     go_quiet (fail)
     go_wp2;go_ret;exact⟨zG.yes H.out,zh aA.out _⟩
    ·have H:Hid (¬zx p x xb):=fun h=>h4 (by have:=h.2.2.2;rw[Int.toNat_natCast]at this;exact this)
     have e4:((p.s x).zPI == xb)=false:=(by simp[h4]);clear h4;go_enter Tryz.func184,Tryz.ntmps184;go_wp2_with fail
     go_quiet (fail)
     go_wp2;go_ret;exact⟨zG.no H.out,zh aA.out _⟩
   ·have H:Hid (¬zx p xs xb):=fun h=>h3 h.2.2.1
    have e3:decide (xs<(p.n:Int))=false:=(by simpa using h3);go_enter Tryz.func184,Tryz.ntmps184;go_wp2_with fail
    go_quiet (fail)
    go_wp2;go_ret;exact⟨zG.no H.out,zh aA.out _⟩
  ·have H:Hid (¬zx p xs xb):=fun h=>h2 h.2.1
   have e3:decide (0<=xs)=false:=(by simpa using h2);go_enter Tryz.func184,Tryz.ntmps184;go_wp2_with fail
   go_quiet (fail)
   go_wp2;go_ret;exact⟨zG.no H.out,zh aA.out _⟩
 ·have H:Hid (¬zx p xs xb):=fun h=>h1 h.1
  have e3:decide (1<=xb)=false:=(by simpa using h1);go_enter Tryz.func184,Tryz.ntmps184;go_wp2_with fail
  go_quiet (fail)
  go_wp2;go_ret;exact⟨zG.no H.out,zh aA.out _⟩
theorem zp.two(w:World)(v0 v1:Value)(t:TypeId)(o:Obj):zp ((w.alloc (.cells #[v0,v1] t)).alloc o) w.heap.size v0 v1:=(zp.new w v0 v1 t).zO9 (zC _ _)
theorem yX.second(w:World)(v0 v1 v2:Value)(t:TypeId)(o:Obj):yX ((w.alloc o).alloc (.cells #[v0,v1,v2] t)) (w.heap.size+1) v0 v1 v2:=by
 have:=yX.new (w.alloc o) v0 v1 v2 t;rw[World.size_alloc]at this;exact this
theorem zFq(v0 v1 s0 s1 s2:Value)(lo hi eB bB:Nat)(p:zN)(s:zO)(w:World)(h1:qS w lo hi v0 v1 p)(h2:qT w eB bB s0 s1 s2 s) :
  Calls Tryz.prog 136 #[.agg #[v0,v1],.agg #[s0,s1,s2]] w fun e w'=>zG (zDF p s) e/\Below w.heap.size w w':=by
 have Hp:Hid (qS w lo hi v0 v1 p):=h1;obtain⟨⟨m1,a,c,rfl,_⟩,⟨_,a',c',rfl,_⟩⟩:=h1;obtain⟨rfl,hk,rfl,m3⟩:=h2;obtain⟨m2,ka,kc,rfl,pB,g1⟩:=hk;have G1:Hid (0<s.kn->∃b off,ka=some ⟨b,off,none⟩/\eB<=b/\b<bB/\∀i,i<s.kn->w.cell? ⟨b,off+i*2,none⟩=some (.int .i64 (s.ks i))/\w.cell? ⟨b,off+i*2+1,none⟩=some (.int .i64 (s.kb i))):=g1;clear g1;unfold maxLen at m1 m2 m3;have aB:=((Below.refl w.heap.size w).alloc (Nat.le_refl _) (.cells #[.slice a p.n c,.slice a' p.hn c'] 33)).alloc (by simp) (.cells #[.int .i64 s.zPI,.slice ka s.kn kc,.string s.data] 127);have eA:Hid (Below w.heap.size w ((w.alloc (.cells #[.slice a p.n c,.slice a' p.hn c'] 33)).alloc (.cells #[.int .i64 s.zPI,.slice ka s.kn kc,.string s.data] 127))):=aB;clear aB;by_cases hB:yI s.zPI
 ·by_cases dA:s.kn=0
  ·have e2:((s.kn:Int) == 0)=true:=(by simp[dA]);by_cases hd:s.data.size=16
   ·have H:Hid (zDF p s):=⟨hB,Or.inl ⟨dA,hd⟩⟩;have HB:Hid (yI s.zPI):=hB;have e3:((s.data.size:Int) == 16)=true:=(by simp[hd]);clear dA hd hB;go_enter Tryz.func136,Tryz.ntmps136;go_wp2_with (go_at_call 145;refine(yg _ _).mono ?_;rintro e w' ⟨⟨t,rfl,ht⟩,rfl⟩;obtain rfl:t=true:=ht.2 HB.out;clear ht);go_ret;exact⟨zG.yes H.out,eA.out⟩
   ·have H:Hid (¬zDF p s):=fun h=>by
     rcases h.2 with h | h
     ·exact hd h.2
     ·omega
    have HB:Hid (yI s.zPI):=hB;have e3:((s.data.size:Int) == 16)=false:=(by simp;omega);clear dA hd hB;go_enter Tryz.func136,Tryz.ntmps136;go_wp2_with (go_at_call 145;refine(yg _ _).mono ?_;rintro e w' ⟨⟨t,rfl,ht⟩,rfl⟩;obtain rfl:t=true:=ht.2 HB.out;clear ht);go_ret;exact⟨zG.no H.out,eA.out⟩
  ·have e2:((s.kn:Int) == 0)=false:=(by simp;omega);by_cases kA:s.kn=8
   ·by_cases hd:s.data.toList.isEmpty=true
    ·have HB:Hid (yI s.zPI):=hB;have e3:((s.kn:Int) != 8)=false:=(by simp;omega);have H8:Hid (s.kn=8):=kA;have kB:(s.kn:Int)<=8:=(by omega);clear kA hB dA;have HD:Hid (s.data.toList.isEmpty=true):=hd;go_enter Tryz.func136,Tryz.ntmps136;go_wp2_with (go_at_call 145;refine(yg _ _).mono ?_;rintro e w' ⟨⟨t,rfl,ht⟩,rfl⟩;obtain rfl:t=true:=ht.2 HB.out;clear ht)
     go_loopw [5] (fun i wr=>∃k:Nat,k<=s.kn/\i = .int .i64 k/\(∀j,j<k->zHt p s.zPI (s.ks j) (s.kb j))/\zp wr w.heap.size (.slice a p.n c) (.slice a' p.hn c')/\yX wr (w.heap.size+1) (.int .i64 s.zPI) (.slice ka s.kn kc) (.string s.data)/\Below w.heap.size w wr) (fun i _=>s.kn - (intOf i).toNat)
     case atStart=>exact⟨0,Nat.zero_le _,rfl,fun j hj=>absurd hj (Nat.not_lt_zero _),zp.two _ _ _ _ _,yX.second _ _ _ _ _ _,eA.out⟩
     case round=>
      obtain⟨k,hk,rfl,gA,cB,dB,hb⟩:=hrel;have cA:Hid (∀j,j<k->zHt p s.zPI (s.ks j) (s.kb j)):=gA;have mA:Hid (zp wr w.heap.size (.slice a p.n c) (.slice a' p.hn c')):=cB;have nA:Hid (yX wr (w.heap.size+1) (.int .i64 s.zPI) (.slice ka s.kn kc) (.string s.data)):=dB;clear gA cB dB;have nB:w.heap.size<wr.heap.size:=mA.out.1.lt;have oB:w.heap.size+1<wr.heap.size:=nA.out.1.lt;obtain⟨⟨y0,y1⟩,⟨y2,y3⟩⟩:=mA.out;obtain⟨⟨z0,z1⟩,⟨z2,z3⟩,⟨z4,z5⟩⟩:=nA.out;by_cases bA:k<s.kn
      ·have lB:(k:Int)<(s.kn:Int):=(by omega);obtain⟨b,off,rfl,_,_,k1⟩:=G1.out (by omega);have iB:=(hb.cell (zD (k1 k bA).1)).trans (k1 k bA).1;have jB:=(hb.cell (zD (k1 k bA).2)).trans (k1 k bA).2;clear k1 G1;go_wp2_with fail;have oA:=zC wr (.cells #[.int .i64 (s.ks k),.int .i64 (s.kb k)] 61);refine(zAN _ _ _).mono ?_;rintro e w1 ⟨⟨t,rfl,ht⟩,iA⟩;have lA:Hid (zp w1 w.heap.size (.slice a p.n c) (.slice a' p.hn c')):=(mA.out.zO9 oA).zO9 iA;have rA:Hid (yX w1 (w.heap.size+1) (.int .i64 s.zPI) (.slice (some ⟨b,off,none⟩) s.kn kc) (.string s.data)):=(nA.out.zO9 oA).zO9 iA;have sA:Hid (zp w1 wr.heap.size (.int .i64 (s.ks k)) (.int .i64 (s.kb k))):=(zp.new wr _ _ _).zO9 iA;have pA:Below w.heap.size w w1:=zA (zA hb oA) iA;clear oA iA y0 y1 y2 y3 z0 z1 z2 z3 z4 z5 iB jB mA nA;by_cases aA:zBd (s.ks k) (s.kb k) 0 0
       ·obtain rfl:t=true:=ht.2 aA;have HK:Hid (zHt p s.zPI (s.ks k) (s.kb k)):=Or.inl aA;clear ht aA;go_wp2;go_roundw
        case rel=>exact⟨k+1,by omega,by go_num,zr bA cA.out HK.out,lA.out,rA.out,pA⟩
        case measure=>simp[intOf];omega
       ·obtain rfl:t=false:=Bool.eq_false_iff.2 (fun h=>aA (ht.1 h));have HN:Hid (¬zBd (s.ks k) (s.kb k) 0 0):=aA;clear ht aA;obtain⟨⟨y0,y1⟩,⟨y2,y3⟩⟩:=lA.out;obtain⟨⟨q0,q1⟩,⟨q2,q3⟩⟩:=sA.out;go_wp2_with fail;refine(zCL _ _ lo hi p _ _ _ (Hp.out.zO9 pA)).mono ?_;rintro e w2 ⟨⟨t,rfl,ht⟩,jA⟩;have fB:Hid (zp w2 w.heap.size (.slice a p.n c) (.slice a' p.hn c')):=lA.out.zO9 jA;have vA:Hid (yX w2 (w.heap.size+1) (.int .i64 s.zPI) (.slice (some ⟨b,off,none⟩) s.kn kc) (.string s.data)):=rA.out.zO9 jA;have gB:Hid (zp w2 wr.heap.size (.int .i64 (s.ks k)) (.int .i64 (s.kb k))):=sA.out.zO9 jA;have tA:Below w.heap.size w w2:=zA pA jA;clear jA pA y0 y1 y2 y3 q0 q1 q2 q3 lA rA sA;by_cases fA:zx p (s.ks k) (s.kb k)
        ·obtain rfl:t=true:=ht.2 fA;have HP:Hid (zx p (s.ks k) (s.kb k)):=fA;clear ht fA;obtain⟨⟨q0,q1⟩,⟨q2,q3⟩⟩:=gB.out;obtain⟨⟨z0,z1⟩,⟨z2,z3⟩,⟨z4,z5⟩⟩:=vA.out;by_cases mB:s.zPI<s.kb k
         ·go_wp2;go_ret;refine⟨zG.no fun h=>?_,tA⟩;rcases h.2 with h | h
          ·omega
          ·rcases h.2.2 k bA with h | h
           ·exact HN.out h
           ·have:=h.2;omega
         ·have HK:Hid (zHt p s.zPI (s.ks k) (s.kb k)):=Or.inr ⟨HP.out,by omega⟩;go_wp2;go_roundw
          case rel=>exact⟨k+1,by omega,by go_num,zr bA cA.out HK.out,fB.out,vA.out,tA⟩
          case measure=>simp[intOf];omega
        ·obtain rfl:t=false:=Bool.eq_false_iff.2 (fun h=>fA (ht.1 h));have HP:Hid (¬zx p (s.ks k) (s.kb k)):=fA;clear ht fA;go_wp2;go_ret;refine⟨zG.no fun h=>?_,tA⟩;rcases h.2 with h | h
         ·omega
         ·rcases h.2.2 k bA with h | h
          ·exact HN.out h
          ·exact HP.out h.1
      ·go_wp2;go_ret;exact⟨zG.yes ⟨HB.out,Or.inr ⟨H8.out,HD.out,fun i hi=>cA.out i (by omega)⟩⟩,hb⟩
    ·have H:Hid (¬zDF p s):=fun h=>by
      rcases h.2 with h | h
      ·omega
      ·exact hd h.2.1
     have HB:Hid (yI s.zPI):=hB;have e3:((s.kn:Int) != 8)=false:=(by simp;omega);have e4:s.data.toList.isEmpty=false:=(by simpa using hd);clear kA hB dA hd;go_enter Tryz.func136,Tryz.ntmps136;go_wp2_with (go_at_call 145;refine(yg _ _).mono ?_;rintro e w' ⟨⟨t,rfl,ht⟩,rfl⟩;obtain rfl:t=true:=ht.2 HB.out;clear ht);go_ret;exact⟨zG.no H.out,eA.out⟩
   ·have H:Hid (¬zDF p s):=fun h=>by
     rcases h.2 with h | h
     ·omega
     ·exact kA h.1
    have HB:Hid (yI s.zPI):=hB;have e3:((s.kn:Int) != 8)=true:=(by simp;omega);clear kA hB dA;go_enter Tryz.func136,Tryz.ntmps136;go_wp2_with (go_at_call 145;refine(yg _ _).mono ?_;rintro e w' ⟨⟨t,rfl,ht⟩,rfl⟩;obtain rfl:t=true:=ht.2 HB.out;clear ht);go_ret;exact⟨zG.no H.out,eA.out⟩
 ·have HB:Hid (¬yI s.zPI):=hB;clear hB;go_enter Tryz.func136,Tryz.ntmps136;go_wp2_with (go_at_call 145;refine(yg _ _).mono ?_;rintro e w' ⟨⟨t,rfl,ht⟩,rfl⟩;obtain rfl:t=false:=Bool.eq_false_iff.2 (fun h=>HB.out (ht.1 h));clear ht);go_ret;exact⟨zG.no fun h=>HB.out h.1,eA.out⟩
theorem zFD(v0 v1:Value)(lo hi:Nat)(p:zN)(w:World)(h1:qS w lo hi v0 v1 p) :
  Calls Tryz.prog 68 #[.agg #[v0,v1]] w fun e w'=>zG (qB p) e/\Below w.heap.size w w':=by
 have Hp:Hid (qS w lo hi v0 v1 p):=h1;obtain⟨⟨m1,a,c,rfl,mc,g1⟩,⟨m2,a',c',rfl,sB,g2⟩⟩:=h1;unfold maxLen at m1 m2;clear g1 g2;have iB:Hid (Below w.heap.size w (w.alloc (.cells #[.slice a p.n c,.slice a' p.hn c'] 33))):=zC _ _;by_cases hn:(200:Int)<p.n
 ·have H:Hid (¬qB p):=fun h=>by have:=h.1;omega
  go_enter Tryz.func68,Tryz.ntmps68;go_wp2;go_ret;exact⟨zG.no H.out,iB.out⟩
 ·go_enter Tryz.func68,Tryz.ntmps68;go_wp2
  go_loopw [3] (fun i wr=>∃k:Nat,k<=p.n/\i = .int .i64 k/\(∀j,j<k->ql (p.s j)\/zDF p (p.s j))/\zp wr w.heap.size (.slice a p.n c) (.slice a' p.hn c')/\Below w.heap.size w wr) (fun i _=>p.n - (intOf i).toNat)
  case atStart=>exact⟨0,Nat.zero_le _,rfl,fun j hj=>absurd hj (Nat.not_lt_zero _),zp.new _ _ _ _,iB.out⟩
  case round=>
   obtain⟨k,hk,rfl,eA,hx,hb⟩:=hrel;have dA:Hid (∀j,j<k->ql (p.s j)\/zDF p (p.s j)):=eA;have Hx:Hid (zp wr w.heap.size (.slice a p.n c) (.slice a' p.hn c')):=hx;clear eA hx;obtain⟨⟨y0,y1⟩,⟨y2,y3⟩⟩:=Hx.out;by_cases fA:k<p.n
   ·have fB:(k:Int)<(p.n:Int):=(by omega);obtain⟨b,off,ka,kc,rfl,hs⟩:=(Hp.out.1.zO9 hb).cells fA;have Hs:Hid (zAU wr b (off+k*3) lo hi ka kc (p.s k)):=hs;obtain⟨q0,q1,q2,_⟩:=hs;by_cases hf:ql (p.s k)
    ·have HF:Hid (ql (p.s k)):=hf;clear hf;go_wp2_with fail
     first
      | (go_region_with (first | (go_at_call 74;refine(yv _ _ _ lo hi (p.s k) _ ?_).mono ?_;(exact Hs.out.slot.zO9 ((Below.refl _ _).drew));rintro e w1 ⟨⟨t,rfl,hx⟩,cA⟩;obtain rfl:t=true:=hx.2 HF.out;clear hx;have bA:=zI cA;have tA:=(Hx.out.zO9 bA).1.1;have vA:=(Hx.out.zO9 bA).2.1;have aB:=(Hs.out.zO9 bA).c0;have bB:=(Hs.out.zO9 bA).c1;have cB:=(Hs.out.zO9 bA).c2)))
      | fail
     all_goals
      have gA:=zA hb bA;have HX:Hid (zp w1 w.heap.size (.slice (some ⟨b,off,none⟩) p.n c) (.slice a' p.hn c')):=Hx.out.zO9 bA;clear cA bA tA vA aB bB cB q0 q1 q2 y0 y1 y2 y3 Hs Hx;go_wp2;go_roundw
      case rel=>exact⟨k+1,by omega,by go_num,zr fA dA.out (Or.inl HF.out),HX.out,gA⟩
      case measure=>simp[intOf];omega
    ·have HF:Hid (¬ql (p.s k)):=hf;clear hf;by_cases dB:zDF p (p.s k)
     ·have HT:Hid (zDF p (p.s k)):=dB;clear dB;go_wp2_with fail;go_region_held3 (fun w'=>w'.cell? ⟨w.heap.size,0,none⟩=some (.slice (some ⟨b,off,none⟩) p.n c)/\w'.cell? ⟨w.heap.size,1,none⟩=some (.slice a' p.hn c')/\w'.cell? ⟨b,off+k*3,none⟩=some (.int .i64 (p.s k).zPI)/\w'.cell? ⟨b,off+k*3+1,none⟩=some (.slice ka (p.s k).kn kc)/\w'.cell? ⟨b,off+k*3+2,none⟩=some (.string (p.s k).data)) (go_keep)
       (first
        | (go_at_call 74;refine(yv _ _ _ lo hi (p.s k) _ ?_).mono ?_;(exact Hs.out.slot.zO9 ((Below.refl _ _).drew));rintro e w1 ⟨⟨t,rfl,hx⟩,cA⟩;obtain rfl:t=false:=zW hx HF.out;clear hx;have bA:=zI cA;have tA:=(Hx.out.zO9 bA).1.1;have vA:=(Hx.out.zO9 bA).2.1;have aB:=(Hs.out.zO9 bA).c0;have bB:=(Hs.out.zO9 bA).c1;have cB:=(Hs.out.zO9 bA).c2)
        | (go_at_call 136;refine(zFq _ _ _ _ _ lo hi lo hi p (p.s k) _ ?_ ?_).mono ?_;(exact Hp.out.zO9 (zA hb bA));(exact Hs.out.slot.zO9 bA);rintro e w2 ⟨⟨t2,rfl,iA⟩,pA⟩;obtain rfl:t2=true:=iA.2 HT.out;clear iA;have aA:=zA bA pA;have jA:=(Hx.out.zO9 aA).1.1;have kA:=(Hx.out.zO9 aA).2.1;have lA:=(Hs.out.zO9 aA).c0;have mA:=(Hs.out.zO9 aA).c1;have nA:=(Hs.out.zO9 aA).c2))
      have gA:=zA hb aA;have HX:Hid (zp w2 w.heap.size (.slice (some ⟨b,off,none⟩) p.n c) (.slice a' p.hn c')):=Hx.out.zO9 aA;clear cA bA tA vA aB bB cB q0 q1 q2 y0 y1 y2 y3 Hs Hx jA kA lA mA nA pA aA;go_wp2;go_roundw
      case rel=>exact⟨k+1,by omega,by go_num,zr fA dA.out (Or.inr HT.out),HX.out,gA⟩
      case measure=>simp[intOf];omega
     ·have HT:Hid (¬zDF p (p.s k)):=dB;clear dB;go_wp2_with fail;go_region_held3 (fun w'=>w'.cell? ⟨w.heap.size,0,none⟩=some (.slice (some ⟨b,off,none⟩) p.n c)/\w'.cell? ⟨w.heap.size,1,none⟩=some (.slice a' p.hn c')/\w'.cell? ⟨b,off+k*3,none⟩=some (.int .i64 (p.s k).zPI)/\w'.cell? ⟨b,off+k*3+1,none⟩=some (.slice ka (p.s k).kn kc)/\w'.cell? ⟨b,off+k*3+2,none⟩=some (.string (p.s k).data)) (go_keep)
       (first
        | (go_at_call 74;refine(yv _ _ _ lo hi (p.s k) _ ?_).mono ?_;(exact Hs.out.slot.zO9 ((Below.refl _ _).drew));rintro e w1 ⟨⟨t,rfl,hx⟩,cA⟩;obtain rfl:t=false:=zW hx HF.out;clear hx;have bA:=zI cA;have tA:=(Hx.out.zO9 bA).1.1;have vA:=(Hx.out.zO9 bA).2.1;have aB:=(Hs.out.zO9 bA).c0;have bB:=(Hs.out.zO9 bA).c1;have cB:=(Hs.out.zO9 bA).c2)
        | (go_at_call 136;refine(zFq _ _ _ _ _ lo hi lo hi p (p.s k) _ ?_ ?_).mono ?_;(exact Hp.out.zO9 (zA hb bA));(exact Hs.out.slot.zO9 bA);rintro e w2 ⟨⟨t2,rfl,iA⟩,pA⟩;obtain rfl:t2=false:=zW iA HT.out;clear iA;have aA:=zA bA pA;have jA:=(Hx.out.zO9 aA).1.1;have kA:=(Hx.out.zO9 aA).2.1;have lA:=(Hs.out.zO9 aA).c0;have mA:=(Hs.out.zO9 aA).c1;have nA:=(Hs.out.zO9 aA).c2))
      have gA:=zA hb aA;clear cA bA tA vA aB bB cB q0 q1 q2 y0 y1 y2 y3 Hs Hx jA kA lA mA nA pA aA;go_wp2;go_ret;refine⟨zG.no fun h=>?_,gA⟩;rcases h.2.1 k fA with h | h
      ·exact HF.out h
      ·exact HT.out h
   ·obtain rfl:k=p.n:=(by omega);have nB:p.n<=200:=(by omega);have HX:Hid (zp wr w.heap.size (.slice a p.n c) (.slice a' p.hn c')):=Hx.out;have HB:Hid (Below w.heap.size w wr):=hb;have HA:Hid (∀j,j<p.n->ql (p.s j)\/zDF p (p.s j)):=dA.out;clear Hx hb dA;go_wp2;obtain⟨wo,kB⟩:∃wo:World,wo=wr:=⟨_,rfl⟩;rw[<-kB]at HX HB ⊢;clear kB y0 y1 y2 y3
    go_loopw [4] (fun i wr=>∃k:Nat,k<=p.hn/\i = .int .i64 k/\(∀j,j<k->zIb p j)/\zp wr w.heap.size (.slice a p.n c) (.slice a' p.hn c')/\Below w.heap.size w wr) (fun i _=>p.hn - (intOf i).toNat)
    case atStart=>exact⟨0,Nat.zero_le _,rfl,fun j hj=>absurd hj (Nat.not_lt_zero _),HX.out,HB.out⟩
    case round=>
     obtain⟨k,hk,rfl,eA,hx,hb⟩:=hrel;have dA:Hid (∀j,j<k->zIb p j):=eA;have Hx:Hid (zp wr w.heap.size (.slice a p.n c) (.slice a' p.hn c')):=hx;clear eA hx;obtain⟨⟨y0,y1⟩,⟨y2,y3⟩⟩:=Hx.out;by_cases fA:k<p.hn
     ·have fB:(k:Int)<(p.hn:Int):=(by omega);have rA:=Hp.out.2.zO9 hb;have eB:Hid (qs wr lo hi (.slice a' p.hn c') p.hn p.h):=rA;obtain⟨_,a2,lB,jB,_,iA⟩:=rA;simp only[Value.slice.injEq,true_and]at jB;obtain⟨rfl,rfl⟩:=jB;obtain⟨b,off,rfl,_,_,k1⟩:=iA (by omega);have mB:=k1 k fA;clear k1 iA;by_cases h1:p.h k<0
      ·go_wp2;go_ret;exact⟨zG.no fun h=>by have:=(h.2.2 k fA).1;omega,hb⟩
      ·by_cases h2:(p.n:Int)<=p.h k
       ·go_wp2;go_ret;exact⟨zG.no fun h=>by have:=(h.2.2 k fA).2.1;omega,hb⟩
       ·obtain⟨x,hx⟩:=Int.eq_ofNat_of_zero_le (show 0<=p.h k by omega);rw[hx]at mB h1 h2;have oA:Hid (p.h k=x):=hx;have pB:x<p.n:=(by omega);have oB:(x:Int)<(p.n:Int):=(by omega);clear hx;obtain⟨bs,sA,ka,kc,rfl,hs⟩:=(Hp.out.1.zO9 hb).cells pB;have Hs:Hid (zAU wr bs (sA+x*3) lo hi ka kc (p.s x)):=hs;obtain⟨q0,q1,q2,_⟩:=hs;by_cases hf:ql (p.s x)
        ·have HF:Hid (ql (p.s x)):=hf;clear hf;go_wp2_with fail;refine(yv _ _ _ lo hi (p.s x) _ Hs.out.slot).mono ?_;rintro e w1 ⟨⟨t,rfl,hx⟩,cA⟩;obtain rfl:t=true:=hx.2 HF.out;clear hx;have gA:=zA hb cA;clear cA q0 q1 q2 y0 y1 y2 y3;go_wp2;go_ret;refine⟨zG.no fun h=>?_,gA⟩;have:=(h.2.2 k fA).2.2.1;rw[oA.out,Int.toNat_natCast]at this;exact this HF.out
        ·have HF:Hid (¬ql (p.s x)):=hf;clear hf;go_wp2_with fail;refine(yv _ _ _ lo hi (p.s x) _ Hs.out.slot).mono ?_;rintro e w1 ⟨⟨t,rfl,hx⟩,cA⟩;obtain rfl:t=false:=zW hx HF.out;clear hx;have gA:=zA hb cA;have gB:Hid (zp w1 w.heap.size (.slice (some ⟨bs,sA,none⟩) p.n c) (.slice (some ⟨b,off,none⟩) p.hn c')):=Hx.out.zO9 cA;have HI:Hid (qs w1 lo hi (.slice (some ⟨b,off,none⟩) k c') k p.h):=(eB.out.zO9 cA).take (by omega) (by omega);clear cA q0 q1 q2 y0 y1 y2 y3;obtain⟨⟨y0,y1⟩,⟨y2,y3⟩⟩:=gB.out;have rB:k<=c':=(by omega);go_wp2_with fail;refine(zAA _ k lo hi p.h _ _ HI.out).mono ?_;rintro e w2 ⟨⟨t,rfl,hx⟩,rfl⟩;clear y0 y1 y2 y3;by_cases hh:Has k p.h (x:Int)
         ·obtain rfl:t=true:=hx.2 hh;have HH:Hid (Has k p.h (x:Int)):=hh;clear hx hh;go_wp2;go_ret;refine⟨zG.no fun h=>?_,gA⟩;have:=(h.2.2 k fA).2.2.2;rw[oA.out]at this;exact this HH.out
         ·obtain rfl:t=false:=zW hx hh;have HH:Hid (zIb p k):=by
           refine⟨by rw[oA.out];exact Int.natCast_nonneg _,by rw[oA.out];exact oB,by rw[oA.out,Int.toNat_natCast];exact HF.out,by rw[oA.out];exact hh⟩
          clear hx hh;go_wp2;go_roundw
          case rel=>exact⟨k+1,by omega,by go_num,zr fA dA.out HH.out,gB.out,gA⟩
          case measure=>simp[intOf];omega
     ·obtain rfl:k=p.hn:=(by omega);go_wp2;go_ret;exact⟨zG.yes ⟨nB,HA.out,dA.out⟩,hb⟩
theorem zL{P:Prop}(h:P):Hid P:=h
theorem zFE(w:World)(a0 a1 x0 x1:Value)(t1 t2:TypeId) :
  zp ((w.alloc (.cells #[a0,a1] t1)).alloc (.cells #[x0,x1] t2)) w.heap.size a0 a1/\zp ((w.alloc (.cells #[a0,a1] t1)).alloc (.cells #[x0,x1] t2)) (w.heap.size+1) x0 x1/\
  Below w.heap.size w ((w.alloc (.cells #[a0,a1] t1)).alloc (.cells #[x0,x1] t2))/\((w.alloc (.cells #[a0,a1] t1)).alloc (.cells #[x0,x1] t2)).heap.size=w.heap.size+2:=by
 refine⟨(zp.new w a0 a1 t1).zO9 (zC _ _),?_,zA (zC _ _) (zC _ _),by simp⟩;have:=zp.new (w.alloc (.cells #[a0,a1] t1)) x0 x1 t2;rw[World.size_alloc]at this;exact this
theorem zCC(v0 v1:Value)(lo hi:Nat)(p:zN)(xs xb:Int)(w:World)(h1:qS w lo hi v0 v1 p) :
  Calls Tryz.prog 139 #[.agg #[v0,v1],.agg #[.int .i64 xs,.int .i64 xb]] w fun e w'=>zG (zEG p xs xb) e/\Below w.heap.size w w':=by
 have Hp:=zL h1;obtain⟨a,c,a',c',rfl,rfl⟩:∃a c a' c',v0 = .slice a p.n c/\v1 = .slice a' p.hn c':=by
  obtain⟨⟨_,a,c,h1,_⟩,⟨_,a',c',h3,_⟩⟩:=h1;exact⟨a,c,a',c',h1,h3⟩
 clear h1;have gA:=zFE w (.slice a p.n c) (.slice a' p.hn c') (.int .i64 xs) (.int .i64 xb) 33 61;go_enter Tryz.func139,Tryz.ntmps139;go_wp2_with fail;generalize (w.alloc (.cells #[.slice a p.n c,.slice a' p.hn c'] 33)).alloc (.cells #[.int .i64 xs,.int .i64 xb] 61)=W at gA ⊢;obtain⟨hB,hX,fA,hz⟩:=gA;refine(zCL _ _ lo hi p xs xb _ (Hp.out.zO9 fA)).mono ?_;rintro e w1 ⟨⟨t,rfl,ht⟩,dA⟩;have jA:=zL (hB.zO9 dA);have kA:=zL (hX.zO9 dA);have bA:=zA fA dA;clear hB hX fA dA;by_cases aA:zx p xs xb
 ·obtain rfl:t=true:=ht.2 aA;have eA:=zL aA;obtain⟨k,rfl⟩:=Int.eq_ofNat_of_zero_le aA.2.1;have hk:k<p.n:=(by have:=aA.2.2.1;omega);have lA:(k:Int)<(p.n:Int):=(by omega);clear ht aA;obtain⟨b,off,ka,kc,rfl,hs⟩:=(Hp.out.1.zO9 bA).cells hk;obtain⟨q0,q1,q2,_⟩:=hs;obtain⟨⟨x0,x1⟩,⟨x2,x3⟩⟩:=jA.out;obtain⟨⟨y0,y1⟩,⟨y2,y3⟩⟩:=kA.out;by_cases cA:0<(p.s k).kn
  ·have HK:=zL cA;have f1:(0:Int)<((p.s k).kn:Int):=by first | omega | simp[cA]
   clear cA;go_wp2_with fail;refine(zAA _ p.hn lo hi p.h _ _ (Hp.out.2.zO9 bA)).mono ?_;rintro e w2 ⟨⟨t2,rfl,iA⟩,rfl⟩;have HT:=zL iA;clear iA x0 x1 x2 x3 y0 y1 y2 y3 q0 q1 q2;go_wp2;go_ret;refine⟨?_,bA⟩;by_cases hh:Has p.hn p.h (k:Int)
   ·obtain rfl:t2=true:=HT.out.2 hh;exact zG.no fun h=>h.2.2 hh
   ·obtain rfl:t2=false:=zW HT.out hh;refine zG.yes ⟨eA.out,?_,hh⟩;rw[Int.toNat_natCast];exact HK.out
  ·have HK:=zL cA;have f1:¬(0:Int)<((p.s k).kn:Int):=by first | omega | (simp;omega)
   clear cA;go_wp2;go_ret;refine⟨zG.no fun h=>?_,bA⟩;have:=h.2.1;rw[Int.toNat_natCast]at this;exact HK.out this
 ·obtain rfl:t=false:=zW ht aA;have eA:=zL aA;clear ht aA;go_wp2;go_ret;exact⟨zG.no fun h=>eA.out h.1,bA⟩
theorem zDV(v0 v1:Value)(lo hi:Nat)(p:zN)(xs xb:Int)(w:World)(h1:qS w lo hi v0 v1 p) :
  Calls Tryz.prog 140 #[.agg #[v0,v1],.agg #[.int .i64 xs,.int .i64 xb]] w fun e w'=>zG (zGI p xs xb) e/\Below w.heap.size w w':=by
 have Hp:=zL h1;obtain⟨a,c,a',c',rfl,rfl⟩:∃a c a' c',v0 = .slice a p.n c/\v1 = .slice a' p.hn c':=by
  obtain⟨⟨_,a,c,h1,_⟩,⟨_,a',c',h3,_⟩⟩:=h1;exact⟨a,c,a',c',h1,h3⟩
 clear h1;have gA:=zFE w (.slice a p.n c) (.slice a' p.hn c') (.int .i64 xs) (.int .i64 xb) 33 61;go_enter Tryz.func140,Tryz.ntmps140;go_wp2_with fail;generalize (w.alloc (.cells #[.slice a p.n c,.slice a' p.hn c'] 33)).alloc (.cells #[.int .i64 xs,.int .i64 xb] 61)=W at gA ⊢;obtain⟨hB,hX,fA,hz⟩:=gA;refine(zCL _ _ lo hi p xs xb _ (Hp.out.zO9 fA)).mono ?_;rintro e w1 ⟨⟨t,rfl,ht⟩,dA⟩;have jA:=zL (hB.zO9 dA);have kA:=zL (hX.zO9 dA);have bA:=zA fA dA;clear hB hX fA dA;by_cases aA:zx p xs xb
 ·obtain rfl:t=true:=ht.2 aA;have eA:=zL aA;obtain⟨k,rfl⟩:=Int.eq_ofNat_of_zero_le aA.2.1;have hk:k<p.n:=(by have:=aA.2.2.1;omega);have lA:(k:Int)<(p.n:Int):=(by omega);clear ht aA;obtain⟨b,off,ka,kc,rfl,hs⟩:=(Hp.out.1.zO9 bA).cells hk;obtain⟨q0,q1,q2,_⟩:=hs;obtain⟨⟨x0,x1⟩,⟨x2,x3⟩⟩:=jA.out;obtain⟨⟨y0,y1⟩,⟨y2,y3⟩⟩:=kA.out;by_cases cA:(p.s k).kn=0
  ·have HK:=zL cA;have f1:(((p.s k).kn:Int) == 0)=true:=by first | omega | simp[cA]
   clear cA;go_wp2_with fail;refine(zAA _ p.hn lo hi p.h _ _ (Hp.out.2.zO9 bA)).mono ?_;rintro e w2 ⟨⟨t2,rfl,iA⟩,rfl⟩;have HT:=zL iA;clear iA x0 x1 x2 x3 y0 y1 y2 y3 q0 q1 q2;go_wp2;go_ret;refine⟨?_,bA⟩;by_cases hh:Has p.hn p.h (k:Int)
   ·obtain rfl:t2=true:=HT.out.2 hh;exact zG.no fun h=>h.2.2 hh
   ·obtain rfl:t2=false:=zW HT.out hh;refine zG.yes ⟨eA.out,?_,hh⟩;rw[Int.toNat_natCast];exact HK.out
  ·have HK:=zL cA;have f1:(((p.s k).kn:Int) == 0)=false:=by first | omega | (simp;omega)
   clear cA;go_wp2;go_ret;refine⟨zG.no fun h=>?_,bA⟩;have:=h.2.1;rw[Int.toNat_natCast]at this;exact HK.out this
 ·obtain rfl:t=false:=zW ht aA;have eA:=zL aA;clear ht aA;go_wp2;go_ret;exact⟨zG.no fun h=>eA.out h.1,bA⟩
end Go.Proofs.YtmgeglgboadfiaaGreatDoor
