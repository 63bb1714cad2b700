/- A part of the proof. -/
import Derived.Test.YtginldeebkfbgaaGreatF9
import Derived.Deep.OwnRows
set_option linter.unusedVariables false
set_option maxRecDepth 20000
set_option maxHeartbeats 4000000
namespace Go.Proofs.YtginldeebkfbgaaGreat
open Go.RowKit
def zJI(n:Nat)(f:Nat->zN)(s:zN):Prop:=∀i,i<8->zCJ n f s.birth (s.ks i) (s.kb i) (s.ks i) (s.kb i)
theorem zDO.uniq{n:Nat}{f:Nat->zN}{x ps pb bA aA:Int}(h:zDO n f x ps pb)(h':zDO n f x bA aA):ps=bA/\pb=aA:=by
 rcases h with⟨a,b,c,rfl,rfl⟩ | ⟨a,rfl,rfl⟩<;>rcases h' with⟨a',b',c',rfl,rfl⟩ | ⟨a',rfl,rfl⟩
 ·exact⟨rfl,rfl⟩
 ·exact absurd ⟨a,b,c⟩ a'
 ·exact absurd ⟨a',b',c'⟩ a
 ·exact⟨rfl,rfl⟩
theorem zCJ.uniq{n:Nat}{f:Nat->zN}{b ks kb rs rb bA aA:Int}(h:zCJ n f b ks kb rs rb)(h':zCJ n f b ks kb bA aA):rs=bA/\rb=aA:=by
 obtain⟨ps,pb,hp,h⟩:=h;obtain⟨eA,dA,cA,h'⟩:=h';obtain⟨rfl,rfl⟩:=hp.uniq cA;rcases h with⟨a,rfl,rfl⟩ | ⟨a,rfl,rfl⟩<;>rcases h' with⟨a',rfl,rfl⟩ | ⟨a',rfl,rfl⟩
 ·exact⟨rfl,rfl⟩
 ·exact absurd a a'
 ·exact absurd a' a
 ·exact⟨rfl,rfl⟩
theorem zUS(g:Nat->Int)(k:Nat)(hk:k<8)(x y:Int):((zAQ g).setIfInBounds (k*2) (.int .i64 x)).setIfInBounds (k*2+1) (.int .i64 y)=zAQ (fun j=>if j=k*2 then x else if j=k*2+1 then y else g j):=by
 apply Array.ext_getElem?;intro i;rw[Array.getElem?_setIfInBounds,Array.getElem?_setIfInBounds];simp only[Array.size_setIfInBounds,zAN];by_cases aA:i<16
 ·rw[zDT _ aA,zDT _ aA];by_cases e1:k*2+1=i
  ·subst e1;rw[if_pos rfl,if_pos (by omega),if_neg (by omega),if_pos rfl]
  ·rw[if_neg e1];by_cases e0:k*2=i
   ·subst e0;rw[if_pos rfl,if_pos (by omega),if_pos rfl]
   ·rw[if_neg e0,if_neg (by omega),if_neg (by omega)]
 ·have n1:(zAQ g)[i]?=none:=Array.getElem?_eq_none (by rw[zAN];omega);have n2:(zAQ (fun j=>if j=k*2 then x else if j=k*2+1 then y else g j))[i]?=none:=Array.getElem?_eq_none (by rw[zAN];omega);rw[n1,n2,if_neg (by omega),if_neg (by omega)]
theorem zUj(g:Nat->Int)(k:Nat)(hk:k<8)(w:World):(Instr.index 155 (.agg (zAQ g)) (.int .i64 (k:Int))).run Tryz.prog w = .ok (.agg #[.int .i64 (g (k*2)),.int .i64 (g (k*2+1))]) w:=by
 rcases(by omega:k=0\/k=1\/k=2\/k=3\/k=4\/k=5\/k=6\/k=7)with rfl | rfl | rfl | rfl | rfl | rfl | rfl | rfl
 all_goals kernel_rfl
theorem zXU(g:Nat->Int)(k:Nat)(hk:k<8)(w:World):(part 44 (zAQ g) (k*2)).run Tryz.prog w = .ok (.agg #[.int .i64 (g (k*2)),.int .i64 (g (k*2+1))]) w:=by
 rcases(by omega:k=0\/k=1\/k=2\/k=3\/k=4\/k=5\/k=6\/k=7)with rfl | rfl | rfl | rfl | rfl | rfl | rfl | rfl
 all_goals kernel_rfl
theorem zYS(d:Nat)(a b c e:Int)(w:World):(Op.equalIn (d+2) 44 (.agg #[.int .i64 a,.int .i64 b]) (.agg #[.int .i64 c,.int .i64 e])).run Tryz.prog w = .ok (a == c && b == e) w:=by
 by_cases h1:a=c<;>by_cases h2:b=e
 all_goals simp[go_sem,h1,h2]
theorem zY8(w:World):(sizeOf 44).run Tryz.prog w = .ok 2 w:=by kernel_rfl
theorem zNk{P:Program}(b:Nat->Bool)(F:Nat->Option Bool×Unit->Sem (ForInStep (Option Bool×Unit))):∀(L:List Nat) (w:World),(∀i∈L,∀s w,(F i s).run P w = .ok (if b i then .yield (none,())else .done (some false,())) w)->
  (forIn L (none,()) F).run P w = .ok (if L.all b then(none,())else(some false,())) w
 | [],w,_=>by simp[Sem.run_pure]
 | i :: L,w,hF=>by
  simp only[List.forIn_cons,Sem.run_bind,hF i (by simp),Result.andThen_ok,List.all_cons];by_cases hb:b i=true
  ·simp only[hb,if_true,Bool.true_and];exact zNk b F L w (fun j hj=>hF j (by simp[hj]))
  ·simp[hb,Sem.run_pure]
def zMv(g h:Nat->Int):Bool:=(List.range 8).all fun i=>g (i*2) == h (i*2) && g (i*2+1) == h (i*2+1)
theorem zQI(g h:Nat->Int):zMv g h=true↔∀i,i<8->g (i*2)=h (i*2)/\g (i*2+1)=h (i*2+1):=by
 simp[zMv,List.all_eq_true]
theorem zUY(g h:Nat->Int)(d:Nat)(w:World):(Op.equalIn (d+3) 155 (.agg (zAQ g)) (.agg (zAQ h))).run Tryz.prog w = .ok (zMv g h) w:=by
 rw[Op.equalIn];simp only[Sem.run_bind,run_underlying zP1,Result.andThen_ok,zY8];rw[Std.Legacy.Range.forIn_eq_forIn_range'];have e:=zNk (P:=Tryz.prog) (fun i=>g (i*2) == h (i*2) && g (i*2+1) == h (i*2+1)) (fun i (bA:Option Bool×Unit)=>do
      let __do_lift <-part 44 (zAQ g) (i*2)
      let __do_lift_1 <-part 44 (zAQ h) (i*2)
      let __do_lift <-Op.equalIn (d+2) 44 __do_lift __do_lift_1
      if (!__do_lift)=true then pure (ForInStep.done (some false,()))else pure (ForInStep.yield (none,()))) (List.range 8) w (fun i hi s w=>by
   have aA:i<8:=(by simpa using hi);simp only[Sem.run_bind,zXU _ i aA,Result.andThen_ok,zYS];cases (g (i*2) == h (i*2) && g (i*2+1) == h (i*2+1))<;>simp[Sem.run_pure])
 have e2:List.range' 0 (([:8]:Std.Legacy.Range).size) ([:8]:Std.Legacy.Range).step=List.range 8:=by rfl
 rw[e2,e];simp only[Result.andThen_ok];unfold zMv;cases ((List.range 8).all fun i=>g (i*2) == h (i*2) && g (i*2+1) == h (i*2+1))<;>simp[Sem.run_pure]
theorem zTJ(g h:Nat->Int)(w:World):(binOp .eql 155 (.agg (zAQ g)) (.agg (zAQ h))).run Tryz.prog w = .ok (.bool (zMv g h)) w:=by
 rw[run_eql_struct,zUY g h 9997];rfl
theorem zM3(v v0 v1 v2:Value)(n lo hi oA lA:Nat)(f:Nat->zN)(s:zN)(w:World)(h1:yJ w lo hi v n f)(h2:zCy w oA lA v0 v1 v2 s)(hk:s.kn=8) :
  Calls Tryz.prog 93 #[v,.agg #[v0,v1,v2]] w fun e w'=>zJ (zJI n f s) e/\Below w.heap.size w w':=by
 have Hv:Hid (yJ w lo hi v n f):=h1;obtain⟨m1,a,c,rfl,mc,g1⟩:=h1;have Hs:Hid (zCy w oA lA v0 v1 v2 s):=h2;obtain⟨rfl,⟨m2,ka,kc,rfl,kB,g2⟩,rfl,m3⟩:=h2;have Hk:Hid (s.kn=8):=hk;clear g1 g2 hk;go_enter Tryz.func93,Tryz.ntmps93;go_wp2_with fail;have iA:=zD w (.cells #[.int .i64 s.birth,.slice ka s.kn kc,.string s.data] 48);refine(zGA _ _ _ oA lA s _ (Hs.out.zbd iA) (Or.inr Hk.out)).mono ?_;rintro e w1 ⟨rfl,kA⟩;have Hx:Hid (zEt w1 w.heap.size (.int .i64 s.birth) (.slice ka s.kn kc) (.string s.data)):=(zEt.new w _ _ _ _).zbd kA;have cB:=zA iA kA;have bA:Hid ((Tryz.prog.info? 155).map (·.size)=some (yP s).size):=by
  show _=_;rw[yP,zAN];exact zIn
 clear iA kA;have tA:(#[Value.int .i64 0,Value.int .i64 0,Value.int .i64 0,Value.int .i64 0,Value.int .i64 0,Value.int .i64 0,Value.int .i64 0,Value.int .i64 0,Value.int .i64 0,Value.int .i64 0,Value.int .i64 0,Value.int .i64 0,Value.int .i64 0,Value.int .i64 0,Value.int .i64 0,Value.int .i64 0]:Array Value)=zAQ (fun _=>0):=rfl;have gA:Hid ((#[Value.int .i64 0,Value.int .i64 0,Value.int .i64 0,Value.int .i64 0,Value.int .i64 0,Value.int .i64 0,Value.int .i64 0,Value.int .i64 0,Value.int .i64 0,Value.int .i64 0,Value.int .i64 0,Value.int .i64 0,Value.int .i64 0,Value.int .i64 0,Value.int .i64 0,Value.int .i64 0]:Array Value)=zAQ (fun _=>0)):=tA;clear tA;go_wp2_with (first
  | (refine wpList_store_row rfl 155 (.tmp 5) (.tmp 10) rfl w1.heap.size (yP s) rfl rfl 155 #[Value.int .i64 0,Value.int .i64 0,Value.int .i64 0,Value.int .i64 0,Value.int .i64 0,Value.int .i64 0,Value.int .i64 0,Value.int .i64 0,Value.int .i64 0,Value.int .i64 0,Value.int .i64 0,Value.int .i64 0,Value.int .i64 0,Value.int .i64 0,Value.int .i64 0,Value.int .i64 0] (heap_alloc_last _ _) bA.out (by rw[yP,zAN];rfl) (zEV _) ?_;rw[World.setRow_alloc_new])
  | (refine wpList_load_row rfl 155 (.tmp 5) rfl w1.heap.size rfl 155 (yP s) (0,0) _ ?hh zP1 rfl bA.out ?_;(exact(Below.heap_alloc _ _ _ (by simp)).trans (heap_alloc_last _ _))))
 have iB:w.heap.size<w1.heap.size:=Hx.out.1.lt
 go_loopw [12] (fun i wr=>∃(k:Nat) (g:Nat->Int),k<=8/\i = .int .i64 k/\(∀j,j<k->zCJ n f s.birth (s.ks j) (s.kb j) (g (j*2)) (g (j*2+1)))/\zEt wr w.heap.size (.int .i64 s.birth) (.slice ka s.kn kc) (.string s.data)/\
   wr.heap[w1.heap.size]?=some (.cells (yP s) 155 (0,0))/\wr.heap[w1.heap.size+1]?=some (.cells (zAQ g) 155 (0,0))/\Below w.heap.size w wr) (fun i _=>8 - (intOf i).toNat)
 case atStart=>
  refine⟨0,fun _=>0,Nat.zero_le _,rfl,fun j hj=>absurd hj (Nat.not_lt_zero _),(Hx.out.zbd (zD _ _)).zbd (zD _ _),?_,?_,zA (zA cB (zD _ _)) (zD _ _)⟩
  ·exact(Below.heap_alloc _ _ _ (by simp)).trans (heap_alloc_last _ _)
  ·have:=heap_alloc_last (w1.alloc (.cells (yP s) 155)) (.cells #[Value.int .i64 0,Value.int .i64 0,Value.int .i64 0,Value.int .i64 0,Value.int .i64 0,Value.int .i64 0,Value.int .i64 0,Value.int .i64 0,Value.int .i64 0,Value.int .i64 0,Value.int .i64 0,Value.int .i64 0,Value.int .i64 0,Value.int .i64 0,Value.int .i64 0,Value.int .i64 0] 155);rw[World.size_alloc]at this;rw[this,gA.out]
 case round=>
  obtain⟨k,g,hk,rfl,cA,hx,hK,hF,hb⟩:=hrel;have aA:Hid (∀j,j<k->zCJ n f s.birth (s.ks j) (s.kb j) (g (j*2)) (g (j*2+1))):=cA;have HX:Hid (zEt wr w.heap.size (.int .i64 s.birth) (.slice ka s.kn kc) (.string s.data)):=hx;have HK:Hid (wr.heap[w1.heap.size]?=some (.cells (yP s) 155 (0,0))):=hK;have HF:Hid (wr.heap[w1.heap.size+1]?=some (.cells (zAQ g) 155 (0,0))):=hF;clear cA hx hK hF;have nA:w1.heap.size+1<wr.heap.size:=(Array.getElem?_eq_some_iff.1 HF.out).1;by_cases sA:k<8
  ·have gB:(k:Int)<8:=(by omega);have mA:∀w,(Instr.index 155 (.agg (yP s)) (.int .i64 (k:Int))).run Tryz.prog w = .ok (.agg #[.int .i64 (s.ks k),.int .i64 (s.kb k)]) w:=fun w=>by
    have e:=zUj (zU s) k sA w;have e0:zU s (k*2)=s.ks k:=(by unfold zU;rw[if_pos (by have:=Hk.out;omega),if_pos (by omega),show k*2 / 2=k by omega]);have e1:zU s (k*2+1)=s.kb k:=(by unfold zU;rw[if_pos (by have:=Hk.out;omega),if_neg (by omega),show(k*2+1) / 2=k by omega]);rw[e0,e1]at e;exact e
   obtain⟨⟨x0,x1⟩,⟨x2,x3⟩,⟨x4,x5⟩⟩:=HX.out;have jB:w.heap.size<wr.heap.size:=(by omega);go_wp2_with fail;have jA:=zD wr (.cells #[.int .i64 (s.ks k),.int .i64 (s.kb k)] 44);refine(zO5 _ n lo hi f _ _ _ _ (Hv.out.zbd (zA hb jA))).mono ?_;rintro e w2 ⟨⟨rs,rb,rfl,rA⟩,pA⟩;have bB:Hid (zCJ n f s.birth (s.ks k) (s.kb k) rs rb):=rA;have dA:=zA jA pA;have eA:Hid (w2.heap[w1.heap.size+1]?=some (.cells (zAQ g) 155 (0,0))):=(dA.block _ nA).trans HF.out;have vA:Hid (w2.heap[w1.heap.size]?=some (.cells (yP s) 155 (0,0))):=(dA.block _ (by omega)).trans HK.out;have aB:Hid (zEt w2 w.heap.size (.int .i64 s.birth) (.slice ka s.kn kc) (.string s.data)):=HX.out.zbd dA;have eB:=zA hb dA;clear rA pA jA dA x0 x1 x2 x3 x4 x5 mA HF HK HX hb;obtain⟨y0,y1⟩:=zL (i:=k*2) eA.out (zDT g (by omega));obtain⟨y2,y3⟩:=zL (i:=k*2+1) eA.out (zDT g (by omega));go_wp2;go_roundw
   case rel=>
    refine⟨k+1,fun j=>if j=k*2 then rs else if j=k*2+1 then rb else g j,by omega,by go_num,fun j hj=>?_,(aB.out.other _ (by omega)).other _ (by omega),?_,?_,(eB.setCell (by show _<=w1.heap.size+1;omega) _).setCell (by show _<=w1.heap.size+1;omega) _⟩
    ·by_cases e:j=k
     ·subst e;simp only[if_true];rw[if_neg (by omega)];exact bB.out
     ·simp only;rw[if_neg (by omega),if_neg (by omega),if_neg (by omega),if_neg (by omega)];exact aA.out j (by omega)
    ·rw[Below.heap_setCell _ _ _ _ (by show w1.heap.size≠w1.heap.size+1;omega),Below.heap_setCell _ _ _ _ (by show w1.heap.size≠w1.heap.size+1;omega)];exact vA.out
    ·have:=zGW (o:=k*2+1) (.int .i64 rb) (zGW (o:=k*2) (.int .i64 rs) eA.out);rw[zUS g k sA]at this;exact this
   case measure=>simp[intOf];omega
  ·obtain rfl:k=8:=(by omega);have fB:∀w,(binOp .eql 155 (.agg (zAQ g)) (.agg (yP s))).run Tryz.prog w = .ok (.bool (zMv g (zU s))) w:=fun w=>zTJ g (zU s) w
   have fA:Hid ((Tryz.prog.info? 155).map (·.size)=some (zAQ g).size):=by
    show _=_;rw[zAN];exact zIn
   go_wp2_with (first
    | (refine wpList_load_row rfl 155 (.tmp 6) rfl (w1.heap.size+1) rfl 155 (zAQ g) (0,0) _ HF.out zP1 rfl fA.out ?_)
    | (refine wpList_load_row rfl 155 (.tmp 5) rfl w1.heap.size rfl 155 (yP s) (0,0) _ HK.out zP1 rfl bA.out ?_))
   go_ret;refine⟨⟨_,rfl,?_⟩,hb⟩;rw[zQI];have e0:∀i,i<8->zU s (i*2)=s.ks i/\zU s (i*2+1)=s.kb i:=fun i hi=>by
    have:=Hk.out;refine⟨?_,?_⟩
    ·unfold zU;rw[if_pos (by omega),if_pos (by omega),show i*2 / 2=i by omega]
    ·unfold zU;rw[if_pos (by omega),if_neg (by omega),show(i*2+1) / 2=i by omega]
   constructor
   ·intro h i hi;have:=aA.out i hi;rw[(h i hi).1,(h i hi).2,(e0 i hi).1,(e0 i hi).2]at this;exact this
   ·intro h i hi;rw[(e0 i hi).1,(e0 i hi).2];exact(aA.out i hi).uniq (h i hi)
def zDg(n:Nat)(f:Nat->zN)(s:zN):Prop:=yZ s\/zKQ s\/(zPm s/\zJI n f s)
def zIT(p:zF)(i:Nat):Prop:=¬zDO p.n p.s (p.h i) 0 0/\¬Has i p.h (p.h i)
def zaD(p:zF):Prop:=p.n<=200/\p.hn<=p.n/\(∀i,i<p.n->zDg p.n p.s (p.s i))/\∀i,i<p.hn->zIT p i
theorem zNB(v v0 v1 v2:Value)(n lo hi bA aA:Nat)(f:Nat->zN)(s:zN)(w:World)(h1:yJ w lo hi v n f)(h2:zCy w bA aA v0 v1 v2 s) :
  Calls Tryz.prog 64 #[v,.agg #[v0,v1,v2]] w fun e w'=>zJ (zDg n f s) e/\Below w.heap.size w w':=by
 have Hv:Hid (yJ w lo hi v n f):=h1;obtain⟨m1,a,c,rfl,mc,g1⟩:=h1;have Hs:Hid (zCy w bA aA v0 v1 v2 s):=h2;obtain⟨rfl,⟨m2,ka,kc,rfl,oA,g2⟩,rfl,m3⟩:=h2;clear g1 g2;go_enter Tryz.func64,Tryz.ntmps64;go_wp2_with fail;have gA:=zD w (.cells #[.int .i64 s.birth,.slice ka s.kn kc,.string s.data] 48);refine(zF9 _ _ _ bA aA s _ (Hs.out.zbd gA)).mono ?_;rintro e w1 ⟨⟨t,rfl,ht⟩,iA⟩;have Hx:Hid (zEt w1 w.heap.size (.int .i64 s.birth) (.slice ka s.kn kc) (.string s.data)):=(zEt.new w _ _ _ _).zbd iA;have dA:=zA gA iA;clear gA iA;by_cases hf:yZ s
 ·obtain rfl:t=true:=ht.2 hf;have HF:Hid (yZ s):=hf;clear ht hf;go_wp2;go_ret;exact⟨zJ.yes (Or.inl HF.out),dA⟩
 ·obtain rfl:t=false:=zAR ht hf;have HF:Hid (¬yZ s):=hf;clear ht hf;obtain⟨⟨x0,x1⟩,⟨x2,x3⟩,⟨x4,x5⟩⟩:=Hx.out;go_wp2_with fail;refine(zLm _ _ _ bA aA s _ (Hs.out.zbd dA)).mono ?_;rintro e w2 ⟨⟨t,rfl,ht⟩,jA⟩;have fA:Hid (zEt w2 w.heap.size (.int .i64 s.birth) (.slice ka s.kn kc) (.string s.data)):=Hx.out.zbd jA;have eA:=zA dA jA;clear jA dA x0 x1 x2 x3 x4 x5 Hx;by_cases hf:zKQ s
  ·obtain rfl:t=true:=ht.2 hf;have HP:Hid (zKQ s):=hf;clear ht hf;go_wp2;go_ret;exact⟨zJ.yes (Or.inr (Or.inl HP.out)),eA⟩
  ·obtain rfl:t=false:=zAR ht hf;have HP:Hid (¬zKQ s):=hf;clear ht hf;obtain⟨⟨x0,x1⟩,⟨x2,x3⟩,⟨x4,x5⟩⟩:=fA.out;go_wp2_with fail;refine(zSH _ _ _ bA aA s _ (Hs.out.zbd eA)).mono ?_;rintro e w3 ⟨⟨t,rfl,ht⟩,kA⟩;have lA:Hid (zEt w3 w.heap.size (.int .i64 s.birth) (.slice ka s.kn kc) (.string s.data)):=fA.out.zbd kA;have cA:=zA eA kA;clear kA eA x0 x1 x2 x3 x4 x5 fA;by_cases hf:zPm s
   ·obtain rfl:t=true:=ht.2 hf;have HN:Hid (zPm s):=hf;clear ht hf;obtain⟨⟨x0,x1⟩,⟨x2,x3⟩,⟨x4,x5⟩⟩:=lA.out;go_wp2_with fail;refine(zM3 _ _ _ _ n lo hi bA aA f s _ (Hv.out.zbd cA) (Hs.out.zbd cA) HN.out.2.1).mono ?_;rintro e w4 ⟨⟨t,rfl,ht⟩,mA⟩;have Ht:Hid (t=true↔zJI n f s):=ht;have nA:=zA cA mA;clear mA cA x0 x1 x2 x3 x4 x5 lA ht;go_wp2;go_ret;refine⟨⟨t,rfl,Ht.out.trans ⟨fun h=>Or.inr (Or.inr ⟨HN.out,h⟩),fun h=>?_⟩⟩,nA⟩;rcases h with h | h | h
    ·exact absurd h HF.out
    ·exact absurd h HP.out
    ·exact h.2
   ·obtain rfl:t=false:=zAR ht hf;have HN:Hid (¬zPm s):=hf;clear ht hf;go_wp2;go_ret;refine⟨zJ.no fun h=>?_,cA⟩;rcases h with h | h | h
    ·exact HF.out h
    ·exact HP.out h
    ·exact HN.out h.1
theorem zMz(v0 v1:Value)(lo hi:Nat)(p:zF)(w:World)(h1:zEE w lo hi v0 v1 p) :
  Calls Tryz.prog 65 #[.agg #[v0,v1]] w fun e w'=>zJ (∀i,i<p.hn->zIT p i) e/\Below w.heap.size w w':=by
 have Hp:Hid (zEE w lo hi v0 v1 p):=h1;obtain⟨⟨m1,a,c,rfl,mc,g1⟩,⟨m2,a',c',rfl,rA,g2⟩⟩:=h1;unfold maxLen at m1 m2;clear g1 g2;go_enter Tryz.func65,Tryz.ntmps65;go_wp2
 go_loopw [8] (fun i wr=>∃k:Nat,k<=p.hn/\i = .int .i64 k/\(∀j,j<k->zIT p j)/\yG wr w.heap.size (.slice a p.n c) (.slice a' p.hn c')/\Below w.heap.size w wr) (fun i _=>p.hn - (intOf i).toNat)
 case atStart=>exact⟨0,Nat.zero_le _,rfl,fun j hj=>absurd hj (Nat.not_lt_zero _),yG.new _ _ _ _,zD _ _⟩
 case round=>
  obtain⟨k,hk,rfl,bA,hx,hb⟩:=hrel;have aA:Hid (∀j,j<k->zIT p j):=bA;have Hx:Hid (yG wr w.heap.size (.slice a p.n c) (.slice a' p.hn c')):=hx;clear bA hx;obtain⟨⟨y0,y1⟩,⟨y2,y3⟩⟩:=Hx.out;by_cases eA:k<p.hn
  ·have nA:(k:Int)<(p.hn:Int):=(by omega);have cA:=Hp.out.2.zbd hb;have fA:Hid (zC6 wr lo hi (.slice a' p.hn c') p.hn p.h):=cA;obtain⟨_,a2,mA,kA,_,lA⟩:=cA;simp only[Value.slice.injEq,true_and]at kA;obtain⟨rfl,rfl⟩:=kA;obtain⟨b,off,rfl,_,_,k1⟩:=lA (by omega);have oA:=k1 k eA;clear k1 lA;go_wp2_with fail;refine(zHX _ p.n lo hi p.s _ _ (Hp.out.1.zbd hb)).mono ?_;rintro e w1 ⟨⟨ps,pb,rfl,jA⟩,dA⟩;have iA:Hid (zDO p.n p.s (p.h k) ps pb):=jA;have HX:Hid (yG w1 w.heap.size (.slice a p.n c) (.slice (some ⟨b,off,none⟩) p.hn c')):=Hx.out.zbd dA;have HI:Hid (zC6 w1 lo hi (.slice (some ⟨b,off,none⟩) k k) k p.h):=(fA.out.zbd dA).take (by omega) (by omega);have gA:=zA hb dA;clear jA dA y0 y1 y2 y3 Hx;by_cases hz:ps=0/\pb=0
   ·obtain⟨rfl,rfl⟩:=hz;go_wp2;go_ret;exact⟨zJ.no fun h=>(h k eA).1 iA.out,gA⟩
   ·have HZ:Hid (¬zDO p.n p.s (p.h k) 0 0):=fun h=>by
     obtain⟨e0,e1⟩:=iA.out.uniq h;exact hz ⟨e0,e1⟩
    have e0:(ps == 0)=false\/(ps == 0)=true/\(pb == 0)=false:=by
     by_cases h:ps=0
     ·right;refine⟨by simp[h],?_⟩;have:pb≠0:=fun h'=>hz ⟨h,h'⟩
      simp[this]
     ·left;simp[h]
    clear hz;obtain⟨⟨y0,y1⟩,⟨y2,y3⟩⟩:=HX.out;have pA:k<=c':=(by omega);by_cases hh:Has k p.h (p.h k)
    ·have HH:Hid (Has k p.h (p.h k)):=hh;clear hh;rcases e0 with e0 | ⟨e0,e1⟩
     all_goals
      go_wp2_with fail;refine(zF1 _ k lo hi p.h _ _ HI.out).mono ?_;rintro e w2 ⟨⟨t,rfl,ht⟩,rfl⟩;obtain rfl:t=true:=ht.2 HH.out;clear ht;go_wp2;go_ret;exact⟨zJ.no fun h=>(h k eA).2 HH.out,gA⟩
    ·have HH:Hid (¬Has k p.h (p.h k)):=hh;clear hh;rcases e0 with e0 | ⟨e0,e1⟩
     all_goals
      go_wp2_with fail;refine(zF1 _ k lo hi p.h _ _ HI.out).mono ?_;rintro e w2 ⟨⟨t,rfl,ht⟩,rfl⟩;obtain rfl:t=false:=zAR ht HH.out;clear ht y0 y1 y2 y3;go_wp2;go_roundw
      case rel=>exact⟨k+1,by omega,by go_num,qi eA aA.out ⟨HZ.out,HH.out⟩,HX.out,gA⟩
      case measure=>simp[intOf];omega
  ·obtain rfl:k=p.hn:=(by omega);go_wp2;go_ret;exact⟨zJ.yes aA.out,hb⟩
theorem zXW:∀(m n:Nat) (h:Nat->Nat),(∀i,i<m->h i<n)->(∀i j,i<j->j<m->h i≠h j)->m<=n
 | 0,_,_,_,_=>Nat.zero_le _
 | m+1,0,h,hlt,_=>absurd (hlt 0 (by omega)) (Nat.not_lt_zero _)
 | m+1,n+1,h,hlt,hne=>by
  have key:=zXW m n (fun i=>if h i<h m then h i else h i - 1) (fun i hi=>by
   have a:=hlt i (by omega);have b:=hne i m hi (by omega);have c:=hlt m (by omega);show(if h i<h m then h i else h i - 1)<n;split<;>omega) (fun i j aA hj=>by
   have a:=hne i j aA (by omega);have b:=hne i m (by omega) (by omega);have c:=hne j m (by omega) (by omega);show(if h i<h m then h i else h i - 1)≠(if h j<h m then h j else h j - 1);split<;>split<;>omega)
  omega
theorem zLc{s:zN}(h:yZ s):s.birth=0:=h.1
theorem zXM{n:Nat}{f:Nat->zN}{s:zN}(h:zDg n f s)(hf:¬yZ s):1<=s.birth:=by
 rcases h with h | h | h
 ·exact absurd h hf
 ·exact h.1.1
 ·exact h.1.1.1
theorem zLZ{p:zF}{s:zN}(h:yZ s\/zDL p s)(hf:¬yZ s):1<=s.birth:=by
 rcases h with h | h
 ·exact absurd h hf
 ·exact h.1.1
theorem zTR{p:zF}{b ks kb:Int}(aA:∀i,i<p.n->¬yZ (p.s i)->1<=(p.s i).birth):zCJ p.n p.s b ks kb ks kb↔zS5 p b ks kb:=by
 constructor
 ·rintro⟨ps,pb,hp,h⟩;rcases h with⟨h,rfl,rfl⟩ | ⟨h,rfl,rfl⟩
  ·exact Or.inl ⟨rfl,rfl⟩
  ·rcases hp with⟨h1,h2,h3,_,h5⟩ | ⟨h1,rfl,rfl⟩
   ·right;have hb:=aA ks.toNat (by omega) h3;rw[<-h5]at hb;refine⟨⟨hb,h1,h2,h5.symm⟩,?_⟩;by_cases hx:b<kb
    ·exact absurd (Or.inr hx) h
    ·omega
   ·exact absurd (Or.inl ⟨rfl,rfl⟩) h
 ·rintro(⟨rfl,rfl⟩ | ⟨⟨h1,h2,h3,h4⟩,h5⟩)
  ·by_cases hx:0<p.n/\¬yZ (p.s 0)
   ·refine⟨0,(p.s 0).birth,Or.inl ⟨by omega,by omega,?_,rfl,rfl⟩,Or.inl ⟨Or.inl ⟨rfl,rfl⟩,rfl,rfl⟩⟩;exact hx.2
   ·refine⟨0,0,Or.inr ⟨fun h=>hx ⟨by omega,h.2.2⟩,rfl,rfl⟩,Or.inl ⟨Or.inl ⟨rfl,rfl⟩,rfl,rfl⟩⟩
  ·refine⟨ks,kb,Or.inl ⟨h2,h3,fun hf=>?_,rfl,h4.symm⟩,Or.inr ⟨fun h=>?_,rfl,rfl⟩⟩
   ·have:=zLc hf;omega
   ·rcases h with h | h
    ·have:=h.2;omega
    ·omega
theorem zFi(p:zF):zaD p↔zf p:=by
 constructor
 ·rintro⟨h1,h2,h3,h4⟩;have aA:∀i,i<p.n->¬yZ (p.s i)->1<=(p.s i).birth:=fun i hi=>zXM (h3 i hi)
  refine⟨h1,fun i hi=>?_,fun i hi=>?_⟩
  ·rcases h3 i hi with h | h | h
   ·exact Or.inl h
   ·exact Or.inr ⟨h.1,Or.inl h.2⟩
   ·refine Or.inr ⟨h.1.1,Or.inr ⟨h.1.2.1,h.1.2.2,fun j hj=>?_⟩⟩;exact(zTR aA).1 (h.2 j (by have:=h.1.2.1;omega))
  ·obtain⟨ha,hb⟩:=h4 i hi;have hx:0<=p.h i/\p.h i<p.n/\¬yZ (p.s (p.h i).toNat):=by
    by_cases hx:0<=p.h i/\p.h i<p.n/\¬yZ (p.s (p.h i).toNat)
    ·exact hx
    ·exact absurd (Or.inr ⟨hx,rfl,rfl⟩) ha
   exact⟨hx.1,hx.2.1,hx.2.2,hb⟩
 ·rintro⟨h1,h3,h4⟩;have aA:∀i,i<p.n->¬yZ (p.s i)->1<=(p.s i).birth:=fun i hi=>zLZ (h3 i hi)
  refine⟨h1,?_,fun i hi=>?_,fun i hi=>?_⟩
  ·refine zXW p.hn p.n (fun i=>(p.h i).toNat) (fun i hi=>?_) (fun i j bA hj=>?_)
   ·obtain⟨a,b,_,_⟩:=h4 i hi;show(p.h i).toNat<p.n;omega
   ·obtain⟨a,b,_,d⟩:=h4 j hj;obtain⟨a',b',_,_⟩:=h4 i (by omega);show(p.h i).toNat≠(p.h j).toNat;intro e;exact d ⟨i,bA,by omega⟩
  ·rcases h3 i hi with h | h
   ·exact Or.inl h
   ·rcases h.2 with g | g
    ·exact Or.inr (Or.inl ⟨h.1,g⟩)
    ·exact Or.inr (Or.inr ⟨⟨h.1,g.1,g.2.1⟩,fun j hj=>(zTR aA).2 (g.2.2 j (by omega))⟩)
  ·obtain⟨a,b,c,d⟩:=h4 i hi;refine⟨fun hx=>?_,d⟩;rcases hx with⟨_,_,_,e1,e2⟩ | ⟨hx,_⟩
   ·have:=aA (p.h i).toNat (by omega) c;omega
   ·exact hx ⟨a,b,c⟩
theorem zE1(v0 v1:Value)(lo hi:Nat)(p:zF)(w:World)(h1:zEE w lo hi v0 v1 p) :
  Calls Tryz.prog 29 #[.agg #[v0,v1]] w fun e w'=>zJ (zf p) e/\Below w.heap.size w w':=by
 have Hp:Hid (zEE w lo hi v0 v1 p):=h1;obtain⟨⟨m1,a,c,rfl,mc,g1⟩,⟨m2,a',c',rfl,mA,g2⟩⟩:=h1;unfold maxLen at m1 m2;clear g1 g2;have fA:Hid (Below w.heap.size w (w.alloc (.cells #[.slice a p.n c,.slice a' p.hn c'] 26))):=zD _ _;by_cases hn:(200:Int)<p.n
 ·have H:Hid (¬zf p):=fun h=>by have:=h.1;omega
  go_enter Tryz.func29,Tryz.ntmps29;go_wp2;go_ret;exact⟨zJ.no H.out,fA.out⟩
 by_cases kA:(p.n:Int)<p.hn
 ·have H:Hid (¬zf p):=fun h=>by have:=((zFi p).2 h).2.1;omega
  go_enter Tryz.func29,Tryz.ntmps29;go_wp2;go_ret;exact⟨zJ.no H.out,fA.out⟩
 ·go_enter Tryz.func29,Tryz.ntmps29;go_wp2
  go_loopw [21] (fun i wr=>∃k:Nat,k<=p.n/\i = .int .i64 k/\(∀j,j<k->zDg p.n p.s (p.s j))/\yG wr w.heap.size (.slice a p.n c) (.slice a' p.hn c')/\Below w.heap.size w wr) (fun i _=>p.n - (intOf i).toNat)
  case atStart=>exact⟨0,Nat.zero_le _,rfl,fun j hj=>absurd hj (Nat.not_lt_zero _),yG.new _ _ _ _,fA.out⟩
  case round=>
   obtain⟨k,hk,rfl,bA,hx,hb⟩:=hrel;have aA:Hid (∀j,j<k->zDg p.n p.s (p.s j)):=bA;have Hx:Hid (yG wr w.heap.size (.slice a p.n c) (.slice a' p.hn c')):=hx;clear bA hx;obtain⟨⟨y0,y1⟩,⟨y2,y3⟩⟩:=Hx.out;have lA:w.heap.size<wr.heap.size:=Hx.out.1.lt;by_cases iA:k<p.n
   ·have jA:(k:Int)<(p.n:Int):=(by omega);obtain⟨b,off,ka,kc,rfl,hs⟩:=(Hp.out.1.zbd hb).cells iA;have Hs:Hid (zDf wr b (off+k*3) lo hi ka kc (p.s k)):=hs;obtain⟨q0,q1,q2,_⟩:=hs;go_wp2_with fail;have dA:=zD wr (.cells #[.int .i64 (p.s k).birth,.slice ka (p.s k).kn kc,.string (p.s k).data] 48);refine(zNB _ _ _ _ p.n lo hi lo hi p.s (p.s k) _ (Hp.out.1.zbd (zA hb dA)) (Hs.out.slot.zbd dA)).mono ?_;rintro e w1 ⟨⟨t,rfl,ht⟩,cA⟩;have gA:=zA dA cA;have HX:Hid (yG w1 w.heap.size (.slice (some ⟨b,off,none⟩) p.n c) (.slice a' p.hn c')):=Hx.out.zbd gA;have eA:=zA hb gA;have Ht:Hid (t=true↔zDg p.n p.s (p.s k)):=ht;clear dA cA gA ht q0 q1 q2 y0 y1 y2 y3 Hx Hs;cases t
    ·go_wp2;go_ret;refine⟨zJ.no fun h=>?_,eA⟩;have:=((zFi p).2 h).2.2.1 k iA;exact absurd (Ht.out.2 this) (by simp)
    ·go_wp2;go_roundw
     case rel=>exact⟨k+1,by omega,by go_num,qi iA aA.out (by simpa using Ht.out),HX.out,eA⟩
     case measure=>simp[intOf];omega
   ·obtain rfl:k=p.n:=(by omega);go_wp2_with fail;refine(zMz _ _ lo hi p _ (Hp.out.zbd hb)).mono ?_;rintro e w1 ⟨⟨t,rfl,ht⟩,cA⟩;have Ht:Hid (t=true↔∀i,i<p.hn->zIT p i):=ht;have eA:=zA hb cA;clear ht cA y0 y1 y2 y3;go_wp2;go_ret;refine⟨⟨t,rfl,Ht.out.trans ⟨fun h=>?_,fun h=>?_⟩⟩,eA⟩
    ·exact(zFi p).1 ⟨by omega,by omega,aA.out,h⟩
    ·exact((zFi p).2 h).2.2.2
theorem zDO.some(n:Nat)(f:Nat->zN)(x:Int):∃ps pb,zDO n f x ps pb:=by
 by_cases h:0<=x/\x<n/\¬yZ (f x.toNat)
 ·exact⟨x,(f x.toNat).birth,Or.inl ⟨h.1,h.2.1,h.2.2,rfl,rfl⟩⟩
 ·exact⟨0,0,Or.inr ⟨h,rfl,rfl⟩⟩
theorem zJY(v:Value)(n lo hi:Nat)(f:Nat->zN)(xs xb:Int)(w:World)(h1:yJ w lo hi v n f) :
  Calls Tryz.prog 98 #[v,.agg #[.int .i64 xs,.int .i64 xb]] w fun e w'=>zJ (¬zK4 xs xb 0 0/\zDO n f xs xs xb) e/\Below w.heap.size w w':=by
 have Hi:Hid (yJ w lo hi v n f):=h1;obtain⟨m1,a,c,rfl,mc,g1⟩:=h1;clear g1;have ha:=zD w (.cells #[.int .i64 xs,.int .i64 xb] 44);have Hx:Hid (yG (w.alloc (.cells #[.int .i64 xs,.int .i64 xb] 44)) w.heap.size (.int .i64 xs) (.int .i64 xb)):=yG.new _ _ _ _;by_cases hz:xs=0/\xb=0
 ·obtain⟨rfl,rfl⟩:=hz;go_enter Tryz.func98,Tryz.ntmps98;go_wp2_with fail
  go_quiet (fail)
  go_wp2;go_ret;exact⟨zJ.no fun h=>h.1 ⟨rfl,rfl⟩,zCe ha _⟩
 ·have HZ:Hid (¬zK4 xs xb 0 0):=hz;have e0:(xs == 0)=false\/(xs == 0)=true/\(xb == 0)=false:=by
   by_cases h:xs=0
   ·right;refine⟨by simp[h],?_⟩;have:xb≠0:=fun h'=>hz ⟨h,h'⟩
    simp[this]
   ·left;simp[h]
  clear hz;obtain⟨bA,dA,h0⟩:=zDO.some n f xs;have H0:Hid (zDO n f xs bA dA):=h0;clear h0;by_cases hq:xs=bA/\xb=dA
  ·obtain⟨rfl,rfl⟩:=hq;rcases e0 with e0 | ⟨e0,e1⟩
   all_goals
    go_enter Tryz.func98,Tryz.ntmps98;go_wp2_with fail;go_region_held3 (fun w'=>w'.cell? ⟨w.heap.size,0,none⟩=some (.int .i64 xs)/\w'.cell? ⟨w.heap.size,1,none⟩=some (.int .i64 xb)) (go_keep)
     (first | (go_at_call 94;refine(zHX _ n lo hi f _ _ ?_).mono ?_;(exact(Hi.out.zbd ha).zbd ((Below.refl _ _).drew));rintro e w1 ⟨⟨ps,pb,rfl,hp⟩,cA⟩;obtain⟨rfl,rfl⟩:=H0.out.uniq hp;clear hp;have aA:=qW cA;have z0:=(Hx.out.zbd aA).1.1;have z1:=(Hx.out.zbd aA).2.1))
    have eA:=zA ha aA;clear cA aA z0 z1;go_wp2;go_ret;exact⟨zJ.yes ⟨HZ.out,H0.out⟩,eA⟩
  ·have HQ:Hid (¬(xs=bA/\xb=dA)):=hq;have e4:(xs == bA)=false\/(xs == bA)=true/\(xb == dA)=false:=by
    by_cases h:xs=bA
    ·right;refine⟨by simp[h],?_⟩;have:xb≠dA:=fun h'=>hq ⟨h,h'⟩
     simp[this]
    ·left;simp[h]
   clear hq;rcases e0 with e0 | ⟨e0,e1⟩
   all_goals
    rcases e4 with e4 | ⟨e4,e5⟩
    all_goals
     go_enter Tryz.func98,Tryz.ntmps98;go_wp2_with fail;go_region_held3 (fun w'=>w'.cell? ⟨w.heap.size,0,none⟩=some (.int .i64 xs)/\w'.cell? ⟨w.heap.size,1,none⟩=some (.int .i64 xb)) (go_keep)
      (first | (go_at_call 94;refine(zHX _ n lo hi f _ _ ?_).mono ?_;(exact(Hi.out.zbd ha).zbd ((Below.refl _ _).drew));rintro e w1 ⟨⟨ps,pb,rfl,hp⟩,cA⟩;obtain⟨rfl,rfl⟩:=H0.out.uniq hp;clear hp;have aA:=qW cA;have z0:=(Hx.out.zbd aA).1.1;have z1:=(Hx.out.zbd aA).2.1))
     have eA:=zA ha aA;clear cA aA z0 z1;go_wp2;go_ret;refine⟨zJ.no fun h=>?_,eA⟩;obtain⟨q0,q1⟩:=h.2.uniq H0.out;exact HQ.out ⟨q0,q1⟩
theorem zJZ{p:zF}{xs xb:Int}(hR:zf p):(¬zK4 xs xb 0 0/\zDO p.n p.s xs xs xb)↔yF p xs xb:=by
 constructor
 ·rintro⟨h,h1 | ⟨_,h2,h3⟩⟩
  ·obtain⟨a,b,c,_,e⟩:=h1;have:=zLZ (hR.2.1 xs.toNat (by omega)) c;exact⟨by omega,a,b,e.symm⟩
  ·exact absurd ⟨h2,h3⟩ h
 ·rintro⟨a,b,c,d⟩;refine⟨fun h=>by have:=h.2;omega,Or.inl ⟨b,c,fun hf=>?_,rfl,d.symm⟩⟩;have:=zLc hf;omega
def Nil(xs xb:Int):Prop:=xs=0/\xb=0
instance (xs xb:Int):Decidable (Nil xs xb):=inferInstanceAs (Decidable (xs=0/\xb=0))
def one(xs xb:Int):List (Int×Int):=if Nil xs xb then [] else [(xs,xb)]
def kidsUp(ks kb:Nat->Int):Nat->List (Int×Int)
 | 0=>[]
 | k+1=>kidsUp ks kb k ++ one (ks k) (kb k)
def zy(s:zN)(i:Nat):Int:=zU s (i*2)
def qm(s:zN)(i:Nat):Int:=zU s (i*2+1)
def zPA(s:zN):List (Int×Int):=kidsUp (zy s) (qm s) 8
def zGK(p:zF)(xs xb:Int):List (Int×Int):=if Nil xs xb then [] else(xs,xb) :: zPA (p.s xs.toNat)
def zCY(p:zF)(s:zN):Nat->List (Int×Int)
 | 0=>[]
 | k+1=>zCY p s k ++ zGK p (zy s k) (qm s k)
def zH(p:zF)(rs rb:Int):List (Int×Int):=if Nil rs rb then [] else(rs,rb) :: zCY p (p.s rs.toNat) 8
theorem zE3{s:zN}(h:s.kn=8){i:Nat}(hi:i<8):zy s i=s.ks i:=by
 unfold zy zU;rw[show i*2 / 2=i by omega,if_pos (by omega),if_pos (by omega)]
theorem zE2{s:zN}(h:s.kn=8){i:Nat}(hi:i<8):qm s i=s.kb i:=by
 unfold qm zU;rw[show(i*2+1) / 2=i by omega,if_pos (by omega),if_neg (by omega)]
theorem zTQ{s:zN}(h:s.kn=0)(i:Nat):zy s i=0:=by
 unfold zy zU;rw[if_neg (by omega)]
theorem zTP{s:zN}(h:s.kn=0)(i:Nat):qm s i=0:=by
 unfold qm zU;rw[if_neg (by omega)]
theorem zYq{xs xb:Int}{x:Int×Int}:x∈one xs xb↔x=(xs,xb)/\¬Nil xs xb:=by
 unfold one;by_cases h:Nil xs xb
 ·rw[if_pos h];simp[h]
 ·rw[if_neg h];simp[h]
theorem zGJ{ks kb:Nat->Int}{x:Int×Int}:∀{k:Nat},x∈kidsUp ks kb k↔∃i,i<k/\x=(ks i,kb i)/\¬Nil (ks i) (kb i)
 | 0=>by simp[kidsUp]
 | k+1=>by
  rw[kidsUp,List.mem_append,zGJ,zYq];constructor
  ·rintro(⟨i,hi,h⟩ | h)
   ·exact⟨i,by omega,h⟩
   ·exact⟨k,by omega,h⟩
  ·rintro⟨i,hi,h⟩;by_cases e:i=k
   ·subst e;exact Or.inr h
   ·exact Or.inl ⟨i,by omega,h⟩
theorem zIw{p:zF}{xs xb:Int}{x:Int×Int}:x∈zGK p xs xb↔¬Nil xs xb/\(x=(xs,xb)\/x∈zPA (p.s xs.toNat)):=by
 unfold zGK;by_cases h:Nil xs xb
 ·rw[if_pos h];simp[h]
 ·rw[if_neg h];simp[h]
theorem zFa{p:zF}{s:zN}{x:Int×Int}:∀{k:Nat},x∈zCY p s k↔∃i,i<k/\x∈zGK p (zy s i) (qm s i)
 | 0=>by simp[zCY]
 | k+1=>by
  rw[zCY,List.mem_append,zFa];constructor
  ·rintro(⟨i,hi,h⟩ | h)
   ·exact⟨i,by omega,h⟩
   ·exact⟨k,by omega,h⟩
  ·rintro⟨i,hi,h⟩;by_cases e:i=k
   ·subst e;exact Or.inr h
   ·exact Or.inl ⟨i,by omega,h⟩
theorem zCj(ks kb:Nat->Int):∀k,(kidsUp ks kb k).length<=k
 | 0=>Nat.le_refl _
 | k+1=>by
  have:=zCj ks kb k;unfold kidsUp one;split<;>simp<;>omega
theorem zQ0(p:zF)(xs xb:Int):(zGK p xs xb).length<=9:=by
 unfold zGK;have:=zCj (zy (p.s xs.toNat)) (qm (p.s xs.toNat)) 8;split
 ·simp
 ·show(zPA _).length+1<=9;unfold zPA;omega
theorem zHf(p:zF)(s:zN):∀k,(zCY p s k).length<=9*k
 | 0=>Nat.le_refl _
 | k+1=>by
  have:=zHf p s k;have:=zQ0 p (zy s k) (qm s k);unfold zCY;rw[List.length_append];omega
theorem qc(p:zF)(rs rb:Int):(zH p rs rb).length<=73:=by
 unfold zH;have:=zHf p (p.s rs.toNat) 8;split
 ·simp
 ·show(zCY _ _ _).length+1<=73;omega
def zKz(p:zF)(xs xb:Int):Prop:=yF p xs xb/\0<(p.s xs.toNat).kn/\¬Has p.hn p.h xs
def zK2(p:zF)(xs xb:Int):Prop:=yF p xs xb/\(p.s xs.toNat).kn=0/\¬Has p.hn p.h xs
def zZK(p:zF)(s:zN):Prop:=(∀i,i<8->Nil (zy s i) (qm s i)\/zK2 p (zy s i) (qm s i))/\∃i,i<8/\¬Nil (zy s i) (qm s i)
def zPl(p:zF)(s:zN)(i:Nat):Prop:=Nil (zy s i) (qm s i)\/(zKz p (zy s i) (qm s i)/\zZK p (p.s (zy s i).toNat))
def zCV(l:List (Int×Int)):List Int:=l.map Prod.fst
def zZQ(p:zF)(s:zN):Prop:=(∀i,i<8->zPl p s i)/\∃i,i<8/\¬Nil (zy s i) (qm s i)
def zW(p:zF)(rs rb:Int):Prop:=Nil rs rb\/(zKz p rs rb/\zZQ p (p.s rs.toNat)/\(zCV (zH p rs rb)).Nodup)
def zAm(p:zF)(rs rb:Int):Prop:=zf p/\zW p rs rb
def zOe(p:zF)(s:zN):Prop:=(∃i,i<8/\¬Nil (zy s i) (qm s i))/\∀i,i<8->Nil (zy s i) (qm s i)\/zKQ (p.s (zy s i).toNat)
def zOd(p:zF)(s:zN):Prop:=(∃i,i<8/\¬Nil (zy s i) (qm s i))/\∀i,i<8->Nil (zy s i) (qm s i)\/zOe p (p.s (zy s i).toNat)
def zVd(p:zF)(l:List (Int×Int)):Prop:=l.Nodup/\∀x,x∈l->¬Has p.hn p.h x.1
def zOi(p:zF)(rs rb:Int):Prop:=Nil rs rb\/(yF p rs rb/\zOd p (p.s rs.toNat)/\zVd p (zH p rs rb))
theorem zAT{p:zF}{xs xb:Int}(hR:zf p)(h:yF p xs xb):zDL p (p.s xs.toNat):=by
 obtain⟨h1,h2,h3,h4⟩:=h;rcases hR.2.1 xs.toNat (by omega)with hf | hf
 ·have:=hf.1;omega
 ·exact hf
theorem zHP{p:zF}{s:zN}(h:zDL p s):s.kn=0\/s.kn=8:=by
 rcases h.2 with h | h
 ·exact Or.inl h.1
 ·exact Or.inr h.1
theorem zJg{p:zF}{xs xb:Int}(hR:zf p)(h:yF p xs xb):(p.s xs.toNat).kn=0\/(p.s xs.toNat).kn=8:=zHP (zAT hR h)
theorem zCi{p:zF}{s:zN}(h:zDL p s){i:Nat}(hi:i<8)(hn:¬Nil (zy s i) (qm s i)):yF p (zy s i) (qm s i)/\qm s i<=s.birth:=by
 rcases h.2 with h2 | h2
 ·exact absurd ⟨zTQ h2.1 i,zTP h2.1 i⟩ hn
 ·rw[zE3 h2.1 hi,zE2 h2.1 hi]at hn ⊢;rcases h2.2.2 i (by omega)with h3 | h3
  ·exact absurd h3 hn
  ·exact h3
theorem zXS{p:zF}{xs xb:Int}(hR:zf p)(h:yF p xs xb):zKQ (p.s xs.toNat)↔(p.s xs.toNat).kn=0:=by
 have hf:=zAT hR h;constructor
 ·exact fun h=>h.2.1
 ·intro h0;rcases hf.2 with h2 | h2
  ·exact⟨hf.1,h2⟩
  ·omega
theorem zRN{s:zN}(h:s.kn=0\/s.kn=8)(he:∃i,i<8/\¬Nil (zy s i) (qm s i)):s.kn=8:=by
 rcases h with h | h
 ·obtain⟨i,_,hi⟩:=he;exact absurd ⟨zTQ h i,zTP h i⟩ hi
 ·exact h
theorem zFB{p:zF}{rs rb:Int}(hR:zf p)(h:yF p rs rb):∀x,x∈zH p rs rb->yF p x.1 x.2/\x.2<=rb:=by
 intro x hx;unfold zH at hx;split at hx
 ·simp at hx
 ·rw[List.mem_cons,zFa]at hx;rcases hx with rfl | ⟨i,hi,hx⟩
  ·exact⟨h,by simp⟩
  ·have hf:=zAT hR h;have bA:(p.s rs.toNat).birth=rb:=h.2.2.2;obtain⟨hn,hx⟩:=zIw.1 hx;have hk:=zCi hf hi hn;rcases hx with rfl | hx
   ·exact⟨hk.1,by rw[<-bA];exact hk.2⟩
   ·obtain⟨j,hj,rfl,dA⟩:=zGJ.1 hx;have cA:=zAT hR hk.1;have aA:=zCi cA hj dA;have e:(p.s (zy (p.s rs.toNat) i).toNat).birth=qm (p.s rs.toNat) i:=hk.1.2.2.2;have:=hk.2;have:=aA.2;exact⟨aA.1,by show qm _ j<=rb;omega⟩
theorem zJc{p:zF}{l:List (Int×Int)}(h:∀x,x∈l->yF p x.1 x.2):(zCV l).Nodup↔l.Nodup:=by
 unfold zCV List.Nodup;rw[List.pairwise_map];constructor
 ·exact fun hp=>hp.imp (fun aA e=>aA (by rw[e]))
 ·intro hp;refine List.Pairwise.imp_of_mem ?_ hp;intro a b ha hb aA e;apply aA;have h1:=(h a ha).2.2.2;have h2:=(h b hb).2.2.2;rw[e]at h1;obtain⟨a1,a2⟩:=a;obtain⟨b1,b2⟩:=b;simp only[Prod.mk.injEq];exact⟨e,by simp only at h1 h2 e;rw[<-h1,<-h2]⟩
theorem zMi{p:zF}{rs rb:Int}(hR:zf p):zOi p rs rb↔zW p rs rb:=by
 by_cases hz:Nil rs rb
 ·exact⟨fun _=>Or.inl hz,fun _=>Or.inl hz⟩
 have bA:(rs,rb)∈zH p rs rb:=by unfold zH;rw[if_neg hz];simp
 have cA:∀i,i<8->¬Nil (zy (p.s rs.toNat) i) (qm (p.s rs.toNat) i)->(zy (p.s rs.toNat) i,qm (p.s rs.toNat) i)∈zH p rs rb:=fun i hi hn=>by
  unfold zH;rw[if_neg hz,List.mem_cons,zFa];exact Or.inr ⟨i,hi,zIw.2 ⟨hn,Or.inl rfl⟩⟩
 have dA:∀i,i<8->¬Nil (zy (p.s rs.toNat) i) (qm (p.s rs.toNat) i)->∀x,x∈zPA (p.s (zy (p.s rs.toNat) i).toNat)->x∈zH p rs rb:=fun i hi hn x hx=>by
  unfold zH;rw[if_neg hz,List.mem_cons,zFa];exact Or.inr ⟨i,hi,zIw.2 ⟨hn,Or.inr hx⟩⟩
 constructor
 ·rintro(h | ⟨hP,⟨he,hS⟩,hA⟩)
  ·exact Or.inl h
  ·right;have hf:=zAT hR hP;have kA:=zRN (zHP hf) he;refine⟨⟨hP,by omega,hA.2 _ bA⟩,⟨fun i hi=>?_,he⟩,(zJc (fun x hx=>(zFB hR hP x hx).1)).2 hA.1⟩;by_cases hn:Nil (zy (p.s rs.toNat) i) (qm (p.s rs.toNat) i)
   ·exact Or.inl hn
   ·right;have hk:=zCi hf hi hn;have fA:=zAT hR hk.1;obtain⟨eA,gA⟩:zOe p (p.s (zy (p.s rs.toNat) i).toNat):=by
     rcases hS i hi with h | h
     ·exact absurd h hn
     ·exact h
    have jA:=zRN (zHP fA) eA;refine⟨⟨hk.1,by omega,hA.2 _ (cA i hi hn)⟩,fun j hj=>?_,eA⟩;by_cases aA:Nil (zy (p.s (zy (p.s rs.toNat) i).toNat) j) (qm (p.s (zy (p.s rs.toNat) i).toNat) j)
    ·exact Or.inl aA
    ·right;have iA:=zCi fA hj aA;refine⟨iA.1,?_,hA.2 _ (dA i hi hn _ (zGJ.2 ⟨j,hj,rfl,aA⟩))⟩;rcases gA j hj with h | h
     ·exact absurd h aA
     ·exact h.2.1
 ·rintro(h | ⟨hN,⟨hM,he⟩,hD⟩)
  ·exact Or.inl h
  ·right;have hP:=hN.1;have hf:=zAT hR hP;have held:∀x,x∈zH p rs rb->¬Has p.hn p.h x.1:=fun x hx=>by
    unfold zH at hx;rw[if_neg hz,List.mem_cons,zFa]at hx;rcases hx with rfl | ⟨i,hi,hx⟩
    ·exact hN.2.2
    ·obtain⟨hn,hx⟩:=zIw.1 hx;rcases hM i hi with h | ⟨h1,h2⟩
     ·exact absurd h hn
     ·rcases hx with rfl | hx
      ·exact h1.2.2
      ·obtain⟨j,hj,rfl,aA⟩:=zGJ.1 hx;rcases h2.1 j hj with h | h
       ·exact absurd h aA
       ·exact h.2.2
   refine⟨hP,⟨he,fun i hi=>?_⟩,(zJc (fun x hx=>(zFB hR hP x hx).1)).1 hD,held⟩;rcases hM i hi with h | ⟨h1,h2,h3⟩
   ·exact Or.inl h
   ·refine Or.inr ⟨h3,fun j hj=>?_⟩;rcases h2 j hj with h | h
    ·exact Or.inl h
    ·exact Or.inr ((zXS hR h.1).2 h.2.1)
set_option linter.unusedSimpArgs false
set_option maxRecDepth 20000
set_option maxHeartbeats 1600000
theorem zGn{F G:Nat->Nat->Tr}:yH F 0 G=G:=by
 funext p q;simp[yH]
theorem zGL{a b:Nat->Int}:(fun p q=>(ptrsT a b p q).nt)=ptrsT a b:=by
 funext p q;unfold ptrsT;split<;>rfl
theorem zTr{a:Nat->Int}:(fun p q=>(qf a p q).nt)=qf a:=rfl
def zEv{α : Type}(enc:α->Nat->Tr)(d:α)(l:List α):Nat->Nat->Tr:=fun i c=>enc (l[i]?.getD d) c
section
variable {α : Type} {enc : α -> Nat -> Tr} {d : α} {l m : List α} {fl : Fl} {k : Nat}
theorem zBv(h:l=m):TrE (.s fl k l.length (zEv enc d l)) (.s fl k m.length (zEv enc d m)):=h▸TrE.refl _
theorem zET{F:Nat->Nat->Tr}(h:m = []):TrE (.s fl k 0 F) (.s fl k m.length (zEv enc d m)):=by
 subst h;exact⟨.inl rfl,rfl,rfl,fun i j hi=>by omega⟩
theorem zY5{F:Nat->Nat->Tr}{e:Nat}{x:List α}(he:e=x.length)(hF:∀i,(h:i<x.length)->∀j,j<k->F i j=enc x[i] j)(h:l ++ x=m):TrE (.s fl k (l.length+e) (yH (zEv enc d l) l.length F)) (.s fl k m.length (zEv enc d m)):=by
 subst h he;refine⟨.inl rfl,rfl,by simp,fun i j hi hj=>TrE.of_eq ?_⟩;by_cases hl:i<l.length
 ·simp[yH,zEv,hl,List.getElem?_append_left hl]
 ·simp only[yH,zEv,if_neg hl];rw[hF (i - l.length) (by omega) j hj,List.getElem?_append_right (by omega),List.getElem?_eq_getElem (by omega)];rfl
theorem zC4{ts:List Tr}{x:α}(ht:∀j,j<k->(ts[j]?.getD (.v (.bool false))).nt=enc x j)(h:l ++ [x]=m):TrE (.s fl k (l.length+1) (yH (zEv enc d l) l.length (fun p q=>(ts[p*k+q]?.getD (.v (.bool false))).nt))) (.s fl k m.length (zEv enc d m)):=by
 refine zY5 (x:=[x]) rfl (fun i hi j hj=>?_) h;have h0:i=0:=by simpa using hi
 subst h0;simpa using ht j hj
theorem zRC{n:Nat}(h:∀x j,j<k->(enc x j).kept):(Tr.s .o k n (zEv enc d l)).kept:=⟨by simp,fun i j _ hj=>h _ j hj⟩
end
def encP(x:Int×Int):Nat->Tr
 | 0=>.v (.int .i64 x.1)
 | 1=>.v (.int .i64 x.2)
 | _=>.v (.bool false)
abbrev ptL(l:List (Int×Int)):Nat->Nat->Tr:=zEv encP (0,0) l
theorem zae(l:List (Int×Int)):ptL l=ptrsT (fun i=>(l[i]?.getD (0,0)).1) (fun i=>(l[i]?.getD (0,0)).2):=by
 funext i c
 match c with
 | 0=>rfl
 | 1=>rfl
 | c+2=>rfl
theorem zEP{a b:Int}:∀j,j<2->([Tr.v (Value.int .i64 a),Tr.v (Value.int .i64 b)][j]?.getD (.v (.bool false))).nt=encP (a,b) j
 | 0,_=>rfl
 | 1,_=>rfl
theorem zCh{n:Nat}{l:List (Int×Int)}:(Tr.s .o 2 n (ptL l)).kept:=zRC fun x j _=>by unfold encP;split<;>trivial
theorem zHT{n:Nat}{a b:Nat->Int}:(Tr.s .o 2 n (ptrsT a b)).kept↔True:=by
 refine⟨fun _=>trivial,fun _=>⟨by simp,fun i j _ _=>?_⟩⟩;unfold ptrsT;split<;>trivial
attribute [local go_sem] qX List.map_cons List.map_nil Tr.cv yq qK yA qz yp yo yn qy zBE zBG zBF zBB zBD zBC zCa zCc zCb qP zr qQ zt qI qH qU zAA zo zp yE qO tmpsOf zAo yD qN zBA yw yu yr yx yv stpP opds opd opdC kap zAB qJ zn coreU bin zAe zCK get put dlO fgt zBR zBK zBO zBP tyT yk yj Op.operands Call.operands evLoad evLen evStore evAlloc zAj and_true true_and List.append_nil List.nil_append List.cons_append Ret resCv zB3 yV cellM zBh zCE qV StW StR hpT hpO hpV hpA hpL hpC sg nin zCU bdO tmW obW AvE CsE CvE Av.tup Av.ids Cv.ids inD ObE Ob.ids TrE.refl qM yB yC qR qS qT zq zb zX yz zBa zCL zBH evCall argL argOf qZ outOb obO yM qA cvO tot Tr.own rid partsOf fillC zS zBf frz frz1 evBuildSlice zc trs Cv.tr evSlice Option.toArray_none Option.toArray_some evMakeSlice evAppend dstOf srcOf zA3 zBQ zBN zBL zBM ikT qx qw qv qu RetP RetN zBr qD evLd evSt evStoreH zAh evAppendM evAppendT tlOf mvOf rowE shp evTake oOf evC evCallP evCallN evCallO unlast zAO zA1 zAa argsF zCR qg pmC varT vT evField evConv dB0 Option.bind_some Option.bind_none Option.map_some Option.map_none Option.isSome_some Option.isSome_none
abbrev slO(s:zN):Bool×List Tr:=(true,[.v (.int .i64 s.birth),.s .o 2 s.kn (ptrsT s.ks s.kb),.v (.string s.data)])
noncomputable def zZv:zR:=qE (fun s:zN=>[slT s]) (fun s=>s.kn<=1000000) (fun s=>[slO s])
theorem zWy(s:zN):zZv [slT s]=some (s.kn<=1000000,[slO s]):=zK (fun l=>zNc (nth l 0 0) (nth l 0 1) (nth l 0 2)) (fun _=>rfl) s
theorem zSR:zd Tryz.prog 150 zZv:=by
 refine zP zl GOk.nil zk Tryz.func150 rfl Tryz.ntmps150 Tryz.results150 3 ?_;rintro s hn;replace hn:s.kn<=1000000:=hn;refine⟨by simp,?_⟩;simp[go_sem,zGn,zGL,zHT];omega
noncomputable def zbC:zR:=qE (fun q:Nat×(Nat->Int)×(Nat->Int)=>[(false,[.s .b 2 q.1 (ptrsT q.2.1 q.2.2)])]) (fun q=>q.1<=1000000) (fun q=>[(false,[.s .o 2 (kidsUp q.2.1 q.2.2 q.1).length (ptL (kidsUp q.2.1 q.2.2 q.1))])])
theorem zTc(n:Nat)(f g:Nat->Int):zbC [(false,[.s .b 2 n (ptrsT f g)])]=some (n<=1000000,[(false,[.s .o 2 (kidsUp f g n).length (ptL (kidsUp f g n))])]):=zK (fun l=>(zEu (nth l 0 0),fun i=>qC (zCA (nth l 0 0) i 0),fun i=>qC (zCA (nth l 0 0) i 1))) (fun _=>rfl) (n,f,g)
theorem zNw:zd Tryz.prog 155 zbC:=by
 refine zP zl (GOk.cons zDA (zG Tryz.func25 rfl rfl) GOk.nil) zk Tryz.func155 rfl Tryz.ntmps155 Tryz.results155 5 ?_;rintro⟨n,f,g⟩ hn;replace hn:n<=1000000:=hn;refine⟨by simp,?_⟩;simp[go_sem];refine qY (fun k:Nat=>⟨[(3,true,.m false [.h 7]),(0,true,.m false [.s .b 2 n (ptrsT f g)]),(4,true,.i k)],[(7,.row 2 (kidsUp f g k).length (ptL (kidsUp f g k)))]⟩) (fun k=>n - k) (fun k=>k<=n) 0 (by simp[go_sem,kidsUp];exact zET rfl) (by simp) ?_;rintro k hk;have hl:=zCj f g k;simp[go_sem,ze (show k<=1000000000 by omega),zCM];refine⟨fun aA=>⟨aA,fun h=>⟨aA,by omega,k+1,by omega,by omega,by omega,zC4 zEP (by simp[kidsUp,one,Nil,show ¬(f k=0/\g k=0)from fun e=>h e.1 e.2])⟩,fun h1 h2=>⟨k+1,by omega,by omega,by omega,zBv (by simp[kidsUp,one,Nil,h1,h2])⟩⟩,fun aA=>?_⟩;cases (show k=n from by omega);exact⟨zBv rfl,zCh⟩
noncomputable def zZx:zR:=qE (fun q:Nat×(Nat->Int)×(Nat->Int)=>[(false,[.s .b 2 q.1 (ptrsT q.2.1 q.2.2)])]) (fun q=>q.1<=1000000) (fun q=>bR (kidsUp q.2.1 q.2.2 q.1≠[]))
theorem zWz(n:Nat)(f g:Nat->Int):zZx [(false,[.s .b 2 n (ptrsT f g)])]=some (n<=1000000,bR (kidsUp f g n≠[])):=zK (fun l=>(zEu (nth l 0 0),fun i=>qC (zCA (nth l 0 0) i 0),fun i=>qC (zCA (nth l 0 0) i 1))) (fun _=>rfl) (n,f,g)
theorem zSU:zd Tryz.prog 153 zZx:=by
 refine zP zl (GOk.cons zNw (zG Tryz.func155 rfl rfl) GOk.nil) zk Tryz.func153 rfl Tryz.ntmps153 Tryz.results153 3 ?_;rintro⟨n,f,g⟩ hn;replace hn:n<=1000000:=hn;refine⟨by simp,?_⟩;simp[go_sem,zTc,hn];exact List.length_pos_iff
noncomputable def zTb:zR:=qE (fun q:Int=>[iT q]) (fun _=>True) (fun q=>bR (0<=q/\q<=63))
theorem zGI(x:Int):zTb [iT x]=some (True,bR (0<=x/\x<=63)):=zK (fun l=>qC (nth l 0 0)) (fun _=>rfl) x
theorem zIr:zd Tryz.prog 152 zTb:=by
 refine zP zl (GOk.cons zGy (zG Tryz.func74 rfl rfl) GOk.nil) zk Tryz.func152 rfl Tryz.ntmps152 Tryz.results152 3 ?_;rintro x -;refine⟨by simp,?_⟩;simp[go_sem,zL3]
noncomputable def zZk:zR:=qE (fun q:zF×Int×Int=>[poT q.1.n q.1.s q.1.hn q.1.h,pT q.2.1 q.2.2]) (fun q=>q.1.n<=1000000/\q.1.hn<=1000000) (fun q=>bR (zKz q.1 q.2.1 q.2.2))
theorem zQo(p:zF)(a b:Int):zZk [poT p.n p.s p.hn p.h,pT a b]=some (p.n<=1000000/\p.hn<=1000000,bR (zKz p a b)):=zK (fun l=>(zEi (nth l 0 0) (nth l 0 1),qC (nth l 1 0),qC (nth l 1 1))) (fun _=>rfl) (p,a,b)
theorem zSS:zd Tryz.prog 76 zZk:=by
 refine zP zl (GOk.cons zGE (zG Tryz.func111 rfl rfl) (GOk.cons zFX (zG Tryz.func42 rfl rfl) GOk.nil)) zk Tryz.func76 rfl Tryz.ntmps76 Tryz.results76 5 ?_;rintro⟨p,a,b⟩ ⟨hn,hm⟩;replace hn:p.n<=1000000:=hn;replace hm:p.hn<=1000000:=hm;refine⟨by simp,?_⟩;simp[go_sem,zIC,zHU,hn,hm];exact⟨fun h=>⟨h.2.1,h.2.2.1⟩,and_assoc⟩
noncomputable def zZo:zR:=qE (fun q:zF×Int×Int=>[poT q.1.n q.1.s q.1.hn q.1.h,pT q.2.1 q.2.2]) (fun q=>q.1.n<=1000000/\q.1.hn<=1000000) (fun q=>bR (zK2 q.1 q.2.1 q.2.2))
theorem zWo(p:zF)(a b:Int):zZo [poT p.n p.s p.hn p.h,pT a b]=some (p.n<=1000000/\p.hn<=1000000,bR (zK2 p a b)):=zK (fun l=>(zEi (nth l 0 0) (nth l 0 1),qC (nth l 1 0),qC (nth l 1 1))) (fun _=>rfl) (p,a,b)
theorem zST:zd Tryz.prog 77 zZo:=by
 refine zP zl (GOk.cons zGE (zG Tryz.func111 rfl rfl) (GOk.cons zFX (zG Tryz.func42 rfl rfl) GOk.nil)) zk Tryz.func77 rfl Tryz.ntmps77 Tryz.results77 5 ?_;rintro⟨p,a,b⟩ ⟨hn,hm⟩;replace hn:p.n<=1000000:=hn;replace hm:p.hn<=1000000:=hm;refine⟨by simp,?_⟩;simp[go_sem,zIC,zHU,hn,hm];exact⟨fun h=>⟨h.2.1,h.2.2.1⟩,and_assoc⟩
def zGd:zN:={birth:=0,kn:=0,ks:=fun _=>0,kb:=fun _=>0,data:=⟨#[]⟩}
def zG8(n:Nat):zF:={n:=n,s:=fun _=>zGd,hn:=0,h:=fun _=>0}
def zDI(s:zN):Nat:=s.kn+s.data.size
def zBt(f:Nat->zN):Nat->Nat
 | 0=>0
 | k+1=>zBt f k+zDI (f k)
def yI(p:zF):Nat:=p.n+zBt p.s p.n+p.hn
set_option linter.unusedSimpArgs false
set_option maxRecDepth 20000
set_option maxHeartbeats 1600000
attribute [local go_sem] qX List.map_cons List.map_nil Tr.cv yq qK yA qz yp yo yn qy zBE zBG zBF zBB zBD zBC zCa zCc zCb qP zr qQ zt qI qH qU zAA zo zp yE qO tmpsOf zAo yD qN zBA yw yu yr yx yv stpP opds opd opdC kap zAB qJ zn coreU bin zAe zCK get put dlO fgt zBR zBK zBO zBP tyT yk yj Op.operands Call.operands evLoad evLen evStore evAlloc zAj and_true true_and List.append_nil List.nil_append List.cons_append Ret resCv zB3 yV cellM zBh zCE qV StW StR hpT hpO hpV hpA hpL hpC sg nin zCU bdO tmW obW AvE CsE CvE Av.tup Av.ids Cv.ids inD ObE Ob.ids TrE.refl qM yB yC qR qS qT zq zb zX yz zBa zCL zBH evCall argL argOf qZ outOb obO yM qA cvO tot Tr.own rid partsOf fillC zS zBf frz frz1 evBuildSlice zc trs Cv.tr evSlice Option.toArray_none Option.toArray_some evMakeSlice evAppend dstOf srcOf zA3 zBQ zBN zBL zBM ikT qx qw qv qu RetP RetN zBr qD evLd evSt evStoreH zAh evAppendM evAppendT tlOf mvOf rowE shp evTake oOf evC evCallP evCallN evCallO unlast zAO zA1 zAa argsF zCR qg pmC varT vT evField evConv dB0 Option.bind_some Option.bind_none Option.map_some Option.map_none Option.isSome_some Option.isSome_none
theorem zQ{n:Nat}{s:Nat->zN}:(Tr.s .o 3 n (zY .z s)).kept:=⟨by simp,fun i j _ hj=>match j,hj with
 | 0,_=>trivial
 | 1,_=>⟨by simp,fun a b _ hb=>match b,hb with
  | 0,_=>trivial
  | 1,_=>trivial⟩
 | 2,_=>trivial⟩
theorem zZ{n:Nat}{h:Nat->Int}:(Tr.s .o 1 n (qf h)).kept:=⟨by simp,fun i j _ _=>trivial⟩
theorem zXh{fl:Fl}{k n:Nat}{F G:Nat->Nat->Tr}(h:∀j,j<k->G 0 j=F n j):TrE (.s fl k (n+1) (yH F n G)) (.s fl k (n+1) F):=by
 refine⟨.inl rfl,rfl,rfl,fun i j hi hj=>TrE.of_eq ?_⟩;unfold yH;by_cases hl:i<n
 ·rw[if_pos hl]
 ·cases (show i=n by omega);rw[if_neg hl,Nat.sub_self,h j hj]
abbrev poO(p:zF):Bool×List Tr:=(true,[.s .o 3 p.n (zY .z p.s),.s .o 1 p.hn (qf p.h)])
noncomputable def zZa:zR:=qE (fun p:zF=>[poT p.n p.s p.hn p.h]) (fun p=>p.n<=1000000/\p.hn<=1000000/\∀i,i<p.n->(p.s i).kn<=1000000) (fun p=>[poO p])
theorem zG2(p:zF):zZa [poT p.n p.s p.hn p.h]=some (p.n<=1000000/\p.hn<=1000000/\∀i,i<p.n->(p.s i).kn<=1000000,[poO p]):=zK (fun l=>zEi (nth l 0 0) (nth l 0 1)) (fun _=>rfl) p
theorem zGC:zd Tryz.prog 141 zZa:=by
 refine zP zl (GOk.cons zSR (zG Tryz.func150 rfl rfl) GOk.nil) zk Tryz.func141 rfl Tryz.ntmps141 Tryz.results141 5 ?_;rintro p ⟨hn,hm,hk⟩;replace hn:p.n<=1000000:=hn;replace hm:p.hn<=1000000:=hm;refine⟨by simp,?_⟩;simp[go_sem,zGn,zTr];refine⟨by omega,?_⟩;refine qY (fun k:Nat=>⟨[(4,true,.i k),(3,true,.m false [.p 3 0]),(2,true,.m false [.p 2 0]),(1,true,.m false [.p 1 0])],[(3,.var [.h 7,.h 8]),(7,.row 3 k (zY .z p.s)),(8,.row 1 p.hn (qf p.h)),(2,.var [.v n0,.v n0]),(1,.var [.s .b 3 p.n (zY .b p.s),.s .b 1 p.hn (qf p.h)])]⟩) (fun k=>p.n - k) (fun k=>k<=p.n) 0 ?_ (by simp) ?_
 ·simp[go_sem];exact TrE.refl (.s .o 1 p.hn (qf p.h))
 rintro k bA;simp[go_sem,ze (show k<=1000000000 by omega),zWy];refine⟨fun hl=>?_,fun hl=>?_⟩
 ·have aA:=hk k hl;refine⟨hl,aA,by omega,by kernel_rfl,k+1,by omega,by omega,by omega,zXh fun j hj=>?_⟩
  match j,hj with
  | 0,_=>rfl
  | 1,_=>rfl
  | 2,_=>rfl
 ·cases (show k=p.n by omega);exact⟨⟨TrE.refl _,zQ⟩,zZ⟩
def zHs(x:Int):Nat:=if 0<=x/\x<=200 then x.toNat else 0
noncomputable def zZn:zR:=qE (fun x:Int=>[iT x]) (fun _=>True) (fun x=>[poO (zG8 (zHs x))])
theorem zWn(x:Int):zZn [iT x]=some (True,[poO (zG8 (zHs x))]):=zK (fun l=>qC (nth l 0 0)) (fun _=>rfl) x
theorem zRh:zd Tryz.prog 119 zZn:=by
 refine zP zl GOk.nil zk Tryz.func119 rfl Tryz.ntmps119 Tryz.results119 5 ?_;rintro x -;refine⟨by simp,?_⟩;simp[go_sem];refine qY (fun k:Nat=>⟨[(4,true,.i k),(0,true,.i x),(3,true,.m false [.p 3 0]),(2,true,.m false [.p 2 0])],[(3,.var [.h 7,.v n0]),(7,.row 3 k (zY .z fun _=>zGd)),(2,.var [.v n0,.v n0])]⟩) (fun k=>200 - k) (fun k=>k<=zHs x) 0 (by simp[go_sem]) (by simp) ?_;rintro k hk;have hx:zHs x<=200:=by unfold zHs;split<;>omega
 have hz:IntKind.i64.wrap ((k:Int)+1)=(k+1:Nat):=by simpa using ze (show k<=1000000000 by omega)
 simp[go_sem,zG8];refine⟨fun h1 h2=>?_,fun h=>?_⟩
 ·have hm:zHs x=x.toNat:=if_pos ⟨by omega,h2⟩;refine⟨by omega,k+1,by omega,by omega,hz,?_⟩;refine⟨.inl rfl,rfl,rfl,fun i j hi hj=>?_⟩;unfold yH;by_cases hl:i<k
  ·rw[if_pos hl];exact TrE.refl _
  ·cases (show i=k by omega);rw[if_neg hl,Nat.sub_self]
   match j,hj with
   | 0,_=>rfl
   | 1,_=>exact⟨rfl,rfl⟩
   | 2,_=>rfl
 ·have hm:k=zHs x:=by
   by_cases h0:0<=x/\x<=200
   ·have e:zHs x=x.toNat:=if_pos h0;omega
   ·have e:zHs x=0:=if_neg h0;omega
  rw[hm];exact⟨TrE.refl _,zQ⟩
end Go.Proofs.YtginldeebkfbgaaGreat
