/- What impl.kidsThere answers. -/
import Derived.Test.YtmgeglgboadfiaaGreatDoorT2
import Derived.Deep.RegionWith
set_option linter.unusedVariables false
set_option maxRecDepth 20000
set_option maxHeartbeats 4000000
namespace Go.Proofs.YtmgeglgboadfiaaGreatDoor
open Go.RowKit
def zGn(n:Nat)(f:Nat->zL)(s:zL):Prop:=∀i,i<8->zAW n f s.zRU (s.ks i) (s.kb i) (s.ks i) (s.kb i)
theorem zBP.uniq{n:Nat}{f:Nat->zL}{x ps pb aA bA:Int}(h:zBP n f x ps pb)(h':zBP n f x aA bA):ps=aA/\pb=bA:=by
 rcases h with⟨a,b,c,rfl,rfl⟩ | ⟨a,rfl,rfl⟩<;>rcases h' with⟨a',b',c',rfl,rfl⟩ | ⟨a',rfl,rfl⟩
 ·exact⟨rfl,rfl⟩
 ·exact absurd ⟨a,b,c⟩ a'
 ·exact absurd ⟨a',b',c'⟩ a
 ·exact⟨rfl,rfl⟩
theorem zAW.uniq{n:Nat}{f:Nat->zL}{b ks kb rs rb bA aA:Int}(h:zAW n f b ks kb rs rb)(h':zAW n f b ks kb bA aA):rs=bA/\rb=aA:=by
 obtain⟨ps,pb,hp,h⟩:=h;obtain⟨eA,dA,cA,h'⟩:=h';obtain⟨rfl,rfl⟩:=hp.uniq cA;rcases h with⟨a,rfl,rfl⟩ | ⟨a,rfl,rfl⟩<;>rcases h' with⟨a',rfl,rfl⟩ | ⟨a',rfl,rfl⟩
 ·exact⟨rfl,rfl⟩
 ·exact absurd a a'
 ·exact absurd a' a
 ·exact⟨rfl,rfl⟩
theorem zJV(g:Nat->Int)(k:Nat)(hk:k<8)(x y:Int):((zp g).setIfInBounds (k*2) (.int .i64 x)).setIfInBounds (k*2+1) (.int .i64 y)=zp (fun j=>if j=k*2 then x else if j=k*2+1 then y else g j):=by
 apply Array.ext_getElem?;intro i;rw[Array.getElem?_setIfInBounds,Array.getElem?_setIfInBounds];simp only[Array.size_setIfInBounds,qB];by_cases aA:i<16
 ·rw[yQ _ aA,yQ _ aA];by_cases e1:k*2+1=i
  ·subst e1;rw[if_pos rfl,if_pos (by omega),if_neg (by omega),if_pos rfl]
  ·rw[if_neg e1];by_cases e0:k*2=i
   ·subst e0;rw[if_pos rfl,if_pos (by omega),if_pos rfl]
   ·rw[if_neg e0,if_neg (by omega),if_neg (by omega)]
 ·have n1:(zp g)[i]?=none:=Array.getElem?_eq_none (by rw[qB];omega);have n2:(zp (fun j=>if j=k*2 then x else if j=k*2+1 then y else g j))[i]?=none:=Array.getElem?_eq_none (by rw[qB];omega);rw[n1,n2,if_neg (by omega),if_neg (by omega)]
theorem zNz(g:Nat->Int)(k:Nat)(hk:k<8)(w:World):(Instr.index 155 (.agg (zp g)) (.int .i64 (k:Int))).run Tryz.prog w = .ok (.agg #[.int .i64 (g (k*2)),.int .i64 (g (k*2+1))]) w:=by
 rcases(by omega:k=0\/k=1\/k=2\/k=3\/k=4\/k=5\/k=6\/k=7)with rfl | rfl | rfl | rfl | rfl | rfl | rfl | rfl
 all_goals kernel_rfl
theorem zPi(g:Nat->Int)(k:Nat)(hk:k<8)(w:World):(part 61 (zp g) (k*2)).run Tryz.prog w = .ok (.agg #[.int .i64 (g (k*2)),.int .i64 (g (k*2+1))]) w:=by
 rcases(by omega:k=0\/k=1\/k=2\/k=3\/k=4\/k=5\/k=6\/k=7)with rfl | rfl | rfl | rfl | rfl | rfl | rfl | rfl
 all_goals kernel_rfl
theorem zQP(d:Nat)(a b c e:Int)(w:World):(Op.equalIn (d+2) 61 (.agg #[.int .i64 a,.int .i64 b]) (.agg #[.int .i64 c,.int .i64 e])).run Tryz.prog w = .ok (a == c && b == e) w:=by
 by_cases h1:a=c<;>by_cases h2:b=e
 all_goals simp[go_sem,h1,h2]
theorem zQF(w:World):(sizeOf 61).run Tryz.prog w = .ok 2 w:=by kernel_rfl
theorem zJM{P:Program}(b:Nat->Bool)(F:Nat->Option Bool×Unit->Sem (ForInStep (Option Bool×Unit))):∀(L:List Nat) (w:World),(∀i∈L,∀s w,(F i s).run P w = .ok (if b i then .yield (none,())else .done (some false,())) w)->
  (forIn L (none,()) F).run P w = .ok (if L.all b then(none,())else(some false,())) w
 | [],w,_=>by simp[Sem.run_pure]
 | i :: L,w,hF=>by
  simp only[List.forIn_cons,Sem.run_bind,hF i (by simp),Result.andThen_ok,List.all_cons];by_cases hb:b i=true
  ·simp only[hb,if_true,Bool.true_and];exact zJM b F L w (fun j hj=>hF j (by simp[hj]))
  ·simp[hb,Sem.run_pure]
def zGV(g h:Nat->Int):Bool:=(List.range 8).all fun i=>g (i*2) == h (i*2) && g (i*2+1) == h (i*2+1)
theorem zIH(g h:Nat->Int):zGV g h=true↔∀i,i<8->g (i*2)=h (i*2)/\g (i*2+1)=h (i*2+1):=by
 simp[zGV,List.all_eq_true]
theorem zN0(g h:Nat->Int)(d:Nat)(w:World):(Op.equalIn (d+3) 155 (.agg (zp g)) (.agg (zp h))).run Tryz.prog w = .ok (zGV g h) w:=by
 rw[Op.equalIn];simp only[Sem.run_bind,run_underlying zHH,Result.andThen_ok,zQF];rw[Std.Legacy.Range.forIn_eq_forIn_range'];have e:=zJM (P:=Tryz.prog) (fun i=>g (i*2) == h (i*2) && g (i*2+1) == h (i*2+1)) (fun i (bA:Option Bool×Unit)=>do
      let __do_lift <-part 61 (zp g) (i*2)
      let __do_lift_1 <-part 61 (zp h) (i*2)
      let __do_lift <-Op.equalIn (d+2) 61 __do_lift __do_lift_1
      if (!__do_lift)=true then pure (ForInStep.done (some false,()))else pure (ForInStep.yield (none,()))) (List.range 8) w (fun i hi s w=>by
   have aA:i<8:=(by simpa using hi);simp only[Sem.run_bind,zPi _ i aA,Result.andThen_ok,zQP];cases (g (i*2) == h (i*2) && g (i*2+1) == h (i*2+1))<;>simp[Sem.run_pure])
 have e2:List.range' 0 (([:8]:Std.Legacy.Range).size) ([:8]:Std.Legacy.Range).step=List.range 8:=by rfl
 rw[e2,e];simp only[Result.andThen_ok];unfold zGV;cases ((List.range 8).all fun i=>g (i*2) == h (i*2) && g (i*2+1) == h (i*2+1))<;>simp[Sem.run_pure]
theorem zKZ(g h:Nat->Int)(w:World):(binOp .eql 155 (.agg (zp g)) (.agg (zp h))).run Tryz.prog w = .ok (.bool (zGV g h)) w:=by
 rw[run_eql_struct,zN0 g h 9997];rfl
theorem zIk(v v0 v1 v2:Value)(n lo hi lo' hi':Nat)(f:Nat->zL)(s:zL)(w:World)(h1:qA w lo hi v n f)(h2:qI w lo' hi' v0 v1 v2 s)(hk:s.kn=8) :
  Calls Tryz.prog 200 #[v,.agg #[v0,v1,v2]] w fun e w'=>zG (zGn n f s) e/\Below w.heap.size w w':=by
 have Hv:Hid (qA w lo hi v n f):=h1;obtain⟨m1,a,c,rfl,mc,g1⟩:=h1;have Hs:Hid (qI w lo' hi' v0 v1 v2 s):=h2;obtain⟨rfl,⟨m2,ka,kc,rfl,gB,g2⟩,rfl,m3⟩:=h2;have Hk:Hid (s.kn=8):=hk;clear g1 g2 hk;go_enter Tryz.func200,Tryz.ntmps200;go_wp2_with fail;have iA:=zC w (.cells #[.int .i64 s.zRU,.slice ka s.kn kc,.string s.data] 127);refine(zDS _ _ _ lo' hi' s _ (Hs.out.zRJ iA) (Or.inr Hk.out)).mono ?_;rintro e w1 ⟨rfl,fA⟩;have Hx:Hid (yT w1 w.heap.size (.int .i64 s.zRU) (.slice ka s.kn kc) (.string s.data)):=(yT.zRL w _ _ _ _).zRJ fA;have bB:=zA iA fA;have bA:Hid ((Tryz.prog.info? 155).map (·.size)=some (qE s).size):=by
  show _=_;rw[qE,qB];exact zBp
 clear iA fA;have nA:(#[Value.int .i64 0,Value.int .i64 0,Value.int .i64 0,Value.int .i64 0,Value.int .i64 0,Value.int .i64 0,Value.int .i64 0,Value.int .i64 0,Value.int .i64 0,Value.int .i64 0,Value.int .i64 0,Value.int .i64 0,Value.int .i64 0,Value.int .i64 0,Value.int .i64 0,Value.int .i64 0]:Array Value)=zp (fun _=>0):=rfl;have eA:Hid ((#[Value.int .i64 0,Value.int .i64 0,Value.int .i64 0,Value.int .i64 0,Value.int .i64 0,Value.int .i64 0,Value.int .i64 0,Value.int .i64 0,Value.int .i64 0,Value.int .i64 0,Value.int .i64 0,Value.int .i64 0,Value.int .i64 0,Value.int .i64 0,Value.int .i64 0,Value.int .i64 0]:Array Value)=zp (fun _=>0)):=nA;clear nA;go_wp2_with (first
  | (refine wpList_store_row rfl 155 (.tmp 5) (.tmp 10) rfl w1.heap.size (qE s) rfl rfl 155 #[Value.int .i64 0,Value.int .i64 0,Value.int .i64 0,Value.int .i64 0,Value.int .i64 0,Value.int .i64 0,Value.int .i64 0,Value.int .i64 0,Value.int .i64 0,Value.int .i64 0,Value.int .i64 0,Value.int .i64 0,Value.int .i64 0,Value.int .i64 0,Value.int .i64 0,Value.int .i64 0] (heap_alloc_last _ _) bA.out (by rw[qE,qB];rfl) (zAs _) ?_;rw[World.setRow_alloc_new])
  | (refine wpList_load_row rfl 155 (.tmp 5) rfl w1.heap.size rfl 155 (qE s) (0,0) _ ?hh zHH rfl bA.out ?_;(exact(Below.heap_alloc _ _ _ (by simp)).trans (heap_alloc_last _ _))))
 have sA:w.heap.size<w1.heap.size:=Hx.out.1.lt
 go_loopw [12] (fun i wr=>∃(k:Nat) (g:Nat->Int),k<=8/\i = .int .i64 k/\(∀j,j<k->zAW n f s.zRU (s.ks j) (s.kb j) (g (j*2)) (g (j*2+1)))/\yT wr w.heap.size (.int .i64 s.zRU) (.slice ka s.kn kc) (.string s.data)/\
   wr.heap[w1.heap.size]?=some (.cells (qE s) 155 (0,0))/\wr.heap[w1.heap.size+1]?=some (.cells (zp g) 155 (0,0))/\Below w.heap.size w wr) (fun i _=>8 - (intOf i).toNat)
 case atStart=>
  refine⟨0,fun _=>0,Nat.zero_le _,rfl,fun j hj=>absurd hj (Nat.not_lt_zero _),(Hx.out.zRJ (zC _ _)).zRJ (zC _ _),?_,?_,zA (zA bB (zC _ _)) (zC _ _)⟩
  ·exact(Below.heap_alloc _ _ _ (by simp)).trans (heap_alloc_last _ _)
  ·have:=heap_alloc_last (w1.alloc (.cells (qE s) 155)) (.cells #[Value.int .i64 0,Value.int .i64 0,Value.int .i64 0,Value.int .i64 0,Value.int .i64 0,Value.int .i64 0,Value.int .i64 0,Value.int .i64 0,Value.int .i64 0,Value.int .i64 0,Value.int .i64 0,Value.int .i64 0,Value.int .i64 0,Value.int .i64 0,Value.int .i64 0,Value.int .i64 0] 155);rw[World.size_alloc]at this;rw[this,eA.out]
 case round=>
  obtain⟨k,g,hk,rfl,cA,hx,hK,hF,hb⟩:=hrel;have aA:Hid (∀j,j<k->zAW n f s.zRU (s.ks j) (s.kb j) (g (j*2)) (g (j*2+1))):=cA;have HX:Hid (yT wr w.heap.size (.int .i64 s.zRU) (.slice ka s.kn kc) (.string s.data)):=hx;have HK:Hid (wr.heap[w1.heap.size]?=some (.cells (qE s) 155 (0,0))):=hK;have HF:Hid (wr.heap[w1.heap.size+1]?=some (.cells (zp g) 155 (0,0))):=hF;clear cA hx hK hF;have mA:w1.heap.size+1<wr.heap.size:=(Array.getElem?_eq_some_iff.1 HF.out).1;by_cases oA:k<8
  ·have dB:(k:Int)<8:=(by omega);have jA:∀w,(Instr.index 155 (.agg (qE s)) (.int .i64 (k:Int))).run Tryz.prog w = .ok (.agg #[.int .i64 (s.ks k),.int .i64 (s.kb k)]) w:=fun w=>by
    have e:=zNz (zk s) k oA w;have e0:zk s (k*2)=s.ks k:=(by unfold zk;rw[if_pos (by have:=Hk.out;omega),if_pos (by omega),show k*2 / 2=k by omega]);have e1:zk s (k*2+1)=s.kb k:=(by unfold zk;rw[if_pos (by have:=Hk.out;omega),if_neg (by omega),show(k*2+1) / 2=k by omega]);rw[e0,e1]at e;exact e
   obtain⟨⟨x0,x1⟩,⟨x2,x3⟩,⟨x4,x5⟩⟩:=HX.out;have aB:w.heap.size<wr.heap.size:=(by omega);go_wp2_with fail;have lA:=zC wr (.cells #[.int .i64 (s.ks k),.int .i64 (s.kb k)] 61);refine(zJ2 _ n lo hi f _ _ _ _ (Hv.out.zRJ (zA hb lA))).mono ?_;rintro e w2 ⟨⟨rs,rb,rfl,pA⟩,rA⟩;have cB:Hid (zAW n f s.zRU (s.ks k) (s.kb k) rs rb):=pA;have dA:=zA lA rA;have kA:Hid (w2.heap[w1.heap.size+1]?=some (.cells (zp g) 155 (0,0))):=(dA.block _ mA).trans HF.out;have fB:Hid (w2.heap[w1.heap.size]?=some (.cells (qE s) 155 (0,0))):=(dA.block _ (by omega)).trans HK.out;have eB:Hid (yT w2 w.heap.size (.int .i64 s.zRU) (.slice ka s.kn kc) (.string s.data)):=HX.out.zRJ dA;have tA:=zA hb dA;clear pA rA lA dA x0 x1 x2 x3 x4 x5 jA HF HK HX hb;obtain⟨y0,y1⟩:=zI (i:=k*2) kA.out (yQ g (by omega));obtain⟨y2,y3⟩:=zI (i:=k*2+1) kA.out (yQ g (by omega));go_wp2;go_roundw
   case rel=>
    refine⟨k+1,fun j=>if j=k*2 then rs else if j=k*2+1 then rb else g j,by omega,by go_num,fun j hj=>?_,(eB.out.zRK _ (by omega)).zRK _ (by omega),?_,?_,(tA.setCell (by show _<=w1.heap.size+1;omega) _).setCell (by show _<=w1.heap.size+1;omega) _⟩
    ·by_cases e:j=k
     ·subst e;simp only[if_true];rw[if_neg (by omega)];exact cB.out
     ·simp only;rw[if_neg (by omega),if_neg (by omega),if_neg (by omega),if_neg (by omega)];exact aA.out j (by omega)
    ·rw[Below.heap_setCell _ _ _ _ (by show w1.heap.size≠w1.heap.size+1;omega),Below.heap_setCell _ _ _ _ (by show w1.heap.size≠w1.heap.size+1;omega)];exact fB.out
    ·have:=zAV (o:=k*2+1) (.int .i64 rb) (zAV (o:=k*2) (.int .i64 rs) kA.out);rw[zJV g k oA]at this;exact this
   case measure=>simp[intOf];omega
  ·obtain rfl:k=8:=(by omega);have vA:∀w,(binOp .eql 155 (.agg (zp g)) (.agg (qE s))).run Tryz.prog w = .ok (.bool (zGV g (zk s))) w:=fun w=>zKZ g (zk s) w
   have gA:Hid ((Tryz.prog.info? 155).map (·.size)=some (zp g).size):=by
    show _=_;rw[qB];exact zBp
   go_wp2_with (first
    | (refine wpList_load_row rfl 155 (.tmp 6) rfl (w1.heap.size+1) rfl 155 (zp g) (0,0) _ HF.out zHH rfl gA.out ?_)
    | (refine wpList_load_row rfl 155 (.tmp 5) rfl w1.heap.size rfl 155 (qE s) (0,0) _ HK.out zHH rfl bA.out ?_))
   go_ret;refine⟨⟨_,rfl,?_⟩,hb⟩;rw[zIH];have e0:∀i,i<8->zk s (i*2)=s.ks i/\zk s (i*2+1)=s.kb i:=fun i hi=>by
    have:=Hk.out;refine⟨?_,?_⟩
    ·unfold zk;rw[if_pos (by omega),if_pos (by omega),show i*2 / 2=i by omega]
    ·unfold zk;rw[if_pos (by omega),if_neg (by omega),show(i*2+1) / 2=i by omega]
   constructor
   ·intro h i hi;have:=aA.out i hi;rw[(h i hi).1,(h i hi).2,(e0 i hi).1,(e0 i hi).2]at this;exact this
   ·intro h i hi;rw[(e0 i hi).1,(e0 i hi).2];exact(aA.out i hi).uniq (h i hi)
def zA7(n:Nat)(f:Nat->zL)(s:zL):Prop:=qF s\/zHA s\/(zL8 s/\zGn n f s)
def zF1(p:zJ)(i:Nat):Prop:=¬zBP p.n p.s (p.h i) 0 0/\¬Has i p.h (p.h i)
def zQp(p:zJ):Prop:=p.n<=200/\p.hn<=p.n/\(∀i,i<p.n->zA7 p.n p.s (p.s i))/\∀i,i<p.hn->zF1 p i
theorem zE3(v v0 v1 v2:Value)(n lo hi lo' hi':Nat)(f:Nat->zL)(s:zL)(w:World)(h1:qA w lo hi v n f)(h2:qI w lo' hi' v0 v1 v2 s) :
  Calls Tryz.prog 158 #[v,.agg #[v0,v1,v2]] w fun e w'=>zG (zA7 n f s) e/\Below w.heap.size w w':=by
 have Hv:Hid (qA w lo hi v n f):=h1;obtain⟨m1,a,c,rfl,mc,g1⟩:=h1;have Hs:Hid (qI w lo' hi' v0 v1 v2 s):=h2;obtain⟨rfl,⟨m2,ka,kc,rfl,mA,g2⟩,rfl,m3⟩:=h2;clear g1 g2;go_enter Tryz.func158,Tryz.ntmps158;go_wp2_with fail;have eA:=zC w (.cells #[.int .i64 s.zRU,.slice ka s.kn kc,.string s.data] 127);refine(zBe _ _ _ lo' hi' s _ (Hs.out.zRJ eA)).mono ?_;rintro e w1 ⟨⟨t,rfl,ht⟩,iA⟩;have Hx:Hid (yT w1 w.heap.size (.int .i64 s.zRU) (.slice ka s.kn kc) (.string s.data)):=(yT.zRL w _ _ _ _).zRJ iA;have bA:=zA eA iA;clear eA iA;by_cases hf:qF s
 ·obtain rfl:t=true:=ht.2 hf;have HF:Hid (qF s):=hf;clear ht hf;go_wp2;go_ret;exact⟨zG.yes (Or.inl HF.out),bA⟩
 ·obtain rfl:t=false:=zQ ht hf;have HF:Hid (¬qF s):=hf;clear ht hf;obtain⟨⟨x0,x1⟩,⟨x2,x3⟩,⟨x4,x5⟩⟩:=Hx.out;go_wp2_with fail;refine(zIC _ _ _ lo' hi' s _ (Hs.out.zRJ bA)).mono ?_;rintro e w2 ⟨⟨t,rfl,ht⟩,dA⟩;have gA:Hid (yT w2 w.heap.size (.int .i64 s.zRU) (.slice ka s.kn kc) (.string s.data)):=Hx.out.zRJ dA;have cA:=zA bA dA;clear dA bA x0 x1 x2 x3 x4 x5 Hx;by_cases hf:zHA s
  ·obtain rfl:t=true:=ht.2 hf;have HP:Hid (zHA s):=hf;clear ht hf;go_wp2;go_ret;exact⟨zG.yes (Or.inr (Or.inl HP.out)),cA⟩
  ·obtain rfl:t=false:=zQ ht hf;have HP:Hid (¬zHA s):=hf;clear ht hf;obtain⟨⟨x0,x1⟩,⟨x2,x3⟩,⟨x4,x5⟩⟩:=gA.out;go_wp2_with fail;refine(zMH _ _ _ lo' hi' s _ (Hs.out.zRJ cA)).mono ?_;rintro e w3 ⟨⟨t,rfl,ht⟩,fA⟩;have kA:Hid (yT w3 w.heap.size (.int .i64 s.zRU) (.slice ka s.kn kc) (.string s.data)):=gA.out.zRJ fA;have aA:=zA cA fA;clear fA cA x0 x1 x2 x3 x4 x5 gA;by_cases hf:zL8 s
   ·obtain rfl:t=true:=ht.2 hf;have HN:Hid (zL8 s):=hf;clear ht hf;obtain⟨⟨x0,x1⟩,⟨x2,x3⟩,⟨x4,x5⟩⟩:=kA.out;go_wp2_with fail;refine(zIk _ _ _ _ n lo hi lo' hi' f s _ (Hv.out.zRJ aA) (Hs.out.zRJ aA) HN.out.2.1).mono ?_;rintro e w4 ⟨⟨t,rfl,ht⟩,jA⟩;have Ht:Hid (t=true↔zGn n f s):=ht;have lA:=zA aA jA;clear jA aA x0 x1 x2 x3 x4 x5 kA ht;go_wp2;go_ret;refine⟨⟨t,rfl,Ht.out.trans ⟨fun h=>Or.inr (Or.inr ⟨HN.out,h⟩),fun h=>?_⟩⟩,lA⟩;rcases h with h | h | h
    ·exact absurd h HF.out
    ·exact absurd h HP.out
    ·exact h.2
   ·obtain rfl:t=false:=zQ ht hf;have HN:Hid (¬zL8 s):=hf;clear ht hf;go_wp2;go_ret;refine⟨zG.no fun h=>?_,aA⟩;rcases h with h | h | h
    ·exact HF.out h
    ·exact HP.out h
    ·exact HN.out h.1
theorem zI5(v0 v1:Value)(lo hi:Nat)(p:zJ)(w:World)(h1:zy w lo hi v0 v1 p) :
  Calls Tryz.prog 194 #[.agg #[v0,v1]] w fun e w'=>zG (∀i,i<p.hn->zF1 p i) e/\Below w.heap.size w w':=by
 have Hp:Hid (zy w lo hi v0 v1 p):=h1;obtain⟨⟨m1,a,c,rfl,mc,g1⟩,⟨m2,a',c',rfl,rA,g2⟩⟩:=h1;unfold maxLen at m1 m2;clear g1 g2;go_enter Tryz.func194,Tryz.ntmps194;go_wp2
 go_loopw [8] (fun i wr=>∃k:Nat,k<=p.hn/\i = .int .i64 k/\(∀j,j<k->zF1 p j)/\zc wr w.heap.size (.slice a p.n c) (.slice a' p.hn c')/\Below w.heap.size w wr) (fun i _=>p.hn - (intOf i).toNat)
 case atStart=>exact⟨0,Nat.zero_le _,rfl,fun j hj=>absurd hj (Nat.not_lt_zero _),zc.zRL _ _ _ _,zC _ _⟩
 case round=>
  obtain⟨k,hk,rfl,bA,hx,hb⟩:=hrel;have cA:Hid (∀j,j<k->zF1 p j):=bA;have Hx:Hid (zc wr w.heap.size (.slice a p.n c) (.slice a' p.hn c')):=hx;clear bA hx;obtain⟨⟨y0,y1⟩,⟨y2,y3⟩⟩:=Hx.out;by_cases dA:k<p.hn
  ·have nA:(k:Int)<(p.hn:Int):=(by omega);have aA:=Hp.out.2.zRJ hb;have fA:Hid (qY wr lo hi (.slice a' p.hn c') p.hn p.h):=aA;obtain⟨_,a2,mA,lA,_,jA⟩:=aA;simp only[Value.slice.injEq,true_and]at lA;obtain⟨rfl,rfl⟩:=lA;obtain⟨b,off,rfl,_,_,k1⟩:=jA (by omega);have pA:=k1 k dA;clear k1 jA;go_wp2_with fail;refine(zEj _ p.n lo hi p.s _ _ (Hp.out.1.zRJ hb)).mono ?_;rintro e w1 ⟨⟨ps,pb,rfl,kA⟩,eA⟩;have iA:Hid (zBP p.n p.s (p.h k) ps pb):=kA;have HX:Hid (zc w1 w.heap.size (.slice a p.n c) (.slice (some ⟨b,off,none⟩) p.hn c')):=Hx.out.zRJ eA;have HI:Hid (qY w1 lo hi (.slice (some ⟨b,off,none⟩) k k) k p.h):=(fA.out.zRJ eA).take (by omega) (by omega);have gA:=zA hb eA;clear kA eA y0 y1 y2 y3 Hx;by_cases hz:ps=0/\pb=0
   ·obtain⟨rfl,rfl⟩:=hz;go_wp2;go_ret;exact⟨zG.no fun h=>(h k dA).1 iA.out,gA⟩
   ·have HZ:Hid (¬zBP p.n p.s (p.h k) 0 0):=fun h=>by
     obtain⟨e0,e1⟩:=iA.out.uniq h;exact hz ⟨e0,e1⟩
    have e0:(ps == 0)=false\/(ps == 0)=true/\(pb == 0)=false:=by
     by_cases h:ps=0
     ·right;refine⟨by simp[h],?_⟩;have:pb≠0:=fun h'=>hz ⟨h,h'⟩
      simp[this]
     ·left;simp[h]
    clear hz;obtain⟨⟨y0,y1⟩,⟨y2,y3⟩⟩:=HX.out;have oA:k<=c':=(by omega);by_cases hh:Has k p.h (p.h k)
    ·have HH:Hid (Has k p.h (p.h k)):=hh;clear hh;rcases e0 with e0 | ⟨e0,e1⟩
     all_goals
      go_wp2_with fail;refine(zCF _ k lo hi p.h _ _ HI.out).mono ?_;rintro e w2 ⟨⟨t,rfl,ht⟩,rfl⟩;obtain rfl:t=true:=ht.2 HH.out;clear ht;go_wp2;go_ret;exact⟨zG.no fun h=>(h k dA).2 HH.out,gA⟩
    ·have HH:Hid (¬Has k p.h (p.h k)):=hh;clear hh;rcases e0 with e0 | ⟨e0,e1⟩
     all_goals
      go_wp2_with fail;refine(zCF _ k lo hi p.h _ _ HI.out).mono ?_;rintro e w2 ⟨⟨t,rfl,ht⟩,rfl⟩;obtain rfl:t=false:=zQ ht HH.out;clear ht y0 y1 y2 y3;go_wp2;go_roundw
      case rel=>exact⟨k+1,by omega,by go_num,zo dA cA.out ⟨HZ.out,HH.out⟩,HX.out,gA⟩
      case measure=>simp[intOf];omega
  ·obtain rfl:k=p.hn:=(by omega);go_wp2;go_ret;exact⟨zG.yes cA.out,hb⟩
theorem zOp:∀(m n:Nat) (h:Nat->Nat),(∀i,i<m->h i<n)->(∀i j,i<j->j<m->h i≠h j)->m<=n
 | 0,_,_,_,_=>Nat.zero_le _
 | m+1,0,h,hlt,_=>absurd (hlt 0 (by omega)) (Nat.not_lt_zero _)
 | m+1,n+1,h,hlt,hne=>by
  have key:=zOp m n (fun i=>if h i<h m then h i else h i - 1) (fun i hi=>by
   have a:=hlt i (by omega);have b:=hne i m hi (by omega);have c:=hlt m (by omega);show(if h i<h m then h i else h i - 1)<n;split<;>omega) (fun i j aA hj=>by
   have a:=hne i j aA (by omega);have b:=hne i m (by omega) (by omega);have c:=hne j m (by omega) (by omega);show(if h i<h m then h i else h i - 1)≠(if h j<h m then h j else h j - 1);split<;>split<;>omega)
  omega
theorem zHg{s:zL}(h:qF s):s.zRU=0:=h.1
theorem zO4{n:Nat}{f:Nat->zL}{s:zL}(h:zA7 n f s)(hf:¬qF s):1<=s.zRU:=by
 rcases h with h | h | h
 ·exact absurd h hf
 ·exact h.1.1
 ·exact h.1.1.1
theorem zFV{p:zJ}{s:zL}(h:qF s\/zAN p s)(hf:¬qF s):1<=s.zRU:=by
 rcases h with h | h
 ·exact absurd h hf
 ·exact h.1.1
theorem zHN{p:zJ}{b ks kb:Int}(aA:∀i,i<p.n->¬qF (p.s i)->1<=(p.s i).zRU):zAW p.n p.s b ks kb ks kb↔zHu p b ks kb:=by
 constructor
 ·rintro⟨ps,pb,hp,h⟩;rcases h with⟨h,rfl,rfl⟩ | ⟨h,rfl,rfl⟩
  ·exact Or.inl ⟨rfl,rfl⟩
  ·rcases hp with⟨h1,h2,h3,_,h5⟩ | ⟨h1,rfl,rfl⟩
   ·right;have hb:=aA ks.toNat (by omega) h3;rw[<-h5]at hb;refine⟨⟨hb,h1,h2,h5.symm⟩,?_⟩;by_cases hx:b<kb
    ·exact absurd (Or.inr hx) h
    ·omega
   ·exact absurd (Or.inl ⟨rfl,rfl⟩) h
 ·rintro(⟨rfl,rfl⟩ | ⟨⟨h1,h2,h3,h4⟩,h5⟩)
  ·by_cases hx:0<p.n/\¬qF (p.s 0)
   ·refine⟨0,(p.s 0).zRU,Or.inl ⟨by omega,by omega,?_,rfl,rfl⟩,Or.inl ⟨Or.inl ⟨rfl,rfl⟩,rfl,rfl⟩⟩;exact hx.2
   ·refine⟨0,0,Or.inr ⟨fun h=>hx ⟨by omega,h.2.2⟩,rfl,rfl⟩,Or.inl ⟨Or.inl ⟨rfl,rfl⟩,rfl,rfl⟩⟩
  ·refine⟨ks,kb,Or.inl ⟨h2,h3,fun hf=>?_,rfl,h4.symm⟩,Or.inr ⟨fun h=>?_,rfl,rfl⟩⟩
   ·have:=zHg hf;omega
   ·rcases h with h | h
    ·have:=h.2;omega
    ·omega
theorem zCO(p:zJ):zQp p↔zv p:=by
 constructor
 ·rintro⟨h1,h2,h3,h4⟩;have aA:∀i,i<p.n->¬qF (p.s i)->1<=(p.s i).zRU:=fun i hi=>zO4 (h3 i hi)
  refine⟨h1,fun i hi=>?_,fun i hi=>?_⟩
  ·rcases h3 i hi with h | h | h
   ·exact Or.inl h
   ·exact Or.inr ⟨h.1,Or.inl h.2⟩
   ·refine Or.inr ⟨h.1.1,Or.inr ⟨h.1.2.1,h.1.2.2,fun j hj=>?_⟩⟩;exact(zHN aA).1 (h.2 j (by have:=h.1.2.1;omega))
  ·obtain⟨ha,hb⟩:=h4 i hi;have hx:0<=p.h i/\p.h i<p.n/\¬qF (p.s (p.h i).toNat):=by
    by_cases hx:0<=p.h i/\p.h i<p.n/\¬qF (p.s (p.h i).toNat)
    ·exact hx
    ·exact absurd (Or.inr ⟨hx,rfl,rfl⟩) ha
   exact⟨hx.1,hx.2.1,hx.2.2,hb⟩
 ·rintro⟨h1,h3,h4⟩;have aA:∀i,i<p.n->¬qF (p.s i)->1<=(p.s i).zRU:=fun i hi=>zFV (h3 i hi)
  refine⟨h1,?_,fun i hi=>?_,fun i hi=>?_⟩
  ·refine zOp p.hn p.n (fun i=>(p.h i).toNat) (fun i hi=>?_) (fun i j bA hj=>?_)
   ·obtain⟨a,b,_,_⟩:=h4 i hi;show(p.h i).toNat<p.n;omega
   ·obtain⟨a,b,_,d⟩:=h4 j hj;obtain⟨a',b',_,_⟩:=h4 i (by omega);show(p.h i).toNat≠(p.h j).toNat;intro e;exact d ⟨i,bA,by omega⟩
  ·rcases h3 i hi with h | h
   ·exact Or.inl h
   ·rcases h.2 with g | g
    ·exact Or.inr (Or.inl ⟨h.1,g⟩)
    ·exact Or.inr (Or.inr ⟨⟨h.1,g.1,g.2.1⟩,fun j hj=>(zHN aA).2 (g.2.2 j (by omega))⟩)
  ·obtain⟨a,b,c,d⟩:=h4 i hi;refine⟨fun hx=>?_,d⟩;rcases hx with⟨_,_,_,e1,e2⟩ | ⟨hx,_⟩
   ·have:=aA (p.h i).toNat (by omega) c;omega
   ·exact hx ⟨a,b,c⟩
theorem zAC(v0 v1:Value)(lo hi:Nat)(p:zJ)(w:World)(h1:zy w lo hi v0 v1 p) :
  Calls Tryz.prog 154 #[.agg #[v0,v1]] w fun e w'=>zG (zv p) e/\Below w.heap.size w w':=by
 have Hp:Hid (zy w lo hi v0 v1 p):=h1;obtain⟨⟨m1,a,c,rfl,mc,g1⟩,⟨m2,a',c',rfl,mA,g2⟩⟩:=h1;unfold maxLen at m1 m2;clear g1 g2;have fA:Hid (Below w.heap.size w (w.alloc (.cells #[.slice a p.n c,.slice a' p.hn c'] 33))):=zC _ _;by_cases hn:(200:Int)<p.n
 ·have H:Hid (¬zv p):=fun h=>by have:=h.1;omega
  go_enter Tryz.func154,Tryz.ntmps154;go_wp2;go_ret;exact⟨zG.no H.out,fA.out⟩
 by_cases kA:(p.n:Int)<p.hn
 ·have H:Hid (¬zv p):=fun h=>by have:=((zCO p).2 h).2.1;omega
  go_enter Tryz.func154,Tryz.ntmps154;go_wp2;go_ret;exact⟨zG.no H.out,fA.out⟩
 ·go_enter Tryz.func154,Tryz.ntmps154;go_wp2
  go_loopw [21] (fun i wr=>∃k:Nat,k<=p.n/\i = .int .i64 k/\(∀j,j<k->zA7 p.n p.s (p.s j))/\zc wr w.heap.size (.slice a p.n c) (.slice a' p.hn c')/\Below w.heap.size w wr) (fun i _=>p.n - (intOf i).toNat)
  case atStart=>exact⟨0,Nat.zero_le _,rfl,fun j hj=>absurd hj (Nat.not_lt_zero _),zc.zRL _ _ _ _,fA.out⟩
  case round=>
   obtain⟨k,hk,rfl,aA,hx,hb⟩:=hrel;have cA:Hid (∀j,j<k->zA7 p.n p.s (p.s j)):=aA;have Hx:Hid (zc wr w.heap.size (.slice a p.n c) (.slice a' p.hn c')):=hx;clear aA hx;obtain⟨⟨y0,y1⟩,⟨y2,y3⟩⟩:=Hx.out;have lA:w.heap.size<wr.heap.size:=Hx.out.1.lt;by_cases iA:k<p.n
   ·have jA:(k:Int)<(p.n:Int):=(by omega);obtain⟨b,off,ka,kc,rfl,hs⟩:=(Hp.out.1.zRJ hb).cells iA;have Hs:Hid (zAm wr b (off+k*3) lo hi ka kc (p.s k)):=hs;obtain⟨q0,q1,q2,_⟩:=hs;go_wp2_with fail;have dA:=zC wr (.cells #[.int .i64 (p.s k).zRU,.slice ka (p.s k).kn kc,.string (p.s k).data] 127);refine(zE3 _ _ _ _ p.n lo hi lo hi p.s (p.s k) _ (Hp.out.1.zRJ (zA hb dA)) (Hs.out.slot.zRJ dA)).mono ?_;rintro e w1 ⟨⟨t,rfl,ht⟩,bA⟩;have gA:=zA dA bA;have HX:Hid (zc w1 w.heap.size (.slice (some ⟨b,off,none⟩) p.n c) (.slice a' p.hn c')):=Hx.out.zRJ gA;have eA:=zA hb gA;have Ht:Hid (t=true↔zA7 p.n p.s (p.s k)):=ht;clear dA bA gA ht q0 q1 q2 y0 y1 y2 y3 Hx Hs;cases t
    ·go_wp2;go_ret;refine⟨zG.no fun h=>?_,eA⟩;have:=((zCO p).2 h).2.2.1 k iA;exact absurd (Ht.out.2 this) (by simp)
    ·go_wp2;go_roundw
     case rel=>exact⟨k+1,by omega,by go_num,zo iA cA.out (by simpa using Ht.out),HX.out,eA⟩
     case measure=>simp[intOf];omega
   ·obtain rfl:k=p.n:=(by omega);go_wp2_with fail;refine(zI5 _ _ lo hi p _ (Hp.out.zRJ hb)).mono ?_;rintro e w1 ⟨⟨t,rfl,ht⟩,bA⟩;have Ht:Hid (t=true↔∀i,i<p.hn->zF1 p i):=ht;have eA:=zA hb bA;clear ht bA y0 y1 y2 y3;go_wp2;go_ret;refine⟨⟨t,rfl,Ht.out.trans ⟨fun h=>?_,fun h=>?_⟩⟩,eA⟩
    ·exact(zCO p).1 ⟨by omega,by omega,cA.out,h⟩
    ·exact((zCO p).2 h).2.2.2
theorem zBP.some(n:Nat)(f:Nat->zL)(x:Int):∃ps pb,zBP n f x ps pb:=by
 by_cases h:0<=x/\x<n/\¬qF (f x.toNat)
 ·exact⟨x,(f x.toNat).zRU,Or.inl ⟨h.1,h.2.1,h.2.2,rfl,rfl⟩⟩
 ·exact⟨0,0,Or.inr ⟨h,rfl,rfl⟩⟩
theorem zEi(v:Value)(n lo hi:Nat)(f:Nat->zL)(xs xb:Int)(w:World)(h1:qA w lo hi v n f) :
  Calls Tryz.prog 191 #[v,.agg #[.int .i64 xs,.int .i64 xb]] w fun e w'=>zG (¬zCC xs xb 0 0/\zBP n f xs xs xb) e/\Below w.heap.size w w':=by
 have Hi:Hid (qA w lo hi v n f):=h1;obtain⟨m1,a,c,rfl,mc,g1⟩:=h1;clear g1;have ha:=zC w (.cells #[.int .i64 xs,.int .i64 xb] 61);have Hx:Hid (zc (w.alloc (.cells #[.int .i64 xs,.int .i64 xb] 61)) w.heap.size (.int .i64 xs) (.int .i64 xb)):=zc.zRL _ _ _ _;by_cases hz:xs=0/\xb=0
 ·obtain⟨rfl,rfl⟩:=hz;go_enter Tryz.func191,Tryz.ntmps191;go_wp2_with fail
  go_quiet (fail)
  go_wp2;go_ret;exact⟨zG.no fun h=>h.1 ⟨rfl,rfl⟩,zg ha _⟩
 ·have HZ:Hid (¬zCC xs xb 0 0):=hz;have e0:(xs == 0)=false\/(xs == 0)=true/\(xb == 0)=false:=by
   by_cases h:xs=0
   ·right;refine⟨by simp[h],?_⟩;have:xb≠0:=fun h'=>hz ⟨h,h'⟩
    simp[this]
   ·left;simp[h]
  clear hz;obtain⟨bA,cA,h0⟩:=zBP.some n f xs;have H0:Hid (zBP n f xs bA cA):=h0;clear h0;by_cases hq:xs=bA/\xb=cA
  ·obtain⟨rfl,rfl⟩:=hq;rcases e0 with e0 | ⟨e0,e1⟩
   all_goals
    go_enter Tryz.func191,Tryz.ntmps191;go_wp2_with fail;go_region_held3 (fun w'=>w'.cell? ⟨w.heap.size,0,none⟩=some (.int .i64 xs)/\w'.cell? ⟨w.heap.size,1,none⟩=some (.int .i64 xb)) (go_keep)
     (first | (go_at_call 216;refine(zEj _ n lo hi f _ _ ?_).mono ?_;(exact(Hi.out.zRJ ha).zRJ ((Below.refl _ _).drew));rintro e w1 ⟨⟨ps,pb,rfl,hp⟩,dA⟩;obtain⟨rfl,rfl⟩:=H0.out.uniq hp;clear hp;have aA:=zK dA;have z0:=(Hx.out.zRJ aA).1.1;have z1:=(Hx.out.zRJ aA).2.1))
    have eA:=zA ha aA;clear dA aA z0 z1;go_wp2;go_ret;exact⟨zG.yes ⟨HZ.out,H0.out⟩,eA⟩
  ·have HQ:Hid (¬(xs=bA/\xb=cA)):=hq;have e4:(xs == bA)=false\/(xs == bA)=true/\(xb == cA)=false:=by
    by_cases h:xs=bA
    ·right;refine⟨by simp[h],?_⟩;have:xb≠cA:=fun h'=>hq ⟨h,h'⟩
     simp[this]
    ·left;simp[h]
   clear hq;rcases e0 with e0 | ⟨e0,e1⟩
   all_goals
    rcases e4 with e4 | ⟨e4,e5⟩
    all_goals
     go_enter Tryz.func191,Tryz.ntmps191;go_wp2_with fail;go_region_held3 (fun w'=>w'.cell? ⟨w.heap.size,0,none⟩=some (.int .i64 xs)/\w'.cell? ⟨w.heap.size,1,none⟩=some (.int .i64 xb)) (go_keep)
      (first | (go_at_call 216;refine(zEj _ n lo hi f _ _ ?_).mono ?_;(exact(Hi.out.zRJ ha).zRJ ((Below.refl _ _).drew));rintro e w1 ⟨⟨ps,pb,rfl,hp⟩,dA⟩;obtain⟨rfl,rfl⟩:=H0.out.uniq hp;clear hp;have aA:=zK dA;have z0:=(Hx.out.zRJ aA).1.1;have z1:=(Hx.out.zRJ aA).2.1))
     have eA:=zA ha aA;clear dA aA z0 z1;go_wp2;go_ret;refine⟨zG.no fun h=>?_,eA⟩;obtain⟨q0,q1⟩:=h.2.uniq H0.out;exact HQ.out ⟨q0,q1⟩
theorem zEk{p:zJ}{xs xb:Int}(hR:zv p):(¬zCC xs xb 0 0/\zBP p.n p.s xs xs xb)↔zr p xs xb:=by
 constructor
 ·rintro⟨h,h1 | ⟨_,h2,h3⟩⟩
  ·obtain⟨a,b,c,_,e⟩:=h1;have:=zFV (hR.2.1 xs.toNat (by omega)) c;exact⟨by omega,a,b,e.symm⟩
  ·exact absurd ⟨h2,h3⟩ h
 ·rintro⟨a,b,c,d⟩;refine⟨fun h=>by have:=h.2;omega,Or.inl ⟨b,c,fun hf=>?_,rfl,d.symm⟩⟩;have:=zHg hf;omega
def Nil(xs xb:Int):Prop:=xs=0/\xb=0
instance (xs xb:Int):Decidable (Nil xs xb):=inferInstanceAs (Decidable (xs=0/\xb=0))
def one(xs xb:Int):List (Int×Int):=if Nil xs xb then [] else [(xs,xb)]
def kidsUp(ks kb:Nat->Int):Nat->List (Int×Int)
 | 0=>[]
 | k+1=>kidsUp ks kb k ++ one (ks k) (kb k)
def zb(s:zL)(i:Nat):Int:=zk s (i*2)
def zu(s:zL)(i:Nat):Int:=zk s (i*2+1)
def zMt(s:zL):List (Int×Int):=kidsUp (zb s) (zu s) 8
def zEu(p:zJ)(xs xb:Int):List (Int×Int):=if Nil xs xb then [] else(xs,xb) :: zMt (p.s xs.toNat)
def zAv(p:zJ)(s:zL):Nat->List (Int×Int)
 | 0=>[]
 | k+1=>zAv p s k ++ zEu p (zb s k) (zu s k)
def zR(p:zJ)(rs rb:Int):List (Int×Int):=if Nil rs rb then [] else(rs,rb) :: zAv p (p.s rs.toNat) 8
theorem zCu{s:zL}(h:s.kn=8){i:Nat}(hi:i<8):zb s i=s.ks i:=by
 unfold zb zk;rw[show i*2 / 2=i by omega,if_pos (by omega),if_pos (by omega)]
theorem zEb{s:zL}(h:s.kn=8){i:Nat}(hi:i<8):zu s i=s.kb i:=by
 unfold zu zk;rw[show(i*2+1) / 2=i by omega,if_pos (by omega),if_neg (by omega)]
theorem zNX{s:zL}(h:s.kn=0)(i:Nat):zb s i=0:=by
 unfold zb zk;rw[if_neg (by omega)]
theorem zNH{s:zL}(h:s.kn=0)(i:Nat):zu s i=0:=by
 unfold zu zk;rw[if_neg (by omega)]
theorem zKk{xs xb:Int}{x:Int×Int}:x∈one xs xb↔x=(xs,xb)/\¬Nil xs xb:=by
 unfold one;by_cases h:Nil xs xb
 ·rw[if_pos h];simp[h]
 ·rw[if_neg h];simp[h]
theorem yo{ks kb:Nat->Int}{x:Int×Int}:∀{k:Nat},x∈kidsUp ks kb k↔∃i,i<k/\x=(ks i,kb i)/\¬Nil (ks i) (kb i)
 | 0=>by simp[kidsUp]
 | k+1=>by
  rw[kidsUp,List.mem_append,yo,zKk];constructor
  ·rintro(⟨i,hi,h⟩ | h)
   ·exact⟨i,by omega,h⟩
   ·exact⟨k,by omega,h⟩
  ·rintro⟨i,hi,h⟩;by_cases e:i=k
   ·subst e;exact Or.inr h
   ·exact Or.inl ⟨i,by omega,h⟩
theorem zCZ{p:zJ}{xs xb:Int}{x:Int×Int}:x∈zEu p xs xb↔¬Nil xs xb/\(x=(xs,xb)\/x∈zMt (p.s xs.toNat)):=by
 unfold zEu;by_cases h:Nil xs xb
 ·rw[if_pos h];simp[h]
 ·rw[if_neg h];simp[h]
theorem zCN{p:zJ}{s:zL}{x:Int×Int}:∀{k:Nat},x∈zAv p s k↔∃i,i<k/\x∈zEu p (zb s i) (zu s i)
 | 0=>by simp[zAv]
 | k+1=>by
  rw[zAv,List.mem_append,zCN];constructor
  ·rintro(⟨i,hi,h⟩ | h)
   ·exact⟨i,by omega,h⟩
   ·exact⟨k,by omega,h⟩
  ·rintro⟨i,hi,h⟩;by_cases e:i=k
   ·subst e;exact Or.inr h
   ·exact Or.inl ⟨i,by omega,h⟩
theorem zAg(ks kb:Nat->Int):∀k,(kidsUp ks kb k).length<=k
 | 0=>Nat.le_refl _
 | k+1=>by
  have:=zAg ks kb k;unfold kidsUp one;split<;>simp<;>omega
theorem zLb(p:zJ)(xs xb:Int):(zEu p xs xb).length<=9:=by
 unfold zEu;have:=zAg (zb (p.s xs.toNat)) (zu (p.s xs.toNat)) 8;split
 ·simp
 ·show(zMt _).length+1<=9;unfold zMt;omega
theorem zEZ(p:zJ)(s:zL):∀k,(zAv p s k).length<=9*k
 | 0=>Nat.le_refl _
 | k+1=>by
  have:=zEZ p s k;have:=zLb p (zb s k) (zu s k);unfold zAv;rw[List.length_append];omega
theorem qP(p:zJ)(rs rb:Int):(zR p rs rb).length<=73:=by
 unfold zR;have:=zEZ p (p.s rs.toNat) 8;split
 ·simp
 ·show(zAv _ _ _).length+1<=73;omega
def zAy(p:zJ)(xs xb:Int):Prop:=zr p xs xb/\0<(p.s xs.toNat).kn/\¬Has p.hn p.h xs
def zEE(p:zJ)(xs xb:Int):Prop:=zr p xs xb/\(p.s xs.toNat).kn=0/\¬Has p.hn p.h xs
def zOy(p:zJ)(s:zL):Prop:=(∀i,i<8->Nil (zb s i) (zu s i)\/zEE p (zb s i) (zu s i))/\∃i,i<8/\¬Nil (zb s i) (zu s i)
def zQb(p:zJ)(s:zL)(i:Nat):Prop:=Nil (zb s i) (zu s i)\/(zAy p (zb s i) (zu s i)/\zOy p (p.s (zb s i).toNat))
def yK(l:List (Int×Int)):List Int:=l.map Prod.fst
def zQU(p:zJ)(s:zL):Prop:=(∀i,i<8->zQb p s i)/\∃i,i<8/\¬Nil (zb s i) (zu s i)
def qG(p:zJ)(rs rb:Int):Prop:=Nil rs rb\/(zAy p rs rb/\zQU p (p.s rs.toNat)/\(yK (zR p rs rb)).Nodup)
def yk(p:zJ)(rs rb:Int):Prop:=zv p/\qG p rs rb
def zKV(p:zJ)(s:zL):Prop:=(∃i,i<8/\¬Nil (zb s i) (zu s i))/\∀i,i<8->Nil (zb s i) (zu s i)\/zHA (p.s (zb s i).toNat)
def zKX(p:zJ)(s:zL):Prop:=(∃i,i<8/\¬Nil (zb s i) (zu s i))/\∀i,i<8->Nil (zb s i) (zu s i)\/zKV p (p.s (zb s i).toNat)
def zPk(p:zJ)(l:List (Int×Int)):Prop:=l.Nodup/\∀x,x∈l->¬Has p.hn p.h x.1
def zJ3(p:zJ)(rs rb:Int):Prop:=Nil rs rb\/(zr p rs rb/\zKX p (p.s rs.toNat)/\zPk p (zR p rs rb))
theorem qU{p:zJ}{xs xb:Int}(hR:zv p)(h:zr p xs xb):zAN p (p.s xs.toNat):=by
 obtain⟨h1,h2,h3,h4⟩:=h;rcases hR.2.1 xs.toNat (by omega)with hf | hf
 ·have:=hf.1;omega
 ·exact hf
theorem zEc{p:zJ}{s:zL}(h:zAN p s):s.kn=0\/s.kn=8:=by
 rcases h.2 with h | h
 ·exact Or.inl h.1
 ·exact Or.inr h.1
theorem zDC{p:zJ}{xs xb:Int}(hR:zv p)(h:zr p xs xb):(p.s xs.toNat).kn=0\/(p.s xs.toNat).kn=8:=zEc (qU hR h)
theorem zAh{p:zJ}{s:zL}(h:zAN p s){i:Nat}(hi:i<8)(hn:¬Nil (zb s i) (zu s i)):zr p (zb s i) (zu s i)/\zu s i<=s.zRU:=by
 rcases h.2 with h2 | h2
 ·exact absurd ⟨zNX h2.1 i,zNH h2.1 i⟩ hn
 ·rw[zCu h2.1 hi,zEb h2.1 hi]at hn ⊢;rcases h2.2.2 i (by omega)with h3 | h3
  ·exact absurd h3 hn
  ·exact h3
theorem zOg{p:zJ}{xs xb:Int}(hR:zv p)(h:zr p xs xb):zHA (p.s xs.toNat)↔(p.s xs.toNat).kn=0:=by
 have hf:=qU hR h;constructor
 ·exact fun h=>h.2.1
 ·intro h0;rcases hf.2 with h2 | h2
  ·exact⟨hf.1,h2⟩
  ·omega
theorem zLX{s:zL}(h:s.kn=0\/s.kn=8)(he:∃i,i<8/\¬Nil (zb s i) (zu s i)):s.kn=8:=by
 rcases h with h | h
 ·obtain⟨i,_,hi⟩:=he;exact absurd ⟨zNX h i,zNH h i⟩ hi
 ·exact h
theorem zCy{p:zJ}{rs rb:Int}(hR:zv p)(h:zr p rs rb):∀x,x∈zR p rs rb->zr p x.1 x.2/\x.2<=rb:=by
 intro x hx;unfold zR at hx;split at hx
 ·simp at hx
 ·rw[List.mem_cons,zCN]at hx;rcases hx with rfl | ⟨i,hi,hx⟩
  ·exact⟨h,by simp⟩
  ·have hf:=qU hR h;have dA:(p.s rs.toNat).zRU=rb:=h.2.2.2;obtain⟨hn,hx⟩:=zCZ.1 hx;have hk:=zAh hf hi hn;rcases hx with rfl | hx
   ·exact⟨hk.1,by rw[<-dA];exact hk.2⟩
   ·obtain⟨j,hj,rfl,bA⟩:=yo.1 hx;have cA:=qU hR hk.1;have aA:=zAh cA hj bA;have e:(p.s (zb (p.s rs.toNat) i).toNat).zRU=zu (p.s rs.toNat) i:=hk.1.2.2.2;have:=hk.2;have:=aA.2;exact⟨aA.1,by show zu _ j<=rb;omega⟩
theorem zGX{p:zJ}{l:List (Int×Int)}(h:∀x,x∈l->zr p x.1 x.2):(yK l).Nodup↔l.Nodup:=by
 unfold yK List.Nodup;rw[List.pairwise_map];constructor
 ·exact fun hp=>hp.imp (fun aA e=>aA (by rw[e]))
 ·intro hp;refine List.Pairwise.imp_of_mem ?_ hp;intro a b ha hb aA e;apply aA;have h1:=(h a ha).2.2.2;have h2:=(h b hb).2.2.2;rw[e]at h1;obtain⟨a1,a2⟩:=a;obtain⟨b1,b2⟩:=b;simp only[Prod.mk.injEq];exact⟨e,by simp only at h1 h2 e;rw[<-h1,<-h2]⟩
theorem zFs{p:zJ}{rs rb:Int}(hR:zv p):zJ3 p rs rb↔qG p rs rb:=by
 by_cases hz:Nil rs rb
 ·exact⟨fun _=>Or.inl hz,fun _=>Or.inl hz⟩
 have bA:(rs,rb)∈zR p rs rb:=by unfold zR;rw[if_neg hz];simp
 have cA:∀i,i<8->¬Nil (zb (p.s rs.toNat) i) (zu (p.s rs.toNat) i)->(zb (p.s rs.toNat) i,zu (p.s rs.toNat) i)∈zR p rs rb:=fun i hi hn=>by
  unfold zR;rw[if_neg hz,List.mem_cons,zCN];exact Or.inr ⟨i,hi,zCZ.2 ⟨hn,Or.inl rfl⟩⟩
 have dA:∀i,i<8->¬Nil (zb (p.s rs.toNat) i) (zu (p.s rs.toNat) i)->∀x,x∈zMt (p.s (zb (p.s rs.toNat) i).toNat)->x∈zR p rs rb:=fun i hi hn x hx=>by
  unfold zR;rw[if_neg hz,List.mem_cons,zCN];exact Or.inr ⟨i,hi,zCZ.2 ⟨hn,Or.inr hx⟩⟩
 constructor
 ·rintro(h | ⟨hP,⟨he,hS⟩,hA⟩)
  ·exact Or.inl h
  ·right;have hf:=qU hR hP;have kA:=zLX (zEc hf) he;refine⟨⟨hP,by omega,hA.2 _ bA⟩,⟨fun i hi=>?_,he⟩,(zGX (fun x hx=>(zCy hR hP x hx).1)).2 hA.1⟩;by_cases hn:Nil (zb (p.s rs.toNat) i) (zu (p.s rs.toNat) i)
   ·exact Or.inl hn
   ·right;have hk:=zAh hf hi hn;have eA:=qU hR hk.1;obtain⟨fA,jA⟩:zKV p (p.s (zb (p.s rs.toNat) i).toNat):=by
     rcases hS i hi with h | h
     ·exact absurd h hn
     ·exact h
    have iA:=zLX (zEc eA) fA;refine⟨⟨hk.1,by omega,hA.2 _ (cA i hi hn)⟩,fun j hj=>?_,fA⟩;by_cases aA:Nil (zb (p.s (zb (p.s rs.toNat) i).toNat) j) (zu (p.s (zb (p.s rs.toNat) i).toNat) j)
    ·exact Or.inl aA
    ·right;have gA:=zAh eA hj aA;refine⟨gA.1,?_,hA.2 _ (dA i hi hn _ (yo.2 ⟨j,hj,rfl,aA⟩))⟩;rcases jA j hj with h | h
     ·exact absurd h aA
     ·exact h.2.1
 ·rintro(h | ⟨hN,⟨hM,he⟩,hD⟩)
  ·exact Or.inl h
  ·right;have hP:=hN.1;have hf:=qU hR hP;have held:∀x,x∈zR p rs rb->¬Has p.hn p.h x.1:=fun x hx=>by
    unfold zR at hx;rw[if_neg hz,List.mem_cons,zCN]at hx;rcases hx with rfl | ⟨i,hi,hx⟩
    ·exact hN.2.2
    ·obtain⟨hn,hx⟩:=zCZ.1 hx;rcases hM i hi with h | ⟨h1,h2⟩
     ·exact absurd h hn
     ·rcases hx with rfl | hx
      ·exact h1.2.2
      ·obtain⟨j,hj,rfl,aA⟩:=yo.1 hx;rcases h2.1 j hj with h | h
       ·exact absurd h aA
       ·exact h.2.2
   refine⟨hP,⟨he,fun i hi=>?_⟩,(zGX (fun x hx=>(zCy hR hP x hx).1)).1 hD,held⟩;rcases hM i hi with h | ⟨h1,h2,h3⟩
   ·exact Or.inl h
   ·refine Or.inr ⟨h3,fun j hj=>?_⟩;rcases h2 j hj with h | h
    ·exact Or.inl h
    ·exact Or.inr ((zOg hR h.1).2 h.2.1)
theorem zC7(v0 v1:Value)(lo hi:Nat)(p:zJ)(xs xb:Int)(w:World)(h1:zy w lo hi v0 v1 p) :
  Calls Tryz.prog 184 #[.agg #[v0,v1],.agg #[.int .i64 xs,.int .i64 xb]] w fun e w'=>zG (zr p xs xb) e/\Below w.heap.size w w':=by
 obtain⟨⟨m1,a,c,rfl,mc,g1⟩,⟨_,a',c',rfl,_⟩⟩:=h1;unfold maxLen at m1;have G1:Hid (0<p.n->∃b off,a=some ⟨b,off,none⟩/\lo<=b/\b<hi/\∀i,i<p.n->∃v0 v1 v2,w.cell? ⟨b,off+i*3,none⟩=some v0/\w.cell? ⟨b,off+i*3+1,none⟩=some v1/\w.cell? ⟨b,off+i*3+2,none⟩=some v2/\qI w lo hi v0 v1 v2 (p.s i)):=g1;clear g1;have bA:=((Below.refl w.heap.size w).alloc (Nat.le_refl _) (.cells #[.slice a p.n c,.slice a' p.hn c'] 33)).alloc (by simp) (.cells #[.int .i64 xs,.int .i64 xb] 61);have aA:Hid (Below w.heap.size w ((w.alloc (.cells #[.slice a p.n c,.slice a' p.hn c'] 33)).alloc (.cells #[.int .i64 xs,.int .i64 xb] 61))):=bA;clear bA;by_cases h1:1<=xb
 ·by_cases h2:0<=xs
  ·by_cases h3:xs<p.n
   ·obtain⟨x,rfl⟩:=Int.eq_ofNat_of_zero_le h2;have cA:x<p.n:=(by omega);obtain⟨b,off,rfl,_,_,k1⟩:=G1.out (by omega);obtain⟨x0,x1,x2,c0,c1,c2,hs⟩:=k1 x cA;obtain⟨rfl,_⟩:=hs;have dA:=zD c0;clear k1 G1 c1 c2;by_cases h4:(p.s x).zRU=xb
    ·have H:Hid (zr p x xb):=⟨h1,h2,h3,by rw[Int.toNat_natCast];exact h4⟩;have e4:((p.s x).zRU == xb)=true:=(by simp[h4]);clear h4;go_enter Tryz.func184,Tryz.ntmps184;go_wp2_with fail
     go_quiet (fail)
     go_wp2;go_ret;exact⟨zG.yes H.out,zg aA.out _⟩
    ·have H:Hid (¬zr p x xb):=fun h=>h4 (by have:=h.2.2.2;rw[Int.toNat_natCast]at this;exact this)
     have e4:((p.s x).zRU == xb)=false:=(by simp[h4]);clear h4;go_enter Tryz.func184,Tryz.ntmps184;go_wp2_with fail
     go_quiet (fail)
     go_wp2;go_ret;exact⟨zG.no H.out,zg aA.out _⟩
   ·have H:Hid (¬zr p xs xb):=fun h=>h3 h.2.2.1
    have e3:decide (xs<(p.n:Int))=false:=(by simpa using h3);go_enter Tryz.func184,Tryz.ntmps184;go_wp2_with fail
    go_quiet (fail)
    go_wp2;go_ret;exact⟨zG.no H.out,zg aA.out _⟩
  ·have H:Hid (¬zr p xs xb):=fun h=>h2 h.2.1
   have e3:decide (0<=xs)=false:=(by simpa using h2);go_enter Tryz.func184,Tryz.ntmps184;go_wp2_with fail
   go_quiet (fail)
   go_wp2;go_ret;exact⟨zG.no H.out,zg aA.out _⟩
 ·have H:Hid (¬zr p xs xb):=fun h=>h1 h.1
  have e3:decide (1<=xb)=false:=(by simpa using h1);go_enter Tryz.func184,Tryz.ntmps184;go_wp2_with fail
  go_quiet (fail)
  go_wp2;go_ret;exact⟨zG.no H.out,zg aA.out _⟩
theorem zc.two(w:World)(v0 v1:Value)(t:TypeId)(o:Obj):zc ((w.alloc (.cells #[v0,v1] t)).alloc o) w.heap.size v0 v1:=(zc.zRL w v0 v1 t).zRJ (zC _ _)
theorem yT.second(w:World)(v0 v1 v2:Value)(t:TypeId)(o:Obj):yT ((w.alloc o).alloc (.cells #[v0,v1,v2] t)) (w.heap.size+1) v0 v1 v2:=by
 have:=yT.zRL (w.alloc o) v0 v1 v2 t;rw[World.size_alloc]at this;exact this
theorem zG1(v0 v1 s0 s1 s2:Value)(lo hi lo' hi':Nat)(p:zJ)(s:zL)(w:World)(h1:zy w lo hi v0 v1 p)(h2:qI w lo' hi' s0 s1 s2 s) :
  Calls Tryz.prog 136 #[.agg #[v0,v1],.agg #[s0,s1,s2]] w fun e w'=>zG (zAN p s) e/\Below w.heap.size w w':=by
 have Hp:Hid (zy w lo hi v0 v1 p):=h1;obtain⟨⟨m1,a,c,rfl,_⟩,⟨_,a',c',rfl,_⟩⟩:=h1;obtain⟨rfl,hk,rfl,m3⟩:=h2;obtain⟨m2,ka,kc,rfl,kB,g1⟩:=hk;have G1:Hid (0<s.kn->∃b off,ka=some ⟨b,off,none⟩/\lo'<=b/\b<hi'/\∀i,i<s.kn->w.cell? ⟨b,off+i*2,none⟩=some (.int .i64 (s.ks i))/\w.cell? ⟨b,off+i*2+1,none⟩=some (.int .i64 (s.kb i))):=g1;clear g1;unfold maxLen at m1 m2 m3;have vA:=((Below.refl w.heap.size w).alloc (Nat.le_refl _) (.cells #[.slice a p.n c,.slice a' p.hn c'] 33)).alloc (by simp) (.cells #[.int .i64 s.zRU,.slice ka s.kn kc,.string s.data] 127);have eA:Hid (Below w.heap.size w ((w.alloc (.cells #[.slice a p.n c,.slice a' p.hn c'] 33)).alloc (.cells #[.int .i64 s.zRU,.slice ka s.kn kc,.string s.data] 127))):=vA;clear vA;by_cases hB:qw s.zRU
 ·by_cases cA:s.kn=0
  ·have e2:((s.kn:Int) == 0)=true:=(by simp[cA]);by_cases hd:s.data.size=16
   ·have H:Hid (zAN p s):=⟨hB,Or.inl ⟨cA,hd⟩⟩;have HB:Hid (qw s.zRU):=hB;have e3:((s.data.size:Int) == 16)=true:=(by simp[hd]);clear cA hd hB;go_enter Tryz.func136,Tryz.ntmps136;go_wp2_with (go_at_call 145;refine(yX _ _).mono ?_;rintro e w' ⟨⟨t,rfl,ht⟩,rfl⟩;obtain rfl:t=true:=ht.2 HB.out;clear ht);go_ret;exact⟨zG.yes H.out,eA.out⟩
   ·have H:Hid (¬zAN p s):=fun h=>by
     rcases h.2 with h | h
     ·exact hd h.2
     ·omega
    have HB:Hid (qw s.zRU):=hB;have e3:((s.data.size:Int) == 16)=false:=(by simp;omega);clear cA hd hB;go_enter Tryz.func136,Tryz.ntmps136;go_wp2_with (go_at_call 145;refine(yX _ _).mono ?_;rintro e w' ⟨⟨t,rfl,ht⟩,rfl⟩;obtain rfl:t=true:=ht.2 HB.out;clear ht);go_ret;exact⟨zG.no H.out,eA.out⟩
  ·have e2:((s.kn:Int) == 0)=false:=(by simp;omega);by_cases gA:s.kn=8
   ·by_cases hd:s.data.toList.isEmpty=true
    ·have HB:Hid (qw s.zRU):=hB;have e3:((s.kn:Int) != 8)=false:=(by simp;omega);have H8:Hid (s.kn=8):=gA;have dB:(s.kn:Int)<=8:=(by omega);clear gA hB cA;have HD:Hid (s.data.toList.isEmpty=true):=hd;go_enter Tryz.func136,Tryz.ntmps136;go_wp2_with (go_at_call 145;refine(yX _ _).mono ?_;rintro e w' ⟨⟨t,rfl,ht⟩,rfl⟩;obtain rfl:t=true:=ht.2 HB.out;clear ht)
     go_loopw [5] (fun i wr=>∃k:Nat,k<=s.kn/\i = .int .i64 k/\(∀j,j<k->zHu p s.zRU (s.ks j) (s.kb j))/\zc wr w.heap.size (.slice a p.n c) (.slice a' p.hn c')/\yT wr (w.heap.size+1) (.int .i64 s.zRU) (.slice ka s.kn kc) (.string s.data)/\Below w.heap.size w wr) (fun i _=>s.kn - (intOf i).toNat)
     case atStart=>exact⟨0,Nat.zero_le _,rfl,fun j hj=>absurd hj (Nat.not_lt_zero _),zc.two _ _ _ _ _,yT.second _ _ _ _ _ _,eA.out⟩
     case round=>
      obtain⟨k,hk,rfl,kA,aB,cB,hb⟩:=hrel;have dA:Hid (∀j,j<k->zHu p s.zRU (s.ks j) (s.kb j)):=kA;have pA:Hid (zc wr w.heap.size (.slice a p.n c) (.slice a' p.hn c')):=aB;have mA:Hid (yT wr (w.heap.size+1) (.int .i64 s.zRU) (.slice ka s.kn kc) (.string s.data)):=cB;clear kA aB cB;have nB:w.heap.size<wr.heap.size:=pA.out.1.lt;have lB:w.heap.size+1<wr.heap.size:=mA.out.1.lt;obtain⟨⟨y0,y1⟩,⟨y2,y3⟩⟩:=pA.out;obtain⟨⟨z0,z1⟩,⟨z2,z3⟩,⟨z4,z5⟩⟩:=mA.out;by_cases bA:k<s.kn
      ·have jB:(k:Int)<(s.kn:Int):=(by omega);obtain⟨b,off,rfl,_,_,k1⟩:=G1.out (by omega);have gB:=(hb.cell (zD (k1 k bA).1)).trans (k1 k bA).1;have fB:=(hb.cell (zD (k1 k bA).2)).trans (k1 k bA).2;clear k1 G1;go_wp2_with fail;have oA:=zC wr (.cells #[.int .i64 (s.ks k),.int .i64 (s.kb k)] 61);refine(yf _ _ _).mono ?_;rintro e w1 ⟨⟨t,rfl,ht⟩,iA⟩;have nA:Hid (zc w1 w.heap.size (.slice a p.n c) (.slice a' p.hn c')):=(pA.out.zRJ oA).zRJ iA;have rA:Hid (yT w1 (w.heap.size+1) (.int .i64 s.zRU) (.slice (some ⟨b,off,none⟩) s.kn kc) (.string s.data)):=(mA.out.zRJ oA).zRJ iA;have sA:Hid (zc w1 wr.heap.size (.int .i64 (s.ks k)) (.int .i64 (s.kb k))):=(zc.zRL wr _ _ _).zRJ iA;have lA:Below w.heap.size w w1:=zA (zA hb oA) iA;clear oA iA y0 y1 y2 y3 z0 z1 z2 z3 z4 z5 gB fB pA mA;by_cases aA:zCC (s.ks k) (s.kb k) 0 0
       ·obtain rfl:t=true:=ht.2 aA;have HK:Hid (zHu p s.zRU (s.ks k) (s.kb k)):=Or.inl aA;clear ht aA;go_wp2;go_roundw
        case rel=>exact⟨k+1,by omega,by go_num,zo bA dA.out HK.out,nA.out,rA.out,lA⟩
        case measure=>simp[intOf];omega
       ·obtain rfl:t=false:=Bool.eq_false_iff.2 (fun h=>aA (ht.1 h));have HN:Hid (¬zCC (s.ks k) (s.kb k) 0 0):=aA;clear ht aA;obtain⟨⟨y0,y1⟩,⟨y2,y3⟩⟩:=nA.out;obtain⟨⟨q0,q1⟩,⟨q2,q3⟩⟩:=sA.out;go_wp2_with fail;refine(zC7 _ _ lo hi p _ _ _ (Hp.out.zRJ lA)).mono ?_;rintro e w2 ⟨⟨t,rfl,ht⟩,jA⟩;have iB:Hid (zc w2 w.heap.size (.slice a p.n c) (.slice a' p.hn c')):=nA.out.zRJ jA;have bB:Hid (yT w2 (w.heap.size+1) (.int .i64 s.zRU) (.slice (some ⟨b,off,none⟩) s.kn kc) (.string s.data)):=rA.out.zRJ jA;have eB:Hid (zc w2 wr.heap.size (.int .i64 (s.ks k)) (.int .i64 (s.kb k))):=sA.out.zRJ jA;have tA:Below w.heap.size w w2:=zA lA jA;clear jA lA y0 y1 y2 y3 q0 q1 q2 q3 nA rA sA;by_cases fA:zr p (s.ks k) (s.kb k)
        ·obtain rfl:t=true:=ht.2 fA;have HP:Hid (zr p (s.ks k) (s.kb k)):=fA;clear ht fA;obtain⟨⟨q0,q1⟩,⟨q2,q3⟩⟩:=eB.out;obtain⟨⟨z0,z1⟩,⟨z2,z3⟩,⟨z4,z5⟩⟩:=bB.out;by_cases mB:s.zRU<s.kb k
         ·go_wp2;go_ret;refine⟨zG.no fun h=>?_,tA⟩;rcases h.2 with h | h
          ·omega
          ·rcases h.2.2 k bA with h | h
           ·exact HN.out h
           ·have:=h.2;omega
         ·have HK:Hid (zHu p s.zRU (s.ks k) (s.kb k)):=Or.inr ⟨HP.out,by omega⟩;go_wp2;go_roundw
          case rel=>exact⟨k+1,by omega,by go_num,zo bA dA.out HK.out,iB.out,bB.out,tA⟩
          case measure=>simp[intOf];omega
        ·obtain rfl:t=false:=Bool.eq_false_iff.2 (fun h=>fA (ht.1 h));have HP:Hid (¬zr p (s.ks k) (s.kb k)):=fA;clear ht fA;go_wp2;go_ret;refine⟨zG.no fun h=>?_,tA⟩;rcases h.2 with h | h
         ·omega
         ·rcases h.2.2 k bA with h | h
          ·exact HN.out h
          ·exact HP.out h.1
      ·go_wp2;go_ret;exact⟨zG.yes ⟨HB.out,Or.inr ⟨H8.out,HD.out,fun i hi=>dA.out i (by omega)⟩⟩,hb⟩
    ·have H:Hid (¬zAN p s):=fun h=>by
      rcases h.2 with h | h
      ·omega
      ·exact hd h.2.1
     have HB:Hid (qw s.zRU):=hB;have e3:((s.kn:Int) != 8)=false:=(by simp;omega);have e4:s.data.toList.isEmpty=false:=(by simpa using hd);clear gA hB cA hd;go_enter Tryz.func136,Tryz.ntmps136;go_wp2_with (go_at_call 145;refine(yX _ _).mono ?_;rintro e w' ⟨⟨t,rfl,ht⟩,rfl⟩;obtain rfl:t=true:=ht.2 HB.out;clear ht);go_ret;exact⟨zG.no H.out,eA.out⟩
   ·have H:Hid (¬zAN p s):=fun h=>by
     rcases h.2 with h | h
     ·omega
     ·exact gA h.1
    have HB:Hid (qw s.zRU):=hB;have e3:((s.kn:Int) != 8)=true:=(by simp;omega);clear gA hB cA;go_enter Tryz.func136,Tryz.ntmps136;go_wp2_with (go_at_call 145;refine(yX _ _).mono ?_;rintro e w' ⟨⟨t,rfl,ht⟩,rfl⟩;obtain rfl:t=true:=ht.2 HB.out;clear ht);go_ret;exact⟨zG.no H.out,eA.out⟩
 ·have HB:Hid (¬qw s.zRU):=hB;clear hB;go_enter Tryz.func136,Tryz.ntmps136;go_wp2_with (go_at_call 145;refine(yX _ _).mono ?_;rintro e w' ⟨⟨t,rfl,ht⟩,rfl⟩;obtain rfl:t=false:=Bool.eq_false_iff.2 (fun h=>HB.out (ht.1 h));clear ht);go_ret;exact⟨zG.no fun h=>HB.out h.1,eA.out⟩
theorem zC0(v0 v1:Value)(lo hi:Nat)(p:zJ)(w:World)(h1:zy w lo hi v0 v1 p) :
  Calls Tryz.prog 68 #[.agg #[v0,v1]] w fun e w'=>zG (zv p) e/\Below w.heap.size w w':=by
 have Hp:Hid (zy w lo hi v0 v1 p):=h1;obtain⟨⟨m1,a,c,rfl,mc,g1⟩,⟨m2,a',c',rfl,sB,g2⟩⟩:=h1;unfold maxLen at m1 m2;clear g1 g2;have iB:Hid (Below w.heap.size w (w.alloc (.cells #[.slice a p.n c,.slice a' p.hn c'] 33))):=zC _ _;by_cases hn:(200:Int)<p.n
 ·have H:Hid (¬zv p):=fun h=>by have:=h.1;omega
  go_enter Tryz.func68,Tryz.ntmps68;go_wp2;go_ret;exact⟨zG.no H.out,iB.out⟩
 ·go_enter Tryz.func68,Tryz.ntmps68;go_wp2
  go_loopw [3] (fun i wr=>∃k:Nat,k<=p.n/\i = .int .i64 k/\(∀j,j<k->qF (p.s j)\/zAN p (p.s j))/\zc wr w.heap.size (.slice a p.n c) (.slice a' p.hn c')/\Below w.heap.size w wr) (fun i _=>p.n - (intOf i).toNat)
  case atStart=>exact⟨0,Nat.zero_le _,rfl,fun j hj=>absurd hj (Nat.not_lt_zero _),zc.zRL _ _ _ _,iB.out⟩
  case round=>
   obtain⟨k,hk,rfl,fA,hx,hb⟩:=hrel;have dA:Hid (∀j,j<k->qF (p.s j)\/zAN p (p.s j)):=fA;have Hx:Hid (zc wr w.heap.size (.slice a p.n c) (.slice a' p.hn c')):=hx;clear fA hx;obtain⟨⟨y0,y1⟩,⟨y2,y3⟩⟩:=Hx.out;by_cases eA:k<p.n
   ·have fB:(k:Int)<(p.n:Int):=(by omega);obtain⟨b,off,ka,kc,rfl,hs⟩:=(Hp.out.1.zRJ hb).cells eA;have Hs:Hid (zAm wr b (off+k*3) lo hi ka kc (p.s k)):=hs;obtain⟨q0,q1,q2,_⟩:=hs;by_cases hf:qF (p.s k)
    ·have HF:Hid (qF (p.s k)):=hf;clear hf;go_wp2_with fail
     first
      | (go_region_with (first | (go_at_call 74;refine(yx _ _ _ lo hi (p.s k) _ ?_).mono ?_;(exact Hs.out.slot.zRJ ((Below.refl _ _).drew));rintro e w1 ⟨⟨t,rfl,hx⟩,cA⟩;obtain rfl:t=true:=hx.2 HF.out;clear hx;have bA:=zK cA;have rA:=(Hx.out.zRJ bA).1.1;have sA:=(Hx.out.zRJ bA).2.1;have aB:=(Hs.out.zRJ bA).c0;have tA:=(Hs.out.zRJ bA).c1;have cB:=(Hs.out.zRJ bA).c2)))
      | fail
     all_goals
      have gA:=zA hb bA;have HX:Hid (zc w1 w.heap.size (.slice (some ⟨b,off,none⟩) p.n c) (.slice a' p.hn c')):=Hx.out.zRJ bA;clear cA bA rA sA aB tA cB q0 q1 q2 y0 y1 y2 y3 Hs Hx;go_wp2;go_roundw
      case rel=>exact⟨k+1,by omega,by go_num,zo eA dA.out (Or.inl HF.out),HX.out,gA⟩
      case measure=>simp[intOf];omega
    ·have HF:Hid (¬qF (p.s k)):=hf;clear hf;by_cases dB:zAN p (p.s k)
     ·have HT:Hid (zAN p (p.s k)):=dB;clear dB;go_wp2_with fail;go_region_held3 (fun w'=>w'.cell? ⟨w.heap.size,0,none⟩=some (.slice (some ⟨b,off,none⟩) p.n c)/\w'.cell? ⟨w.heap.size,1,none⟩=some (.slice a' p.hn c')/\w'.cell? ⟨b,off+k*3,none⟩=some (.int .i64 (p.s k).zRU)/\w'.cell? ⟨b,off+k*3+1,none⟩=some (.slice ka (p.s k).kn kc)/\w'.cell? ⟨b,off+k*3+2,none⟩=some (.string (p.s k).data)) (go_keep)
       (first
        | (go_at_call 74;refine(yx _ _ _ lo hi (p.s k) _ ?_).mono ?_;(exact Hs.out.slot.zRJ ((Below.refl _ _).drew));rintro e w1 ⟨⟨t,rfl,hx⟩,cA⟩;obtain rfl:t=false:=zQ hx HF.out;clear hx;have bA:=zK cA;have rA:=(Hx.out.zRJ bA).1.1;have sA:=(Hx.out.zRJ bA).2.1;have aB:=(Hs.out.zRJ bA).c0;have tA:=(Hs.out.zRJ bA).c1;have cB:=(Hs.out.zRJ bA).c2)
        | (go_at_call 136;refine(zG1 _ _ _ _ _ lo hi lo hi p (p.s k) _ ?_ ?_).mono ?_;(exact Hp.out.zRJ (zA hb bA));(exact Hs.out.slot.zRJ bA);rintro e w2 ⟨⟨t2,rfl,iA⟩,vA⟩;obtain rfl:t2=true:=iA.2 HT.out;clear iA;have aA:=zA bA vA;have lA:=(Hx.out.zRJ aA).1.1;have jA:=(Hx.out.zRJ aA).2.1;have nA:=(Hs.out.zRJ aA).c0;have mA:=(Hs.out.zRJ aA).c1;have kA:=(Hs.out.zRJ aA).c2))
      have gA:=zA hb aA;have HX:Hid (zc w2 w.heap.size (.slice (some ⟨b,off,none⟩) p.n c) (.slice a' p.hn c')):=Hx.out.zRJ aA;clear cA bA rA sA aB tA cB q0 q1 q2 y0 y1 y2 y3 Hs Hx lA jA nA mA kA vA aA;go_wp2;go_roundw
      case rel=>exact⟨k+1,by omega,by go_num,zo eA dA.out (Or.inr HT.out),HX.out,gA⟩
      case measure=>simp[intOf];omega
     ·have HT:Hid (¬zAN p (p.s k)):=dB;clear dB;go_wp2_with fail;go_region_held3 (fun w'=>w'.cell? ⟨w.heap.size,0,none⟩=some (.slice (some ⟨b,off,none⟩) p.n c)/\w'.cell? ⟨w.heap.size,1,none⟩=some (.slice a' p.hn c')/\w'.cell? ⟨b,off+k*3,none⟩=some (.int .i64 (p.s k).zRU)/\w'.cell? ⟨b,off+k*3+1,none⟩=some (.slice ka (p.s k).kn kc)/\w'.cell? ⟨b,off+k*3+2,none⟩=some (.string (p.s k).data)) (go_keep)
       (first
        | (go_at_call 74;refine(yx _ _ _ lo hi (p.s k) _ ?_).mono ?_;(exact Hs.out.slot.zRJ ((Below.refl _ _).drew));rintro e w1 ⟨⟨t,rfl,hx⟩,cA⟩;obtain rfl:t=false:=zQ hx HF.out;clear hx;have bA:=zK cA;have rA:=(Hx.out.zRJ bA).1.1;have sA:=(Hx.out.zRJ bA).2.1;have aB:=(Hs.out.zRJ bA).c0;have tA:=(Hs.out.zRJ bA).c1;have cB:=(Hs.out.zRJ bA).c2)
        | (go_at_call 136;refine(zG1 _ _ _ _ _ lo hi lo hi p (p.s k) _ ?_ ?_).mono ?_;(exact Hp.out.zRJ (zA hb bA));(exact Hs.out.slot.zRJ bA);rintro e w2 ⟨⟨t2,rfl,iA⟩,vA⟩;obtain rfl:t2=false:=zQ iA HT.out;clear iA;have aA:=zA bA vA;have lA:=(Hx.out.zRJ aA).1.1;have jA:=(Hx.out.zRJ aA).2.1;have nA:=(Hs.out.zRJ aA).c0;have mA:=(Hs.out.zRJ aA).c1;have kA:=(Hs.out.zRJ aA).c2))
      have gA:=zA hb aA;clear cA bA rA sA aB tA cB q0 q1 q2 y0 y1 y2 y3 Hs Hx lA jA nA mA kA vA aA;go_wp2;go_ret;refine⟨zG.no fun h=>?_,gA⟩;rcases h.2.1 k eA with h | h
      ·exact HF.out h
      ·exact HT.out h
   ·obtain rfl:k=p.n:=(by omega);have pB:p.n<=200:=(by omega);have HX:Hid (zc wr w.heap.size (.slice a p.n c) (.slice a' p.hn c')):=Hx.out;have HB:Hid (Below w.heap.size w wr):=hb;have HA:Hid (∀j,j<p.n->qF (p.s j)\/zAN p (p.s j)):=dA.out;clear Hx hb dA;go_wp2;obtain⟨wo,kB⟩:∃wo:World,wo=wr:=⟨_,rfl⟩;rw[<-kB]at HX HB ⊢;clear kB y0 y1 y2 y3
    go_loopw [4] (fun i wr=>∃k:Nat,k<=p.hn/\i = .int .i64 k/\(∀j,j<k->zKY p j)/\zc wr w.heap.size (.slice a p.n c) (.slice a' p.hn c')/\Below w.heap.size w wr) (fun i _=>p.hn - (intOf i).toNat)
    case atStart=>exact⟨0,Nat.zero_le _,rfl,fun j hj=>absurd hj (Nat.not_lt_zero _),HX.out,HB.out⟩
    case round=>
     obtain⟨k,hk,rfl,fA,hx,hb⟩:=hrel;have dA:Hid (∀j,j<k->zKY p j):=fA;have Hx:Hid (zc wr w.heap.size (.slice a p.n c) (.slice a' p.hn c')):=hx;clear fA hx;obtain⟨⟨y0,y1⟩,⟨y2,y3⟩⟩:=Hx.out;by_cases eA:k<p.hn
     ·have fB:(k:Int)<(p.hn:Int):=(by omega);have pA:=Hp.out.2.zRJ hb;have eB:Hid (qY wr lo hi (.slice a' p.hn c') p.hn p.h):=pA;obtain⟨_,a2,lB,jB,_,iA⟩:=pA;simp only[Value.slice.injEq,true_and]at jB;obtain⟨rfl,rfl⟩:=jB;obtain⟨b,off,rfl,_,_,k1⟩:=iA (by omega);have oB:=k1 k eA;clear k1 iA;by_cases h1:p.h k<0
      ·go_wp2;go_ret;exact⟨zG.no fun h=>by have:=(h.2.2 k eA).1;omega,hb⟩
      ·by_cases h2:(p.n:Int)<=p.h k
       ·go_wp2;go_ret;exact⟨zG.no fun h=>by have:=(h.2.2 k eA).2.1;omega,hb⟩
       ·obtain⟨x,hx⟩:=Int.eq_ofNat_of_zero_le (show 0<=p.h k by omega);rw[hx]at oB h1 h2;have oA:Hid (p.h k=x):=hx;have nB:x<p.n:=(by omega);have mB:(x:Int)<(p.n:Int):=(by omega);clear hx;obtain⟨bs,bB,ka,kc,rfl,hs⟩:=(Hp.out.1.zRJ hb).cells nB;have Hs:Hid (zAm wr bs (bB+x*3) lo hi ka kc (p.s x)):=hs;obtain⟨q0,q1,q2,_⟩:=hs;by_cases hf:qF (p.s x)
        ·have HF:Hid (qF (p.s x)):=hf;clear hf;go_wp2_with fail;refine(yx _ _ _ lo hi (p.s x) _ Hs.out.slot).mono ?_;rintro e w1 ⟨⟨t,rfl,hx⟩,cA⟩;obtain rfl:t=true:=hx.2 HF.out;clear hx;have gA:=zA hb cA;clear cA q0 q1 q2 y0 y1 y2 y3;go_wp2;go_ret;refine⟨zG.no fun h=>?_,gA⟩;have:=(h.2.2 k eA).2.2.1;rw[oA.out,Int.toNat_natCast]at this;exact this HF.out
        ·have HF:Hid (¬qF (p.s x)):=hf;clear hf;go_wp2_with fail;refine(yx _ _ _ lo hi (p.s x) _ Hs.out.slot).mono ?_;rintro e w1 ⟨⟨t,rfl,hx⟩,cA⟩;obtain rfl:t=false:=zQ hx HF.out;clear hx;have gA:=zA hb cA;have gB:Hid (zc w1 w.heap.size (.slice (some ⟨bs,bB,none⟩) p.n c) (.slice (some ⟨b,off,none⟩) p.hn c')):=Hx.out.zRJ cA;have HI:Hid (qY w1 lo hi (.slice (some ⟨b,off,none⟩) k c') k p.h):=(eB.out.zRJ cA).take (by omega) (by omega);clear cA q0 q1 q2 y0 y1 y2 y3;obtain⟨⟨y0,y1⟩,⟨y2,y3⟩⟩:=gB.out;have rB:k<=c':=(by omega);go_wp2_with fail;refine(zAQ _ k lo hi p.h _ _ HI.out).mono ?_;rintro e w2 ⟨⟨t,rfl,hx⟩,rfl⟩;clear y0 y1 y2 y3;by_cases hh:Has k p.h (x:Int)
         ·obtain rfl:t=true:=hx.2 hh;have HH:Hid (Has k p.h (x:Int)):=hh;clear hx hh;go_wp2;go_ret;refine⟨zG.no fun h=>?_,gA⟩;have:=(h.2.2 k eA).2.2.2;rw[oA.out]at this;exact this HH.out
         ·obtain rfl:t=false:=zQ hx hh;have HH:Hid (zKY p k):=by
           refine⟨by rw[oA.out];exact Int.natCast_nonneg _,by rw[oA.out];exact mB,by rw[oA.out,Int.toNat_natCast];exact HF.out,by rw[oA.out];exact hh⟩
          clear hx hh;go_wp2;go_roundw
          case rel=>exact⟨k+1,by omega,by go_num,zo eA dA.out HH.out,gB.out,gA⟩
          case measure=>simp[intOf];omega
     ·obtain rfl:k=p.hn:=(by omega);go_wp2;go_ret;exact⟨zG.yes ⟨pB,HA.out,dA.out⟩,hb⟩
theorem zE{P:Prop}(h:P):Hid P:=h
theorem zBq(w:World)(a0 a1 x0 x1:Value)(t1 t2:TypeId) :
  zc ((w.alloc (.cells #[a0,a1] t1)).alloc (.cells #[x0,x1] t2)) w.heap.size a0 a1/\zc ((w.alloc (.cells #[a0,a1] t1)).alloc (.cells #[x0,x1] t2)) (w.heap.size+1) x0 x1/\
  Below w.heap.size w ((w.alloc (.cells #[a0,a1] t1)).alloc (.cells #[x0,x1] t2))/\((w.alloc (.cells #[a0,a1] t1)).alloc (.cells #[x0,x1] t2)).heap.size=w.heap.size+2:=by
 refine⟨(zc.zRL w a0 a1 t1).zRJ (zC _ _),?_,zA (zC _ _) (zC _ _),by simp⟩;have:=zc.zRL (w.alloc (.cells #[a0,a1] t1)) x0 x1 t2;rw[World.size_alloc]at this;exact this
theorem zCz(v0 v1:Value)(lo hi:Nat)(p:zJ)(xs xb:Int)(w:World)(h1:zy w lo hi v0 v1 p) :
  Calls Tryz.prog 139 #[.agg #[v0,v1],.agg #[.int .i64 xs,.int .i64 xb]] w fun e w'=>zG (zAy p xs xb) e/\Below w.heap.size w w':=by
 have Hp:=zE h1;obtain⟨a,c,a',c',rfl,rfl⟩:∃a c a' c',v0 = .slice a p.n c/\v1 = .slice a' p.hn c':=by
  obtain⟨⟨_,a,c,h1,_⟩,⟨_,a',c',h3,_⟩⟩:=h1;exact⟨a,c,a',c',h1,h3⟩
 clear h1;have iA:=zBq w (.slice a p.n c) (.slice a' p.hn c') (.int .i64 xs) (.int .i64 xb) 33 61;go_enter Tryz.func139,Tryz.ntmps139;go_wp2_with fail;generalize (w.alloc (.cells #[.slice a p.n c,.slice a' p.hn c'] 33)).alloc (.cells #[.int .i64 xs,.int .i64 xb] 61)=W at iA ⊢;obtain⟨hB,hX,eA,hz⟩:=iA;refine(zC7 _ _ lo hi p xs xb _ (Hp.out.zRJ eA)).mono ?_;rintro e w1 ⟨⟨t,rfl,ht⟩,dA⟩;have jA:=zE (hB.zRJ dA);have kA:=zE (hX.zRJ dA);have cA:=zA eA dA;clear hB hX eA dA;by_cases aA:zr p xs xb
 ·obtain rfl:t=true:=ht.2 aA;have fA:=zE aA;obtain⟨k,rfl⟩:=Int.eq_ofNat_of_zero_le aA.2.1;have hk:k<p.n:=(by have:=aA.2.2.1;omega);have lA:(k:Int)<(p.n:Int):=(by omega);clear ht aA;obtain⟨b,off,ka,kc,rfl,hs⟩:=(Hp.out.1.zRJ cA).cells hk;obtain⟨q0,q1,q2,_⟩:=hs;obtain⟨⟨x0,x1⟩,⟨x2,x3⟩⟩:=jA.out;obtain⟨⟨y0,y1⟩,⟨y2,y3⟩⟩:=kA.out;by_cases bA:0<(p.s k).kn
  ·have HK:=zE bA;have f1:(0:Int)<((p.s k).kn:Int):=by first | omega | simp[bA]
   clear bA;go_wp2_with fail;refine(zAQ _ p.hn lo hi p.h _ _ (Hp.out.2.zRJ cA)).mono ?_;rintro e w2 ⟨⟨t2,rfl,gA⟩,rfl⟩;have HT:=zE gA;clear gA x0 x1 x2 x3 y0 y1 y2 y3 q0 q1 q2;go_wp2;go_ret;refine⟨?_,cA⟩;by_cases hh:Has p.hn p.h (k:Int)
   ·obtain rfl:t2=true:=HT.out.2 hh;exact zG.no fun h=>h.2.2 hh
   ·obtain rfl:t2=false:=zQ HT.out hh;refine zG.yes ⟨fA.out,?_,hh⟩;rw[Int.toNat_natCast];exact HK.out
  ·have HK:=zE bA;have f1:¬(0:Int)<((p.s k).kn:Int):=by first | omega | (simp;omega)
   clear bA;go_wp2;go_ret;refine⟨zG.no fun h=>?_,cA⟩;have:=h.2.1;rw[Int.toNat_natCast]at this;exact HK.out this
 ·obtain rfl:t=false:=zQ ht aA;have fA:=zE aA;clear ht aA;go_wp2;go_ret;exact⟨zG.no fun h=>fA.out h.1,cA⟩
theorem zES(v0 v1:Value)(lo hi:Nat)(p:zJ)(xs xb:Int)(w:World)(h1:zy w lo hi v0 v1 p) :
  Calls Tryz.prog 140 #[.agg #[v0,v1],.agg #[.int .i64 xs,.int .i64 xb]] w fun e w'=>zG (zEE p xs xb) e/\Below w.heap.size w w':=by
 have Hp:=zE h1;obtain⟨a,c,a',c',rfl,rfl⟩:∃a c a' c',v0 = .slice a p.n c/\v1 = .slice a' p.hn c':=by
  obtain⟨⟨_,a,c,h1,_⟩,⟨_,a',c',h3,_⟩⟩:=h1;exact⟨a,c,a',c',h1,h3⟩
 clear h1;have iA:=zBq w (.slice a p.n c) (.slice a' p.hn c') (.int .i64 xs) (.int .i64 xb) 33 61;go_enter Tryz.func140,Tryz.ntmps140;go_wp2_with fail;generalize (w.alloc (.cells #[.slice a p.n c,.slice a' p.hn c'] 33)).alloc (.cells #[.int .i64 xs,.int .i64 xb] 61)=W at iA ⊢;obtain⟨hB,hX,eA,hz⟩:=iA;refine(zC7 _ _ lo hi p xs xb _ (Hp.out.zRJ eA)).mono ?_;rintro e w1 ⟨⟨t,rfl,ht⟩,dA⟩;have jA:=zE (hB.zRJ dA);have kA:=zE (hX.zRJ dA);have cA:=zA eA dA;clear hB hX eA dA;by_cases aA:zr p xs xb
 ·obtain rfl:t=true:=ht.2 aA;have fA:=zE aA;obtain⟨k,rfl⟩:=Int.eq_ofNat_of_zero_le aA.2.1;have hk:k<p.n:=(by have:=aA.2.2.1;omega);have lA:(k:Int)<(p.n:Int):=(by omega);clear ht aA;obtain⟨b,off,ka,kc,rfl,hs⟩:=(Hp.out.1.zRJ cA).cells hk;obtain⟨q0,q1,q2,_⟩:=hs;obtain⟨⟨x0,x1⟩,⟨x2,x3⟩⟩:=jA.out;obtain⟨⟨y0,y1⟩,⟨y2,y3⟩⟩:=kA.out;by_cases bA:(p.s k).kn=0
  ·have HK:=zE bA;have f1:(((p.s k).kn:Int) == 0)=true:=by first | omega | simp[bA]
   clear bA;go_wp2_with fail;refine(zAQ _ p.hn lo hi p.h _ _ (Hp.out.2.zRJ cA)).mono ?_;rintro e w2 ⟨⟨t2,rfl,gA⟩,rfl⟩;have HT:=zE gA;clear gA x0 x1 x2 x3 y0 y1 y2 y3 q0 q1 q2;go_wp2;go_ret;refine⟨?_,cA⟩;by_cases hh:Has p.hn p.h (k:Int)
   ·obtain rfl:t2=true:=HT.out.2 hh;exact zG.no fun h=>h.2.2 hh
   ·obtain rfl:t2=false:=zQ HT.out hh;refine zG.yes ⟨fA.out,?_,hh⟩;rw[Int.toNat_natCast];exact HK.out
  ·have HK:=zE bA;have f1:(((p.s k).kn:Int) == 0)=false:=by first | omega | (simp;omega)
   clear bA;go_wp2;go_ret;refine⟨zG.no fun h=>?_,cA⟩;have:=h.2.1;rw[Int.toNat_natCast]at this;exact HK.out this
 ·obtain rfl:t=false:=zQ ht aA;have fA:=zE aA;clear ht aA;go_wp2;go_ret;exact⟨zG.no fun h=>fA.out h.1,cA⟩
end Go.Proofs.YtmgeglgboadfiaaGreatDoor
